import PyProof.Rows.All
import Wide.All
import OpenK.AllK
import Wide.FinOn
import PyProof.EqAt
import PyProof.EqKinds
import PyProof.TupleCall
import KE.BitLaws
import KE.OsGo
import Open.SpecLaws
import PyProof.FString
import PyProof.CompMap
import PyProof.Rows.SortShellAny
import PyProof.DictWalks
import PyProof.CollectWalk
import PyProof.CollectIter
import PySem.Challenge.RW_platecover_s04_first
set_option Elab.async false
namespace PySem.W.Fast
def tw4981574935911145472:=0
def tw9537150281165180960:=0
def tw13699570625867211808:=0
def tw380543031822555232:=0
def tw8423462975667681504:=0
def tw14886067420086362496:=0
def tw4735287941558061472:=0
def tw2873675941211444800:=0
def tw17818978834866885280:=0
def tw6544792768461359840:=0
def tw12194283050275437344:=0
def tw10321555051689365312:=0
def tw9986436355229009856:=0
def tw11258710856885826593:=0
def tw12074463524821847105:=0
def tw7164913390481943681:=0
def tw11484512688872599713:=0
def tw3157693981037311201:=0
def tw1406213175610252577:=0
def tw8372119922119654849:=0
def tw7136431272835461665:=0
def tw13927847754629362273:=0
def tw16577893619058258593:=0
def tw6918962220587625121:=0
def tw8553804259787941601:=0
def tw17694855361243977537:=0
def tw10429619954792531809:=0
def tw2676909863087664065:=0
def tw16663985756033907714:=0
def tw769126582306776226:=0
def tw4221609796835980482:=0
def tw3203814208822269122:=0
def tw11324344278351207682:=0
def tw18423202172961437986:=0
def tw10344011123007459650:=0
def tw860697529488018946:=0
def tw11520312935665224226:=0
def tw2095993893155165730:=0
def tw18219428806145000034:=0
def tw62320577247027842:=0
def tw15989908042282774178:=0
def tw8773560107648986786:=0
def tw10518275909825987298:=0
def tw14891278945146803938:=0
def tw5458211450534721250:=0
def tw2372670196658987810:=0
def tw7543969795435313954:=0
def tw6577548092859793218:=0
def tw17910137698758132546:=0
def tw8919318413100122147:=0
def tw17639248813732425827:=0
def tw7249554766359491683:=0
def tw8038562310199065731:=0
def tw2923527406905724035:=0
def tw8864608591268888771:=0
def tw14479105437595932963:=0
def tw9058067845361466659:=0
def tw17767576182879442275:=0
def tw5088278480411662691:=0
def tw10514081321209365891:=0
def tw4799935617698435523:=0
def tw138454239183353315:=0
def tw11771617433407397411:=0
def tw13454619681808942819:=0
def tw8577481909325874051:=0
def tw953490026844185507:=0
def tw15272759998857948260:=0
def tw4654422351131672740:=0
def tw12296078262159753412:=0
def tw12442688838430652644:=0
def tw15410066981997808004:=0
def tw7706301588521030052:=0
def tw8339276052155701732:=0
def tw5173645464396559876:=0
def tw5027474723806104420:=0
def tw1077474360950227973:=0
def tw16684364972233938981:=0
def tw14891275168848766149:=0
def tw17594947153402595525:=0
def tw10853999649509229829:=0
def tw13109863937094758693:=0
def tw8884593274807816645:=0
def tw1650941901550284229:=0
def tw7628857458382253605:=0
def tw10018385777528758821:=0
def tw4338054923135827781:=0
def tw15676495843585078085:=0
def tw12549102151051157445:=0
def tw2296053010415716358:=0
def tw11048891079142762790:=0
def tw11339840433850709670:=0
def tw13917145363834342182:=0
def tw6428009621119648550:=0
def tw15617069189063683974:=0
def tw10663234593960343430:=0
def tw7998705289994112167:=0
def tw17988612378520360295:=0
def tw6782105168573280647:=0
def tw3908828515077862791:=0
def tw4203179647452964231:=0
def tw5582565786425615815:=0
def tw3216058638362107367:=0
def tw5489300017297877511:=0
def tw619467814517338855:=0
def tw17473486633883395911:=0
def tw6419343954399247175:=0
def tw420447063967631239:=0
def tw9726621699551745927:=0
def tw12287576966821694375:=0
def tw13417695416919933000:=0
def tw17325709936308906088:=0
def tw3279544963676513480:=0
def tw11354638192971213288:=0
def tw17311481764722970216:=0
def tw14776922244654702184:=0
def tw10563885461279515400:=0
def tw14703008628264921992:=0
def tw2025364029585055849:=0
def tw17109951584374868105:=0
def tw15422630216655575337:=0
def tw17460991703338361385:=0
def tw13544248512370618953:=0
def tw2270014603032787689:=0
def tw16496618171587176201:=0
def tw1983869694399513417:=0
def tw13247459195650318281:=0
def tw16413256676088955881:=0
def tw10232192501475503178:=0
def tw12336028792504213706:=0
def tw8187219284795191562:=0
def tw9385620884936058250:=0
def tw6197625155989040522:=0
def tw13642793149859703210:=0
def tw10820087262828989930:=0
def tw6005977591171271210:=0
def tw5722311579749608138:=0
def tw8993847323499760426:=0
def tw14007301829725553450:=0
def tw1318417140011218826:=0
def tw1824707905530263434:=0
def tw239585986531615690:=0
def tw18324181589645744139:=0
def tw6666831855133464651:=0
def tw8995503274477784171:=0
def tw3921510625971646699:=0
def tw16774676429592912171:=0
def tw1785460689152186731:=0
def tw10493672183833848171:=0
def tw2100927070837618123:=0
def tw2034480520806068715:=0
def tw14645395080644773387:=0
def tw5660356914479343147:=0
def tw2184351723306925675:=0
def tw3496798364967214731:=0
def tw11929017711106900619:=0
def tw17680628301999879851:=0
def tw7311910482005453675:=0
def tw11968794350529686411:=0
def tw12647736809821199404:=0
def tw17224155628057747564:=0
def tw11456214294096553164:=0
def tw2433246196115269900:=0
def tw17290114145462038924:=0
def tw7963772578353888716:=0
def tw10136156125388795436:=0
def tw4726326696099234380:=0
def tw848630258302397164:=0
def tw4450313565477974924:=0
def tw10233457589366811628:=0
def tw5959777955008166989:=0
def tw5237559181819665741:=0
def tw13441210979293127117:=0
def tw18414917811043742189:=0
def tw11350493340198341325:=0
def tw7560760052994127661:=0
def tw5488186350673753005:=0
def tw15413115070556113934:=0
def tw108818626458084430:=0
def tw14245922170606127310:=0
def tw3127908413989741102:=0
def tw17145548890961599150:=0
def tw7614518327866736334:=0
def tw18385112220655670062:=0
def tw3550796353422929742:=0
def tw13378362291033235342:=0
def tw8622317849090373679:=0
def tw5336375022529413551:=0
def tw3132527155870392751:=0
def tw16465099640612173295:=0
def tw6220976500842424847:=0
def tw16417361641274433135:=0
def tw9765629259931586255:=0
def tw9375607654951743247:=0
def tw12885157744561756975:=0
def tw10166150869804269391:=0
def tw11300722907859570607:=0
def tw16905916798247553999:=0
def tw1505214868391022543:=0
def tw10326942467311551568:=0
def tw15483305528753799344:=0
def tw43696409877757104:=0
def tw17817067322699504944:=0
def tw9972037784544068048:=0
def tw3554460082407955248:=0
def tw13294104166380748624:=0
def tw16620037929416012752:=0
def tw16422645438562829296:=0
def tw6739181032110016593:=0
def tw14421118754206513489:=0
def tw14384048188310495665:=0
def tw13950589093761646033:=0
def tw15673816585812357713:=0
def tw885613843568961265:=0
def tw4281138864559749905:=0
def tw5899161679970744305:=0
def tw6689760419138012210:=0
def tw17595486543327687794:=0
def tw4972057670679120018:=0
def tw10848214578343210290:=0
def tw2038792224459234642:=0
def tw13272167764885987826:=0
def tw5111578853059345970:=0
def tw18157626962866214450:=0
def tw11682895264684463730:=0
def tw537003555047095954:=0
def tw469115591597507282:=0
def tw11682796025001623410:=0
def tw15945189771296501714:=0
def tw12658260321888594963:=0
def tw4359455837640710195:=0
def tw5822824198062061651:=0
def tw17847593500917175379:=0
def tw5079383358004056275:=0
def tw10212486293799777523:=0
def tw3374340922097408307:=0
def tw6301369043827470707:=0
def tw9686454362848466355:=0
def tw5136846637598098067:=0
def tw5270513804362008243:=0
def tw13750093329690426163:=0
def tw858793358505203507:=0
def tw12310342648003382163:=0
def tw976766254195540084:=0
def tw1288345701956781204:=0
def tw369840018055504148:=0
def tw9616619760448392532:=0
def tw7458140188511616340:=0
def tw521531577204670836:=0
def tw5911613587765928404:=0
def tw16881008383390196340:=0
def tw829831701588588180:=0
def tw11018867417907268244:=0
def tw6806258208195974900:=0
def tw17656687343702346548:=0
def tw11388971147388378964:=0
def tw2495992480744125396:=0
def tw1733056858054144021:=0
def tw16025839639271054389:=0
def tw12221375557452654645:=0
def tw6443294703053945013:=0
def tw18372261675478248661:=0
def tw2933339906689915125:=0
def tw15957731208576597237:=0
def tw14265340788129380661:=0
def tw2664029288620168693:=0
def tw17114578848201953845:=0
def tw14762278290329604789:=0
def tw14925737962761721589:=0
def tw8426081967881002773:=0
def tw11067864166758790997:=0
def tw1378091686835610581:=0
def tw4826954814317614102:=0
def tw15358020941823230134:=0
def tw3066268403412686006:=0
def tw13742813191159032182:=0
def tw5620406463812407766:=0
def tw6083643888583415318:=0
def tw5082160613594745366:=0
def tw12381023631868126806:=0
def tw4864631797313774198:=0
def tw16853548329320387254:=0
def tw4401281462008973014:=0
def tw900529640466844406:=0
def tw16127397472653905654:=0
def tw17752268048453915446:=0
def tw1227930844539970358:=0
def tw8891774022367492022:=0
def tw3156969212671065111:=0
def tw10944410165427743799:=0
def tw17757713048717091927:=0
def tw11595859059745606775:=0
def tw13721259918847115511:=0
def tw4455456652067054871:=0
def tw4090740863271334199:=0
def tw8698218304599272791:=0
def tw4165024924107444567:=0
def tw10440395143652943223:=0
def tw6786528008802683287:=0
def tw9606145361548129687:=0
def tw13635397637657781815:=0
def tw4139698041898613463:=0
def tw7061929867664361271:=0
def tw6786243752604811191:=0
def tw4312469446054839287:=0
def tw14566991483022228568:=0
def tw16101595111318245624:=0
def tw4258464282713895480:=0
def tw2925513562390021752:=0
def tw1722366072551265976:=0
def tw273682429839731480:=0
def tw15495413931201577784:=0
def tw16416637893843886040:=0
def tw17607742953748487128:=0
def tw16750546447512421497:=0
def tw15329920069556728953:=0
def tw12907433194008230137:=0
def tw16994812412412797209:=0
def tw8248121451672707385:=0
def tw11492008801158835545:=0
def tw7279459035424278873:=0
def tw5257315568465523097:=0
def tw3425429131089078969:=0
def tw13263325257383746361:=0
def tw6421736896787662713:=0
def tw17749476280443282490:=0
def tw11876367806292333626:=0
def tw2513661831748536570:=0
def tw12966093718534508826:=0
def tw4051613518705704378:=0
def tw5524483092935480826:=0
def tw782152308377884186:=0
def tw13669559832347874906:=0
def tw9128035772715199098:=0
def tw16707330335980139130:=0
def tw6440204884533371610:=0
def tw15630711861106379610:=0
def tw13886104250333942714:=0
def tw2763068386189483994:=0
def tw11000285503133217851:=0
def tw16612457728841384123:=0
def tw12268564673149162939:=0
def tw13870791875082630619:=0
def tw1306058754939213371:=0
def tw1147056197236186715:=0
def tw4812892805136004859:=0
def tw14179660287865805595:=0
def tw12524954365774328635:=0
def tw16246508602283278139:=0
def tw11875079081921769307:=0
def tw15017168095290171291:=0
def tw14118224957509648283:=0
def tw17716493040510173115:=0
def tw15511834868754553851:=0
def tw15192192665340844092:=0
def tw2414405496725736572:=0
def tw13762757647357941948:=0
def tw5592973275709020412:=0
def tw7788420724334142716:=0
def tw8940530687751526716:=0
def tw14043170851167234364:=0
def tw16510831145875599708:=0
def tw6691951501544273276:=0
def tw1234236751880828284:=0
def tw8580288323045691804:=0
def tw15654875459102048700:=0
def tw16656979198277932540:=0
def tw14936136086317634044:=0
def tw10796144268776510012:=0
def tw13148604860993914492:=0
def tw11210717876886102716:=0
def tw4137122015375815388:=0
def tw2400416189150115580:=0
def tw12380441183695834940:=0
def tw17393436378773007164:=0
def tw4273166534771464124:=0
def tw402360419634938844:=0
def tw13746400362429289565:=0
def tw7644655257459855485:=0
def tw15284687382727305661:=0
def tw2419364975091447261:=0
def tw11333173884302574269:=0
def tw9749109100216240893:=0
def tw9087973565972167485:=0
def tw13014926568196698973:=0
def tw1522276614237496157:=0
def tw14329988713896606621:=0
def tw3438109250585928605:=0
def tw12605124660531109950:=0
def tw7497616996628101182:=0
def tw803313211834619998:=0
def tw3327512084751319166:=0
def tw4880391892207947902:=0
def tw9550912741470583326:=0
def tw17926180055756964478:=0
def tw13322720820041883294:=0
def tw11819839518579405502:=0
def tw7241975305225792254:=0
def tw16335479962366307455:=0
def tw6928303902935692607:=0
def tw158819702748351039:=0
def tw2219129306425604735:=0
def tw9834957621379633887:=0
def tw8543132279477939071:=0
def tw14139698460996692895:=0
def tw11504826514787399647:=0
def tw14150170782654939103:=0
def tw12471375344668901057:=0
end PySem.W.Fast
set_option Elab.async false
set_option linter.all false
set_option maxRecDepth 100000
namespace L2
open PySem PySem.Spec PyProof.Rows
abbrev Key:=Sum Int Str
def Zfj:Key→Value→Bool
 | .inl k,v=>Value.isInt k v
 | .inr x,v=>Value.isStrOf x v
def keyH (w:World):Key→Int
 | .inl k=>hashInt k
 | .inr x=>hashStr w x
theorem ZaY:∀ {k:Key} {v:Value},Zfj k v=true→(∃ i t,k=Sum.inl i∧v=Value.int i t)∨(∃ x t,k=Sum.inr x∧v=Value.str x t)
 | .inl i,v,h=>by
  obtain ⟨t,e⟩:=Value.isInt_shape (k:=i) (v:=v) h
  exact .inl ⟨i,t,rfl,e⟩
 | .inr x,v,h=>by
  obtain ⟨t,e⟩:=Value.isStrOf_shape (x:=x) (v:=v) h
  exact .inr ⟨x,t,rfl,e⟩
theorem ZiJ (i:Int) (t:Tok):Zfj (.inl i) (.int i t)=true:=by simp [Zfj,Value.isInt]
theorem ZiK (x:Str) (t:Tok):Zfj (.inr x) (.str x t)=true:=by simp [Zfj,Value.isStrOf]
theorem Zno (a b:Int):decide ((Sum.inl a:Key)=Sum.inl b)=(a==b):=by
 by_cases e:a=b
 ·subst e; simp
 ·have h:¬ (Sum.inl a:Key)=Sum.inl b:=fun q=>e (Sum.inl.inj q)
  rw [decide_eq_false h]
  exact (beq_eq_false_iff_ne.mpr e).symm
theorem Znp (a b:Str):decide ((Sum.inr a:Key)=Sum.inr b)=decide (a=b):=by
 by_cases e:a=b
 ·subst e; simp
 ·have h:¬ (Sum.inr a:Key)=Sum.inr b:=fun q=>e (Sum.inr.inj q)
  rw [decide_eq_false h,decide_eq_false e]
theorem Znq (a:Int) (b:Str):decide ((Sum.inl a:Key)=Sum.inr b)=false:=decide_eq_false (fun q=>nomatch q)
theorem Znr (a:Str) (b:Int):decide ((Sum.inr a:Key)=Sum.inl b)=false:=decide_eq_false (fun q=>nomatch q)
def ZaM (prog:Program) (w:World):PySem.KeyKind prog w Key where
 is:=Zfj
 hash:=keyH w
 inj:=fun v a b ha hb=>by
  rcases ZaY ha with ⟨i,t,rfl,rfl⟩ | ⟨x,t,rfl,rfl⟩
  ·rcases ZaY hb with ⟨j,u,rfl,e⟩ | ⟨y,u,rfl,e⟩
   ·injection e with e1 _; rw [e1]
   ·exact nomatch e
  ·rcases ZaY hb with ⟨j,u,rfl,e⟩ | ⟨y,u,rfl,e⟩
   ·exact nomatch e
   ·injection e with e1 _; rw [e1]
 byValue:=fun k v h=>by
  rcases ZaY h with ⟨i,t,rfl,rfl⟩ | ⟨x,t,rfl,rfl⟩<;>rfl
 pyHash:=fun hv h=>by
  rcases ZaY hv with ⟨i,t,rfl,rfl⟩ | ⟨x,t,rfl,rfl⟩
  ·exact wpAny_pyHash_int h
  ·exact wpAny_pyHash_str h
 eqBool:=fun hu hv h=>by
  rcases ZaY hu with ⟨i,t,rfl,rfl⟩ | ⟨x,t,rfl,rfl⟩
  ·rcases ZaY hv with ⟨j,u,rfl,rfl⟩ | ⟨y,u,rfl,rfl⟩
   ·rw [Zno] at h; exact wpAny_eqBool_int h
   ·rw [Znq] at h; exact SeqAt.EqAt.int_str i t y u _ _ _ _ h
  ·rcases ZaY hv with ⟨j,u,rfl,rfl⟩ | ⟨y,u,rfl,rfl⟩
   ·rw [Znr] at h; exact SeqAt.EqAt.str_int x t j u _ _ _ _ h
   ·rw [Znp] at h; exact wpAny_eqBool_str h
 «strs»:=fun k x t v h=>by
  rcases ZaY h with ⟨i,u,rfl,e⟩ | ⟨y,u,rfl,e⟩
  ·exact nomatch e
  ·injection e with e1 _
   subst e1
   cases v<;>rfl
theorem ZgH (prog:Program) (w:World) (i:Int) (t:Tok):(ZaM prog w).is (.inl i) (.int i t)=true:=ZiJ i t
theorem ZgI (prog:Program) (w:World) (x:Str) (t:Tok):(ZaM prog w).is (.inr x) (.str x t)=true:=ZiK x t
end L2
namespace L2
open PySem PySem.Spec PyProof.Rows
inductive V where
 | non | bl (b:Bool) | int (i:Int) | str (x:Str) | byt (b:Array UInt8) | flt (b:UInt64) | ref (a:Addr) | ty (n:String)
 deriving DecidableEq
def RelV:V→Value→Prop
 | .non,u=>u=Value.none
 | .bl b,u=>u=Value.bool b
 | .int i,u=>∃ t,u=Value.int i t
 | .str x,u=>∃ t,u=Value.str x t
 | .byt b,u=>∃ t,u=Value.bytes b t
 | .flt b,u=>∃ t,u=Value.float b t
 | .ref a,u=>u=Value.ref a
 | .ty n,u=>u=Value.type n
abbrev Vals:List V→List Value→Prop:=Paired RelV
theorem Vals.length {xs:List V} {us:List Value} (r:Vals xs us):xs.length=us.length:=Paired.length r
theorem Vals.get:∀ {xs:List V} {us:List Value} {i:Nat} {x:V},Vals xs us→xs[i]? = some x→∃ u,us[i]? = some u∧RelV x u
 | _,_,_,_,.nil,e=>by simp at e
 | _,_,0,_,.cons r _,e=>by simp at e; subst e; exact ⟨_,rfl,r⟩
 | _,_,i+1,x,.cons _ t,e=>by
  obtain ⟨u,h1,h2⟩:=Vals.get (i:=i) (x:=x) t (by simpa using e)
  exact ⟨u,by simpa using h1,h2⟩
theorem Vals.set {x:V} {u:Value} (r:RelV x u):∀ {xs:List V} {us:List Value} (i:Nat),Vals xs us→Vals (xs.set i x) (us.set i u)
 | _,_,_,.nil=>.nil
 | _,_,0,.cons _ t=>.cons r t
 | _,_,i+1,.cons q t=>.cons q (Vals.set r i t)
theorem Vals.append:∀ {xs ys:List V} {us ws:List Value},Vals xs us→Vals ys ws→Vals (xs++ys) (us++ws)
 | _,_,_,_,.nil,s=>s
 | _,_,_,_,.cons r t,s=>.cons r (Vals.append t s)
theorem Vals.take:∀ {xs:List V} {us:List Value} (n:Nat),Vals xs us→Vals (xs.take n) (us.take n)
 | _,_,0,_=>.nil
 | _,_,_+1,.nil=>.nil
 | _,_,n+1,.cons r t=>.cons r (Vals.take n t)
theorem Vals.drop:∀ {xs:List V} {us:List Value} (n:Nat),Vals xs us→Vals (xs.drop n) (us.drop n)
 | _,_,0,r=>r
 | _,_,_+1,.nil=>.nil
 | _,_,n+1,.cons _ t=>Vals.drop n t
theorem Vals.none_of:∀ {xs:List V} {us:List Value} {i:Nat},Vals xs us→xs[i]? = none→us[i]? = none:=fun {xs us i} r e=>by
 have h1:=r.length
 have h2:xs.length≤i:=List.getElem?_eq_none_iff.mp e
 exact List.getElem?_eq_none_iff.mpr (by omega)
def RelO:Option V→Option Value→Prop
 | some v,some u=>RelV v u
 | none,none=>True
 | _,_=>False
def KV {κ:Type}:List (κ×V)→List (κ×Value)→Prop:=Paired fun (p:κ×V) (q:κ×Value)=>p.1=q.1∧RelV p.2 q.2
def kV:Key→V
 | .inl i=>.int i
 | .inr x=>.str x
inductive HO where
  | lst (xs:List V)
  | tup (xs:List V)
  | dK (kvs:List (Key×V)) | dT (kvs:List (List Key×V))
  | set (S:Int→Bool) (n:Nat)
  | ins (C dx:Addr) (fs:List (Str×V))
  | own (x:Addr)
  | xd (fs:List (Str×V))
  | met (f x:Addr)
  | rng (lo hi:Int)
  | frz (o:Obj) (u:HO)
  | tbl (ps:Array Value)
  | ext (φ:Heap→Prop)
abbrev Hp:=Addr→Option HO
def upd (H:Hp) (a:Addr) (o:HO):Hp:=fun b=>if b=a then some o else H b
theorem Zac {H:Hp} {a:Addr} {o:HO}:upd H a o a=some o:=by unfold upd; rw [if_pos rfl]
theorem Zag {H:Hp} {a b:Addr} {o:HO} (h:b≠a):upd H a o b=H b:=by unfold upd; rw [if_neg h]
theorem Zfk {H:Hp} {a:Addr} {o u:HO}:upd (upd H a o) a u=upd H a u:=by
 funext b; unfold upd; split<;>rfl
theorem ZaF {H:Hp} {a b:Addr} {o u:HO} (h:H a=some o) (h':H b=some u) (d:o≠u):a≠b:=by
 intro e; subst e; rw [h] at h'; exact d (Option.some.inj h')
theorem Zao {H:Hp} {a b:Addr} {o:HO} (h:H a=some o) (h':H b=none):a≠b:=by
 intro e; subst e; rw [h] at h'; cases h'
section
variable (P:Program) (w:World)
def ObjOk (H:Hp) (h:Heap) (a:Addr):HO→Prop
 | .lst xs=>xs.length≤sizeLine∧∃ (its:List Value) (n:Nat),Vals xs its∧h.get? a=some { cls:=.type "list",data:=.seq its.toArray n }
 | .tup xs=>xs.length≤sizeLine∧∃ its:List Value,Vals xs its∧IsTup h a its.toArray
 | .dK kvs=>kvs.length≤sizeLine∧(a==sysModules)=false∧∃ vs,KV kvs vs∧h.DictOf (ZaM P w) a vs
 | .dT kvs=>kvs.length≤sizeLine∧(a==sysModules)=false∧∃ xs:List (List Key×Addr×Value),
   Paired (fun (p:List Key×V) (q:List Key×Addr×Value)=>p.1=q.1∧H q.2.1=some (.tup (p.1.map kV))∧RelV p.2 q.2.2) kvs xs ∧
   ∃ o es ep,h.get? a=some o∧o.ExactDict∧o.data = .dict es ep∧es.toList=xs.map (entryOfKey (tupleKind (ZaM P w)))∧(xs.map (·.1)).Nodup
 | .set S n=>h.SetOf (intKind P w) a S n
 | .ins C dx fs=>H dx=some (.own a)∧fs.length≤1000∧dx≠a∧h.get? a=some (PySem.W.instObj C dx) ∧
   ∃ mA,h.Ns1 dx mA∧(∀ f,RelO (fs.lookup f) (mA f))∧PySem.Within mA (fs.map (·.1))
 | .own _=>∃ o,h.get? a=some o
 | .xd fs=>∃ mA,h.Ns1 a mA∧∀ f,RelO (fs.lookup f) (mA f)
 | .rng lo hi=>∃ t u v,h.get? a=some { cls:=.type "range",data:=.fields #[.int lo t,.int hi u,.int 1 v] }
 | .frz o u=>h.get? a=some o∧ObjOk H h a u
 | .tbl ps=>h.get? a=some { cls:=.none,data:=.fields ps }
 | .met f x=>h.get? a=some (PySem.W.methodObj (.ref f) (.ref x))
 | .ext φ=>φ h∧(∃ o,h.get? a=some o)∧∀ h1 h2:Heap,φ h1→(∀ o,h1.get? a=some o→h2.get? a=some o)→φ h2
def HOk (H:Hp) (h:Heap):Prop:=∀ a o,H a=some o→ObjOk P w H h a o
end
section
variable {P:Program} {w:World} {H H':Hp} {h h':Heap} {a:Addr} {o:HO}
theorem ObjOk.lt (x:ObjOk P w H h a o):a<h.objs.size:=by
 cases o with
 | lst xs=>obtain ⟨_,_,_,_,e⟩:=x; exact Heap.lt_size e
 | tup xs=>obtain ⟨_,_,_,p⟩:=x; exact p.lt
 | dK kvs=>obtain ⟨_,_,_,_,o,_,_,e,_⟩:=x; exact Heap.lt_size e
 | dT kvs=>obtain ⟨_,_,_,_,o,_,_,e,_⟩:=x; exact Heap.lt_size e
 | set S n=>obtain ⟨o,_,_,_,e,_⟩:=x; exact Heap.lt_size e
 | ins C dx fs=>obtain ⟨_,_,_,e,_⟩:=x; exact Heap.lt_size e
 | own y=>obtain ⟨_,e⟩:=x; exact Heap.lt_size e
 | xd fs=>obtain ⟨_,⟨_,_,_,e,_⟩,_⟩:=x; exact Heap.lt_size e
 | rng lo hi=>obtain ⟨_,_,_,e⟩:=x; exact Heap.lt_size e
 | frz ob u=>obtain ⟨e,_⟩:=x; exact Heap.lt_size e
 | tbl ps=>exact Heap.lt_size (show h.get? a=some _ from x)
 | met f y=>exact Heap.lt_size (show h.get? a=some _ from x)
 | ext φ=>obtain ⟨_,⟨_,e⟩,_⟩:=x; exact Heap.lt_size e
theorem Paired.mapP {α β:Type} {F G:α→β→Prop}:∀ {l₁:List α} {l₂:List β},Paired F l₁ l₂→(∀ a b,F a b→G a b)→Paired G l₁ l₂
 | _,_,.nil,_=>.nil
 | _,_,.cons r t,f=>.cons (f _ _ r) (Paired.mapP t f)
theorem ObjOk.stay (x:ObjOk P w H h a o) (k:∀ b u,(b=a∨H b=some (.own a))→h.get? b=some u→h'.get? b=some u)
  (ho:∀ b,H b=some (.own a)→H' b=some (.own a)) (ht:∀ b xs,H b=some (.tup xs)→H' b=some (.tup xs)):ObjOk P w H' h' a o:=by
 induction o with
 | lst xs=>obtain ⟨z,its,n,r,e⟩:=x; exact ⟨z,its,n,r,k _ _ (.inl rfl) e⟩
 | tup xs=>obtain ⟨z,its,r,ob,e,c⟩:=x; exact ⟨z,its,r,ob,k _ _ (.inl rfl) e,c⟩
 | dK kvs=>obtain ⟨z,y,vs,r,ob,es,ep,e,c⟩:=x; exact ⟨z,y,vs,r,ob,es,ep,k _ _ (.inl rfl) e,c⟩
 | dT kvs=>
  obtain ⟨z,y,xs,r,ob,es,ep,e,c⟩:=x
  exact ⟨z,y,xs,Paired.mapP r fun p q z=>⟨z.1,ht _ _ z.2.1,z.2.2⟩,ob,es,ep,k _ _ (.inl rfl) e,c⟩
 | set S n=>obtain ⟨ob,es,ep,t,e,c⟩:=x; exact ⟨ob,es,ep,t,k _ _ (.inl rfl) e,c⟩
 | ins C dx fs=>
  obtain ⟨d,z,ne,e,mA,⟨od,es,ep,e2,c⟩,r⟩:=x
  exact ⟨ho _ d,z,ne,k _ _ (.inl rfl) e,mA,⟨od,es,ep,k _ _ (.inr d) e2,c⟩,r⟩
 | own y=>obtain ⟨ob,e⟩:=x; exact ⟨ob,k _ _ (.inl rfl) e⟩
 | xd fs=>obtain ⟨mA,⟨od,es,ep,e,c⟩,r⟩:=x; exact ⟨mA,⟨od,es,ep,k _ _ (.inl rfl) e,c⟩,r⟩
 | rng lo hi=>obtain ⟨t,u,v,e⟩:=x; exact ⟨t,u,v,k _ _ (.inl rfl) e⟩
 | frz ob u ih=>obtain ⟨e,q⟩:=x; exact ⟨k _ _ (.inl rfl) e,ih q⟩
 | tbl ps=>
  have e:h.get? a=some { cls:=.none,data:=.fields ps }:=x
  show h'.get? a=some { cls:=.none,data:=.fields ps }
  exact k a _ (.inl rfl) e
 | met f y=>
  have e:h.get? a=some (PySem.W.methodObj (.ref f) (.ref y)):=x
  show h'.get? a=some (PySem.W.methodObj (.ref f) (.ref y))
  exact k a _ (.inl rfl) e
 | ext φ=>obtain ⟨p,⟨o,e⟩,st⟩:=x; exact ⟨st _ _ p fun o q=>k _ _ (.inl rfl) q,⟨o,k _ _ (.inl rfl) e⟩,st⟩
theorem HOk.lt (x:HOk P w H h) (e:H a=some o):a<h.objs.size:=(x a o e).lt
theorem HOk.fresh (x:HOk P w H h) (e:h.objs.size≤a):H a=none:=by
 cases q:H a with
 | none=>rfl
 | some u=>exact absurd (Nat.lt_of_lt_of_le (x.lt q) e) (Nat.lt_irrefl _)
theorem HOk.kept (x:HOk P w H h) (k:∀ b u,h.get? b=some u→h'.get? b=some u):HOk P w H h':=fun a o e=>
 (x a o e).stay (fun b u _ q=>k b u q) (fun _ q=>q) fun _ _ q=>q
theorem HOk.laid (x:HOk P w H h) (k:∀ b u,h.get? b=some u→h'.get? b=some u) (hp:h.objs.size≤a) (new:ObjOk P w (upd H a o) h' a o):HOk P w (upd H a o) h':=fun b u e=>by
 have hn:=x.fresh hp
 by_cases hb:b=a
 ·subst hb; rw [Zac] at e; cases e; exact new
 ·rw [Zag hb] at e
  exact (x b u e).stay (fun c v _ q=>k c v q) (fun c q=>by rw [Zag (Zao q hn)]; exact q) fun c xs q=>by rw [Zag (Zao q hn)]; exact q
end
def Rd (H:Hp) (a:Addr) (u:HO):Prop:=H a=some u∨∃ o,H a=some (.frz o u)
theorem Rd.of {H:Hp} {a:Addr} {u:HO} (h:H a=some u):Rd H a u:=.inl h
theorem Rd.ok {P:Program} {w:World} {H:Hp} {h:Heap} {a:Addr} {u:HO} (r:Rd H a u) (x:HOk P w H h):ObjOk P w H h a u:=by
 rcases r with r | ⟨o,r⟩
 ·exact x a u r
 ·obtain ⟨_,q⟩:=x a _ r
  exact q
def Mut:Option HO→Prop
 | some (.lst _)=>True
 | some (.dK _)=>True
 | some (.dT _)=>True
 | some (.set _ _)=>True
 | some (.ins _ _ _)=>True
 | some (.ext _)=>True
 | _=>False
section
variable {P:Program} {w:World} {H:Hp} {h h':Heap} {x e:Addr} {o':HO}
theorem HOk.write (ok:HOk P w H h) (mu:Mut (H x)) (he:e=x∨H e=some (.own x)) (k:∀ b u,b≠e→h.get? b=some u→h'.get? b=some u) (heo:∃ u,h'.get? e=some u)
  (new:ObjOk P w (upd H x o') h' x o'):HOk P w (upd H x o') h':=fun b u q=>by
 have nown:∀ c y,H c=some (.own y)→c≠x:=fun c y r z=>by subst z; rw [r] at mu; exact mu
 have ntup:∀ c xs,H c=some (.tup xs)→c≠x:=fun c xs r z=>by subst z; rw [r] at mu; exact mu
 by_cases hb:b=x
 ·subst hb; rw [Zac] at q; cases q; exact new
 ·rw [Zag hb] at q
  by_cases hbe:b=e
  ·have q':H b=some (.own x):=by
    rcases he with z | z
    ·exact absurd (hbe.trans z) hb
    ·rw [hbe]; exact z
   rw [q] at q'; cases q'
   obtain ⟨v,hv⟩:=heo
   exact ⟨v,by rw [hbe]; exact hv⟩
  ·refine (ok b u q).stay (fun c v hc r=>k c v ?_ r) (fun c r=>by rw [Zag (nown c b r)]; exact r) fun c xs r=>by rw [Zag (ntup c xs r)]; exact r
   rcases hc with rfl | hc
   ·exact hbe
   ·rintro rfl
    rcases he with z | z
    ·exact nown c b hc z
    ·rw [hc] at z; cases z; exact hb rfl
end
structure Un (fs ex:List Addr) (H H':Hp) (h h':Heap):Prop where
 keep:∀ b o,h.get? b=some o→H b=none→b∉fs→b∉ex→h'.get? b=some o
 slot:∀ b o,h.get? b=some o→H b=none→b∈fs→b∉ex→∃ sl,h'.get? b=some { o with slots:=sl }
 free:∀ b o,h.get? b=some o→H b=none→b∉ex→H' b=none
 there:∀ b o,h.get? b=some o→b∉ex→∃ o',h'.get? b=some o'
 tups:∀ b xs,H b=some (.tup xs)→H' b=some (.tup xs)
 frzs:∀ b o u,H b=some (.frz o u)→H' b=some (.frz o u)
 tbls:∀ b ps,H b=some (.tbl ps)→∃ more,H' b=some (.tbl (ps++more))
section
variable {fs fs' ex ex':List Addr} {H H1 H2:Hp} {h h1 h2 h':Heap} {a x e:Addr} {o:HO}
theorem Un.any (u:Un fs ex H H1 h h1) {b:Addr} {ob:Obj} (q:h.get? b=some ob) (n:H b=none) (hx:b∉ex):∃ sl,h1.get? b=some { ob with slots:=sl }:=by
 by_cases hb:b∈fs
 ·exact u.slot b ob q n hb hx
 ·exact ⟨ob.slots,u.keep b ob q n hb hx⟩
theorem Un.trans (a:Un fs ex H H1 h h1) (b:Un fs ex H1 H2 h1 h2):Un fs ex H H2 h h2 where
 keep:=fun c ob q n hc hx=>b.keep c ob (a.keep c ob q n hc hx) (a.free c ob q n hx) hc hx
 slot:=fun c ob q n hc hx=>by
  obtain ⟨sl,e1⟩:=a.slot c ob q n hc hx
  obtain ⟨sl',e2⟩:=b.slot c _ e1 (a.free c ob q n hx) hc hx
  exact ⟨sl',e2⟩
 free:=fun c ob q n hx=>by
  obtain ⟨o',e1⟩:=a.there c ob q hx
  exact b.free c o' e1 (a.free c ob q n hx) hx
 there:=fun c ob q hx=>by
  obtain ⟨o',e1⟩:=a.there c ob q hx
  exact b.there c o' e1 hx
 tups:=fun c xs q=>b.tups c xs (a.tups c xs q)
 frzs:=fun c ob xs q=>b.frzs c ob xs (a.frzs c ob xs q)
 tbls:=fun c ps q=>by
  obtain ⟨m1,e1⟩:=a.tbls c ps q
  obtain ⟨m2,e2⟩:=b.tbls c _ e1
  exact ⟨m1++m2,by rw [e2,Array.append_assoc]⟩
theorem Un.kept (k:∀ b u,h.get? b=some u→h'.get? b=some u):Un fs ex H H h h':=
 ⟨fun b ob q _ _ _=>k b ob q,fun b ob q _ _ _=>⟨ob.slots,k b ob q⟩,fun _ _ _ n _=>n,fun b ob q _=>⟨ob,k b ob q⟩,fun _ _ q=>q,fun _ _ _ q=>q,fun _ ps q=>⟨#[],by rw [q]; simp⟩⟩
theorem Un.refl:Un fs ex H H h h:=Un.kept fun _ _ q=>q
theorem Un.laid (k:∀ b u,h.get? b=some u→h'.get? b=some u) (hp:h.objs.size≤a) (hn:H a=none):Un fs ex H (upd H a o) h h' where
 keep:=fun b u q _ _ _=>k b u q
 slot:=fun b u q _ _ _=>⟨u.slots,k b u q⟩
 free:=fun b u q n _=>by rw [Zag (Nat.ne_of_lt (Nat.lt_of_lt_of_le (Heap.lt_size q) hp))]; exact n
 there:=fun b u q _=>⟨u,k b u q⟩
 tups:=fun b xs q=>by rw [Zag (Zao q hn)]; exact q
 frzs:=fun b u xs q=>by rw [Zag (Zao q hn)]; exact q
 tbls:=fun b ps q=>⟨#[],by rw [Zag (Zao q hn),q]; simp⟩
theorem Un.write (mu:Mut (H x)) (he:e=x∨H e=some (.own x)) (k:∀ b u,b≠e→h.get? b=some u→h'.get? b=some u) (heo:∃ u,h'.get? e=some u):Un fs ex H (upd H x o) h h':=by
 have hx:∀ b,H b=none→b≠x:=fun b n z=>by subst z; rw [n] at mu; exact mu
 have hb:∀ b,H b=none→b≠e:=fun b n z=>by
  subst z
  rcases he with r | r
  ·exact hx b n r
  ·rw [n] at r; cases r
 have hm:∀ b u,H b=some u→¬ Mut (some u)→b≠x:=fun b u q nm z=>by subst z; rw [q] at mu; exact nm mu
 refine ⟨fun b u q n _ _=>k b u (hb b n) q,fun b u q n _ _=>⟨u.slots,k b u (hb b n) q⟩,fun b u q n _=>by rw [Zag (hx b n)]; exact n,fun b u q _=>?_,
  fun b xs q=>by rw [Zag (hm b _ q fun z=>z)]; exact q,fun b u xs q=>by rw [Zag (hm b _ q fun z=>z)]; exact q,fun b ps q=>⟨#[],by rw [Zag (hm b _ q fun z=>z),q]; simp⟩⟩
 by_cases hbe:b=e
 ·subst hbe; exact heo
 ·exact ⟨u,k b u hbe q⟩
theorem Un.mono (u:Un fs ex H H1 h h1) (hs:∀ b∈fs,b∈fs') (hx:∀ b∈ex,b∈ex'):Un fs' ex' H H1 h h1:=
 ⟨fun b ob q n hb he=>u.keep b ob q n (fun z=>hb (hs b z)) fun z=>he (hx b z),fun _ _ q n _ he=>u.any q n fun z=>he (hx _ z),fun b ob q n he=>u.free b ob q n fun z=>he (hx b z),fun b ob q he=>u.there b ob q fun z=>he (hx b z),u.tups,u.frzs,u.tbls⟩
end
def trk (h:Heap) (H:Hp):List Addr:=(List.range h.objs.size).filter fun a=>(H a).isSome
def Zkz (h:Heap) (H:Hp):Heap:=PySem.W.hideAll h (trk h H)
theorem ZiL (h:Heap) (H:Hp):(Zkz h H).objs.size=h.objs.size:=PySem.W.hideAll_size _ _
theorem ZkA {h:Heap} {H:Hp} {b:Addr} {o:Obj} (e:h.get? b=some o) (n:H b=none):(Zkz h H).get? b=some o:=
 PySem.W.hideAll_get _ e fun hm=>by
  have q:(H b).isSome=true:=(List.mem_filter.mp hm).2
  rw [n] at q; simp at q
theorem Zmb {h:Heap} {H:Hp} {b:Addr} {o:Obj} (e:(Zkz h H).get? b=some o):h.get? b=some o∧H b=none:=by
 have e':h.get? b=some o:=PySem.W.of_hideAll (trk h H) e
 refine ⟨e',?_⟩
 cases q:H b with
 | none=>rfl
 | some x=>
  have hm:b∈trk h H:=List.mem_filter.mpr ⟨List.mem_range.mpr (Heap.lt_size e'),by simp [q]⟩
  have z:(Zkz h H).get? b=none:=PySem.W.hideAll_none (trk h H) hm
  rw [z] at e; cases e
def Zmc (g h:Heap) (L:Addr):List (Addr×Obj):=(List.range h.objs.size).filterMap fun a=>if a=L∨(g.get? a).isSome=true then none else (h.get? a).map fun o=>(a,o)
def rest (g h:Heap) (L d:Addr):List (Addr×Obj):=(Zmc g h L).filter fun p=>decide (p.1≠d)
end L2
namespace L2
open PySem PySem.Spec PyProof.Rows
structure Mod (K:PySem.W.Frag) (mg:Str→Option Value) (base:Heap):Prop where
 kin:K.In base
 glob:base.Ns mainGlobals mg
 blt:∃ mb,base.Ns builtinsNs mb∧∀ x:Str,x≠"__name__"→mb x=bootBuiltins x
 nolimit:base.NoLimit
structure Cx where
 prog:Program
 w:World
 K:PySem.W.Frag
 mg:Str→Option Value
 base:Heap
 A:Around
 N:List Str
 s_0:Shared
 H_0:Hp
 env:Env
 outer:List Env
 stack:List Env
 ex:List Addr
 fn:Str→Bool
 calm:Bool
 pn:List (Addr×Obj)
 xe:Value→Shared→Prop
def frs (l:List Env):List Addr:=l.filterMap (·.frame)
abbrev Cx.fs (X:Cx):List Addr:=frs X.outer
def Vis (sc:Scope) (x:Str):Prop:=sc.names.lookup x=some .local∨sc.names.lookup x=some .cell∨sc.names.lookup x=some .free
def Loc (sc:Scope) (x:Str):Prop:=sc.names.lookup x=some .local∨sc.names.lookup x=some .cell
def Look (env:Env) (h:Heap) (m:Str→Option Value) (x:Str) (u:Value):Prop:=
 (env.kindOf x=some .local∧m x=some u)∨((env.kindOf x=some .cell∨env.kindOf x=some .free)∧∃ c,env.cells.lookup x=some c∧h.IsCell c (some u))
structure Cx.Ok (X:Cx):Prop where
 mod:Mod X.K X.mg X.base
 kind:X.env.scope.kind = .function
 glob:X.env.globals=mainGlobals
 blt:X.env.builtins=builtinsNs
 above:X.s_0.heap.objs.size≤X.env.locals
 inj:∀ x y c,X.env.cells.lookup x=some c→X.env.cells.lookup y=some c→x=y
 has:∀ x,(X.env.kindOf x=some .cell∨X.env.kindOf x=some .free)→∃ c,X.env.cells.lookup x=some c
 cab:∀ x c,X.fn x=true→X.env.cells.lookup x=some c→X.s_0.heap.objs.size≤c
 hd:X.calm=true→X.A.handled=none
 frames:X.A.frames=some X.stack
 stk:X.stack=X.outer∨(X.stack=X.env::X.outer∧X.env.frame=some X.env.locals)
 exf:∀ b∈X.ex,b≠X.env.locals∧∀ x c,X.env.cells.lookup x=some c→c≠b
 bs:∀ b o,X.base.get? b=some o→X.s_0.heap.get? b=some o∧X.H_0 b=none
 bsz:X.base.objs.size≤X.s_0.heap.objs.size
 noex:∀ b o,X.base.get? b=some o→b∉X.ex
 exfs:∀ b∈X.ex,b∉X.fs
 funs:X.s_0.heap.FunFrames X.base X.outer
 frf:∀ b∈X.fs,X.H_0 b=none
structure Inv (X:Cx) (pins:List (Addr×Obj)) (σ:List (Option V)) (H:Hp) (s:Shared):Prop where
 ok:X.Ok
 os:s.os=X.s_0.os
 bare:AllBare s.gens
 base:Un X.fs X.ex X.H_0 H X.s_0.heap s.heap
 loc:∃ m,s.heap.Ns X.env.locals m∧∀ (i:Nat) (x:Str) (v:V),X.N[i]? = some x→σ[i]? = some (some v)→Vis X.env.scope x→∃ u,RelV v u∧Look X.env s.heap m x u
 cell:∀ x c,X.env.cells.lookup x=some c→∃ v,s.heap.IsCell c v
 free:H X.env.locals=none
 freeC:∀ x c,X.env.cells.lookup x=some c→H c=none
 pin:∀ p∈X.pn++pins,s.heap.get? p.1=some p.2∧H p.1=none∧p.1≠X.env.locals∧p.1∉X.fs∧∀ v,p.2.data≠.cell v
 hok:HOk X.prog X.w H s.heap
 len:σ.length=X.N.length
section
variable {X:Cx} {pins:List (Addr×Obj)} {σ:List (Option V)} {H H':Hp} {s:Shared} {h':Heap}
theorem Cx.Ok.nofr (ok:X.Ok) {b:Addr} {o:Obj} (e:X.base.get? b=some o):b∉X.fs:=fun hb=>by
 have:=(ok.funs.mem hb).1
 rw [e] at this; cases this
theorem Inv.bs (I:Inv X pins σ H s):∀ b o,X.base.get? b=some o→s.heap.get? b=some o∧H b=none:=fun b o e=>
 ⟨I.base.keep b o (I.ok.bs b o e).1 (I.ok.bs b o e).2 (I.ok.nofr e) (I.ok.noex b o e),I.base.free b o (I.ok.bs b o e).1 (I.ok.bs b o e).2 (I.ok.noex b o e)⟩
theorem Inv.bk (I:Inv X pins σ H s):∀ b o,X.base.get? b=some o→s.heap.get? b=some o:=fun b o e=>(I.bs b o e).1
theorem Inv.mod (I:Inv X pins σ H s):Mod X.K X.mg X.base:=I.ok.mod
theorem Inv.kIn (I:Inv X pins σ H s):X.K.In s.heap:=I.ok.mod.kin.keeps I.bk
theorem Inv.nolimit (I:Inv X pins σ H s):s.heap.NoLimit:=I.ok.mod.nolimit.keeps I.bk
theorem Inv.fr (I:Inv X pins σ H s):∃ m,Fr X.base X.env.locals s.heap m:=
 let ⟨m,hn,_⟩:=I.loc
 ⟨m,hn,I.bk,Nat.le_trans I.ok.bsz I.ok.above⟩
theorem Inv.lt (I:Inv X pins σ H s):X.env.locals<s.heap.objs.size:=let ⟨_,hn,_⟩:=I.loc; hn.lt
theorem Inv.sz (I:Inv X pins σ H s):X.s_0.heap.objs.size≤s.heap.objs.size:=Nat.le_trans I.ok.above (Nat.le_of_lt I.lt)
theorem Inv.nofs (I:Inv X pins σ H s) {a:Addr} (h:s.heap.objs.size≤a):a∉X.fs:=fun hb=>by
 obtain ⟨_,o,ho,_⟩:=I.ok.funs.mem hb
 exact absurd (Nat.lt_of_lt_of_le (Heap.lt_size ho) (Nat.le_trans I.sz h)) (Nat.lt_irrefl _)
theorem Inv.cne (I:Inv X pins σ H s):∀ x c,X.env.cells.lookup x=some c→c≠X.env.locals:=fun x c e z=>by
 obtain ⟨v,o,ho,hd⟩:=I.cell x c e
 obtain ⟨m,⟨o',es,ep,ho',hd',_⟩,_⟩:=I.loc
 rw [z,ho'] at ho; cases ho; rw [hd'] at hd; cases hd
theorem Inv.funs (I:Inv X pins σ H s):s.heap.FunFrames X.base X.outer:=by
 have all:∀ (l:List Env),(∀ b∈frs l,b∈X.fs)→X.s_0.heap.FunFrames X.base l→s.heap.FunFrames X.base l:=by
  intro l
  induction l with
  | nil=>intro _ _; trivial
  | cons env r ih=>
   intro hs hl
   obtain ⟨hk,⟨L,o,hf,hn,ho,hd⟩,hr⟩:=hl
   have hL:L∈X.fs:=hs L (by unfold frs; rw [List.filterMap_cons,hf]; exact List.mem_cons_self)
   obtain ⟨sl,e⟩:=I.base.slot L o ho (I.ok.frf L hL) hL fun z=>I.ok.exfs L z hL
   exact ⟨hk,⟨L,_,hf,hn,e,hd⟩,ih (fun b hb=>hs b (by unfold frs; rw [List.filterMap_cons,hf]; exact List.mem_cons_of_mem _ hb)) hr⟩
 exact all X.outer (fun _ hb=>hb) I.ok.funs
theorem Inv.stack (I:Inv X pins σ H s):s.heap.FunFrames X.base X.stack:=by
 rcases I.ok.stk with e | ⟨e,hf⟩
 ·rw [e]; exact I.funs
 ·rw [e]
  obtain ⟨m,hn,_⟩:=I.loc
  refine .cons (by rw [I.ok.kind]; decide) hf hn ?_ I.funs
  exact Heap.get?_none_of_le (Nat.le_trans I.ok.bsz I.ok.above)
theorem Inv.stkSub (I:Inv X pins σ H s):∀ b∈frs X.stack,b∈X.env.locals::X.fs:=fun b hb=>by
 rcases I.ok.stk with e | ⟨e,hf⟩
 ·rw [e] at hb; exact List.mem_cons_of_mem _ hb
 ·rw [e] at hb
  unfold frs at hb
  rw [List.filterMap_cons,hf] at hb
  exact hb
theorem Inv.stkFree (I:Inv X pins σ H s):∀ b∈frs X.stack,H b=none:=fun b hb=>by
 rcases List.mem_cons.mp (I.stkSub b hb) with e | hb
 ·rw [e]; exact I.free
 ·obtain ⟨_,o,ho,_⟩:=I.ok.funs.mem hb
  exact I.base.free b o ho (I.ok.frf b hb) fun z=>I.ok.exfs b z hb
theorem Inv.step {g':Array GenState} {t':Nat} {d':Drawn} {ch:List Addr} (I:Inv X pins σ H s)
  (hch:∀ b∈ch,(b∈X.ex∨X.s_0.heap.objs.size≤b)∧b≠X.env.locals∧(∀ x c,X.env.cells.lookup x=some c→c≠b)∧∀ p∈X.pn++pins,p.1≠b)
  (keep:∀ b o,b≠X.env.locals→b∉X.fs→b∉ch→s.heap.get? b=some o→H b=none→h'.get? b=some o)
  (slot:∀ b o,b≠X.env.locals→b∈X.fs→b∉ch→s.heap.get? b=some o→H b=none→∃ sl,h'.get? b=some { o with slots:=sl }) (free:∀ b o,b∉ch→s.heap.get? b=some o→H b=none→H' b=none)
  (there:∀ b o,b∉ch→s.heap.get? b=some o→∃ o',h'.get? b=some o')
  (tups:∀ b xs,H b=some (.tup xs)→H' b=some (.tup xs)) (frzs:∀ b o u,H b=some (.frz o u)→H' b=some (.frz o u)) (tbls:∀ b ps,H b=some (.tbl ps)→∃ more,H' b=some (.tbl (ps++more)))
  (ns:∀ m,s.heap.Ns X.env.locals m→h'.Ns X.env.locals m) (hok:HOk X.prog X.w H' h') (hg:AllBare g'):
  Inv X pins σ H' { s with heap:=h',gens:=g',drawn:=d',toks:=t' }:=by
 have neL:∀ b o,X.s_0.heap.get? b=some o→b≠X.env.locals:=fun b o e=>Nat.ne_of_lt (Nat.lt_of_lt_of_le (Heap.lt_size e) I.ok.above)
 have neC:∀ b o,X.s_0.heap.get? b=some o→b∉X.ex→b∉ch:=fun b o e hx hb=>by
  rcases (hch b hb).1 with z | z
  ·exact hx z
  ·exact absurd (Nat.lt_of_lt_of_le (Heap.lt_size e) z) (Nat.lt_irrefl _)
 have cellK:∀ x c,X.env.cells.lookup x=some c→∀ v,s.heap.IsCell c v→h'.IsCell c v:=fun x c e v ⟨o,ho,hd⟩=>by
  have nch:c∉ch:=fun z=>(hch c z).2.2.1 x c e rfl
  by_cases hc:c∈X.fs
  ·obtain ⟨sl,q⟩:=slot c o (I.cne x c e) hc nch ho (I.freeC x c e)
   exact ⟨_,q,hd⟩
  ·exact ⟨o,keep c o (I.cne x c e) hc nch ho (I.freeC x c e),hd⟩
 refine ⟨I.ok,I.os,hg,⟨fun b o e n hb hx=>?_,fun b o e n hb hx=>?_,fun b o e n hx=>?_,fun b o e hx=>?_,fun b xs e=>tups b xs (I.base.tups b xs e),fun b o xs e=>frzs b o xs (I.base.frzs b o xs e),fun b ps e=>?_⟩,?_,fun x c e=>?_,?_,fun x c e=>?_,fun p hp=>?_,hok,I.len⟩
 ·exact keep b o (neL b o e) hb (neC b o e hx) (I.base.keep b o e n hb hx) (I.base.free b o e n hx)
 ·obtain ⟨sl,e1⟩:=I.base.slot b o e n hb hx
  obtain ⟨sl',e2⟩:=slot b _ (neL b o e) hb (neC b o e hx) e1 (I.base.free b o e n hx)
  exact ⟨sl',e2⟩
 ·obtain ⟨o',e1⟩:=I.base.there b o e hx
  exact free b o' (neC b o e hx) e1 (I.base.free b o e n hx)
 ·obtain ⟨o',e1⟩:=I.base.there b o e hx
  exact there b o' (neC b o e hx) e1
 ·obtain ⟨m1,e1⟩:=I.base.tbls b ps e
  obtain ⟨m2,e2⟩:=tbls b _ e1
  exact ⟨m1++m2,by rw [e2,Array.append_assoc]⟩
 ·obtain ⟨m,hn,hl⟩:=I.loc
  refine ⟨m,ns m hn,fun i x v e1 e2 e3=>?_⟩
  obtain ⟨u,r,l⟩:=hl i x v e1 e2 e3
  refine ⟨u,r,?_⟩
  rcases l with l | ⟨k,c,e,z⟩
  ·exact .inl l
  ·exact .inr ⟨k,c,e,cellK x c e _ z⟩
 ·obtain ⟨v,z⟩:=I.cell x c e
  exact ⟨v,cellK x c e v z⟩
 ·obtain ⟨m,⟨o,_,_,ho,_⟩,_⟩:=I.loc
  exact free _ o (fun z=>(hch _ z).2.1 rfl) ho I.free
 ·obtain ⟨v,o,ho,hd⟩:=I.cell x c e
  exact free c o (fun z=>(hch c z).2.2.1 x c e rfl) ho (I.freeC x c e)
 ·obtain ⟨e,n,ne,nf,d⟩:=I.pin p hp
  have nch:p.1∉ch:=fun z=>(hch p.1 z).2.2.2 p hp rfl
  exact ⟨keep p.1 p.2 ne nf nch e n,free p.1 p.2 nch e n,ne,nf,d⟩
theorem Inv.un {t':Nat} (I:Inv X pins σ H s) (u:Un X.fs [] H H' s.heap h') (hok:HOk X.prog X.w H' h'):Inv X pins σ H' { s with heap:=h',toks:=t' }:=by
 obtain ⟨m,⟨o,es,ep,ho,r⟩,_⟩:=id I.loc
 obtain ⟨sl,hL⟩:=u.any ho I.free (by simp)
 exact I.step (g':=s.gens) (d':=s.drawn) (ch:=[]) (fun _ z=>nomatch z) (fun b o _ hb _ e n=>u.keep b o e n hb (by simp)) (fun b o _ hb _ e n=>u.slot b o e n hb (by simp)) (fun b o _ e n=>u.free b o e n (by simp)) (fun b o _ e=>u.there b o e (by simp)) u.tups u.frzs u.tbls (fun m' hm=>by
  obtain ⟨o',es',ep',ho',r'⟩:=hm
  rw [ho] at ho'; cases ho'
  exact ⟨_,es',ep',hL,r'⟩) hok I.bare
theorem Inv.call {g':Array GenState} {t':Nat} {d':Drawn} {ch:List Addr} (I:Inv X pins σ H s) (u:Un (frs X.stack) ch H H' s.heap h') (hok:HOk X.prog X.w H' h') (hg:AllBare g')
  (hch:∀ b∈ch,(b∈X.ex∨X.s_0.heap.objs.size≤b)∧b≠X.env.locals∧(∀ x c,X.env.cells.lookup x=some c→c≠b)∧∀ p∈X.pn++pins,p.1≠b):
  Inv X pins σ H' { s with heap:=h',gens:=g',drawn:=d',toks:=t' }:=by
 obtain ⟨m,⟨o,es,ep,ho,r⟩,_⟩:=id I.loc
 obtain ⟨sl,hL⟩:=u.any ho I.free fun z=>(hch _ z).2.1 rfl
 exact I.step (ch:=ch) hch (fun b o hL hb hc e n=>u.keep b o e n (fun z=>(List.mem_cons.mp (I.stkSub b z)).elim hL hb) hc) (fun b o _ _ hc e n=>u.any e n hc) (fun b o hc e n=>u.free b o e n hc) (fun b o hc e=>u.there b o e hc) u.tups u.frzs u.tbls (fun m' hm=>by
  obtain ⟨o',es',ep',ho',r'⟩:=hm
  rw [ho] at ho'; cases ho'
  exact ⟨_,es',ep',hL,r'⟩) hok hg
theorem Inv.turned {t':Nat} {it:Addr} (I:Inv X pins σ H s) (k:∀ b o,b≠it→s.heap.get? b=some o→h'.get? b=some o) (hn:H it=none) (hL:it≠X.env.locals)
  (h1:it∈X.ex∨X.s_0.heap.objs.size≤it) (h2:∀ x c,X.env.cells.lookup x=some c→c≠it) (h3:∀ p∈X.pn++pins,p.1≠it):Inv X pins σ H { s with heap:=h',toks:=t' }:=by
 have nit:∀ b u,H b=some u→b≠it:=fun b u e z=>by rw [z,hn] at e; cases e
 refine I.step (g':=s.gens) (d':=s.drawn) (ch:=[it]) (fun b hb=>?_) (fun b o _ _ hc e _=>k b o (fun z=>hc (by simp [z])) e) (fun b o _ _ hc e _=>⟨o.slots,k b o (fun z=>hc (by simp [z])) e⟩) (fun _ _ _ _ n=>n)
  (fun b o hc e=>⟨o,k b o (fun z=>hc (by simp [z])) e⟩) (fun _ _ e=>e) (fun _ _ _ e=>e) (fun b ps e=>⟨#[],by rw [e]; simp⟩) (fun m hm=>?_) (fun b u e=>?_) I.bare
 ·have e:b=it:=by simpa using hb
  subst e
  exact ⟨h1,hL,h2,h3⟩
 ·obtain ⟨o,es,ep,ho,r⟩:=hm
  exact ⟨o,es,ep,k _ o (Ne.symm hL) ho,r⟩
 ·refine (I.hok b u e).stay (fun c v hc q=>k c v ?_ q) (fun _ q=>q) fun _ _ q=>q
  rcases hc with z | z
  ·rw [z]; exact nit b u e
  ·exact nit c _ z
theorem Inv.tok (I:Inv X pins σ H s) (t:Nat):Inv X pins σ H { s with toks:=t }:=I.un (h':=s.heap) (t':=t) Un.refl I.hok
theorem Inv.kept {t':Nat} (I:Inv X pins σ H s) (k:∀ b u,s.heap.get? b=some u→h'.get? b=some u):Inv X pins σ H { s with heap:=h',toks:=t' }:=I.un (Un.kept k) (I.hok.kept k)
theorem Inv.laid {a:Addr} {o:HO} {t':Nat} (I:Inv X pins σ H s) (k:∀ b u,s.heap.get? b=some u→h'.get? b=some u) (hp:s.heap.objs.size≤a) (new:ObjOk X.prog X.w (upd H a o) h' a o):
  Inv X pins σ (upd H a o) { s with heap:=h',toks:=t' }:=I.un (Un.laid k hp (I.hok.fresh hp)) (I.hok.laid k hp new)
theorem Inv.write {x e:Addr} {o:HO} {t':Nat} (I:Inv X pins σ H s) (mu:Mut (H x)) (he:e=x∨H e=some (.own x)) (k:∀ b u,b≠e→s.heap.get? b=some u→h'.get? b=some u) (heo:∃ u,h'.get? e=some u)
  (new:ObjOk X.prog X.w (upd H x o) h' x o):Inv X pins σ (upd H x o) { s with heap:=h',toks:=t' }:=I.un (Un.write mu he k heo) (I.hok.write mu he k heo new)
theorem Inv.weak {σ':List (Option V)} (I:Inv X pins σ H s) (hl:σ'.length=σ.length) (w:∀ (i:Nat) v,σ'[i]? = some (some v)→σ[i]? = some (some v)):Inv X pins σ' H s:=
 ⟨I.ok,I.os,I.bare,I.base,let ⟨m,hn,hl'⟩:=I.loc; ⟨m,hn,fun i x v e1 e2 e3=>hl' i x v e1 (w i v e2) e3⟩,I.cell,I.free,I.freeC,I.pin,I.hok,hl.trans I.len⟩
theorem Inv.pins_of {pins':List (Addr×Obj)} (I:Inv X pins σ H s) (h:∀ p∈pins',s.heap.get? p.1=some p.2∧H p.1=none∧p.1≠X.env.locals∧p.1∉X.fs∧∀ v,p.2.data≠.cell v):Inv X pins' σ H s:=
 ⟨I.ok,I.os,I.bare,I.base,I.loc,I.cell,I.free,I.freeC,fun p hp=>(List.mem_append.mp hp).elim (fun z=>I.pin p (List.mem_append_left _ z)) (h p),I.hok,I.len⟩
theorem Zfl {N:List Str} (hN:N.Nodup) {i j:Nat} {x:Str} (a:N[i]? = some x) (b:N[j]? = some x):i=j:=by
 obtain ⟨h1,e1⟩:=List.getElem?_eq_some_iff.mp a
 obtain ⟨h2,e2⟩:=List.getElem?_eq_some_iff.mp b
 exact (List.getElem_inj hN).mp (e1.trans e2.symm)
theorem ZfJ {M:Model} {A:Around} {E:Value→Shared→Prop} {i:Nat} {x:Str} {v:V} {u:Value} {Q:Unit→Shared→Prop} (I:Inv X pins σ H s) (hN:X.N.Nodup) (hi:X.N[i]? = some x) (hx:Loc X.env.scope x) (r:RelV v u)
  (h:∀ s',Inv X pins (σ.set i (some v)) H s'→(∃ a,Heap.SameBut a s.heap s'.heap∧(a=X.env.locals∨X.env.cells.lookup x=some a))→Q () s') (hf:X.fn x=true∨X.env.scope.names.lookup x=some .local:=by first | exact .inl rfl | exact .inr rfl | assumption):wpAny M A (storeName X.env x u) Q E s:=by
 obtain ⟨m,hn,hl⟩:=id I.loc
 have hcls:(X.env.scope.kind == .class||(X.env.scope.kind == .module&&X.env.locals != X.env.globals))=false:=by rw [I.ok.kind]; rfl
 have hiσ:i<σ.length:=by rw [I.len]; exact (List.getElem?_eq_some_iff.mp hi).1
 have cne:=I.cne
 have tracked:∀ {a:Addr} {h':Heap},(∃ o,s.heap.get? a=some o∧H a=none)→Heap.SameBut a s.heap h'→HOk X.prog X.w H h':=fun {a h'} ha hs b ob e=>by
  obtain ⟨_,_,hfree⟩:=ha
  refine (I.hok b ob e).stay (fun c w' hc q=>(hs.2 c ?_).trans q) (fun _ q=>q) fun _ _ q=>q
  rintro rfl
  rcases hc with rfl | hc
  ·rw [hfree] at e; cases e
  ·rw [hfree] at hc; cases hc
 rcases hx with hk | hk
 ·refine wpAny_storeName_local hk hn (fun h' hn' hs=>?_) hcls
  obtain ⟨oL,_,_,hoL,_⟩:=id hn
  refine h _ ⟨I.ok,I.os,I.bare,⟨fun b o e n hb hx=>?_,fun b o e n hb hx=>?_,I.base.free,fun b o e hx=>?_,I.base.tups,I.base.frzs,I.base.tbls⟩,⟨_,hn',fun j y v' e1 e2 e3=>?_⟩,fun y c e=>?_,I.free,I.freeC,fun p hp=>?_,tracked ⟨oL,hoL,I.free⟩ hs,by simpa using I.len⟩ ⟨_,hs,.inl rfl⟩
  ·exact (hs.2 b (Nat.ne_of_lt (Nat.lt_of_lt_of_le (Heap.lt_size e) I.ok.above))).trans (I.base.keep b o e n hb hx)
  ·obtain ⟨sl,e1⟩:=I.base.slot b o e n hb hx
   exact ⟨sl,(hs.2 b (Nat.ne_of_lt (Nat.lt_of_lt_of_le (Heap.lt_size e) I.ok.above))).trans e1⟩
  ·obtain ⟨o',e1⟩:=I.base.there b o e hx
   exact ⟨o',(hs.2 b (Nat.ne_of_lt (Nat.lt_of_lt_of_le (Heap.lt_size e) I.ok.above))).trans e1⟩
  ·by_cases hj:j=i
   ·subst hj
    rw [hi] at e1; cases e1
    rw [List.getElem?_set_self hiσ] at e2
    cases e2
    exact ⟨u,r,.inl ⟨hk,by simp⟩⟩
   ·rw [List.getElem?_set_ne (Ne.symm hj)] at e2
    obtain ⟨u',r',q⟩:=hl j y v' e1 e2 e3
    refine ⟨u',r',?_⟩
    rcases q with ⟨k,e⟩ | ⟨k,c,e,z⟩
    ·refine .inl ⟨k,?_⟩
     have:y≠x:=fun e=>hj (Zfl hN e1 (e ▸ hi))
     simp [this,e]
    ·exact .inr ⟨k,c,e,z.sameBut hs (cne y c e)⟩
  ·obtain ⟨w',z⟩:=I.cell y c e
   exact ⟨w',z.sameBut hs (cne y c e)⟩
  ·obtain ⟨e,n,ne,nf,d⟩:=I.pin p hp
   exact ⟨(hs.2 p.1 ne).trans e,n,ne,nf,d⟩
 ·have hfn:X.fn x=true:=by
   rcases hf with z | z
   ·exact z
   ·rw [z] at hk; cases hk
  obtain ⟨c,hc⟩:=I.ok.has x (.inl hk)
  obtain ⟨w',z⟩:=I.cell x c hc
  refine wpAny_storeName_cell I.ok.kind hk hc z (fun h' hc' hs=>?_)
  obtain ⟨oc,hoc,hocd⟩:=id z
  refine h { s with heap:=h' } ⟨I.ok,I.os,I.bare,⟨fun b o e n hb hx=>?_,fun b o e n hb hx=>?_,I.base.free,fun b o e hx=>?_,I.base.tups,I.base.frzs,I.base.tbls⟩,⟨m,hn.sameBut hs (Ne.symm (cne x c hc)),fun j y v' e1 e2 e3=>?_⟩,fun y c' e=>?_,I.free,I.freeC,fun p hp=>?_,tracked ⟨oc,hoc,I.freeC x c hc⟩ hs,by simpa using I.len⟩ ⟨c,hs,.inr hc⟩
  ·exact (hs.2 b (Nat.ne_of_lt (Nat.lt_of_lt_of_le (Heap.lt_size e) (I.ok.cab x c hfn hc)))).trans (I.base.keep b o e n hb hx)
  ·obtain ⟨sl,e1⟩:=I.base.slot b o e n hb hx
   exact ⟨sl,(hs.2 b (Nat.ne_of_lt (Nat.lt_of_lt_of_le (Heap.lt_size e) (I.ok.cab x c hfn hc)))).trans e1⟩
  ·obtain ⟨o',e1⟩:=I.base.there b o e hx
   exact ⟨o',(hs.2 b (Nat.ne_of_lt (Nat.lt_of_lt_of_le (Heap.lt_size e) (I.ok.cab x c hfn hc)))).trans e1⟩
  ·by_cases hj:j=i
   ·subst hj
    rw [hi] at e1; cases e1
    rw [List.getElem?_set_self hiσ] at e2
    cases e2
    exact ⟨u,r,.inr ⟨.inl hk,c,hc,hc'⟩⟩
   ·rw [List.getElem?_set_ne (Ne.symm hj)] at e2
    obtain ⟨u',r',q⟩:=hl j y v' e1 e2 e3
    refine ⟨u',r',?_⟩
    rcases q with q | ⟨k,c',e,z'⟩
    ·exact .inl q
    ·refine .inr ⟨k,c',e,z'.sameBut hs ?_⟩
     rintro rfl
     exact hj (Zfl hN e1 (I.ok.inj _ _ _ e hc ▸ hi))
  ·by_cases hcc:c'=c
   ·subst hcc; exact ⟨_,hc'⟩
   ·obtain ⟨w2,z2⟩:=I.cell y c' e
    exact ⟨w2,z2.sameBut hs hcc⟩
  ·obtain ⟨e,n,ne,nf,d⟩:=I.pin p hp
   refine ⟨(hs.2 p.1 ?_).trans e,n,ne,nf,d⟩
   intro q
   rw [q,hoc] at e
   have q':oc=p.2:=Option.some.inj e
   exact d w' (by rw [← q']; exact hocd)
theorem Zhj {M:Model} {A:Around} {E:Value→Shared→Prop} {i:Nat} {x:Str} {v:V} {u:Value} {Q:Unit→Shared→Prop} (I:Inv X pins σ H s) (hN:X.N.Nodup) (hi:X.N[i]? = some x) (hx:Loc X.env.scope x) (r:RelV v u)
  (h:∀ s',Inv X pins (σ.set i (some v)) H s'→Q () s') (hf:X.fn x=true∨X.env.scope.names.lookup x=some .local:=by first | exact .inl rfl | exact .inr rfl | assumption):wpAny M A (storeName X.env x u) Q E s:=
 ZfJ I hN hi hx r (fun s' I' _=>h s' I') hf
theorem Inv.call' {s':Shared} {ch:List Addr} (I:Inv X pins σ H s) (ho:s'.os=s.os) (u:Un (frs X.stack) ch H H' s.heap s'.heap) (hok:HOk X.prog X.w H' s'.heap) (hg:AllBare s'.gens)
  (hch:∀ b∈ch,(b∈X.ex∨X.s_0.heap.objs.size≤b)∧b≠X.env.locals∧(∀ x c,X.env.cells.lookup x=some c→c≠b)∧∀ p∈X.pn++pins,p.1≠b):Inv X pins σ H' s':=by
 obtain ⟨h',g',d',t',o'⟩:=s'
 have e:o'=s.os:=ho
 subst e
 exact I.call (g':=g') (t':=t') (d':=d') u hok hg hch
end
abbrev XK:=Value→Option Addr→Hp→Prop
abbrev St:=List (Option V)
abbrev VK:=V→Hp→Prop
abbrev TE:=St→Hp→VK→Prop
abbrev TT:=St→Hp→(Bool→Hp→Prop)→Prop
abbrev TA:=St→Hp→(List V→Hp→Prop)→Prop
structure Ends where
 nx:St→Hp→Prop
 rt:VK
 bk:St→Hp→Prop:=fun _ _=>False
 ct:St→Hp→Prop:=fun _ _=>False
abbrev TS:=Ends→St→Hp→Prop
def EP (X:Cx) (pins:List (Addr×Obj)) (σ:St) (Q:VK) (u:Value) (s':Shared):Prop:=∃ v H',Inv X pins σ H' s'∧RelV v u∧Q v H'
def TP (X:Cx) (pins:List (Addr×Obj)) (σ:St) (Q:Bool→Hp→Prop) (b:Bool) (s':Shared):Prop:=∃ H',Inv X pins σ H' s'∧Q b H'
def AP (X:Cx) (pins:List (Addr×Obj)) (σ:St) (Q:List V→Hp→Prop) (us:List Value) (s':Shared):Prop:=∃ vs H',Inv X pins σ H' s'∧Vals vs us∧Q vs H'
def SP (X:Cx) (pins:List (Addr×Obj)) (D:Ends) (f:Flow) (s':Shared):Prop:=
 match f with
 | .next=>∃ σ' H',Inv X pins σ' H' s'∧D.nx σ' H'
 | .brk=>∃ σ' H',Inv X pins σ' H' s'∧D.bk σ' H'
 | .cont=>∃ σ' H',Inv X pins σ' H' s'∧D.ct σ' H'
 | .ret u=>∃ v σ' H',Inv X pins σ' H' s'∧RelV v u∧D.rt v H'
def PE (X:Cx) (e:Expr) (t:TE):Prop:=
 ∀ (pins:List (Addr×Obj)) (s:Shared) (σ:St) (H:Hp) (Q:VK),Inv X pins σ H s→t σ H Q→wpAny (model X.prog X.w) X.A (eval e X.env) (EP X pins σ Q) X.xe s
def PT (X:Cx) (e:Expr) (t:TT):Prop:=
 ∀ (pins:List (Addr×Obj)) (s:Shared) (σ:St) (H:Hp) (Q:Bool→Hp→Prop),Inv X pins σ H s→t σ H Q→wpAny (model X.prog X.w) X.A (isTrue e X.env (eval e X.env)) (TP X pins σ Q) X.xe s
def PW (X:Cx) (e:Expr) (t:TT):Prop:=
 ∀ (whole:Sem Value) (pins:List (Addr×Obj)) (s:Shared) (σ:St) (H:Hp) (Q:Bool→Hp→Prop),Inv X pins σ H s→t σ H Q→wpAny (model X.prog X.w) X.A (isTrue e X.env whole) (TP X pins σ Q) X.xe s
theorem PW.pt {X:Cx} {e:Expr} {t:TT} (h:PW X e t):PT X e t:=h _
def PA (X:Cx) (es:List Expr) (t:TA):Prop:=
 ∀ (pos:Pos) (pins:List (Addr×Obj)) (s:Shared) (σ:St) (H:Hp) (Q:List V→Hp→Prop),Inv X pins σ H s→t σ H Q→wpAny (model X.prog X.w) X.A (spliced (backTo pos (starEach es X.env))) (AP X pins σ Q) X.xe s
def PS (X:Cx) (st:Stmt) (t:TS):Prop:=
 ∀ (pins:List (Addr×Obj)) (s:Shared) (σ:St) (H:Hp) (D:Ends),Inv X pins σ H s→t D σ H→wpAny (model X.prog X.w) X.A (exec st X.env) (SP X pins D) X.xe s
def PSs (X:Cx) (st:List Stmt) (t:TS):Prop:=
 ∀ (pins:List (Addr×Obj)) (s:Shared) (σ:St) (H:Hp) (D:Ends),Inv X pins σ H s→t D σ H→wpAny (model X.prog X.w) X.A (execs st X.env) (SP X pins D) X.xe s
theorem thn {α:Type} {t:Sem α} {Q Q':α→Shared→Prop} {M:Model} {A:Around} {E:Value→Shared→Prop} {s:Shared} (h:wpAny M A t Q E s) (hQ:∀ a s,Q a s→Q' a s):wpAny M A t Q' E s:=wpAny_mono h hQ fun _ _ x=>x
end L2
namespace L2
open PySem PySem.Spec PyProof.Rows
section
variable {X:Cx}
def Zpa (i:Nat):TE:=fun σ H Q=>∃ v,σ[i]? = some (some v)∧Q v H
def tC (v:V):TE:=fun _ H Q=>Q v H
theorem Zns {i:Nat} {x:Str} {pos:Pos} (hN:X.N[i]? = some x) (hv:Vis X.env.scope x) (hd:(x==("__debug__":Str))=false:=by decide) (hcd:(x==("__classdict__":Str))=false:=by decide):PE X (.Name x pos) (Zpa i):=by
 intro pins s σ H Q I h
 obtain ⟨v,e,h⟩:=h
 obtain ⟨m,hn,hl⟩:=I.loc
 obtain ⟨u,r,l⟩:=hl i x v hN e hv
 have fin:EP X pins σ Q u s:=⟨v,H,I,r,h⟩
 rcases l with ⟨hk,hm⟩ | ⟨hk,c,hc,hcell⟩
 ·exact wpAny_Name (wpAny_loadName_local I.ok.kind hk hn hm fin) hd
 ·rcases hk with hk | hk
  ·exact wpAny_Name (wpAny_loadName_cell I.ok.kind hk hc hcell fin) hd
  ·exact wpAny_Name (wpAny_loadName_free I.ok.kind hk hc hcell fin hcd) hd
theorem Zau {i j pos}:PE X (.Constant (.int i) j pos) (tC (.int i)):=fun _ _ _ H _ I h=>wpAny_Constant_int ⟨.int i,H,I.tok _,⟨_,rfl⟩,h⟩
theorem ZcK {b j pos}:PE X (.Constant (.bool b) j pos) (tC (.bl b)):=fun _ _ _ H _ I h=>Constant_bool ⟨.bl b,H,I,rfl,h⟩
theorem ZcL {j pos}:PE X (.Constant .none j pos) (tC .non):=fun _ _ _ H _ I h=>Constant_none ⟨.non,H,I,rfl,h⟩
theorem Zbf {x j pos}:PE X (.Constant (.str x) j pos) (tC (.str x)):=fun _ _ _ H _ I h=>Calls.Constant_str ⟨.str x,H,I.tok _,⟨_,rfl⟩,h⟩
def Gl (X:Cx) (x:Str):Prop:=X.env.kindOf x=some .globalImplicit
theorem ZgJ {E:Value→Shared→Prop} {pins:List (Addr×Obj)} {s:Shared} {σ:St} {H:Hp} {x:Str} {u:Value} {pos:Pos} {Q:Value→Shared→Prop} (I:Inv X pins σ H s) (hg:Gl X x) (hm:X.mg x=some u) (h:Q u s)
  (hd:(x==("__debug__":Str))=false:=by decide):wpAny (model X.prog X.w) X.A (eval (.Name x pos) X.env) Q E s:=
 Calls.Name_function_global I.ok.kind hg (Calls.loadGlobal_global (by rw [I.ok.glob]; exact I.mod.glob.keeps I.bk) hm h) hd
theorem Zez {E:Value→Shared→Prop} {pins:List (Addr×Obj)} {s:Shared} {σ:St} {H:Hp} {x:Str} {u:Value} {pos:Pos} {Q:Value→Shared→Prop} (I:Inv X pins σ H s) (hg:Gl X x) (hm:X.mg x=none) (hv:bootBuiltins x=some u) (h:Q u s)
  (hn:x≠"__name__":=by decide) (hd:(x==("__debug__":Str))=false:=by decide):wpAny (model X.prog X.w) X.A (eval (.Name x pos) X.env) Q E s:=by
 obtain ⟨mb,h1,h2⟩:=I.mod.blt
 exact Calls.Name_function_global I.ok.kind hg (Calls.loadGlobal_builtin (by rw [I.ok.glob]; exact I.mod.glob.keeps I.bk) hm (by rw [I.ok.blt]; exact h1.keeps I.bk) ((h2 x hn).trans hv) h) hd
theorem Zax {x:Str} {v:V} {u:Value} {pos:Pos} (hg:Gl X x) (hm:X.mg x=some u) (r:RelV v u) (hd:(x==("__debug__":Str))=false:=by decide):PE X (.Name x pos) (tC v):=
 fun _ _ _ H _ I h=>ZgJ I hg hm ⟨v,H,I,r,h⟩ hd
variable {a b:Expr} {ta tb:TE} {pos:Pos}
def PC (X:Cx) (op:CmpOp) (a b:Expr) (t:TE):Prop:=
 ∀ (pins:List (Addr×Obj)) (s:Shared) (σ:St) (H:Hp) (Q:VK),Inv X pins σ H s→t σ H Q →
  wpAny (model X.prog X.w) X.A (eval a X.env) (fun v s₁=>wpAny (model X.prog X.w) X.A (eval b X.env) (fun u s₂=>wpAny (model X.prog X.w) X.A (compareOp op v u) (EP X pins σ Q) X.xe s₂) X.xe s₁) X.xe s
theorem ZkB (b:Expr) {op:CmpOp} (h:op≠.In) (h2:op≠.NotIn):behindInMarks op b=false:=by
 have e1:(op==CmpOp.In)=false:=by cases op<;>first | rfl | exact absurd rfl h
 have e2:(op==CmpOp.NotIn)=false:=by cases op<;>first | rfl | exact absurd rfl h2
 cases b<;>simp [behindInMarks,e1,e2]
def tB (t:TE):TT:=fun σ H Q=>t σ H fun x H1=>∃ c,x = .bl c∧Q c H1
theorem ZfK {op:CmpOp} {t:TE} (h:PC X op a b t) (h1:behindInMarks op b=false:=by first | exact ZkB _ (by decide) (by decide) | rfl):PT X (.Compare a [op] [b] pos) (tB t):=by
 intro pins s σ H Q I hw
 refine wpAny_isTrue_Compare1 (thn (h pins s σ H _ I hw) fun v s1 h1=>thn h1 fun u s2 h2=>thn h2 fun c s3 ⟨x,H1,I1,r1,q1⟩=>?_) h1
 obtain ⟨d,rfl,q⟩:=q1
 cases r1
 exact wpAny_truthy_bool ⟨H1,I1,q⟩
theorem Zcr {e:Expr} {t:TE} (h:PE X e t) (he:∀ whole,isTrue e X.env whole=(do let v ← whole; standAt e.pos; holding [v] (truthy v)):=by intro _; rfl):PT X e (tB t):=by
 intro pins s σ H Q I hw
 refine isTrue_plain (thn (h pins s σ H _ I hw) fun v s1 ⟨x,H1,I1,r1,q1⟩=>?_) (he _)
 obtain ⟨d,rfl,q⟩:=q1
 cases r1
 exact wpAny_truthy_bool ⟨H1,I1,q⟩
variable {tA tB':TT} {rest:List Expr}
def tAnd (t u:TT):TT:=fun σ H Q=>t σ H fun c H1=>if c=true then u σ H1 Q else Q false H1
def tOr (t u:TT):TT:=fun σ H Q=>t σ H fun c H1=>if c=true then Q true H1 else u σ H1 Q
def tNot (t:TT):TT:=fun σ H Q=>t σ H fun c H1=>Q (!c) H1
theorem ZdN (ha:PT X a tA):PW X (.BoolOp .And [a] pos) tA:=by
 intro wh pins s σ H Q I h
 refine isTrue_and (thn (ha pins s σ H Q I h) fun c s1 e=>?_)
 cases c with
 | true=>exact isTrue_and_nil e
 | false=>exact e
theorem ZlM (ha:PT X a tA):PW X (.BoolOp .Or [a] pos) tA:=by
 intro wh pins s σ H Q I h
 refine isTrue_or (thn (ha pins s σ H Q I h) fun c s1 e=>?_)
 cases c with
 | false=>exact isTrue_or_nil e
 | true=>exact e
theorem ZfL (ha:PT X a tA) (hb:PW X (.BoolOp .And (b::rest) pos) tB'):PW X (.BoolOp .And (a::b::rest) pos) (tAnd tA tB'):=by
 intro wh pins s σ H Q I h
 refine isTrue_and (thn (ha pins s σ H _ I h) fun c s1 ⟨H1,I1,q1⟩=>?_)
 cases c with
 | true=>exact hb wh pins s1 σ H1 Q I1 q1
 | false=>exact ⟨H1,I1,q1⟩
theorem Znt (ha:PT X a tA) (hb:PW X (.BoolOp .Or (b::rest) pos) tB'):PW X (.BoolOp .Or (a::b::rest) pos) (tOr tA tB'):=by
 intro wh pins s σ H Q I h
 refine isTrue_or (thn (ha pins s σ H _ I h) fun c s1 ⟨H1,I1,q1⟩=>?_)
 cases c with
 | true=>exact ⟨H1,I1,q1⟩
 | false=>exact hb wh pins s1 σ H1 Q I1 q1
theorem ZiM (ha:PT X a tA):PT X (.UnaryOp .Not a pos) (tNot tA):=by
 intro pins s σ H Q I h
 exact isTrue_not (ha pins s σ H (fun c H1=>Q (!c) H1) I h)
def Zox (ta tb:TE):TE:=fun σ H Q=>ta σ H fun x H1=>∃ c,x = .bl c∧if c=true then tb σ H1 Q else Q (.bl false) H1
def Zoy (ta:TE):TE:=fun σ H Q=>ta σ H fun x H1=>∃ c,x = .bl c∧Q (.bl (!c)) H1
theorem ZeA {op} {t:TE} (h:PE X a t):PE X (.BoolOp op [a] pos) t:=fun pins s σ H Q I hw=>BoolOp_one (h pins s σ H Q I hw)
theorem ZbN (ha:PE X a ta) (hb:PE X (.BoolOp .And (b::rest) pos) tb):PE X (.BoolOp .And (a::b::rest) pos) (Zox ta tb):=by
 intro pins s σ H Q I h
 refine BoolOp_and (thn (ha pins s σ H _ I h) fun v s1 ⟨x,H1,I1,r1,q1⟩=>?_)
 obtain ⟨c,rfl,q1⟩:=q1
 cases r1
 refine wpAny_truthy_bool ?_
 cases c with
 | true=>exact hb pins s1 σ H1 Q I1 q1
 | false=>exact ⟨.bl false,H1,I1,rfl,q1⟩
theorem ZlN (ha:PE X a ta):PE X (.UnaryOp .Not a pos) (Zoy ta):=by
 intro pins s σ H Q I h
 refine UnaryOp_ (thn (ha pins s σ H _ I h) fun v s1 ⟨x,H1,I1,r1,q1⟩=>?_)
 obtain ⟨c,rfl,q1⟩:=q1
 cases r1
 exact not_of (wpAny_truthy_bool ⟨.bl (!c),H1,I1,rfl,q1⟩)
end
end L2
namespace L2
open PySem PySem.Spec PyProof.Rows
def SqL (K:PySem.W.Frag) (H:Hp) (a:Addr) (xs:List V):Prop:=
 Rd H a (.lst xs) ∨
  ∃ (o:Obj) (its:Array Value) (n:Nat),K.lookup a=some o∧o.cls = .type "list"∧o.dict=none∧o.data = .seq its n∧its.size≤sizeLine∧Vals xs its.toList
def SqT (K:PySem.W.Frag) (H:Hp) (a:Addr) (xs:List V):Prop:=
 Rd H a (.tup xs) ∨
  ∃ (o:Obj) (its:Array Value) (n:Nat),K.lookup a=some o∧o.cls = .type "tuple"∧o.data = .seq its n∧its.size≤sizeLine∧Vals xs its.toList
def absV:Value→Option V
 | .none=>some .non
 | .bool b=>some (.bl b)
 | .int i _=>some (.int i)
 | .str x _=>some (.str x)
 | .bytes b _=>some (.byt b)
 | .float b _=>some (.flt b)
 | .ref a=>some (.ref a)
 | .type n=>some (.ty n)
 | _=>none
theorem RelV.abs {x:V} {u:Value} (r:RelV x u):absV u=some x:=by
 cases x with
 | non=>cases r; rfl
 | bl _=>cases r; rfl
 | int _=>obtain ⟨t,rfl⟩:=r; rfl
 | str _=>obtain ⟨t,rfl⟩:=r; rfl
 | byt _=>obtain ⟨t,rfl⟩:=r; rfl
 | flt _=>obtain ⟨t,rfl⟩:=r; rfl
 | ref _=>cases r; rfl
 | ty _=>cases r; rfl
theorem RelV.inj {x y:V} {u:Value} (r:RelV x u) (q:RelV y u):x=y:=Option.some.inj (r.abs.symm.trans q.abs)
theorem Vals.inj:∀ {xs ys:List V} {us:List Value},Vals xs us→Vals ys us→xs=ys
 | _,_,_,.nil,.nil=>rfl
 | _,_,_,.cons r t,.cons r' t'=>by rw [r.inj r',Vals.inj t t']
section
variable {X:Cx} {pins:List (Addr×Obj)} {σ:St} {H:Hp} {s:Shared} {a:Addr} {xs ys:List V}
theorem SqL.of {K:PySem.W.Frag} (h:H a=some (.lst xs)):SqL K H a xs:=.inl (.inl h)
theorem SqT.of {K:PySem.W.Frag} (h:H a=some (.tup xs)):SqT K H a xs:=.inl (.inl h)
theorem Inv.list (I:Inv X pins σ H s) (h:SqL X.K H a xs):∃ its:List Value,Vals xs its∧PlainL s.heap a its.toArray∧xs.length≤sizeLine:=by
 rcases h with h | ⟨o,its,n,hk,hc,hd,hs,hz,r⟩
 ·obtain ⟨z,its,n,r,e⟩:=h.ok I.hok
  exact ⟨its,r,⟨_,n,e,rfl,rfl,rfl⟩,z⟩
 ·refine ⟨its.toList,r,⟨o,n,I.kIn a o hk,hc,hd,by simpa using hs⟩,?_⟩
  have e:=r.length
  simp only [Array.length_toList] at e
  omega
theorem Inv.tuple (I:Inv X pins σ H s) (h:SqT X.K H a xs):∃ its:List Value,Vals xs its∧IsTup s.heap a its.toArray∧xs.length≤sizeLine:=by
 rcases h with h | ⟨o,its,n,hk,hc,hs,hz,r⟩
 ·obtain ⟨z,its,r,p⟩:=h.ok I.hok
  exact ⟨its,r,p,z⟩
 ·refine ⟨its.toList,r,⟨o,I.kIn a o hk,hc,n,by simpa using hs⟩,?_⟩
  have e:=r.length
  simp only [Array.length_toList] at e
  omega
theorem Inv.list_inj (I:Inv X pins σ H s) (h:SqL X.K H a xs) (h':SqL X.K H a ys):xs=ys:=by
 obtain ⟨its,r,⟨o,n,e,_,_,d⟩,_⟩:=I.list h
 obtain ⟨its',r',⟨o',n',e',_,_,d'⟩,_⟩:=I.list h'
 rw [e] at e'; cases e'
 rw [d] at d'
 injection d' with d1 _
 have:its=its':=by simpa using congrArg Array.toList d1
 subst this
 exact r.inj r'
end
abbrev Cx.wish (X:Cx) (E:Value→Shared→Prop):Cx:={ X with xe:=E }
abbrev Cx.nox (X:Cx):Cx:=X.wish fun _ _=>False
theorem Cx.Ok.wish {X:Cx} (ok:X.Ok) (E:Value→Shared→Prop):(X.wish E).Ok:=
 ⟨ok.mod,ok.kind,ok.glob,ok.blt,ok.above,ok.inj,ok.has,ok.cab,ok.hd,ok.frames,ok.stk,ok.exf,ok.bs,ok.bsz,ok.noex,ok.exfs,ok.funs,ok.frf⟩
theorem Cx.Ok.unwish {X:Cx} {E:Value→Shared→Prop} (ok:(X.wish E).Ok):X.Ok:=
 ⟨ok.mod,ok.kind,ok.glob,ok.blt,ok.above,ok.inj,ok.has,ok.cab,ok.hd,ok.frames,ok.stk,ok.exf,ok.bs,ok.bsz,ok.noex,ok.exfs,ok.funs,ok.frf⟩
section
variable {X:Cx} {pins:List (Addr×Obj)} {σ:St} {H:Hp} {s:Shared} {E:Value→Shared→Prop}
theorem Inv.wish (I:Inv X pins σ H s) (E:Value→Shared→Prop):Inv (X.wish E) pins σ H s:=⟨I.ok.wish E,I.os,I.bare,I.base,I.loc,I.cell,I.free,I.freeC,I.pin,I.hok,I.len⟩
theorem Inv.unwish (I:Inv (X.wish E) pins σ H s):Inv X pins σ H s:=⟨I.ok.unwish,I.os,I.bare,I.base,I.loc,I.cell,I.free,I.freeC,I.pin,I.hok,I.len⟩
theorem SP.unwish {D:Ends} {f:Flow} {s':Shared} (h:SP (X.wish E) pins D f s'):SP X pins D f s':=by
 cases f with
 | next=>obtain ⟨σ',H',I,q⟩:=h; exact ⟨σ',H',I.unwish,q⟩
 | brk=>obtain ⟨σ',H',I,q⟩:=h; exact ⟨σ',H',I.unwish,q⟩
 | cont=>obtain ⟨σ',H',I,q⟩:=h; exact ⟨σ',H',I.unwish,q⟩
 | ret u=>obtain ⟨v,σ',H',I,r,q⟩:=h; exact ⟨v,σ',H',I.unwish,r,q⟩
theorem PE.nox {e:Expr} {t:TE} (h:PE X.nox e t):PE X e t:=fun pins s σ H Q I hw=>
 wpAny_mono (h pins s σ H Q (I.wish _) hw) (fun _ _ ⟨v,H',I',r,q⟩=>⟨v,H',I'.unwish,r,q⟩) fun _ _ z=>False.elim z
theorem PT.nox {e:Expr} {t:TT} (h:PT X.nox e t):PT X e t:=fun pins s σ H Q I hw=>
 wpAny_mono (h pins s σ H Q (I.wish _) hw) (fun _ _ ⟨H',I',q⟩=>⟨H',I'.unwish,q⟩) fun _ _ z=>False.elim z
theorem PSs.nox {st:List Stmt} {t:TS} (h:PSs X.nox st t):PSs X st t:=fun pins s σ H D I hw=>
 wpAny_mono (h pins s σ H D (I.wish _) hw) (fun _ _ q=>q.unwish) fun _ _ z=>False.elim z
end
section
variable {X:Cx} {st:Stmt} {rest:List Stmt} {t u:TS} {e:Expr} {te:TE} {pos:Pos}
def tNext:TS:=fun D σ H=>D.nx σ H
def Zmd (t u:TS):TS:=fun D σ H=>t { D with nx:=u D } σ H
theorem ZaA:PSs X [] tNext:=fun _ _ σ H _ I h=>wpAny_execs_nil ⟨σ,H,I,h⟩
theorem Zab (h1:PS X st t) (h2:PSs X rest u):PSs X (st::rest) (Zmd t u):=by
 intro pins s σ H D I h
 refine wpAny_execs_cons (thn (h1 pins s σ H { D with nx:=u D } I h) fun f s1 q=>?_)
 cases f with
 | next=>
  obtain ⟨σ',H',I',q⟩:=q
  exact h2 pins s1 σ' H' D I' q
 | ret v=>exact q
 | brk=>exact q
 | cont=>exact q
theorem Zaf (h1:PS X st t):PSs X [st] t:=by
 intro pins s σ H D I h
 refine wpAny_execs_cons (thn (h1 pins s σ H D I h) fun f s1 q=>?_)
 cases f with
 | next=>exact wpAny_execs_nil q
 | ret v=>exact q
 | brk=>exact q
 | cont=>exact q
def tBreak:TS:=fun D σ H=>D.bk σ H
theorem ZkC:PS X (.Break pos) tBreak:=fun _ _ σ H _ I h=>wpAny_Break ⟨σ,H,I,h⟩
theorem Inv.quiet {pins:List (Addr×Obj)} {σ:St} {H:Hp} {s:Shared} (I:Inv X pins σ H s):interactive X.env=false:=by simp [interactive,I.ok.kind]
def Zoz (te:TE):TS:=fun D σ H=>te σ H fun _ H1=>D.nx σ H1
theorem ZaB (he:PE X e te) (hs:swapsWith e none pos.line X.env=pure false:=by rfl):PS X (.Expr e pos) (Zoz te):=by
 intro pins s σ H D I h
 exact wpAny_Expr_any (thn (he pins s σ H _ I h) fun v s1 ⟨x,H1,I1,r1,q1⟩=>⟨σ,H1,I1,q1⟩) I.quiet hs
def tRet (te:TE):TS:=fun D σ H=>te σ H D.rt
theorem Zav (he:PE X e te):PS X (.Return (some e) pos) (tRet te):=by
 intro pins s σ H D I h
 exact wpAny_Return_some (thn (he pins s σ H _ I h) fun v s1 ⟨x,H1,I1,r1,q1⟩=>⟨x,σ,H1,I1,r1,q1⟩)
def ZoA (c:TT) (t u:TS):TS:=fun D σ H=>c σ H fun b H1=>if b=true then t D σ H1 else u D σ H1
theorem Za6 {c:Expr} {a b:List Stmt} {tc:TT} (hc:PT X c tc) (ha:PSs X a t) (hb:PSs X b u):PS X (.If c a b pos) (ZoA tc t u):=by
 intro pins s σ H D I h
 refine wpAny_If (thn (hc pins s σ H _ I h) fun d s1 ⟨H1,I1,q1⟩=>?_)
 cases d with
 | true=>exact ha pins s1 σ H1 D I1 q1
 | false=>exact hb pins s1 σ H1 D I1 q1
end
abbrev TG:=V→St→Hp→(St→Hp→Prop)→Prop
abbrev TGs:=List V→St→Hp→(St→Hp→Prop)→Prop
def PG (X:Cx) (target:Expr) (t:TG):Prop:=
 ∀ (pins:List (Addr×Obj)) (s:Shared) (σ:St) (H:Hp) (v:V) (u:Value) (Q:St→Hp→Prop),Inv X pins σ H s→RelV v u→t v σ H Q →
  wpAny (model X.prog X.w) X.A (assign target X.env u) (fun _ s'=>∃ σ' H',Inv X pins σ' H' s'∧Q σ' H') X.xe s
def PGs (X:Cx) (ts:List Expr) (t:TGs):Prop:=
 ∀ (pins:List (Addr×Obj)) (s:Shared) (σ:St) (H:Hp) (vs:List V) (us:List Value) (Q:St→Hp→Prop),Inv X pins σ H s→Vals vs us→t vs σ H Q →
  wpAny (model X.prog X.w) X.A (assignInOrder ((assignEach ts X.env).map (·.2)) us) (fun _ s'=>∃ σ' H',Inv X pins σ' H' s'∧Q σ' H') X.xe s
section
variable {X:Cx} {pos:Pos}
def ZdH (i:Nat):TG:=fun v σ H Q=>Q (σ.set i (some v)) H
theorem ZaS {i:Nat} {x:Str} (hN:X.N.Nodup) (hi:X.N[i]? = some x) (hx:Loc X.env.scope x) (hf:X.fn x=true∨X.env.scope.names.lookup x=some .local:=by first | exact .inl rfl | exact .inr rfl | assumption):PG X (.Name x pos) (ZdH i):=by
 intro pins s σ H v u Q I r h
 exact wpAny_assign_Name (Zhj I hN hi hx r (fun s' I'=>⟨_,H,I',h⟩) hf)
def gNil:TGs:=fun vs σ H Q=>vs=[]∧Q σ H
def Zme (t:TG) (u:TGs):TGs:=fun vs σ H Q=>∃ v r,vs=v::r∧t v σ H fun σ' H'=>u r σ' H' Q
theorem Zmf:PGs X [] gNil:=by
 intro pins s σ H vs us Q I r h
 obtain ⟨e,h⟩:=h
 subst e
 cases r
 exact assignInOrder_nil ⟨σ,H,I,h⟩
theorem Zhk {e:Expr} {es:List Expr} {t:TG} {u:TGs} (h1:PG X e t) (h2:PGs X es u)
  (hs:(assignEach (e::es) X.env).map (·.2)=assign e X.env::(assignEach es X.env).map (·.2):=by rfl):PGs X (e::es) (Zme t u):=by
 intro pins s σ H vs us Q I r h
 obtain ⟨v,vr,e1,h⟩:=h
 subst e1
 cases r with
 | cons r rr=>
  rw [hs]
  refine assignInOrder_cons (thn (h1 pins s σ H _ _ _ I r h) fun _ s1 ⟨σ1,H1,I1,q1⟩=>?_)
  exact h2 pins s1 σ1 H1 _ _ Q I1 rr q1
def Zpb (K:PySem.W.Frag) (n:Nat) (t:TGs):TG:=fun v σ H Q=>∃ a xs,v = .ref a∧SqT K H a xs∧xs.length=n∧t xs σ H Q
theorem Znu {es:List Expr} {k:Nat} {t:TGs} {n:Nat} (hc:X.calm=true) (h:PGs X es t)
  (hn:(assignEach es X.env).length=n:=by rfl) (hst:(assignEach es X.env).findIdx? (·.1)=none:=by rfl):PG X (.Tuple es k pos) (Zpb X.K n t):=by
 intro pins s σ H v u Q I r hw
 obtain ⟨a,xs,e1,hq,hl,hw⟩:=hw
 subst e1
 cases r
 obtain ⟨its,rv,ht,hz⟩:=I.tuple hq
 refine assign_Tuple_tuple (I.ok.hd hc) ht (by simp [hn,← hl,rv.length]) hst fun h' hx=>?_
 have I1:Inv X pins σ H { s with heap:=h' }:=I.kept (t':=s.toks) fun b o e=>hx b o (Nat.ne_of_lt (Heap.lt_size e)) e
 exact h pins _ σ H xs _ Q I1 (by simpa using rv) hw
def Zpc (te:TE) (g:TG):TS:=fun D σ H=>te σ H fun x H1=>g x σ H1 D.nx
theorem Zat {i:Nat} {x:Str} {e:Expr} {te:TE} {pos':Pos} (hN:X.N.Nodup) (hi:X.N[i]? = some x) (hx:Loc X.env.scope x) (he:PE X e te) (hs:swapsWith e (some (.Name x pos')) pos.line X.env=pure false:=by rfl) (hf:X.fn x=true∨X.env.scope.names.lookup x=some .local:=by first | exact .inl rfl | exact .inr rfl | assumption):
  PS X (.Assign [.Name x pos'] e pos) (Zpc te (ZdH i)):=by
 intro pins s σ H D I h
 refine wpAny_Assign_Name (thn (he pins s σ H _ I h) fun v s1 ⟨y,H1,I1,r1,q1⟩=>?_) hs
 exact Zhj I1 hN hi hx r1 (fun s2 I2=>⟨_,H1,I2,q1⟩) hf
end
section
variable {X:Cx} {pos:Pos}
def ZiN (c:TT) (tb:TS):TS:=fun D σ H=>∃ W:Nat→St→Hp→Prop,(∃ m,W m σ H)∧∀ m σ H,W m σ H →
 c σ H fun b H1=>if b=true then ∃ N:St→Hp→Prop,(∀ σ' H',N σ' H'→∃ m',m'<m∧W m' σ' H')∧tb { D with nx:=N,ct:=N,bk:=D.nx } σ H1 else D.nx σ H1
theorem Zcg {c:Expr} {body:List Stmt} {tc:TT} {tb:TS} (hp:PassesOwn (model X.prog X.w) X.A X.env X.xe) (hc:PT X c tc) (hb:PSs X body tb):PS X (.While c body [] pos) (ZiN tc tb):=by
 intro pins s σ H D I h
 obtain ⟨W,⟨m0,w0⟩,turn⟩:=h
 refine wpAny_While (codeAny_whileLoop (fun n s'=>∃ σ' H',Inv X pins σ' H' s'∧W n σ' H') ?_ m0 ⟨σ,H,I,w0⟩)
 rintro n s1 ⟨σ1,H1,I1,w1⟩
 refine wpAny_passesOwn hp (thn (hc pins s1 σ1 H1 _ I1 (turn n σ1 H1 w1)) fun b s2 ⟨H2,I2,q2⟩=>?_)
 cases b with
 | true=>
  obtain ⟨N,hN,q2⟩:=q2
  rw [if_pos rfl]
  refine wpAny_passesOwn hp (thn (hb pins s2 σ1 H2 _ I2 q2) fun f s3 q3=>?_)
  cases f with
  | next=>
   obtain ⟨σ3,H3,I3,n3⟩:=q3
   obtain ⟨m',hm,w3⟩:=hN σ3 H3 n3
   exact ⟨m',hm,σ3,H3,I3,w3⟩
  | cont=>
   obtain ⟨σ3,H3,I3,n3⟩:=q3
   obtain ⟨m',hm,w3⟩:=hN σ3 H3 n3
   exact ⟨m',hm,σ3,H3,I3,w3⟩
  | brk=>exact q3
  | ret v=>exact q3
 | false=>
  rw [if_neg Bool.false_ne_true]
  exact wpAny_execs_nil ⟨σ1,H2,I2,q2⟩
end
structure It where
 go:Nat→Hp→Prop
 yld:Nat→Hp→V→Hp→Prop
 stop:Nat→Hp→Prop
def ZiH (X:Cx) (pins:List (Addr×Obj)) (H:Hp) (b:Addr):Prop:=
 H b=none∧b≠X.env.locals∧b∉X.fs∧(b∈X.ex∨X.s_0.heap.objs.size≤b)∧(∀ x c,X.env.cells.lookup x=some c→c≠b)∧∀ p∈X.pn++pins,p.1≠b
theorem Inv.fpOk {X:Cx} {pins:List (Addr×Obj)} {σ:St} {H H':Hp} {s:Shared} {b:Addr} (I:Inv X pins σ H s) (hb:s.heap.objs.size≤b) (hn:H' b=none):ZiH X pins H' b:=by
 refine ⟨hn,Nat.ne_of_gt (Nat.lt_of_lt_of_le I.lt hb),I.nofs hb,.inr (Nat.le_trans I.sz hb),fun x c e z=>?_,fun p hp z=>?_⟩
 ·obtain ⟨v,q⟩:=I.cell x c e
  exact absurd (Nat.lt_of_lt_of_le q.lt (by rw [z]; exact hb)) (Nat.lt_irrefl _)
 ·exact absurd (Nat.lt_of_lt_of_le (Heap.lt_size (I.pin p hp).1) (by rw [z]; exact hb)) (Nat.lt_irrefl _)
structure Turn (P:Program) (w:World) (K:PySem.W.Frag) (tg:Expr) (J:It) (fp:List Addr) (it:Addr) (tn:Nat→Heap→Prop):Prop where
 mem:it∈fp
 obj:∀ i h,tn i h→∀ b∈fp,∃ o,h.get? b=some o∧∀ v,o.data≠.cell v
 keep:∀ i h h',tn i h→(∀ b∈fp,∀ o,h.get? b=some o→h'.get? b=some o)→tn i h'
 item:∀ (X:Cx),X.prog=P→X.w=w→X.K=K→X.calm=true→∀ (i:Nat) (pins:List (Addr×Obj)) (s:Shared) (σ:St) (H:Hp) (E:Value→Shared→Prop),Inv X pins σ H s→(∀ b∈fp,ZiH X pins H b)→tn i s.heap→J.go i H →
  wpAny (model P w) X.A (pyNext (.ref it)) (fun r s1=>∃ u,r=some u ∧
   wpAny (model P w) X.A (letOwnedTupleGo tg (.ref it) u) (fun _ s2=>∃ x H',Inv X pins σ H' s2∧RelV x u∧J.yld i H x H'∧tn (i+1) s2.heap∧∀ b∈fp,H' b=none) E s1) E s
 done:∀ (X:Cx),X.prog=P→X.w=w→X.K=K→X.calm=true→∀ (i:Nat) (pins:List (Addr×Obj)) (s:Shared) (σ:St) (H:Hp) (E:Value→Shared→Prop),Inv X pins σ H s→(∀ b∈fp,ZiH X pins H b)→tn i s.heap→J.stop i H →
  wpAny (model P w) X.A (pyNext (.ref it)) (fun r s1=>r=none∧Inv X pins σ H s1) E s
 self:∀ (A:Around) (i:Nat) (s:Shared) (Q:Value→Shared→Prop) (E:Value→Shared→Prop),tn i s.heap→Q (.ref it) s→wpAny (model P w) A (pyIter (.ref it)) Q E s
abbrev TI:=St→Hp→(It→Hp→Prop)→Prop
def PIE (X:Cx) (pins:List (Addr×Obj)) (σ:St) (tg:Expr) (R:It→Hp→Prop) (itv:Value) (s2:Shared):Prop:=
 ∃ (it:Addr) (fp:List Addr) (tn:Nat→Heap→Prop) (J:It) (H':Hp),itv = .ref it∧Inv X pins σ H' s2∧Turn X.prog X.w X.K tg J fp it tn∧tn 0 s2.heap∧(∀ b∈fp,ZiH X pins H' b)∧R J H'
def PI (X:Cx) (tg ZbH:Expr) (wi:TI):Prop:=
 ∀ (pins:List (Addr×Obj)) (s:Shared) (σ:St) (H:Hp) (R:It→Hp→Prop),Inv X pins σ H s→wi σ H R →
  wpAny (model X.prog X.w) X.A (eval ZbH X.env) (fun v s1=>wpAny (model X.prog X.w) X.A (pyIter v) (PIE X pins σ tg R) X.xe s1) X.xe s
theorem Zmg {M:Model} {A:Around} {E:Value→Shared→Prop} {s:Shared} {tg:Expr} {it:Addr} {u:Value} {o:Obj} {n:String} {vs:Array Value} {Q:Unit→Shared→Prop} (ho:s.heap.get? it=some o) (hc:o.cls = .type n) (hd:o.data = .fields vs)
    (hn:["enumerate","zip","dict_itemiterator","dict_reverseitemiterator","odict_iterator","itertools.zip_longest","itertools.pairwise"].contains n=false) (hQ:Q () s):wpAny M A (letOwnedTupleGo tg (.ref it) u) Q E s:=by
  unfold letOwnedTupleGo
  cases tg<;>first
    | exact wpAny_pure hQ
    | (cases u<;>first
        | exact wpAny_pure hQ
        | (refine wpAny_bind (wpAny_load ho ?_)
           rw [hc,hd]
           show wpAny M A (if (["enumerate","zip","dict_itemiterator","dict_reverseitemiterator","odict_iterator","itertools.zip_longest","itertools.pairwise"].contains n&&vs[0]? == some (rawInt _))=true then _ else _) Q E s
           rw [if_neg (by intro h; rw [hn,Bool.false_and] at h; cases h)]
           exact wpAny_pure hQ))
def Itl (K:PySem.W.Frag) (a:Addr):It:=
 ⟨fun i H=>∃ xs x,SqL K H a xs∧xs[i]? = some x,fun i H x H'=>H'=H∧∀ xs,SqL K H a xs→xs[i]? = some x,fun i H=>∃ xs,SqL K H a xs∧xs.length≤i⟩
def Itr (lo:Int) (n:Nat):It:=⟨fun i _=>i<n,fun i H x H'=>H'=H∧x = .int (lo+i),fun i _=>n≤i⟩
theorem ZiO {P:Program} {w:World} {K:PySem.W.Frag} {tg:Expr} (a it:Addr):Turn P w K tg (Itl K a) [it] it (fun i h=>h.IsListIter it a i) where
 mem:=by simp
 obj:=fun i h st b hb=>by
  have e:b=it:=by simpa using hb
  subst e
  obtain ⟨o,e,c,d⟩:=st
  exact ⟨o,e,fun v z=>by rw [d] at z; cases z⟩
 keep:=fun i h h' st k=>st.at fun o e=>k it (by simp) o e
 item:=by
  intro X hP hw hK hc i pins s σ H E I hf st hg
  subst hP hw hK
  obtain ⟨xs,x,hq,hx⟩:=hg
  obtain ⟨its,rv,p,hz⟩:=I.list hq
  obtain ⟨u,hu,ru⟩:=rv.get hx
  obtain ⟨f0,f1,f2,f3,f4,f5⟩:=hf it (by simp)
  refine wpAny_pyNext_list_item st p.isList (x:=u) (by simpa using hu) fun h' st' sb=>?_
  have I1:Inv X pins σ H { s with heap:=h' }:=I.turned (t':=s.toks) (fun b o hb e=>(sb.2 b hb).trans e) f0 f1 f3 f4 f5
  obtain ⟨o,e,c,d⟩:=id st'
  exact ⟨u,rfl,Zmg (s:={ s with heap:=h' }) e c d (by decide) ⟨x,H,I1,ru,⟨rfl,fun ys hy=>by rw [I.list_inj hy hq]; exact hx⟩,st',fun b hb=>(hf b hb).1⟩⟩
 done:=by
  intro X hP hw hK hc i pins s σ H E I hf st hg
  subst hP hw hK
  obtain ⟨xs,hq,hx⟩:=hg
  obtain ⟨its,rv,p,hz⟩:=I.list hq
  obtain ⟨f0,f1,f2,f3,f4,f5⟩:=hf it (by simp)
  have hl:=rv.length
  exact wpAny_pyNext_list_end (I.ok.hd hc) st p.isList (by simp; omega) fun h' eb=>⟨rfl,I.turned (t':=s.toks) (fun b o hb e=>eb b o hb e) f0 f1 f3 f4 f5⟩
 self:=fun _ _ _ _ _ st h=>wpAny_pyIter_listiter st h
theorem ZhZ {P:Program} {w:World} {K:PySem.W.Frag} {tg:Expr} (it:Addr) (lo:Int) (n:Nat):Turn P w K tg (Itr lo n) [it] it (fun i h=>IsRangeIter h it (lo+(i:Nat)*1) ((n:Int)-(i:Nat)) 1) where
 mem:=by simp
 obj:=fun i h st b hb=>by
  have e:b=it:=by simpa using hb
  subst e
  exact ⟨_,st,fun v z=>by
   have z':Data.fields _=Data.cell v:=z
   cases z'⟩
 keep:=fun i h h' st k=>k it (by simp) _ st
 item:=by
  intro X hP hw hK hc i pins s σ H E I hf st hg
  subst hP hw hK
  obtain ⟨f0,f1,f2,f3,f4,f5⟩:=hf it (by simp)
  have W:=Walks.range (prog:=X.prog) (w:=X.w) (I.ok.hd hc) it lo 1 n
  refine W.item i s _ _ hg st fun v h' tk hv st' kk=>?_
  obtain ⟨t,rfl⟩:=hv
  have I1:Inv X pins σ H { s with heap:=h',toks:=tk }:=I.turned (fun b o hb e=>kk b o (by simpa using hb) e) f0 f1 f3 f4 f5
  refine ⟨_,rfl,Zmg (s:={ s with heap:=h',toks:=tk }) (n:="range_iterator") st' rfl rfl (by decide) ⟨.int (lo+i),H,I1,⟨t,?_⟩,⟨rfl,rfl⟩,st',fun b hb=>(hf b hb).1⟩⟩
  rw [Int.mul_one]
 done:=by
  intro X hP hw hK hc i pins s σ H E I hf st hg
  subst hP hw hK
  obtain ⟨f0,f1,f2,f3,f4,f5⟩:=hf it (by simp)
  exact wpAny_pyNext_range_end (I.ok.hd hc) st (by have:n≤i:=hg; omega) fun h' eb=>⟨rfl,I.turned (t':=s.toks) (fun b o hb e=>eb b o hb e) f0 f1 f3 f4 f5⟩
 self:=fun _ _ _ _ _ st h=>wpAny_pyIter_rangeiter st h
end L2
namespace L2
open PySem PySem.Spec PyProof.Rows
section
variable {X:Cx} {tg:Expr}
def ZoB (K:PySem.W.Frag) (tl:TE):TI:=fun σ H R=>tl σ H fun x H1=>∃ a,x = .ref a∧(∃ xs,SqL K H1 a xs)∧R (Itl K a) H1
theorem Zbc {l:Expr} {tl:TE} (hl:PE X l tl):PI X tg l (ZoB X.K tl):=by
 intro pins s σ H R I h
 refine thn (hl pins s σ H _ I h) fun v s1 ⟨x,H1,I1,r1,q1⟩=>?_
 obtain ⟨a,e,⟨xs,hq⟩,q⟩:=q1
 subst e
 cases r1
 obtain ⟨its,rv,p,hz⟩:=I1.list hq
 refine wpAny_pyIter_list p.isList ?_
 refine ⟨s1.heap.objs.size,[s1.heap.objs.size],_,_,H1,rfl,I1.kept (t':=s1.toks) fun b o e=>Heap.get?_push_of_some _ e,ZiO a _,⟨_,Heap.get?_push_size _ rfl,rfl,rfl⟩,fun b hb=>?_,q⟩
 have e:b=s1.heap.objs.size:=by simpa using hb
 subst e
 exact I1.fpOk (Nat.le_refl _) (I1.hok.fresh (Nat.le_refl _))
theorem Zhl {pins:List (Addr×Obj)} {σ:St} {H:Hp} {s:Shared} {R:It→Hp→Prop} {E:Value→Shared→Prop} {lo hi:Int} {t u v:Tok} {tk:Nat} (I:Inv X pins σ H s) (h1:-(2^62)≤lo) (h2:lo<2^62) (h3:-(2^62)≤hi) (h4:hi<2^62)
  (q:R (Itr lo (hi-lo).toNat) H):wpAny (model X.prog X.w) X.A (pyIter (.ref s.heap.objs.size)) (PIE X pins σ tg R) E { s with heap:=s.heap.push { cls:=.type "range",data:=.fields #[.int lo t,.int hi u,.int 1 v] },toks:=tk }:=by
 refine wpAny_pyIter_range (IsRange.new ..) (small_one h1 h2 h3 h4) ?_
 have I1:Inv X pins σ H { s with heap:=s.heap.push { cls:=.type "range",data:=.fields #[.int lo t,.int hi u,.int 1 v] },toks:=tk }:=I.kept fun b o e=>Heap.get?_push_of_some _ e
 refine ⟨(s.heap.push { cls:=.type "range",data:=.fields #[.int lo t,.int hi u,.int 1 v] }).objs.size,[(s.heap.push { cls:=.type "range",data:=.fields #[.int lo t,.int hi u,.int 1 v] }).objs.size],_,_,H,rfl,
  I1.kept (t':=tk) fun b o e=>Heap.get?_push_of_some _ e,ZhZ _ lo (hi-lo).toNat,?_,fun b hb=>?_,q⟩
 ·have e1:lo+((0:Nat):Int)*1=lo:=by simp
  have e2:(((hi-lo).toNat:Nat):Int)-((0:Nat):Int)=Builtin.Range.rangeSize lo hi 1:=by rw [rangeSize_one]; split<;>omega
  show IsRangeIter _ _ (lo+((0:Nat):Int)*1) ((((hi-lo).toNat:Nat):Int)-((0:Nat):Int)) 1
  rw [e1,e2]
  exact Heap.get?_push_size _ rfl
 ·have e:b=(s.heap.push { cls:=.type "range",data:=.fields #[.int lo t,.int hi u,.int 1 v] }).objs.size:=by simpa using hb
  subst e
  exact I1.fpOk (Nat.le_refl _) (I1.hok.fresh (Nat.le_refl _))
def ZoC (ta:TA):TI:=fun σ H R=>ta σ H fun vs H1=>∃ j:Int,vs=[.int j]∧-(2^62)≤j∧j<2^62∧R (Itr 0 j.toNat) H1
def ZoD (ta:TA):TI:=fun σ H R=>ta σ H fun vs H1=>∃ i j:Int,vs=[.int i,.int j]∧(-(2^62)≤i∧i<2^62∧-(2^62)≤j∧j<2^62)∧R (Itr i (j-i).toNat) H1
theorem ZcM {a:Expr} {ta:TA} {p pos:Pos} (hg:Gl X "range") (hm:X.mg "range"=none) (ha:PA X [a] ta) (hs:starEach [a] X.env=[(false,eval a X.env)]:=by rfl):PI X tg (.Call (.Name "range" p) [a] [] pos) (ZoC ta):=by
 intro pins s σ H R I h
 refine Call_ (Zez I hg hm boot_range (PyProof.Rows.callWith_type1 (thn (ha pos pins s σ H _ I h) fun us s1 ⟨vs,H1,I1,r1,q1⟩=>?_) hs rfl))
 obtain ⟨j,e,q1,q2,q⟩:=q1
 subst e
 cases r1 with
 | cons r rr=>
  cases rr
  obtain ⟨t,rfl⟩:=r
  exact call_range_1 (Zhl I1 (by omega) (by omega) q1 q2 (by simpa using q))
theorem ZfM {a b:Expr} {ta:TA} {p pos:Pos} (hg:Gl X "range") (hm:X.mg "range"=none) (ha:PA X [a,b] ta) (hs:starEach [a,b] X.env=[(false,eval a X.env),(false,eval b X.env)]:=by rfl) (hs2:starEach [b] X.env=[(false,eval b X.env)]:=by rfl):
  PI X tg (.Call (.Name "range" p) [a,b] [] pos) (ZoD ta):=by
 intro pins s σ H R I h
 refine Call_ (Zez I hg hm boot_range (PyProof.Rows.callWith_type1 (thn (ha pos pins s σ H _ I h) fun us s1 ⟨vs,H1,I1,r1,q1⟩=>?_) (by rw [hs,hs2]) (by rw [hs2]; rfl)))
 obtain ⟨i,j,e,⟨q1,q2,q3,q4⟩,q⟩:=q1
 subst e
 cases r1 with
 | cons r rr=>
  cases rr with
  | cons r' rr=>
   cases rr
   obtain ⟨t,rfl⟩:=r
   obtain ⟨t',rfl⟩:=r'
   exact call_range_2 (Zhl I1 q1 q2 q3 q4 q)
def tFor (wi:TI) (g:TG) (tb:TS):TS:=fun D σ H=>wi σ H fun J H1=>∃ W:Nat→Nat→St→Hp→Prop,(∃ m,W 0 m σ H1)∧∀ i m σ H,W i m σ H →
 (J.stop i H∧D.nx σ H)∨(J.go i H∧∃ N:St→Hp→Prop,(∀ σ' H',N σ' H'→∃ m',m'<m∧W (i+1) m' σ' H')∧∀ x H',J.yld i H x H'→g x σ H' fun σ2 H2=>tb { D with nx:=N,ct:=N,bk:=D.nx } σ2 H2)
def ZfN (fp:List Addr) (h:Heap):List (Addr×Obj):=fp.filterMap fun b=>(h.get? b).map fun o=>(b,o)
theorem Zc8 {fp:List Addr} {h:Heap} {b:Addr} {o:Obj} (hb:b∈fp) (e:h.get? b=some o):(b,o)∈ZfN fp h:=List.mem_filterMap.mpr ⟨b,hb,by rw [e]; rfl⟩
theorem ZiP {fp:List Addr} {h:Heap} {p:Addr×Obj} (hp:p∈ZfN fp h):p.1∈fp∧h.get? p.1=some p.2:=by
 obtain ⟨b,hb,e⟩:=List.mem_filterMap.mp hp
 cases q:h.get? b with
 | none=>rw [q] at e; cases e
 | some o=>
  rw [q] at e
  have e':(b,o)=p:=Option.some.inj e
  subst e'
  exact ⟨hb,q⟩
theorem Inv.pinned {pins:List (Addr×Obj)} {σ:St} {H:Hp} {s:Shared} {fp:List Addr} (I:Inv X pins σ H s) (hf:∀ b∈fp,ZiH X pins H b) (ho:∀ b∈fp,∃ o,s.heap.get? b=some o∧∀ v,o.data≠.cell v):Inv X (pins++ZfN fp s.heap) σ H s:=
 I.pins_of fun p hp=>(List.mem_append.mp hp).elim (fun z=>I.pin p (List.mem_append_right _ z)) fun z=>by
  obtain ⟨hb,e⟩:=ZiP z
  obtain ⟨f0,f1,f2,_⟩:=hf p.1 hb
  obtain ⟨o,e',d⟩:=ho p.1 hb
  rw [e] at e'; cases e'
  exact ⟨e,f0,f1,f2,d⟩
theorem Inv.unpinned {pins pl:List (Addr×Obj)} {σ:St} {H:Hp} {s:Shared} (I:Inv X (pins++pl) σ H s):Inv X pins σ H s:=I.pins_of fun p hp=>I.pin p (List.mem_append_right _ (List.mem_append_left _ hp))
theorem ZbO {ZbH:Expr} {body:List Stmt} {wi:TI} {g:TG} {tb:TS} {pos:Pos} (hp:PassesOwn (model X.prog X.w) X.A X.env X.xe) (hc:X.calm=true) (hi:PI X tg ZbH wi) (hg:PG X tg g) (hb:PSs X body tb)
  (hs:∀ x,foldedSetIterable ZbH X.env x=pure x:=by intro _; rfl):PS X (.For tg ZbH body [] pos) (tFor wi g tb):=by
 intro pins s σ H D I h
 refine wpAny_For (thn (hi pins s σ H _ I h) fun v s1 h1=>thn h1 fun itv s2 h2=>?_) hs
 obtain ⟨it,fp,tn,J,H2,e,I2,T,st2,f2,W,⟨m0,w0⟩,turn⟩:=h2
 subst e
 have stat:∀ {H':Hp},(∀ b∈fp,H' b=none)→∀ b∈fp,ZiH X pins H' b:=fun hn b hb=>⟨hn b hb,(f2 b hb).2⟩
 refine codeAny_forLoop_any (fun n s'=>∃ i σ' H',Inv X pins σ' H' s'∧tn i s'.heap∧(∀ b∈fp,H' b=none)∧W i n σ' H') ?_ m0 ⟨0,σ,H2,I2,st2,fun b hb=>(f2 b hb).1,w0⟩
 rintro n s3 ⟨i,σ3,H3,I3,st3,fr3,w3⟩
 rcases turn i n σ3 H3 w3 with ⟨stop,qn⟩ | ⟨go,N,hN,step⟩
 ·refine wpAny_passesOwn hp (thn (T.done X rfl rfl rfl hc i pins s3 σ3 H3 X.xe I3 (stat fr3) st3 stop) fun r s4 ⟨hr,I4⟩=>?_)
  subst hr
  exact wpAny_execs_nil ⟨σ3,H3,I4,qn⟩
 ·refine wpAny_passesOwn hp (thn (T.item X rfl rfl rfl hc i pins s3 σ3 H3 X.xe I3 (stat fr3) st3 go) fun r s4 ⟨u,hr,h4⟩=>?_)
  subst hr
  refine wpAny_passesOwn hp (thn h4 fun _ s5 ⟨x,H5,I5,r5,y5,st5,fr5⟩=>?_)
  have I5':=I5.pinned (stat fr5) (T.obj _ _ st5)
  refine wpAny_passesOwn hp (thn (hg _ s5 σ3 H5 x u _ I5' r5 (step x H5 y5)) fun _ s6 ⟨σ6,H6,I6,q6⟩=>?_)
  refine wpAny_passesOwn hp (thn (hb _ s6 σ6 H6 _ I6 q6) fun f s7 q7=>?_)
  have again:∀ {σ7:St} {H7:Hp},Inv X (pins++ZfN fp s5.heap) σ7 H7 s7→N σ7 H7→∃ m,m<n∧∃ i σ' H',Inv X pins σ' H' s7∧tn i s7.heap∧(∀ b∈fp,H' b=none)∧W i m σ' H':=fun {σ7 H7} I7 n7=>by
   obtain ⟨m',hm,w7⟩:=hN σ7 H7 n7
   refine ⟨m',hm,i+1,σ7,H7,I7.unpinned,T.keep _ _ _ st5 fun b hb o e=>(I7.pin (b,o) (List.mem_append_right _ (List.mem_append_right _ (Zc8 hb e)))).1,fun b hb=>?_,w7⟩
   obtain ⟨o,e,d⟩:=T.obj _ _ st5 b hb
   exact (I7.pin (b,o) (List.mem_append_right _ (List.mem_append_right _ (Zc8 hb e)))).2.1
  cases f with
  | next=>obtain ⟨σ7,H7,I7,n7⟩:=q7; exact again I7 n7
  | cont=>obtain ⟨σ7,H7,I7,n7⟩:=q7; exact again I7 n7
  | brk=>obtain ⟨σ7,H7,I7,q7⟩:=q7; exact ⟨σ7,H7,I7.unpinned,q7⟩
  | ret v=>obtain ⟨x7,σ7,H7,I7,r7,q7⟩:=q7; exact ⟨x7,σ7,H7,I7.unpinned,r7,q7⟩
end
theorem ZcN {K:PySem.W.Frag} {a:Addr} {xs:List V} {g:TG} {tb:TS} {D:Ends} {σ:St} {H:Hp} (Pv:Nat→St→Hp→Prop) (h0:Pv 0 σ H) (hl:∀ i σ H,i≤xs.length→Pv i σ H→SqL K H a xs)
  (hs:∀ i x σ H,xs[i]? = some x→Pv i σ H→g x σ H fun σ2 H2=>tb { D with nx:=Pv (i+1),ct:=Pv (i+1),bk:=D.nx } σ2 H2) (hd:∀ σ H,Pv xs.length σ H→D.nx σ H):
  ∃ W:Nat→Nat→St→Hp→Prop,(∃ m,W 0 m σ H)∧∀ i m σ H,W i m σ H →
   ((Itl K a).stop i H∧D.nx σ H)∨((Itl K a).go i H∧∃ N:St→Hp→Prop,(∀ σ' H',N σ' H'→∃ m',m'<m∧W (i+1) m' σ' H')∧∀ x H',(Itl K a).yld i H x H'→g x σ H' fun σ2 H2=>tb { D with nx:=N,ct:=N,bk:=D.nx } σ2 H2):=by
 refine ⟨fun i m σ H=>m=xs.length-i∧i≤xs.length∧Pv i σ H,⟨xs.length,by simp,Nat.zero_le _,h0⟩,?_⟩
 rintro i m σ H ⟨rfl,hi,p⟩
 have q:=hl i σ H hi p
 by_cases hlt:i<xs.length
 ·refine .inr ⟨⟨xs,xs[i],q,by simp [hlt]⟩,Pv (i+1),fun σ' H' p'=>⟨xs.length-(i+1),by omega,rfl,hlt,p'⟩,fun x H' y=>?_⟩
  obtain ⟨e,y⟩:=y
  subst e
  exact hs i x σ _ (y xs q) p
 ·have e:i=xs.length:=by omega
  subst e
  exact .inl ⟨⟨xs,q,Nat.le_refl _⟩,hd σ H p⟩
theorem Zb5 {lo:Int} {n:Nat} {g:TG} {tb:TS} {D:Ends} {σ:St} {H:Hp} (Pv:Nat→St→Hp→Prop) (h0:Pv 0 σ H)
  (hs:∀ i σ H,i<n→Pv i σ H→g (.int (lo+i)) σ H fun σ2 H2=>tb { D with nx:=Pv (i+1),ct:=Pv (i+1),bk:=D.nx } σ2 H2) (hd:∀ σ H,Pv n σ H→D.nx σ H):
  ∃ W:Nat→Nat→St→Hp→Prop,(∃ m,W 0 m σ H)∧∀ i m σ H,W i m σ H →
   ((Itr lo n).stop i H∧D.nx σ H)∨((Itr lo n).go i H∧∃ N:St→Hp→Prop,(∀ σ' H',N σ' H'→∃ m',m'<m∧W (i+1) m' σ' H')∧∀ x H',(Itr lo n).yld i H x H'→g x σ H' fun σ2 H2=>tb { D with nx:=N,ct:=N,bk:=D.nx } σ2 H2):=by
 refine ⟨fun i m σ H=>m=n-i∧i≤n∧Pv i σ H,⟨n,by simp,Nat.zero_le _,h0⟩,?_⟩
 rintro i m σ H ⟨rfl,hi,p⟩
 by_cases hlt:i<n
 ·refine .inr ⟨hlt,Pv (i+1),fun σ' H' p'=>⟨n-(i+1),by omega,rfl,hlt,p'⟩,fun x H' y=>?_⟩
  obtain ⟨e,y⟩:=y
  subst e y
  exact hs i σ _ hlt p
 ·have e:i=n:=by omega
  subst e
  exact .inl ⟨Nat.le_refl _,hd σ H p⟩
end L2
namespace L2
open PySem PySem.Spec PyProof.Rows
abbrev R2:=V→V→Hp→VK→Prop
def OpR (X:Cx) (f:Value→Value→Sem Value) (r:R2):Prop:=
 ∀ (pins:List (Addr×Obj)) (s:Shared) (σ:St) (H:Hp) (x y:V) (v u:Value) (Q:VK),Inv X pins σ H s→RelV x v→RelV y u→r x y H Q →
  wpAny (model X.prog X.w) X.A (f v u) (EP X pins σ Q) X.xe s
def CallR (X:Cx) (f:Value) (r:List V→Hp→VK→Prop):Prop:=
 ∀ (pins:List (Addr×Obj)) (s:Shared) (σ:St) (H:Hp) (xs:List V) (us:List Value) (Q:VK),Inv X pins σ H s→Vals xs us→r xs H Q →
  wpAny (model X.prog X.w) X.A (call f us) (EP X pins σ Q) X.xe s
def tOp (r:R2) (ta tb:TE):TE:=fun σ H Q=>ta σ H fun x H1=>tb σ H1 fun y H2=>r x y H2 Q
def rI (C:Int→Int→Prop) (g:Int→Int→V):R2:=fun x y H Q=>∃ i j,x = .int i∧y = .int j∧C i j∧Q (g i j) H
def rI0 (g:Int→Int→V):R2:=fun x y H Q=>∃ i j,x = .int i∧y = .int j∧Q (g i j) H
section
variable {X:Cx} {a b c:Expr} {ta tb tc:TE} {pos:Pos}
theorem ZoE (ha:PE X a ta) (hb:PE X b tb) {pins:List (Addr×Obj)} {s:Shared} {σ:St} {H:Hp} {R:V→V→Hp→Prop} (I:Inv X pins σ H s)
  (h:ta σ H fun x H1=>tb σ H1 fun y H2=>R x y H2) {Q:Value→Shared→Prop} {f:Value→Value→Sem Value}
  (hf:∀ v u s2 x y H2,Inv X pins σ H2 s2→RelV x v→RelV y u→R x y H2→wpAny (model X.prog X.w) X.A (f v u) Q X.xe s2):
  wpAny (model X.prog X.w) X.A (eval a X.env) (fun v s₁=>wpAny (model X.prog X.w) X.A (eval b X.env) (fun u s₂=>wpAny (model X.prog X.w) X.A (f v u) Q X.xe s₂) X.xe s₁) X.xe s:=by
 refine thn (ha pins s σ H _ I h) fun v s1 ⟨x,H1,I1,r1,q1⟩=>?_
 refine thn (hb pins s1 σ H1 _ I1 q1) fun u s2 ⟨y,H2,I2,r2,q2⟩=>?_
 exact hf v u s2 x y H2 I2 r1 r2 q2
theorem ZaG {op:Operator} {r:R2} (ho:OpR X (binaryOp op) r) (ha:PE X a ta) (hb:PE X b tb):PE X (.BinOp a op b pos) (tOp r ta tb):=by
 intro pins s σ H Q I h
 exact wpAny_BinOp (ZoE ha hb I h fun v u s2 x y H2 I2 rx ry q=>ho pins s2 σ H2 x y v u Q I2 rx ry q)
theorem opI {f:Value→Value→Sem Value} {C:Int→Int→Prop} {g:Int→Int→Int}
  (rule:∀ (i j:Int) (t u:Tok) (s:Shared) (Q:Value→Shared→Prop) (E:Value→Shared→Prop),C i j→Q (.int (g i j) s.toks) { s with toks:=s.toks+1 }→wpAny (model X.prog X.w) X.A (f (.int i t) (.int j u)) Q E s):
  OpR X f (rI C fun i j=>.int (g i j)):=by
 intro pins s σ H x y v u Q I rx ry h
 obtain ⟨i,j,rfl,rfl,hc,q⟩:=h
 obtain ⟨t,rfl⟩:=rx
 obtain ⟨t',rfl⟩:=ry
 exact rule i j t t' s _ _ hc ⟨.int (g i j),H,I.tok _,⟨_,rfl⟩,q⟩
theorem Zoq {f:Value→Value→Sem Value} {g:Int→Int→Int}
  (rule:∀ (i j:Int) (t u:Tok) (s:Shared) (Q:Value→Shared→Prop) (E:Value→Shared→Prop),Q (.int (g i j) s.toks) { s with toks:=s.toks+1 }→wpAny (model X.prog X.w) X.A (f (.int i t) (.int j u)) Q E s):
  OpR X f (rI0 fun i j=>.int (g i j)):=by
 intro pins s σ H x y v u Q I rx ry h
 obtain ⟨i,j,rfl,rfl,q⟩:=h
 obtain ⟨t,rfl⟩:=rx
 obtain ⟨t',rfl⟩:=ry
 exact rule i j t t' s _ _ ⟨.int (g i j),H,I.tok _,⟨_,rfl⟩,q⟩
theorem ZoF {f:Value→Value→Sem Value} {g:Int→Int→Bool}
  (rule:∀ (i j:Int) (t u:Tok) (s:Shared) (Q:Value→Shared→Prop) (E:Value→Shared→Prop),Q (.bool (g i j)) s→wpAny (model X.prog X.w) X.A (f (.int i t) (.int j u)) Q E s):
  OpR X f (rI0 fun i j=>.bl (g i j)):=by
 intro pins s σ H x y v u Q I rx ry h
 obtain ⟨i,j,rfl,rfl,q⟩:=h
 obtain ⟨t,rfl⟩:=rx
 obtain ⟨t',rfl⟩:=ry
 exact rule i j t t' s _ _ ⟨.bl (g i j),H,I,rfl,q⟩
def CDiv (i j:Int):Prop:=0<j∧j<1073741824
def CPow (i j:Int):Prop:=0≤j∧j≤1000000∧i.natAbs<2^64
def CMul (i j:Int):Prop:=(-(2^64)<i∧i<2^64)∨(-(2^64)<j∧j<2^64)
theorem CMul.ok {i j:Int} (h:CMul i j):IntMulOk i j:=by
 rcases h with ⟨h1,h2⟩ | ⟨h1,h2⟩
 ·exact .of_left (intBits_le_64 h1 h2)
 ·exact .of_right (intBits_le_64 h1 h2)
theorem ZbI:OpR X (binaryOp .Add) (rI0 fun i j=>.int (i+j)):=Zoq fun _ _ _ _ _ _ _ q=>add_int q
theorem Zbz:OpR X (binaryOp .Sub) (rI0 fun i j=>.int (i-j)):=Zoq fun _ _ _ _ _ _ _ q=>sub_int q
theorem ZeB:OpR X (binaryOp .Mult) (rI CMul fun i j=>.int (i*j)):=opI fun _ _ _ _ _ _ _ hc q=>mul_int q hc.ok
theorem Zfm:OpR X (binaryOp .FloorDiv) (rI CDiv fun i j=>.int (i / j)):=opI fun i j _ _ _ _ _ hc q=>by
 have h1:(0:Int)<j:=hc.1
 have h2:j<1073741824:=hc.2
 exact floordiv_int (by omega) (by rw [Int.fdiv_eq_ediv_of_nonneg i (by omega)]; exact q) (.inl (PyProof.noPylong_small (by omega)))
theorem Zhm:OpR X (binaryOp .Mod) (rI (fun _ j=>0<j) fun i j=>.int (i%j)):=opI fun i j _ _ _ _ _ hc q=>by
 have h1:(0:Int)<j:=hc
 exact mod_int' (by omega) (by rw [Int.fmod_eq_emod_of_nonneg i (by omega)]; exact q)
theorem ZlO:OpR X (binaryOp .LShift) (rI CPow fun i j=>.int (i*2^j.toNat)):=opI fun _ _ _ _ _ _ _ hc q=>lshift_int_small hc.1 hc.2.1 hc.2.2 q
theorem Znv:OpR X (binaryOp .BitAnd) (rI0 fun i j=>.int (Builtin.bitAnd i j)):=Zoq fun _ _ _ _ _ _ _ q=>and_int q
theorem Znw:OpR X (binaryOp .BitXor) (rI0 fun i j=>.int (Builtin.bitXor i j)):=Zoq fun _ _ _ _ _ _ _ q=>xor_int q
end
def Zpd:V→V→Bool
 | .non,.non=>true | .non,.int _=>true | .int _,.non=>true | .non,.bl _=>true | .bl _,.non=>true | .non,.str _=>true | .str _,.non=>true
 | .int _,.int _=>true | .bl _,.bl _=>true | .str _,.str _=>true | .byt _,.byt _=>true
 | .int _,.str _=>true | .str _,.int _=>true | .bl _,.str _=>true | .str _,.bl _=>true
 | _,_=>false
def rEq:R2:=fun x y H Q=>Zpd x y=true∧Q (.bl (decide (x=y))) H
def rNe:R2:=fun x y H Q=>Zpd x y=true∧Q (.bl (!decide (x=y))) H
theorem ZiQ {i j:Int}:decide (V.int i=V.int j)=(i==j):=by
 rw [Bool.eq_iff_iff]
 simp
theorem ZlP {i j:Bool}:decide (V.bl i=V.bl j)=(i==j):=by
 rw [Bool.eq_iff_iff]
 simp
theorem ZiR {i j:Str}:decide (V.str i=V.str j)=(i==j):=by
 rw [Bool.eq_iff_iff]
 simp
theorem ZiS {i j:Array UInt8}:decide (V.byt i=V.byt j)=(i.toList==j.toList):=by
 rw [Bool.eq_iff_iff]
 cases i
 cases j
 simp
section
variable {X:Cx} {a b c:Expr} {ta tb tc:TE} {pos:Pos}
theorem ZaP {pins:List (Addr×Obj)} {σ:St} {H:Hp} {s:Shared} {Q:VK} {k k':Bool} (I:Inv X pins σ H s) (q:Q (.bl k) H) (e:k=k'):EP X pins σ Q (.bool k') s:=by
 subst e
 exact ⟨.bl k,H,I,rfl,q⟩
theorem Zew:OpR X (compareOp .Eq) rEq:=by
 intro pins s σ H x y v u Q I rx ry h
 obtain ⟨hs,q⟩:=h
 cases x with
 | non=>
  cases rx
  cases y with
  | non=>cases ry; exact PySem.EqNone.eq_none_none (ZaP I q (by simp))
  | bl j=>cases ry; exact PySem.EqNone.eq_none_bool (ZaP I q (by simp))
  | int j=>obtain ⟨t',rfl⟩:=ry; exact PySem.EqNone.eq_none_int (ZaP I q (by simp))
  | str j=>obtain ⟨t',rfl⟩:=ry; exact PySem.EqNone.eq_none_str (ZaP I q (by simp))
  | _=>exact absurd (show false=true from hs) Bool.false_ne_true
 | bl i=>
  cases rx
  cases y with
  | non=>cases ry; exact PySem.EqNone.eq_bool_none (ZaP I q (by simp))
  | bl j=>cases ry; exact eq_bool (ZaP I q ZlP)
  | str j=>obtain ⟨t',rfl⟩:=ry; exact PySem.EqMixed.eq_bool_str (ZaP I q (by simp))
  | _=>exact absurd (show false=true from hs) Bool.false_ne_true
 | int i=>
  obtain ⟨t,rfl⟩:=rx
  cases y with
  | non=>cases ry; exact PySem.EqNone.eq_int_none (ZaP I q (by simp))
  | int j=>obtain ⟨t',rfl⟩:=ry; exact eq_int (ZaP I q ZiQ)
  | str j=>obtain ⟨t',rfl⟩:=ry; exact PySem.EqMixed.eq_int_str (ZaP I q (by simp))
  | _=>exact absurd (show false=true from hs) Bool.false_ne_true
 | str i=>
  obtain ⟨t,rfl⟩:=rx
  cases y with
  | non=>cases ry; exact PySem.EqNone.eq_str_none (ZaP I q (by simp))
  | bl j=>cases ry; exact PySem.EqMixed.eq_str_bool (ZaP I q (by simp))
  | int j=>obtain ⟨t',rfl⟩:=ry; exact PySem.EqMixed.eq_str_int (ZaP I q (by simp))
  | str j=>obtain ⟨t',rfl⟩:=ry; exact eq_str (ZaP I q ZiR)
  | _=>exact absurd (show false=true from hs) Bool.false_ne_true
 | byt i=>
  obtain ⟨t,rfl⟩:=rx
  cases y with
  | byt j=>obtain ⟨t',rfl⟩:=ry; exact PySem.W.eq_bytes (ZaP I q ZiS)
  | _=>exact absurd (show false=true from hs) Bool.false_ne_true
 | _=>cases y<;>exact absurd (show false=true from hs) Bool.false_ne_true
theorem ZkD:OpR X (compareOp .NotEq) rNe:=by
 intro pins s σ H x y v u Q I rx ry h
 obtain ⟨hs,q⟩:=h
 cases x with
 | non=>
  cases rx
  cases y with
  | non=>cases ry; exact PySem.EqNone.ne_none_none (ZaP I q (by simp))
  | bl j=>cases ry; exact PySem.EqNone.ne_none_bool (ZaP I q (by simp))
  | int j=>obtain ⟨t',rfl⟩:=ry; exact PySem.EqNone.ne_none_int (ZaP I q (by simp))
  | str j=>obtain ⟨t',rfl⟩:=ry; exact PySem.EqNone.ne_none_str (ZaP I q (by simp))
  | _=>exact absurd (show false=true from hs) Bool.false_ne_true
 | bl i=>
  cases rx
  cases y with
  | non=>cases ry; exact PySem.EqNone.ne_bool_none (ZaP I q (by simp))
  | bl j=>cases ry; exact ne_bool (ZaP I q (congrArg not ZlP))
  | str j=>obtain ⟨t',rfl⟩:=ry; exact PySem.EqMixed.ne_bool_str (ZaP I q (by simp))
  | _=>exact absurd (show false=true from hs) Bool.false_ne_true
 | int i=>
  obtain ⟨t,rfl⟩:=rx
  cases y with
  | non=>cases ry; exact PySem.EqNone.ne_int_none (ZaP I q (by simp))
  | int j=>obtain ⟨t',rfl⟩:=ry; exact ne_int (ZaP I q (congrArg not ZiQ))
  | str j=>obtain ⟨t',rfl⟩:=ry; exact PySem.EqMixed.ne_int_str (ZaP I q (by simp))
  | _=>exact absurd (show false=true from hs) Bool.false_ne_true
 | str i=>
  obtain ⟨t,rfl⟩:=rx
  cases y with
  | non=>cases ry; exact PySem.EqNone.ne_str_none (ZaP I q (by simp))
  | bl j=>cases ry; exact PySem.EqMixed.ne_str_bool (ZaP I q (by simp))
  | int j=>obtain ⟨t',rfl⟩:=ry; exact PySem.EqMixed.ne_str_int (ZaP I q (by simp))
  | str j=>obtain ⟨t',rfl⟩:=ry; exact ne_str (ZaP I q (congrArg not ZiR))
  | _=>exact absurd (show false=true from hs) Bool.false_ne_true
 | byt i=>
  obtain ⟨t,rfl⟩:=rx
  cases y with
  | byt j=>obtain ⟨t',rfl⟩:=ry; exact PySem.W.ne_bytes (ZaP I q (congrArg not ZiS))
  | _=>exact absurd (show false=true from hs) Bool.false_ne_true
 | _=>cases y<;>exact absurd (show false=true from hs) Bool.false_ne_true
theorem ZfO:OpR X (compareOp .Lt) (rI0 fun i j=>.bl (decide (i<j))):=ZoF fun _ _ _ _ _ _ _ q=>lt_int q
theorem Znx:OpR X (compareOp .LtE) (rI0 fun i j=>.bl (decide (i≤j))):=ZoF fun _ _ _ _ _ _ _ q=>le_int q
theorem Zc9:OpR X (compareOp .Gt) (rI0 fun i j=>.bl (decide (j<i))):=ZoF fun _ _ _ _ _ _ _ q=>gt_int q
theorem Zny:OpR X (compareOp .Is) (fun x y H Q=>y = .non∧Q (.bl (decide (x = .non))) H):=by
 intro pins s σ H x y v u Q I rx ry h
 obtain ⟨rfl,q⟩:=h
 cases ry
 refine is_none_gen (ZaP I q ?_)
 cases x<;>first
  | (cases rx; rfl)
  | (obtain ⟨t,rfl⟩:=rx; rfl)
theorem Zmh:OpR X (compareOp .IsNot) (fun x y H Q=>y = .non∧Q (.bl (!decide (x = .non))) H):=by
 intro pins s σ H x y v u Q I rx ry h
 obtain ⟨rfl,q⟩:=h
 cases ry
 refine isnot_none_gen (ZaP I q ?_)
 cases x<;>first
  | (cases rx; rfl)
  | (obtain ⟨t,rfl⟩:=rx; rfl)
theorem OpR.or {f:Value→Value→Sem Value} {r r':R2} (h:OpR X f r) (h':OpR X f r'):OpR X f (fun x y H Q=>r x y H Q∨r' x y H Q):=by
 intro pins s σ H x y v u Q I rx ry q
 rcases q with q | q
 ·exact h pins s σ H x y v u Q I rx ry q
 ·exact h' pins s σ H x y v u Q I rx ry q
theorem ZaE (b:Expr) {op:CmpOp} (h:op≠.In:=by decide) (h2:op≠.NotIn:=by decide):behindInMarks op b=false:=by
 have e1:(op==CmpOp.In)=false:=by cases op<;>first | rfl | exact absurd rfl h
 have e2:(op==CmpOp.NotIn)=false:=by cases op<;>first | rfl | exact absurd rfl h2
 cases b<;>simp [behindInMarks,e1,e2]
theorem Zbl {op:CmpOp} {r:R2} (ho:OpR X (compareOp op) r) (ha:PE X a ta) (hb:PE X b tb) (hm:behindInMarks op b=false):PE X (.Compare a [op] [b] pos) (tOp r ta tb):=by
 intro pins s σ H Q I h
 exact wpAny_Compare1 (ZoE ha hb I h fun v u s2 x y H2 I2 rx ry q=>ho pins s2 σ H2 x y v u Q I2 rx ry q) hm
def ZoG (t:TE):TT:=fun σ H Q=>t σ H fun x H'=>∃ k,x = .bl k∧Q k H'
theorem Zaz {op:CmpOp} {r:R2} (ho:OpR X (compareOp op) r) (ha:PE X a ta) (hb:PE X b tb) (hm:behindInMarks op b=false):PT X (.Compare a [op] [b] pos) (ZoG (tOp r ta tb)):=by
 intro pins s σ H Q I h
 refine wpAny_isTrue_Compare1 (thn (ha pins s σ H _ I h) fun v s1 ⟨x,H1,I1,r1,q1⟩=>thn (hb pins s1 σ H1 _ I1 q1) fun u s2 ⟨y,H2,I2,r2,q2⟩=>
  thn (ho pins s2 σ H2 x y v u _ I2 r1 r2 q2) fun c s3 ⟨z,H3,I3,r3,k,e,q3⟩=>?_) hm
 subst e
 cases r3
 exact wpAny_truthy_bool ⟨H3,I3,q3⟩
theorem Zhn:(sizeLine:Nat)<2^63:=by rw [sizeLine_eq]; decide
theorem Zbd:OpR X (binaryOp .Add) (fun x y H Q=>∃ i j,x = .str i∧y = .str j∧i.length+j.length≤sizeLine∧Q (.str (i++j)) H):=by
 intro pins s σ H x y v u Q I rx ry h
 obtain ⟨i,j,rfl,rfl,hz,q⟩:=h
 obtain ⟨t,rfl⟩:=rx
 obtain ⟨t',rfl⟩:=ry
 exact add_str (fun t' tk=>⟨.str (i++j),H,I.tok _,⟨_,rfl⟩,q⟩) hz
theorem ZkE {x:V} {us:List Value} (r:Vals [x] us):∃ u,us=[u]∧RelV x u:=by
 cases r with
 | cons r1 r2=>cases r2; exact ⟨_,rfl,r1⟩
theorem ZoH {x y:V} {us:List Value} (r:Vals [x,y] us):∃ u w',us=[u,w']∧RelV x u∧RelV y w':=by
 cases r with
 | cons r1 r2=>
  cases r2 with
  | cons r3 r4=>cases r4; exact ⟨_,_,rfl,r1,r3⟩
theorem Zch:CallR X (.builtin "ord") (fun xs H Q=>∃ x,xs=[.str x]∧x.length=1∧Q (.int (x.cps.getD 0 0:Nat)) H):=by
 intro pins s σ H xs us Q I r h
 obtain ⟨x,rfl,hz,q⟩:=h
 obtain ⟨u,rfl,t,rfl⟩:=ZkE r
 exact ord_of_one hz ⟨.int _,H,I.tok _,⟨_,rfl⟩,q⟩
end
end L2
namespace L2
open PySem PySem.Spec PyProof.Rows
structure ObjM (h:Heap) (x dx C:Addr) (mA:Str→Option Value):Prop where
 obj:h.get? x=some (PySem.W.instObj C dx)
 ns:h.Ns1 dx mA
 ne:dx≠x
theorem ZiT {h:Heap} {dx:Addr} {mA:Str→Option Value} (n:h.Ns1 dx mA):∃ od,h.get? dx=some od∧∀ name,PySem.W.lookIn name od=some (mA name):=by
 obtain ⟨o,es,ep,ho,hd,hk,_,hm⟩:=n
 refine ⟨o,ho,fun name=>?_⟩
 have e:=hm name
 unfold nsFind findBy at e
 rw [← Array.find?_toList] at e
 unfold PySem.W.lookIn
 rw [hd]
 dsimp only
 split
 ·rename_i y q
  rw [q] at e
  exact congrArg some e
 ·rename_i q
  rw [q] at e
  have a:es.toList.any (·.refKey)=false:=by
   rw [List.any_eq_false]
   intro y hy
   obtain ⟨z,t,hkey⟩:=hk y (Array.mem_toList_iff.mp hy)
   simp [DictEntry.refKey,hkey]
  have a':¬ es.toList.any (·.refKey)=true:=by rw [a]; exact Bool.false_ne_true
  rw [if_neg a']
  exact congrArg some e
theorem ObjM.look {h:Heap} {x dx C:Addr} {mA:Str→Option Value} (I:ObjM h x dx C mA):∃ od,PySem.W.InstAt h x (PySem.W.instObj C dx) C (some od)∧∀ name,PySem.W.lookIn name od=some (mA name):=
 let ⟨od,ho,hl⟩:=ZiT I.ns
 ⟨od,⟨I.obj,rfl,rfl,ho⟩,hl⟩
section
variable {prog:Program} {w:World} {A:Around} {E:Value→Shared→Prop} {s:Shared} {K:PySem.W.Frag} {x dx C f:Addr} {mA:Str→Option Value} {name:Str} {v:Value}
theorem Zmi {expr:Bool} {Q:Value→Shared→Prop} (X:K.In s.heap) (I:ObjM s.heap x dx C mA) (hg:PySem.W.plainGet K C name=true) (hh:PySem.W.hasDictIn K C=true)
  (ha:PySem.W.findIn K (.ref C) name=some none) (hv:mA name=some v) (hv':PySem.W.handedIn v=true) (h:Q v { s with toks:=s.toks+1 }):
  wpAny (model prog w) A (getAttr (.ref x) name expr) Q E s:=by
 obtain ⟨od,J,hl⟩:=I.look
 exact PySem.W.get_value X J (PySem.W.plainGet_of hg).1 (PySem.W.findObj_own hh ha rfl (by rw [hl,hv])) hv' h
theorem ZkF {pl:Sem Bool} {Q:Value×List Value→Shared→Prop} (X:K.In s.heap) (I:ObjM s.heap x dx C mA) (hg:PySem.W.plainGet K C name=true)
  (hf:PySem.W.findIn K (.ref C) name=some (some (.ref f))) (ht:PySem.W.isFn K (.ref f)=true) (hv:mA name=none) (h:Q (.ref f,[.ref x]) s):
  wpAny (model prog w) A (getMethod (.ref x) name pl) Q E s:=by
 obtain ⟨od,J,hl⟩:=I.look
 exact PySem.W.method_fn X J (PySem.W.plainGet_of hg).1 (PySem.W.plainGet_of hg).2 hf (beq_iff_eq.mp ht) (by show (PySem.W.lookIn name od).map (·.isSome)=some false; rw [hl,hv]; rfl) h
theorem Zmj {ns:List Str} {Q:Unit→Shared→Prop} (X:K.In s.heap) (I:ObjM s.heap x dx C mA)
  (hs:PySem.W.findIn K (.ref C) "__setattr__"=some (some (.builtin "object.__setattr__"))) (hp:PySem.W.plainOver K C=true) (ht:PySem.W.takerIn K C name=some none) (hh:PySem.W.hasDictIn K C=true)
  (hw:PySem.Within mA ns) (hsz:ns.length≤sizeLine)
  (h:∀ h',ObjM h' x dx C (fun y=>if y=name then some v else mA y)→Heap.SameBut dx s.heap h'→Q () { s with heap:=h',toks:=s.toks+2 }):
  wpAny (model prog w) A (setAttr (.ref x) name v) Q E s:=by
 obtain ⟨od,J,hl⟩:=I.look
 refine PySem.W.set_plain X J hs (PySem.W.osa_open (s:={ s with toks:=s.toks+1 }) (r:=none) X J hp ht fun b=>?_)
 obtain ⟨cd,hc,hd'⟩:=PySem.W.any_some hh
 have hx:s.heap.get? x=some ⟨.ref C,some dx,.plain,#[]⟩:=I.obj
 refine wpAny_bind (wpAny_pure (wpAny_bind (wpAny_bind (wpAny_loadPart hx (wpAny_bind (PySem.W.Looks.here (s:={ s with toks:=s.toks+1 }) (PySem.W.looks_clsIn X hc) ?_))))))
 rw [hd']
 refine wpAny_pure (a:=some dx) (wpAny_bind (wpAny_pure (wpAny_bind ?_)))
 refine wpAny_nsSet1 (s:={ s with toks:=s.toks+1 }) I.ns fun h' hn2 hs2=>?_
 obtain ⟨oD,esD,epD,hoD,hdD,hcD⟩:=hn2.count (PySem.Within.cons name v hw)
 refine wpAny_bind (wpAny_lookBehind hoD (by rw [hdD]; exact pastItsLine_dict (Nat.le_trans hcD (by rw [List.length_cons]; omega))) ?_)
 exact wpAny_pure (h _ ⟨(hs2.2 _ (Ne.symm I.ne)).trans I.obj,hn2,I.ne⟩ hs2)
theorem ZkG {R:Result→Shared→Prop} {vs:List Value} {kw:List (Str×Value)} (X:K.In s.heap) (hm:PySem.W.makesIn K C=true)
  (hi:PySem.W.findIn K (.ref C) "__init__"=some (some (.ref f))) (hf:PySem.W.typeIn K (.ref f)=some (.type "function"))
  (h:codeAny (model prog w) (A.under (.builtin "type.__call__" ⟨.ref C::vs,kw⟩)) (.call (.ref f) ⟨.ref (s.heap.objs.size+1)::vs,kw⟩) (PySem.W.InitBack (s.heap.objs.size+1) R)
   { s with heap:=(s.heap.push PySem.W.emptyDict).push (PySem.W.instObj C s.heap.objs.size) }):
  codeAny (model prog w) A (.call (.ref C) ⟨vs,kw⟩) R s:=by
 obtain ⟨hh,g,d,t,os⟩:=s
 exact PySem.W.make_core (PySem.W.makes_of X hm) (PySem.W.looks_findIn X hi) (fun self=>PySem.W.bind_fn X self hf) (.inl rfl) h
end
def ZaR (f:Str) (v:V):List (Str×V)→List (Str×V)
 | []=>[(f,v)]
 | (g,x)::r=>if g=f then (g,v)::r else (g,x)::ZaR f v r
theorem ZdO (f g:Str) (v:V):∀ fs:List (Str×V),(ZaR f v fs).lookup g=if g=f then some v else fs.lookup g
 | []=>by
  show List.lookup g [(f,v)]=_
  by_cases h:g=f
  ·have hb:(g==f)=true:=beq_iff_eq.mpr h
   simp only [List.lookup,hb,if_pos h]
  ·have hb:(g==f)=false:=beq_eq_false_iff_ne.mpr h
   simp only [List.lookup,hb,if_neg h]
 | (k,x)::r=>by
  have ih:=ZdO f g v r
  rw [show ZaR f v ((k,x)::r)=(if k=f then (k,v)::r else (k,x)::ZaR f v r) from rfl]
  by_cases hk:k=f
  ·rw [if_pos hk]
   by_cases h:g=k
   ·have hb:(g==k)=true:=beq_iff_eq.mpr h
    simp only [List.lookup,hb,if_pos (h.trans hk)]
   ·have hb:(g==k)=false:=beq_eq_false_iff_ne.mpr h
    simp only [List.lookup,hb,if_neg (fun e:g=f=>h (e.trans hk.symm))]
  ·rw [if_neg hk]
   by_cases h:g=k
   ·have hb:(g==k)=true:=beq_iff_eq.mpr h
    simp only [List.lookup,hb,if_neg (fun e:g=f=>hk (h.symm.trans e))]
   ·have hb:(g==k)=false:=beq_eq_false_iff_ne.mpr h
    simp only [List.lookup,hb]
    exact ih
theorem ZdP (f:Str) (v:V):∀ fs:List (Str×V),f∈(ZaR f v fs).map (·.1)∧∀ g,g∈fs.map (·.1)→g∈(ZaR f v fs).map (·.1)
 | []=>⟨by simp [ZaR],fun g h=>by simp at h⟩
 | (k,x)::r=>by
  obtain ⟨i1,i2⟩:=ZdP f v r
  rw [show ZaR f v ((k,x)::r)=(if k=f then (k,v)::r else (k,x)::ZaR f v r) from rfl]
  by_cases hk:k=f
  ·rw [if_pos hk]
   subst hk
   exact ⟨by simp,fun g h=>by simpa using h⟩
  ·rw [if_neg hk]
   refine ⟨?_,fun g h=>?_⟩
   ·rw [List.map_cons]
    exact List.mem_cons_of_mem _ i1
   ·rw [List.map_cons] at h ⊢
    rcases List.mem_cons.mp h with e | e
    ·exact List.mem_cons.mpr (.inl e)
    ·exact List.mem_cons_of_mem _ (i2 g e)
theorem Zas (f:Str) (v:V):∀ fs:List (Str×V),(ZaR f v fs).length≤fs.length+1
 | []=>by simp [ZaR]
 | (k,x)::r=>by
  have ih:=Zas f v r
  rw [show ZaR f v ((k,x)::r)=(if k=f then (k,v)::r else (k,x)::ZaR f v r) from rfl]
  by_cases hk:k=f
  ·rw [if_pos hk,List.length_cons,List.length_cons]; omega
  ·rw [if_neg hk,List.length_cons,List.length_cons]; omega
theorem RelO.some_of {v:V} {o:Option Value} (r:RelO (some v) o):∃ u,o=some u∧RelV v u:=by
 cases o with
 | none=>exact (show False from r).elim
 | some u=>exact ⟨u,rfl,r⟩
theorem RelO.none_of {o:Option Value} (r:RelO none o):o=none:=by
 cases o with
 | none=>rfl
 | some u=>exact (show False from r).elim
theorem ZiU {v:V} {u:Value} (r:RelV v u):PySem.W.handedIn u=true:=by
 cases v with
 | non=>cases (show u=Value.none from r); rfl
 | bl b=>cases (show u=Value.bool b from r); rfl
 | int i=>obtain ⟨t,e⟩:=(show ∃ t,u=Value.int i t from r); cases e; rfl
 | str x=>obtain ⟨t,e⟩:=(show ∃ t,u=Value.str x t from r); cases e; rfl
 | byt b=>obtain ⟨t,e⟩:=(show ∃ t,u=Value.bytes b t from r); cases e; rfl
 | flt b=>obtain ⟨t,e⟩:=(show ∃ t,u=Value.float b t from r); cases e; rfl
 | ref a=>cases (show u=Value.ref a from r); rfl
 | ty n=>cases (show u=Value.type n from r); rfl
section
variable {P:Program} {w:World} {H H':Hp} {h h':Heap} {a C dx:Addr} {fs fs':List (Str×V)}
theorem ZgK (hok:HOk P w H h) (e:H a=some (.ins C dx fs)):∃ mA,ObjM h a dx C mA∧(∀ f,RelO (fs.lookup f) (mA f))∧PySem.Within mA (fs.map (·.1))∧fs.length≤1000∧H dx=some (.own a):=by
 obtain ⟨d,z,ne,ob,mA,n,r,q⟩:=(show ObjOk P w H h a (.ins C dx fs) from hok a _ e)
 exact ⟨mA,⟨ob,n,ne⟩,r,q,z,d⟩
end
structure Cls (K:PySem.W.Frag) (C:Addr):Prop where
 pg:PySem.W.plainGet K C Str.empty=true
 hd:PySem.W.hasDictIn K C=true
 po:PySem.W.plainOver K C=true
 sa:PySem.W.findIn K (.ref C) "__setattr__"=some (some (.builtin "object.__setattr__"))
theorem Cls.get {K:PySem.W.Frag} {C:Addr} (c:Cls K C) (f:Str):PySem.W.plainGet K C f=true:=c.pg
def NoAttr (K:PySem.W.Frag) (C:Addr) (f:Str):Prop:=PySem.W.findIn K (.ref C) f=some none
theorem NoAttr.taker {K:PySem.W.Frag} {C:Addr} {f:Str} (n:NoAttr K C f):PySem.W.takerIn K C f=some none:=by
 unfold PySem.W.takerIn
 rw [show PySem.W.findIn K (.ref C) f=some none from n]
 rfl
structure Meth (K:PySem.W.Frag) (C:Addr) (m:Str) (f:Addr):Prop where
 at_:PySem.W.findIn K (.ref C) m=some (some (.ref f))
 fn:PySem.W.isFn K (.ref f)=true
 kp:PySem.W.keepIn K (.ref f)=true
section
variable {X:Cx} {pins:List (Addr×Obj)} {σ:St} {H:Hp} {s:Shared} {a C dx:Addr} {fs:List (Str×V)} {f:Str} {v:V} {A:Around} {E:Value→Shared→Prop}
theorem Zh0 {b:Bool} {Q:Value→Shared→Prop} (I:Inv X pins σ H s) (e:H a=some (.ins C dx fs)) (c:Cls X.K C) (n:NoAttr X.K C f) (l:fs.lookup f=some v)
  (h:∀ u s',Inv X pins σ H s'→RelV v u→Q u s'):wpAny (model X.prog X.w) A (getAttr (.ref a) f b) Q E s:=by
 obtain ⟨mA,O,r,_,_,_⟩:=ZgK I.hok e
 obtain ⟨u,hu,ru⟩:=RelO.some_of (v:=v) (o:=mA f) (by rw [← l]; exact r f)
 exact Zmi I.kIn O (c.get f) c.hd n hu (ZiU ru) (h u _ (I.tok _) ru)
theorem ZeC {m:Str} {g:Addr} {pl:Sem Bool} {Q:Value×List Value→Shared→Prop} (I:Inv X pins σ H s) (e:H a=some (.ins C dx fs)) (c:Cls X.K C) (k:Meth X.K C m g) (l:fs.lookup m=none)
  (h:Q (.ref g,[.ref a]) s):wpAny (model X.prog X.w) A (getMethod (.ref a) m pl) Q E s:=by
 obtain ⟨mA,O,r,_,_,_⟩:=ZgK I.hok e
 have hn:mA m=none:=RelO.none_of (by rw [← l]; exact r m)
 exact ZkF I.kIn O (c.get m) k.at_ k.fn hn h
theorem Zh1 {y:V} {u:Value} {Q:Unit→Shared→Prop} (I:Inv X pins σ H s) (e:H a=some (.ins C dx fs)) (c:Cls X.K C) (n:NoAttr X.K C f) (hl:fs.length<1000) (ry:RelV y u)
  (h:∀ s',Inv X pins σ (upd H a (.ins C dx (ZaR f y fs))) s'→Q () s'):wpAny (model X.prog X.w) A (setAttr (.ref a) f u) Q E s:=by
 obtain ⟨mA,O,r,wi,_,ho⟩:=ZgK I.hok e
 have hz:(fs.map (·.1)).length≤sizeLine:=by rw [List.length_map,sizeLine_eq]; omega
 refine Zmj I.kIn O c.sa c.po n.taker c.hd wi hz fun h' O' sb=>h _ ?_
 have hd:∃ o,h'.get? dx=some o:=let ⟨o,_,_,e',_⟩:=O'.ns; ⟨o,e'⟩
 refine I.write (x:=a) (e:=dx) (by rw [e]; exact True.intro) (.inr ho) (fun b q hb z=>(sb.2 b hb).trans z) hd ?_
 refine ⟨by rw [Zag O.ne]; exact ho,?_,O.ne,O'.obj,_,O'.ns,fun g=>?_,fun g hg=>?_⟩
 ·have:=Zas f y fs; omega
 ·show RelO ((ZaR f y fs).lookup g) (if g=f then some u else mA g)
  rw [ZdO]
  by_cases q:g=f
  ·rw [if_pos q,if_pos q]; exact ry
  ·rw [if_neg q,if_neg q]; exact r g
 ·by_cases q:g=f
  ·rw [q]; exact (ZdP f y fs).1
  ·refine (ZdP f y fs).2 g (wi g fun z=>hg ?_)
   show (if g=f then some u else mA g)=none
   rw [if_neg q]; exact z
theorem Inv.made (I:Inv X pins σ H s):Inv X pins σ (upd (upd H s.heap.objs.size (.own (s.heap.objs.size+1))) (s.heap.objs.size+1) (.ins C s.heap.objs.size []))
  { s with heap:=(s.heap.push PySem.W.emptyDict).push (PySem.W.instObj C s.heap.objs.size) }:=by
 have e1:(s.heap.push PySem.W.emptyDict).get? s.heap.objs.size=some PySem.W.emptyDict:=Heap.get?_push_size s.heap rfl
 have e2:((s.heap.push PySem.W.emptyDict).push (PySem.W.instObj C s.heap.objs.size)).get? (s.heap.objs.size+1)=some (PySem.W.instObj C s.heap.objs.size):=by
  have:=Heap.get?_push_size (s.heap.push PySem.W.emptyDict) (o:=PySem.W.instObj C s.heap.objs.size) rfl
  rwa [Heap.size_push] at this
 have e3:(s.heap.push PySem.W.emptyDict).Ns s.heap.objs.size (fun _=>none):=⟨PySem.W.emptyDict,#[],_,e1,rfl,(fun e he=>absurd he (by simp)),fun _=>rfl⟩
 have I1:=I.laid (a:=s.heap.objs.size) (o:=.own (s.heap.objs.size+1)) (h':=s.heap.push PySem.W.emptyDict) (t':=s.toks) (fun b u q=>Heap.get?_push_of_some _ q) (Nat.le_refl _) ⟨_,e1⟩
 refine I1.laid (a:=s.heap.objs.size+1) (o:=.ins C s.heap.objs.size []) (t':=s.toks) (fun b u q=>Heap.get?_push_of_some _ q) (Nat.le_of_eq (Heap.size_push _ _)) ?_
 have ne:s.heap.objs.size≠s.heap.objs.size+1:=Nat.ne_of_lt (Nat.lt_succ_self _)
 refine ⟨by rw [Zag ne,Zac],Nat.zero_le _,ne,e2,fun _=>none,(Heap.Ns1.of_empty e3).at fun o q=>Heap.get?_push_of_some _ q,fun _=>True.intro,fun y hy=>absurd rfl hy⟩
theorem Zmk {prog:Program} {w:World} {env:Env} {e:Expr} {f:Str} {pos:Pos} {s:Shared} {Q:Value→Shared→Prop} (hb:attributeBase e f env (eval e env)=eval e env)
  (h:wpAny (model prog w) A (eval e env) (fun o s₁=>wpAny (model prog w) A (getAttr o f true) Q E s₁) E s):wpAny (model prog w) A (eval (.Attribute e f pos) env) Q E s:=
 Attribute_any_ h (by rw [arm_eval_Attribute,hb])
end
def Zpe (K:PySem.W.Frag) (ta:TE) (f:Str):TE:=fun σ H Q=>ta σ H fun x H1=>∃ a C dx fs v,x = .ref a∧H1 a=some (.ins C dx fs)∧Cls K C∧NoAttr K C f∧fs.lookup f=some v∧Q v H1
def sFld (K:PySem.W.Frag) (ta tv:TE) (f:Str):TS:=fun D σ H=>tv σ H fun y H1=>ta σ H1 fun x H2=>∃ a C dx fs,x = .ref a∧H2 a=some (.ins C dx fs)∧Cls K C∧NoAttr K C f∧fs.length<1000 ∧
 D.nx σ (upd H2 a (.ins C dx (ZaR f y fs)))
section
variable {X:Cx} {o e value:Expr} {f:Str} {pos pos' tpos:Pos} {ta tv:TE}
theorem Zam (he:PE X e ta) (hb:attributeBase e f X.env (eval e X.env)=eval e X.env):PE X (.Attribute e f pos) (Zpe X.K ta f):=by
 intro pins s σ H Q I h
 refine Zmk hb (thn (he pins s σ H _ I h) fun u s1 ⟨x,H1,I1,rx,a,C,dx,fs,v,ex,ea,c,n,l,q⟩=>?_)
 subst ex
 obtain rfl:u=Value.ref a:=rx
 exact Zh0 I1 ea c n l fun u' s2 I2 ru=>⟨v,H1,I2,ru,q⟩
theorem ZaQ (ha:PE X o ta) (hv:PE X value tv) (hs:swapsWith value (some (.Attribute o f pos')) pos.line X.env=pure false):PS X (.Assign [.Attribute o f pos'] value pos) (sFld X.K ta tv f):=by
 intro pins s σ H D I h
 refine plainObj_wpAny_Assign_Attribute (thn (hv pins s σ H _ I h) fun u s1 ⟨y,H1,I1,ry,q⟩=>thn (ha pins s1 σ H1 _ I1 q) fun ov s2 ⟨x,H2,I2,rx,a,C,dx,fs,ex,ea,c,n,l,q2⟩=>?_) hs
 subst ex
 obtain rfl:ov=Value.ref a:=rx
 exact Zh1 I2 ea c n l ry fun s3 I3=>⟨σ,_,I3,q2⟩
end
section
variable {X:Cx} {pins:List (Addr×Obj)} {σ:St} {H:Hp} {s:Shared} {A:Around} {E:Value→Shared→Prop} {Q:Value→Shared→Prop} {c:Value} {b:Bool}
end
end L2
namespace L2
open PySem PySem.Spec PyProof.Rows
structure Room (k:Nat) (A:Around):Prop where
 hd:A.handled=none
 dp:A.depth+3*k+5<recursionLimit
 un:A.units+16*k+200<cLine
theorem Room.mono {j k:Nat} {A:Around} (r:Room k A) (h:j≤k):Room j A:=⟨r.hd,by have:=r.dp; omega,by have:=r.un; omega⟩
theorem Room.deeper {k:Nat} {A:Around} (r:Room (k+1) A) (env:Env):Room k (A.deeper env):=
 ⟨r.hd,by have:=r.dp; show A.depth+1+3*k+5<_; omega,by have:=r.un; show A.units+3+16*k+200<_; omega⟩
theorem Room.in1 {k:Nat} {A:Around} (r:Room (k+1) A):Room k A.in1:=
 ⟨r.hd,by have:=r.dp; show A.depth+3*k+5<_; omega,by have:=r.un; show A.units+1+16*k+200<_; omega⟩
theorem Zh2 {A:Around} {C:Addr} {us:List Value} {kw:List (Str×Value)}:(A.under (.builtin "type.__call__" ⟨.ref C::us,kw⟩)).depth=A.depth+1:=by
 first | rfl | simp [Around.under,Code.weight,Code.isCreation,Code.isGuard,Code.isCaller,Code.frames,Code.isFrame,guardIds]
theorem Zh3 {A:Around} {C:Addr} {us:List Value} {kw:List (Str×Value)}:(A.under (.builtin "type.__call__" ⟨.ref C::us,kw⟩)).units=A.units+1:=by
 first | rfl | simp [Around.under,Code.cUnits,Code.frames,Code.isFrame]
theorem Room.make {k:Nat} {A:Around} (r:Room (k+1) A) (C:Addr) (us:List Value) (kw:List (Str×Value)):Room k (A.under (.builtin "type.__call__" ⟨.ref C::us,kw⟩)):=
 ⟨r.hd,by have:=r.dp; rw [Zh2]; omega,by have:=r.un; rw [Zh3]; omega⟩
theorem Room.depth {k:Nat} {A:Around} (r:Room k A):A.depth<recursionLimit:=by have:=r.dp; omega
theorem Room.units {k:Nat} {A:Around} (r:Room k A):A.units+64<cLine:=by have:=r.un; omega
def tNil:TA:=fun _ H Q=>Q [] H
def ZoI (ta:TE) (tr:TA):TA:=fun σ H Q=>ta σ H fun x H1=>tr σ H1 fun xs H2=>Q (x::xs) H2
section
variable {X:Cx} {e:Expr} {es:List Expr} {te:TE} {t:TA} {pos:Pos}
theorem Zae:PA X [] tNil:=fun _ _ _ _ H Q I h=>Calls.spliced_nil ⟨[],H,I,.nil,h⟩
theorem Zaa (ha:PE X e te) (hr:PA X es t) (hs:starEach (e::es) X.env=(false,eval e X.env)::starEach es X.env:=by rfl):PA X (e::es) (ZoI te t):=by
 intro pos pins s σ H Q I h
 rw [hs]
 show wpAny _ _ (spliced ((false,eval e X.env)::backTo pos (starEach es X.env))) _ _ s
 refine Calls.spliced_cons (thn (ha pins s σ H _ I h) fun u s1 ⟨x,H1,I1,r1,q1⟩=>?_)
 exact thn (hr pos pins s1 σ H1 _ I1 q1) fun us s2 ⟨xs,H2,I2,r2,q2⟩=>⟨x::xs,H2,I2,.cons r1 r2,q2⟩
def tTup (t:TA):TE:=fun σ H Q=>t σ H fun xs H1=>xs.length≤sizeLine∧∀ p,H1 p=none→Q (.ref p) (upd H1 p (.tup xs))
def tLst (t:TA):TE:=fun σ H Q=>t σ H fun xs H1=>xs.length≤sizeLine∧∀ p,H1 p=none→Q (.ref p) (upd H1 p (.lst xs))
theorem ZeD {x1} (h:PA X es t):PE X (.Tuple es x1 pos) (tTup t):=by
 intro pins s σ H Q I hq
 refine wpAny_Tuple_spliced (thn (h pos pins s σ H _ I hq) fun us s1 ⟨xs,H1,I1,r,z,q⟩=>⟨by rw [← r.length]; exact z,?_⟩)
 have hf:H1 s1.heap.objs.size=none:=I1.hok.fresh (Nat.le_refl _)
 refine ⟨.ref s1.heap.objs.size,upd H1 s1.heap.objs.size (.tup xs),I1.laid (t':=s1.toks) (fun b u e=>Heap.get?_push_of_some _ e) (Nat.le_refl _) ?_,rfl,q _ hf⟩
 exact ⟨z,us,r,⟨_,Heap.get?_push_size _ rfl,rfl,_,rfl⟩⟩
theorem ZbA (h:PA X es t):PE X (.List es pos) (tLst t):=by
 intro pins s σ H Q I hq
 refine wpAny_List_spliced (thn (h pos pins s σ H _ I hq) fun us s1 ⟨xs,H1,I1,r,z,q⟩=>⟨by rw [← r.length]; exact z,?_⟩)
 have hf:H1 s1.heap.objs.size=none:=I1.hok.fresh (Nat.le_refl _)
 refine ⟨.ref s1.heap.objs.size,upd H1 s1.heap.objs.size (.lst xs),I1.laid (t':=s1.toks) (fun b u e=>Heap.get?_push_of_some _ e) (Nat.le_refl _) ?_,rfl,q _ hf⟩
 exact ⟨z,us,0,r,Heap.get?_push_size _ rfl⟩
end
abbrev Sp:=List V→Hp→VK→XK→Prop
abbrev CXT:=List Env→Hp→Shared→XK→Value→Shared→Prop
structure Env0 (P:Program) (w:World) (K:PySem.W.Frag) (mg:Str→Option Value) (base:Heap) (A:Around) (outer:List Env) (s:Shared) (H:Hp):Prop where
 frames:A.frames=some outer
 mod:Mod K mg base
 bs:∀ b o,base.get? b=some o→s.heap.get? b=some o∧H b=none
 bsz:base.objs.size≤s.heap.objs.size
 funs:s.heap.FunFrames base outer
 frf:∀ b∈frs outer,H b=none
 hok:HOk P w H s.heap
 bare:AllBare s.gens
def CE (outer:List Env) (P:Program) (w:World) (H:Hp) (s:Shared) (Q:VK) (u:Value) (s':Shared):Prop:=
 ∃ v H',s'.os=s.os∧AllBare s'.gens∧Un (frs outer) [] H H' s.heap s'.heap∧HOk P w H' s'.heap∧RelV v u∧Q v H'
def CR (CX:CXT) (outer:List Env) (P:Program) (w:World) (H:Hp) (s:Shared) (Q:VK) (E:XK) (r:Result) (s':Shared):Prop:=
 match r with
 | .ok (.ret u)=>CE outer P w H s Q u s'
 | .ok _=>False
 | .error e=>CX outer H s E e s'
structure FnOk (P:Program) (w:World) (K:PySem.W.Frag) (mg:Str→Option Value) (base:Heap) (CX:CXT) (k:Nat) (f:Addr) (fd:FuncData) (ps:List Str) (sp:Sp):Prop where
 len:∀ vs H Q E,sp vs H Q E→vs.length=ps.length
 run:∀ (A:Around) (outer:List Env) (s:Shared) (H:Hp) (args:Args) (us:List Value) (vs:List V) (Q:VK) (E:XK),Room k A→Env0 P w K mg base A outer s H→BindsTo s fd args (ps.zip us)→Vals vs us→sp vs H Q E →
  codeAny (model P w) A (.call (.ref f) args) (CR CX outer P w H s Q E) s
theorem FnOk.mono {P:Program} {w:World} {K:PySem.W.Frag} {mg:Str→Option Value} {base:Heap} {CX:CXT} {j k:Nat} {f:Addr} {fd:FuncData} {ps:List Str} {sp:Sp} (F:FnOk P w K mg base CX j f fd ps sp) (h:j≤k):
  FnOk P w K mg base CX k f fd ps sp:=⟨F.len,fun A outer s H args us vs Q E hr=>F.run A outer s H args us vs Q E (hr.mono h)⟩
theorem FnOk.imp {P:Program} {w:World} {K:PySem.W.Frag} {mg:Str→Option Value} {base:Heap} {CX:CXT} {k:Nat} {f:Addr} {fd:FuncData} {ps:List Str} {sp sp':Sp} (F:FnOk P w K mg base CX k f fd ps sp)
  (h:∀ vs H Q E,sp' vs H Q E→sp vs H Q E):FnOk P w K mg base CX k f fd ps sp':=
 ⟨fun vs H Q E q=>F.len vs H Q E (h _ _ _ _ q),fun A outer s H args us vs Q E hr he hb hv hs=>F.run A outer s H args us vs Q E hr he hb hv (h _ _ _ _ hs)⟩
theorem Env0.make {P:Program} {w:World} {K:PySem.W.Frag} {mg:Str→Option Value} {base:Heap} {A:Around} {outer:List Env} {s:Shared} {H:Hp} (e:Env0 P w K mg base A outer s H) (C:Addr) (us:List Value) (kw:List (Str×Value)):
  Env0 P w K mg base (A.under (.builtin "type.__call__" ⟨.ref C::us,kw⟩)) outer s H:=⟨by first | exact e.frames | (simpa [Around.under,Code.envs,Code.isFrame,pushEnvs] using e.frames),e.mod,e.bs,e.bsz,e.funs,e.frf,e.hok,e.bare⟩
theorem Env0.in1 {P:Program} {w:World} {K:PySem.W.Frag} {mg:Str→Option Value} {base:Heap} {A:Around} {outer:List Env} {s:Shared} {H:Hp} (e:Env0 P w K mg base A outer s H):
  Env0 P w K mg base A.in1 outer s H:=⟨e.frames,e.mod,e.bs,e.bsz,e.funs,e.frf,e.hok,e.bare⟩
section
variable {X:Cx} {pins:List (Addr×Obj)} {σ:St} {H:Hp} {s s':Shared}
theorem Inv.env0 (I:Inv X pins σ H s):Env0 X.prog X.w X.K X.mg X.base X.A X.stack s H:=
 ⟨I.ok.frames,I.ok.mod,I.bs,Nat.le_trans I.ok.bsz I.sz,I.stack,I.stkFree,I.hok,I.bare⟩
theorem Inv.after {Q:VK} {u:Value} (I:Inv X pins σ H s) (h:CE X.stack X.prog X.w H s Q u s'):EP X pins σ Q u s':=by
 obtain ⟨v,H',os,bare,un,hok,r,q⟩:=h
 obtain ⟨hh,g,d,t,os'⟩:=s'
 obtain rfl:os'=s.os:=os
 exact ⟨v,H',I.call (h':=hh) (g':=g) (d':=d) (t':=t) (ch:=[]) un hok bare (fun b z=>absurd z (by simp)),r,q⟩
end
def ZoJ (sp:Sp) (dvs:List V) (E:XK) (t:TA):TE:=fun σ H Q=>t σ H fun vs H1=>sp (vs++dvs) H1 Q E
def Znz (C:Addr) (m:Str) (sp:Sp) (dvs:List V) (E:XK) (ta:TE) (t:TA):TE:=fun σ H Q=>ta σ H fun x H1=>∃ a dx fs,x = .ref a∧H1 a=some (.ins C dx fs)∧fs.lookup m=none ∧
 t σ H1 fun vs H2=>sp (x::(vs++dvs)) H2 Q E
def ZoK (C:Addr) (sp:Sp) (dvs:List V) (E:XK) (t:TA):TE:=fun σ H Q=>t σ H fun vs H1=>∀ x dx,H1 x=none→H1 dx=none→dx≠x →
 sp (.ref x::(vs++dvs)) (upd (upd H1 dx (.own x)) x (.ins C dx [])) (fun v H2=>v = .non∧Q (.ref x) H2) E
def Binds (K:PySem.W.Frag) (fd:FuncData) (ps:List Str) (ds:List Value):Prop:=
 ∀ (s:Shared) (us:List Value),K.In s.heap→(us++ds).length=ps.length→BindsTo s fd ⟨us,[]⟩ (ps.zip (us++ds))
theorem Binds.all {K:PySem.W.Frag} {fd:FuncData} {ps:List Str} (h:∀ us:List Value,us.length=ps.length→bindArgs fd ⟨us,[]⟩=pure (ps.zip us)):Binds K fd ps []:=fun s us _ hl=>by
 rw [List.append_nil] at hl ⊢
 exact .of_eq (h us hl)
def ZdQ (CX:CXT) (X:Cx) (E:XK):Prop:=∀ (pins:List (Addr×Obj)) (σ:St) (H:Hp) (s:Shared) (e:Value) (s':Shared),Inv X pins σ H s→CX X.stack H s E e s'→X.xe e s'
section
variable {X:Cx} {CX:CXT} {k:Nat} {f C:Addr} {fd:FuncData} {ps:List Str} {sp:Sp} {dvs:List V} {ds:List Value} {E:XK} {x m:Str} {p pos apos:Pos} {e o:Expr} {es:List Expr} {ta:TE} {t:TA}
theorem ZiV {pins:List (Addr×Obj)} {σ:St} {H:Hp} {s:Shared} {Q:VK} {us:List Value} {vs:List V} (F:FnOk X.prog X.w X.K X.mg X.base CX k f fd ps sp) (hr:Room k X.A) (hb:Binds X.K fd ps ds) (hd:Vals dvs ds) (hx:ZdQ CX X E)
  (I:Inv X pins σ H s) (r:Vals vs us) (h:sp (vs++dvs) H Q E):wpAny (model X.prog X.w) X.A (call (.ref f) us) (EP X pins σ Q) X.xe s:=by
 have r2:Vals (vs++dvs) (us++ds):=r.append hd
 have hl:(us++ds).length=ps.length:=by rw [← r2.length]; exact F.len _ _ _ _ h
 refine wpAny_call (codeAny_mono (F.run X.A X.stack s H ⟨us,[]⟩ (us++ds) (vs++dvs) Q E hr I.env0 (hb s us I.kIn hl) r2 h) fun r s' hq=>?_)
 cases r with
 | error e=>exact hx pins σ H s e s' I hq
 | ok fl=>
  cases fl with
  | ret u=>exact I.after hq
  | next=>exact False.elim hq
  | brk=>exact False.elim hq
  | cont=>exact False.elim hq
theorem Zak (F:FnOk X.prog X.w X.K X.mg X.base CX k f fd ps sp) (hr:Room k X.A) (hg:Gl X x) (hm:X.mg x=some (.ref f)) (hk:PySem.W.keepIn X.K (.ref f)=true) (hb:Binds X.K fd ps ds) (hd:Vals dvs ds) (hx:ZdQ CX X E)
  (ha:PA X (e::es) t) (hdb:(x==("__debug__":Str))=false:=by decide) (he:starEach (e::es) X.env=(false,eval e X.env)::starEach es X.env:=by rfl) (hpl:(backTo pos (starEach es X.env)).any (·.1)=false:=by rfl):
  PE X (.Call (.Name x p) (e::es) [] pos) (ZoJ sp dvs E t):=by
 intro pins s σ H Q I h
 refine wpAny_Call_Name_kw (ZgJ I hg hm ?_ hdb)
 refine PySem.W.callWith_K (h₀:=X.base) I.ok.mod.kin hk (thn (ha pos pins s σ H _ I h) fun us s1 ⟨vs,H1,I1,r,q⟩=>⟨I1.kIn,?_⟩) he hpl
 exact ZiV F hr hb hd hx I1 r q
theorem ZaJ {pl:Sem Bool} (he:PE X o ta) (c:Cls X.K C) (hm:Meth X.K C m f) (F:FnOk X.prog X.w X.K X.mg X.base CX k f fd ps sp) (hr:Room k X.A) (hb:Binds X.K fd ps ds) (hd:Vals dvs ds) (hx:ZdQ CX X E) (ha:PA X (e::es) t)
  (hst:starEach (e::es) X.env=(false,eval e X.env)::starEach es X.env:=by rfl) (hpl:(backTo pos (starEach es X.env)).any (·.1)=false:=by rfl)
  (ht:eval (.Call (.Attribute o m apos) (e::es) [] pos) X.env=(do
   let ov ← eval o X.env
   standAt apos.atName
   let (f,first) ← holding [ov] (getMethod ov m pl)
   callWith pos f first (backTo pos (starEach (e::es) X.env)) (backToKw pos (keywordEach [] X.env))):=by rfl):
  PE X (.Call (.Attribute o m apos) (e::es) [] pos) (Znz C m sp dvs E ta t):=by
 intro pins s σ H Q I h
 refine PySem.W.methodCall_KW (pl:=pl) (thn (he pins s σ H _ I h) fun u s1 ⟨x,H1,I1,rx,a,dx,fs,ex,ea,l,q⟩=>?_) ht
 subst ex
 obtain rfl:u=Value.ref a:=rx
 refine ZeC I1 ea c hm l ?_
 refine PySem.W.callWith_K (first:=[.ref a]) (h₀:=X.base) I.ok.mod.kin hm.kp (thn (ha pos pins s1 σ H1 _ I1 q) fun us s2 ⟨vs,H2,I2,r,q2⟩=>⟨I2.kIn,?_⟩) hst hpl
 exact ZiV (us:=.ref a::us) (vs:=.ref a::vs) F hr hb hd hx I2 (.cons rfl r) q2
theorem Zci {pl:Sem Bool} (he:PE X o ta) (c:Cls X.K C) (hm:Meth X.K C m f) (F:FnOk X.prog X.w X.K X.mg X.base CX k f fd ps sp) (hr:Room k X.A) (hb:Binds X.K fd ps ds) (hd:Vals dvs ds) (hx:ZdQ CX X E)
  (ht:eval (.Call (.Attribute o m apos) [] [] pos) X.env=(do
   let ov ← eval o X.env
   standAt apos.atName
   let (f,first) ← holding [ov] (getMethod ov m pl)
   callWith pos f first (backTo pos (starEach [] X.env)) (backToKw pos (keywordEach [] X.env))):=by rfl):
  PE X (.Call (.Attribute o m apos) [] [] pos) (Znz C m sp dvs E ta tNil):=by
 intro pins s σ H Q I h
 refine PySem.W.methodCall_KW (pl:=pl) (thn (he pins s σ H _ I h) fun u s1 ⟨x,H1,I1,rx,a,dx,fs,ex,ea,l,q⟩=>?_) ht
 subst ex
 obtain rfl:u=Value.ref a:=rx
 refine ZeC I1 ea c hm l ?_
 exact PySem.W.callWith_K0 (first:=[.ref a]) I1.kIn hm.kp (ZiV (us:=[.ref a]) (vs:=[.ref a]) F hr hb hd hx I1 (.cons rfl .nil) q)
structure Mk (K:PySem.W.Frag) (C f:Addr):Prop where
 makes:PySem.W.makesIn K C=true
 init:PySem.W.findIn K (.ref C) "__init__"=some (some (.ref f))
 fn:PySem.W.isFn K (.ref f)=true
 kp:PySem.W.keepIn K (.ref C)=true
theorem ZkH {pins:List (Addr×Obj)} {σ:St} {H:Hp} {s:Shared} {Q:VK} {us:List Value} {vs:List V} (M:Mk X.K C f) (F:FnOk X.prog X.w X.K X.mg X.base CX k f fd ps sp) (hr:Room (k+1) X.A) (hb:Binds X.K fd ps ds) (hd:Vals dvs ds)
  (hx:ZdQ CX X E) (I:Inv X pins σ H s) (r:Vals vs us)
  (h:∀ x dx,H x=none→H dx=none→dx≠x→sp (.ref x::(vs++dvs)) (upd (upd H dx (.own x)) x (.ins C dx [])) (fun v H2=>v = .non∧Q (.ref x) H2) E):
  wpAny (model X.prog X.w) X.A (call (.ref C) us) (EP X pins σ Q) X.xe s:=by
 have hq:=h (s.heap.objs.size+1) s.heap.objs.size (I.hok.fresh (Nat.le_succ _)) (I.hok.fresh (Nat.le_refl _)) (Nat.ne_of_lt (Nat.lt_succ_self _))
 have I2:=Inv.made (C:=C) I
 have r2:Vals (V.ref (s.heap.objs.size+1)::(vs++dvs)) (Value.ref (s.heap.objs.size+1)::(us++ds)):=.cons rfl (r.append hd)
 have hl:(Value.ref (s.heap.objs.size+1)::us++ds).length=ps.length:=by
  have e:=r2.length
  rw [F.len _ _ _ _ hq] at e
  exact e.symm
 refine wpAny_call (ZkG (f:=f) I.kIn M.makes M.init (beq_iff_eq.mp M.fn) (codeAny_mono (F.run _ X.stack _ _ ⟨Value.ref (s.heap.objs.size+1)::us,[]⟩ (Value.ref (s.heap.objs.size+1)::(us++ds)) _ _ E (hr.make C us [])
  (I2.env0.make C us []) (hb _ (Value.ref (s.heap.objs.size+1)::us) I2.kIn hl) r2 hq) fun r s' hq'=>?_))
 cases r with
 | error e=>exact hx pins σ _ _ e s' I2 hq'
 | ok fl=>
  cases fl with
  | ret u=>
   obtain ⟨v,H',I3,rv,ev,q3⟩:=I2.after hq'
   subst ev
   exact ⟨rv,⟨V.ref (s.heap.objs.size+1),H',I3,rfl,q3⟩⟩
  | next=>exact False.elim hq'
  | brk=>exact False.elim hq'
  | cont=>exact False.elim hq'
theorem ZbM (M:Mk X.K C f) (F:FnOk X.prog X.w X.K X.mg X.base CX k f fd ps sp) (hr:Room (k+1) X.A) (hg:Gl X x) (hm:X.mg x=some (.ref C)) (hb:Binds X.K fd ps ds) (hd:Vals dvs ds) (hx:ZdQ CX X E)
  (ha:PA X (e::es) t) (hdb:(x==("__debug__":Str))=false:=by decide) (he:starEach (e::es) X.env=(false,eval e X.env)::starEach es X.env:=by rfl) (hpl:(backTo pos (starEach es X.env)).any (·.1)=false:=by rfl):
  PE X (.Call (.Name x p) (e::es) [] pos) (ZoK C sp dvs E t):=by
 intro pins s σ H Q I h
 refine wpAny_Call_Name_kw (ZgJ I hg hm ?_ hdb)
 refine PySem.W.callWith_K (h₀:=X.base) I.ok.mod.kin M.kp (thn (ha pos pins s σ H _ I h) fun us s1 ⟨vs,H1,I1,r,q⟩=>⟨I1.kIn,?_⟩) he hpl
 exact ZkH M F hr hb hd hx I1 r q
end
section
variable {X:Cx} {CX:CXT} {k:Nat} {f C:Addr} {fd:FuncData} {ps ks:List Str} {sp:Sp} {E:XK} {x m:Str} {p pos apos kpos:Pos} {e o:Expr} {es:List Expr} {kws:List Keyword} {te ta:TE} {t tk:TA} {nm:Option Str}
variable {g:List Value→List Value→List Value} {gV:List V→List V→List V}
end
structure FnScope (N P:List Str) (sc:Scope):Prop where
 kind:sc.kind = .function
 co:sc.isCoroutine=false
 gen:sc.isGenerator=false
 nd:N.Nodup
 pre:N.take P.length=P
 par:∀ x∈P,sc.names.lookup x=some .local∨sc.names.lookup x=some .cell
 nofree:∀ y∈sc.names,y.2≠.free
theorem ZfP {kindOf:Str→Option NameKind} {x:Str}:∀ {binds:List (Str×Value)} {m:Str→Option Value},(∀ v,(x,v)∉binds)→bindL kindOf binds m x=m x
 | [],_,_=>rfl
 | (n,v)::r,m,h=>by
  unfold bindL
  rw [ZfP fun w hw=>h w (List.mem_cons_of_mem _ hw)]
  split
  ·have:x≠n:=by rintro rfl; exact h v List.mem_cons_self
   simp [this]
  ·rfl
theorem ZfQ {kindOf:Str→Option NameKind} {x:Str}:∀ {binds:List (Str×Value)} {m:Str→Option Value},(∀ v,(x,v)∉binds)→bindC kindOf binds m x=m x
 | [],_,_=>rfl
 | (n,v)::r,m,h=>by
  unfold bindC
  rw [ZfQ fun w hw=>h w (List.mem_cons_of_mem _ hw)]
  split
  ·rfl
  ·have:x≠n:=by rintro rfl; exact h v List.mem_cons_self
   simp [this]
theorem ZfR {kindOf:Str→Option NameKind} {x:Str} {v:Value}:∀ {P:List Str} {vs:List Value} {i:Nat} {m:Str→Option Value},P.Nodup→P[i]? = some x→vs[i]? = some v→kindOf x=some .local →
  bindL kindOf (P.zip vs) m x=some v
 | [],_,_,_,_,h,_,_=>by simp at h
 | _::_,[],_,_,_,_,h,_=>by simp at h
 | p::P,w::vs,0,m,nd,h1,h2,hk=>by
  simp at h1 h2; subst h1; subst h2
  show bindL kindOf ((p,w)::P.zip vs) m p=_
  unfold bindL
  rw [ZfP fun v hv=>(List.nodup_cons.mp nd).1 (List.of_mem_zip hv).1,if_pos hk]
  simp
 | p::P,w::vs,i+1,m,nd,h1,h2,hk=>by
  show bindL kindOf ((p,w)::P.zip vs) m x=_
  unfold bindL
  exact ZfR (i:=i) (List.nodup_cons.mp nd).2 (by simpa using h1) (by simpa using h2) hk
theorem ZfS {kindOf:Str→Option NameKind} {x:Str} {v:Value}:∀ {P:List Str} {vs:List Value} {i:Nat} {m:Str→Option Value},P.Nodup→P[i]? = some x→vs[i]? = some v→kindOf x≠some .local →
  bindC kindOf (P.zip vs) m x=some v
 | [],_,_,_,_,h,_,_=>by simp at h
 | _::_,[],_,_,_,_,h,_=>by simp at h
 | p::P,w::vs,0,m,nd,h1,h2,hk=>by
  simp at h1 h2; subst h1; subst h2
  show bindC kindOf ((p,w)::P.zip vs) m p=_
  unfold bindC
  rw [ZfQ fun v hv=>(List.nodup_cons.mp nd).1 (List.of_mem_zip hv).1,if_neg hk]
  simp
 | p::P,w::vs,i+1,m,nd,h1,h2,hk=>by
  show bindC kindOf ((p,w)::P.zip vs) m x=_
  unfold bindC
  exact ZfS (i:=i) (List.nodup_cons.mp nd).2 (by simpa using h1) (by simpa using h2) hk
def start (N:List Str) (vs:List V):St:=vs.map some++List.replicate (N.length-vs.length) none
def Znh (CX:CXT) (P:Program) (w:World) (K:PySem.W.Frag) (mg:Str→Option Value) (base:Heap) (N:List Str) (qual:Str) (scope:Scope) (f:Addr) (cd:Value) (A:Around) (outer:List Env) (s:Shared) (H:Hp) (E:XK):Cx where
 prog:=P
 w:=w
 K:=K
 mg:=mg
 base:=base
 A:=A.deeper (envOfC qual scope s.heap.objs.size f cd)
 N:=N
 s_0:=s
 H_0:=H
 env:=envOfC qual scope s.heap.objs.size f cd
 outer:=outer
 stack:=envOfC qual scope s.heap.objs.size f cd::outer
 ex:=[]
 calm:=true
 fn:=fun _=>true
 pn:=[]
 xe:=fun e s'=>wpAny (model P w) (A.deeper (envOfC qual scope s.heap.objs.size f cd)) (leaving (envOfC qual scope s.heap.objs.size f cd) e) (fun _ s''=>CX outer H s E e s'') (fun e' s''=>CX outer H s E e' s'') s'
theorem Zho {sc:Scope} {n:Nat} {x:Str} (h:sc.names.lookup x=some .cell):∃ c,(cellsFrom n sc.names []).lookup x=some c:=by
 have q:=PySem.W.cellsFrom_some sc.names n [] (.inl h)
 exact Option.isSome_iff_exists.mp q
theorem ZcO {CX:CXT} {P:Program} {w:World} {K:PySem.W.Frag} {mg:Str→Option Value} {base:Heap} {N ps:List Str} {qual:Str} {scope:Scope} {f:Addr} {cd:Value} {A:Around} {outer:List Env} {s s1:Shared} {H:Hp} {E:XK} {us:List Value} {vs:List V}
  (S:FnScope N ps scope) (hd:A.handled=none) (e0:Env0 P w K mg base A outer s H) (hl:vs.length=ps.length) (r:Vals vs us)
  (x:InCallC s s.heap.objs.size (bindL (envOfC qual scope s.heap.objs.size f cd).kindOf (ps.zip us) fun _=>none) (cellsFrom (s.heap.objs.size+1) scope.names []) (bindC (envOfC qual scope s.heap.objs.size f cd).kindOf (ps.zip us) fun _=>none) s1):
  Inv (Znh CX P w K mg base N qual scope f cd A outer s H E) [] (start N vs) H s1:=by
 have hpl:ps.length≤N.length:=by have:=congrArg List.length S.pre; rw [List.length_take] at this; omega
 obtain ⟨h1,tk,rfl,hk⟩:=x.done
 have noA:∀ b:Addr,b∉(Znh CX P w K mg base N qual scope f cd A outer s H E).ex:=fun b z=>absurd (show b∈([]:List Addr) from z) (by simp)
 refine ⟨⟨e0.mod,S.kind,rfl,rfl,Nat.le_refl _,fun y z c h1 h2=>?_,fun y hy=>?_,fun y c _ h=>?_,fun _=>hd,Around.frames_deeper e0.frames,.inr ⟨rfl,rfl⟩,fun b z=>absurd z (noA b),e0.bs,e0.bsz,fun b _ _=>noA b,fun b z=>absurd z (noA b),e0.funs,e0.frf⟩,
  rfl,e0.bare,Un.kept hk,⟨_,x.toInCall.ns,fun i y v h1 h2 h3=>?_⟩,fun y c h=>⟨_,x.cell y c h⟩,e0.hok.fresh (Nat.le_refl _),fun y c h=>?_,fun p hp=>absurd (show p∈([]:List (Addr×Obj)) from hp) (by simp),e0.hok.kept hk,?_⟩
 ·exact name_of_addr x.apart (PySem.mem_of_lookup h1) (PySem.mem_of_lookup h2)
 ·have hy:scope.names.lookup y=some .cell∨scope.names.lookup y=some .free:=hy
  rcases hy with hy | hy
  ·exact Zho hy
  ·exact absurd rfl (S.nofree _ (PySem.mem_of_lookup hy))
 ·exact Nat.le_of_lt (x.above y c (PySem.mem_of_lookup h))
 ·have hi:i<vs.length:=by
   unfold start at h2
   by_cases hi:i<vs.length
   ·exact hi
   ·rw [List.getElem?_append_right (by simpa using hi)] at h2
    rw [List.getElem?_replicate] at h2
    split at h2<;>cases h2
  have ha:vs[i]? = some v:=by
   unfold start at h2
   rw [List.getElem?_append_left (by simpa using hi),List.getElem?_map] at h2
   cases e:vs[i]? with
   | none=>rw [e] at h2; cases h2
   | some a=>rw [e] at h2; cases h2; rfl
  obtain ⟨u,hu,rv⟩:=r.get ha
  have hp:ps[i]? = some y:=by
   rw [← S.pre,List.getElem?_take_of_lt (by omega)]; exact h1
  have ndP:ps.Nodup:=by rw [← S.pre]; exact S.nd.sublist (List.take_sublist _ _)
  refine ⟨u,rv,?_⟩
  rcases S.par y (List.mem_of_getElem? hp) with k | k
  ·exact .inl ⟨k,ZfR ndP hp hu k⟩
  ·obtain ⟨c,e⟩:=Zho (n:=s.heap.objs.size+1) k
   refine .inr ⟨.inl k,c,e,?_⟩
   have q:=x.cell y c e
   rw [ZfS ndP hp hu (by show scope.names.lookup y≠_; rw [k]; decide)] at q
   exact q
 ·exact e0.hok.fresh (Nat.le_of_lt (x.above y c (PySem.mem_of_lookup h)))
 ·unfold start
  show _=N.length
  rw [List.length_append,List.length_map,List.length_replicate]
  omega
theorem ZoL {CX:CXT} {P:Program} {w:World} {K:PySem.W.Frag} {mg:Str→Option Value} {base:Heap} {k:Nat} {f:Addr} {name qual:Str} {params:Arguments} {body:List Stmt} {scope:Scope} {dV kV doc pm cdv ct oc:Value} {an od:Option Addr}
  {osl:Array (Option Value)} {N ps:List Str} {sp:Sp} (lk:K.lookup f=some ⟨oc,od,.func (PySem.W.fnOf name qual params body scope dV kV doc pm an cdv ct),osl⟩) (hcd:PySem.W.codeIn K cdv qual=true) (S:FnScope N ps scope)
  (len:∀ vs H Q E,sp vs H Q E→vs.length=ps.length)
  (hbody:∀ (A:Around) (outer:List Env) (s:Shared) (H:Hp) (vs:List V) (Q:VK) (E:XK),Room k (A.deeper (envOfC qual scope s.heap.objs.size f cdv))→sp vs H Q E →
   ∃ t,PSs (Znh CX P w K mg base N qual scope f cdv A outer s H E) body t∧t { nx:=fun _ H'=>Q .non H',rt:=Q } (start N vs) H):
  FnOk P w K mg base CX (k+1) f (PySem.W.fnOf name qual params body scope dV kV doc pm an cdv ct) ps sp:=by
 refine ⟨len,fun A outer s H args us vs Q E hr e0 hb r hsp=>?_⟩
 have hl:=len _ _ _ _ hsp
 have KX:K.In s.heap:=e0.mod.kin.keeps fun b o e=>(e0.bs b o e).1
 have lim:s.heap.NoLimit:=e0.mod.nolimit.keeps fun b o e=>(e0.bs b o e).1
 have hkind:∀ y∈ps.zip us,scope.names.lookup y.1=some .local∨(scope.names.lookup y.1=some .cell∧((cellsFrom (s.heap.objs.size+1) scope.names []).lookup y.1).isSome=true):=fun ⟨n,v⟩ hy=>by
  rcases S.par n (List.of_mem_zip hy).1 with q | q
  ·exact .inl q
  ·exact .inr ⟨q,PySem.W.cellsFrom_some _ _ _ (.inl q)⟩
 refine codeAny_call_function hr.depth (KX _ _ lk) rfl S.co S.gen rfl (PySem.W.codeRec_of KX hcd) (hb _ _ _ _ ?_)
 refine wpAny_newFunctionEnv_cells S.kind hkind fun env he s1 x=>?_
 subst he
 refine ⟨lim.keeps x.toInCall.keep,codeAny_func ?_⟩
 obtain ⟨t,ht,hq⟩:=hbody A outer s H vs Q E (hr.deeper _) hsp
 have I:Inv (Znh CX P w K mg base N qual scope f cdv A outer s H E) [] (start N vs) H s1:=ZcO S hr.hd e0 hl r x
 refine wpAny_mono (ht [] s1 (start N vs) H _ I hq) (fun fl s' hs=>?_) fun e s' hs=>hs
 have fin:∀ {σ':St} {H':Hp} {v:V} {u:Value},Inv (Znh CX P w K mg base N qual scope f cdv A outer s H E) [] σ' H' s'→RelV v u→Q v H'→CE outer P w H s Q u s':=
  fun {σ' H' v u} J rv q=>⟨v,H',J.os,J.bare,J.base,J.hok,rv,q⟩
 cases fl with
 | ret u=>
  obtain ⟨v,σ',H',J,rv,q⟩:=hs
  exact fin J rv q
 | next=>
  obtain ⟨σ',H',J,q⟩:=hs
  exact fin (v:=V.non) (u:=Value.none) J rfl q
 | brk=>
  obtain ⟨_,_,_,q⟩:=hs
  exact False.elim q
 | cont=>
  obtain ⟨_,_,_,q⟩:=hs
  exact False.elim q
end L2
namespace L2
open PySem PySem.Spec PyProof.Rows
section
variable {X:Cx} {x:Str} {p pos:Pos} {e:Expr} {es:List Expr} {t:TA} {id T:String} {r:List V→Hp→VK→Prop}
def tCB (r:List V→Hp→VK→Prop) (t:TA):TE:=fun σ H Q=>t σ H fun vs H1=>r vs H1 Q
theorem ZaH (hc:CallR X (.builtin id) r) (hg:Gl X x) (hm:X.mg x=none) (hv:bootBuiltins x=some (.builtin id)) (ha:PA X (e::es) t) (hn:x≠"__name__":=by decide) (hdb:(x==("__debug__":Str))=false:=by decide)
  (he:starEach (e::es) X.env=(false,eval e X.env)::starEach es X.env:=by rfl) (hpl:(backTo pos (starEach es X.env)).any (·.1)=false:=by rfl):PE X (.Call (.Name x p) (e::es) [] pos) (tCB r t):=by
 intro pins s σ H Q I h
 refine wpAny_Call_Name_kw (Zez I hg hm hv ?_ hn hdb)
 exact PyProof.Rows.callWith_builtin1 (thn (ha pos pins s σ H _ I h) fun us s1 ⟨vs,H1,I1,r1,q1⟩=>hc pins s1 σ H1 vs us Q I1 r1 q1) he hpl
theorem ZiW (hc:CallR X (.type T) r) (hg:Gl X x) (hm:X.mg x=none) (hv:bootBuiltins x=some (.type T)) (ha:PA X (e::es) t) (hn:x≠"__name__":=by decide) (hdb:(x==("__debug__":Str))=false:=by decide)
  (he:starEach (e::es) X.env=(false,eval e X.env)::starEach es X.env:=by rfl) (hpl:(backTo pos (starEach es X.env)).any (·.1)=false:=by rfl):PE X (.Call (.Name x p) (e::es) [] pos) (tCB r t):=by
 intro pins s σ H Q I h
 refine wpAny_Call_Name_kw (Zez I hg hm hv ?_ hn hdb)
 exact PyProof.Rows.callWith_type1 (thn (ha pos pins s σ H _ I h) fun us s1 ⟨vs,H1,I1,r1,q1⟩=>hc pins s1 σ H1 vs us Q I1 r1 q1) he hpl
end
end L2
namespace HT
open PySem PyProof.Rows
theorem eqAt_int (A:Around) (s:Shared) (a:Int) (t:Tok) (c:Int) (u:Tok):∃ e,SeqAt.EqAt A s (.int a t) (.int c u) e∧(e=true↔a=c):=
 ⟨(a==c),SeqAt.EqAt.int_int a t c u,by simp⟩
section
open PySem.SeqAt
open PySem.AutoSeq1 (wpAny_loadPart')
open PySem.MeetsSeq PySem.MeetsSeq2 PySem.MeetsSeq3
end
section
variable {prog:Program} {w:World} {A:Around} {E:Value→Shared→Prop} {s:Shared}
def sIx (n d:Nat):Option Int→Nat
 | none=>d
 | some v=>if v<0 then (v+(n:Int)).toNat else min v.toNat n
end
end HT
namespace L2
open PySem PySem.Spec PyProof.Rows
abbrev TO:=St→Hp→(Option Int→Hp→Prop)→Prop
def PO (X:Cx) (e:Option Expr) (t:TO):Prop:=
 ∀ (pins:List (Addr×Obj)) (s:Shared) (σ:St) (H:Hp) (Q:Option Int→Hp→Prop),Inv X pins σ H s→t σ H Q →
  wpAny (model X.prog X.w) X.A (evalPart e X.env) (fun u s'=>∃ o H',Inv X pins σ H' s'∧IsPart u o∧Q o H') X.xe s
def tNoPart:TO:=fun _ H Q=>Q none H
def ZoM (t:TE):TO:=fun σ H Q=>t σ H fun x H1=>∃ i,x = .int i∧Q (some i) H1
theorem Zda {ns:List Int}:∀ {us:List Value},Vals (ns.map V.int) us→IntsAre us ns:=by
 induction ns with
 | nil=>intro us r; rw [List.map_nil] at r; cases r; exact .nil
 | cons n ns ih=>
  intro us r
  rw [List.map_cons] at r
  cases r with
  | cons r1 r2=>
   obtain ⟨t,e⟩:=r1
   subst e
   exact .cons n t (ih r2)
section
variable {X:Cx} {e:Expr} {te:TE} {lo hi:Option Expr} {tl th:TO} {pos p2:Pos}
theorem ZiX:PO X none tNoPart:=by
 intro pins s σ H Q I h
 rw [evalPart_none]
 exact wpAny_pure ⟨none,H,I,.none,h⟩
theorem ZiY (h:PE X e te):PO X (some e) (ZoM te):=by
 intro pins s σ H Q I hw
 rw [evalPart_some]
 refine thn (h pins s σ H _ I hw) fun u s1 ⟨x,H1,I1,r1,q1⟩=>?_
 obtain ⟨i,rfl,q⟩:=q1
 obtain ⟨t,rfl⟩:=r1
 exact ⟨some i,H1,I1,.int i t,q⟩
def SlR (X:Cx) (r:V→Option Int→Option Int→Hp→VK→Prop):Prop:=
 ∀ (pins:List (Addr×Obj)) (s:Shared) (σ:St) (H:Hp) (x:V) (v vl vu:Value) (lo hi:Option Int) (sl:Addr) (Q:VK),Inv X pins σ H s→RelV x v→s.heap.IsSliceOf sl vl vu .none→IsPart vl lo→IsPart vu hi→r x lo hi H Q →
  ∃ T id,typeLookup (.type T) "__getitem__"=pure (some (.builtin id))∧s.TypeIs v T∧wpAny (model X.prog X.w) X.A (getItem v (.ref sl)) (EP X pins σ Q) X.xe s
theorem SlR.or {r r':V→Option Int→Option Int→Hp→VK→Prop} (h:SlR X r) (h':SlR X r'):SlR X (fun x lo hi H Q=>r x lo hi H Q∨r' x lo hi H Q):=by
 intro pins s σ H x v vl vu lo hi sl Q I rx hs pl pu q
 rcases q with q | q
 ·exact h pins s σ H x v vl vu lo hi sl Q I rx hs pl pu q
 ·exact h' pins s σ H x v vl vu lo hi sl Q I rx hs pl pu q
def tSl (r:V→Option Int→Option Int→Hp→VK→Prop) (te:TE) (tl th:TO):TE:=fun σ H Q=>te σ H fun x H1=>tl σ H1 fun l H2=>th σ H2 fun u H3=>r x l u H3 Q
theorem Zhp {r:V→Option Int→Option Int→Hp→VK→Prop} (hr:SlR X r) (he:PE X e te) (hl:PO X lo tl) (hu:PO X hi th):PE X (.Subscript e (.Slice lo hi none p2) pos) (tSl r te tl th):=by
 intro pins s σ H Q I h
 refine Subscript_ (thn (he pins s σ H _ I h) fun v s1 ⟨x,H1,I1,r1,q1⟩=>?_)
 refine wpAny_Slice (thn (hl pins s1 σ H1 _ I1 q1) fun vl s2 ⟨l,H2,I2,pl,q2⟩=>thn (hu pins s2 σ H2 _ I2 q2) fun vu s3 ⟨u,H3,I3,pu,q3⟩=>?_)
 rw [evalPart_none]
 refine wpAny_pure ?_
 have I4:Inv X pins σ H3 { s3 with heap:=s3.heap.push { cls:=.type "slice",data:=.fields #[vl,vu,.none] } }:=I3.kept (t':=s3.toks) fun b ob q=>Heap.get?_push_of_some _ q
 obtain ⟨T,id,hT,ht,hg⟩:=hr pins { s3 with heap:=s3.heap.push { cls:=.type "slice",data:=.fields #[vl,vu,.none] } } σ H3 x v vl vu l u s3.heap.objs.size Q I4 r1 (Heap.IsSliceOf.new ..) pl pu q3
 show wpAny (model X.prog X.w) X.A (subscriptTail e (.Slice lo hi none p2) v (.ref s3.heap.objs.size)) (EP X pins σ Q) X.xe { s3 with heap:=s3.heap.push { cls:=.type "slice",data:=.fields #[vl,vu,.none] } }
 exact tail_any (ops:=[.ref s3.heap.objs.size,v]) ht hT hg (by with_unfolding_all rfl)
def Zni (xs:List V) (lo hi:Option Int):List V:=(xs.drop (HT.sIx xs.length 0 lo)).take (HT.sIx xs.length xs.length hi-HT.sIx xs.length 0 lo)
theorem ZgL (xs:List V) (lo hi:Option Int):(Zni xs lo hi).length≤xs.length:=by
 unfold Zni
 rw [List.length_take,List.length_drop]
 omega
end
end L2
namespace L2
open PySem PySem.Spec PyProof.Rows
def ixN (n:Nat) (i:Int):Option Nat:=if 0≤i then (if i<n then some i.toNat else none) else if -(n:Int)≤i then some (i+n).toNat else none
def atI {α:Type} (xs:List α) (i:Int):Option α:=(ixN xs.length i).bind fun j=>xs[j]?
theorem Zml {n:Nat} {i:Int} {j:Nat} (h:ixN n i=some j):seqIndex? i n=some j∧j<n∧-(n:Int)≤i∧i<n:=by
 unfold ixN at h
 by_cases h0:0≤i
 ·rw [if_pos h0] at h
  by_cases h1:i<n
  ·rw [if_pos h1] at h
   have e:i.toNat=j:=Option.some.inj h
   exact ⟨by rw [seqIndex_of h0 h1,e],by omega,by omega,h1⟩
  ·rw [if_neg h1] at h; cases h
 ·rw [if_neg h0] at h
  by_cases h1:-(n:Int)≤i
  ·rw [if_pos h1] at h
   have e:(i+n).toNat=j:=Option.some.inj h
   exact ⟨by rw [seqIndex_neg (by omega) h1,e],by omega,h1,by omega⟩
  ·rw [if_neg h1] at h; cases h
theorem ZgM {α:Type} {xs:List α} {i:Int} {v:α} (h:atI xs i=some v):∃ j,seqIndex? i xs.length=some j∧xs[j]? = some v∧j<xs.length∧-(xs.length:Int)≤i∧i<xs.length:=by
 unfold atI at h
 cases e:ixN xs.length i with
 | none=>rw [e] at h; cases h
 | some j=>
  rw [e] at h
  obtain ⟨h1,h2,h3,h4⟩:=Zml e
  exact ⟨j,h1,h,h2,h3,h4⟩
theorem Za7 {α:Type} {xs:List α} {j:Nat} {v:α} (h:xs[j]? = some v):atI xs (j:Int)=some v:=by
 have hj:j<xs.length:=(List.getElem?_eq_some_iff.mp h).1
 have e:ixN xs.length (j:Int)=some j:=by
  unfold ixN
  rw [if_pos (by omega),if_pos (by omega)]; simp
 unfold atI; rw [e]; exact h
def Zmm (b:Expr):Prop:=∀ o i,subscripted b false o i=operate [o,i] (getItem o i)
def IxR (X:Cx) (r:R2):Prop:=
 ∀ (value slice:Expr) (pins:List (Addr×Obj)) (s:Shared) (σ:St) (H:Hp) (x y:V) (v u:Value) (Q:VK),Inv X pins σ H s→RelV x v→RelV y u→r x y H Q →
  subscripted slice false v u=operate [v,u] (getItem v u)→wpAny (model X.prog X.w) X.A (subscriptTail value slice v u) (EP X pins σ Q) X.xe s
def MtR (X:Cx) (id:String) (r:V→List V→Hp→VK→Prop):Prop:=
 ∀ (pins:List (Addr×Obj)) (s:Shared) (σ:St) (H:Hp) (x:V) (xs:List V) (v:Value) (us:List Value) (Q:VK),Inv X pins σ H s→RelV x v→Vals xs us→r x xs H Q →
  wpAny (model X.prog X.w) X.A (call (.builtin id) (v::us)) (EP X pins σ Q) X.xe s
section
variable {X:Cx} {a b:Expr} {ta tb:TE} {pos:Pos}
theorem IxR.or {r r':R2} (h:IxR X r) (h':IxR X r'):IxR X (fun x y H Q=>r x y H Q∨r' x y H Q):=by
 intro value slice pins s σ H x y v u Q I rx ry q hs
 rcases q with q | q
 ·exact h value slice pins s σ H x y v u Q I rx ry q hs
 ·exact h' value slice pins s σ H x y v u Q I rx ry q hs
theorem MtR.or {id:String} {r r':V→List V→Hp→VK→Prop} (h:MtR X id r) (h':MtR X id r'):MtR X id (fun x xs H Q=>r x xs H Q∨r' x xs H Q):=by
 intro pins s σ H x xs v us Q I rx rs q
 rcases q with q | q
 ·exact h pins s σ H x xs v us Q I rx rs q
 ·exact h' pins s σ H x xs v us Q I rx rs q
theorem ZbB {r:R2} (hr:IxR X r) (ha:PE X a ta) (hb:PE X b tb) (hs:Zmm b):PE X (.Subscript a b pos) (tOp r ta tb):=by
 intro pins s σ H Q I h
 exact Subscript_ (ZoE ha hb I h fun v u s2 x y H2 I2 rx ry q=>hr a b pins s2 σ H2 x y v u Q I2 rx ry q (hs _ _))
def Zpf (K:PySem.W.Frag):R2:=fun x y H Q=>∃ p xs i v,x = .ref p∧y = .int i∧SqL K H p xs∧atI xs i=some v∧Q v H
def Zpg (K:PySem.W.Frag):R2:=fun x y H Q=>∃ p xs i v,x = .ref p∧y = .int i∧SqT K H p xs∧atI xs i=some v∧Q v H
def rIxS:R2:=fun x y H Q=>∃ z i c,x = .str z∧y = .int i∧z.length≤sizeLine∧atI z.cps.toList i=some c∧Q (.str ⟨#[c]⟩) H
theorem Zbq:IxR X (Zpf X.K):=by
 intro value slice pins s σ H x y v u Q I rx ry h hs
 obtain ⟨p,xs,i,z,rfl,rfl,hq,he,q⟩:=h
 cases rx
 obtain ⟨t,rfl⟩:=ry
 obtain ⟨its,r,pl,hz⟩:=I.list hq
 obtain ⟨j,h1,h2,h3,h4,h5⟩:=ZgM he
 obtain ⟨w,ew,rw'⟩:=r.get h2
 have hl:=r.length
 have hn:=Zhn
 have fin:EP X pins σ Q w s:=⟨z,H,I,rw',q⟩
 by_cases h0:0≤i
 ·have hj:i.toNat=j:=by
   rw [seqIndex_of h0 h5] at h1
   exact Option.some.inj h1
  exact item_listR pl.isList h0 (by omega) (by rw [hj]; simpa using ew) fin hs
 ·have hj:(i+(its.toArray.size:Int)).toNat=j:=by
   rw [seqIndex_neg (by omega) h4] at h1
   rw [List.size_toArray,← hl]
   exact Option.some.inj h1
  exact subscriptTail_builtinR (x:=w) pl.isList.typeIs slot_list_getitem.lookup
   (wpAny_getItem_list_neg (Q:=fun r s'=>r=w∧EP X pins σ Q r s') pl.isList (by omega) (by rw [List.size_toArray]<;>omega) (by omega) (by rw [hj]; simpa using ew) ⟨rfl,fin⟩) hs
theorem ZcP:IxR X (Zpg X.K):=by
 intro value slice pins s σ H x y v u Q I rx ry h hs
 obtain ⟨p,xs,i,z,rfl,rfl,hq,he,q⟩:=h
 cases rx
 obtain ⟨t,rfl⟩:=ry
 obtain ⟨its,r,pl,hz⟩:=I.tuple hq
 obtain ⟨j,h1,h2,h3,h4,h5⟩:=ZgM he
 obtain ⟨w,ew,rw'⟩:=r.get h2
 have hl:=r.length
 have hn:=Zhn
 have fin:EP X pins σ Q w s:=⟨z,H,I,rw',q⟩
 exact subscriptTail_builtinR (x:=w) pl.typeIs slot_tuple_getitem.lookup
  (getItem_tuple (j:=j) (Q:=fun r s'=>r=w∧EP X pins σ Q r s') pl (by omega) (by omega) (by rw [List.size_toArray,← hl]; exact h1) (by simpa using ew) ⟨rfl,fin⟩) hs
theorem ZnA:IxR X rIxS:=by
 intro value slice pins s σ H x y v u Q I rx ry h hs
 obtain ⟨z,i,c,rfl,rfl,hz,he,q⟩:=h
 obtain ⟨t,rfl⟩:=rx
 obtain ⟨t',rfl⟩:=ry
 obtain ⟨j,h1,h2,h3,h4,h5⟩:=ZgM he
 have hl:z.cps.toList.length=z.length:=by simp [Str.length]
 rw [hl] at h1 h4 h5
 have hn:=Zhn
 exact tail_any (typeIs_str s z t) slot_str_getitem.lookup (getItem_str (c:=c) (by
  have e1:decide (i < -(2^63:Int))=false:=decide_eq_false (by omega)
  have e2:decide (i≥2^63)=false:=decide_eq_false (by omega)
  rw [e1,e2,Bool.or_false]) (by rw [h1]; simpa using h2) ⟨.str ⟨#[c]⟩,H,I.tok _,⟨_,rfl⟩,q⟩) hs
theorem Inv.lst {pins:List (Addr×Obj)} {σ:St} {H:Hp} {s:Shared} {p:Addr} {xs:List V} (I:Inv X pins σ H s) (h:H p=some (.lst xs)):
  ∃ (its:List Value) (n:Nat),Vals xs its∧s.heap.get? p=some { cls:=.type "list",data:=.seq its.toArray n }∧xs.length≤sizeLine:=by
 obtain ⟨z,its,n,r,e⟩:=I.hok p _ h
 exact ⟨its,n,r,e,z⟩
theorem ZfT (lo hi:Option Int) (n:Nat):(sliceBounds lo hi none n).1=((HT.sIx n 0 lo:Nat):Int)∧(sliceBounds lo hi none n).2.1=((HT.sIx n n hi:Nat):Int)∧(sliceBounds lo hi none n).2.2=1:=by
 refine ⟨?_,?_,rfl⟩
 ·cases lo with
  | none=>simp [sliceBounds,HT.sIx]
  | some i=>
   simp only [sliceBounds,HT.sIx,Option.getD_none,show (1:Int)>0 by decide,if_true]
   by_cases h:i<0
   ·simp only [h,if_true]<;>omega
   ·simp only [h,if_false]<;>omega
 ·cases hi with
  | none=>simp [sliceBounds,HT.sIx]
  | some i=>
   simp only [sliceBounds,HT.sIx,Option.getD_none,show (1:Int)>0 by decide,if_true]
   by_cases h:i<0
   ·simp only [h,if_true]<;>omega
   ·simp only [h,if_false]<;>omega
theorem Zfn (its:List Value) (lo hi:Option Int):slicePick its.toArray lo hi none=((its.drop (HT.sIx its.length 0 lo)).take (HT.sIx its.length its.length hi-HT.sIx its.length 0 lo)).toArray:=by
 obtain ⟨h1,h2,h3⟩:=ZfT lo hi its.toArray.size
 unfold slicePick
 rw [h1,h2,h3]
 simp only [sliceRange_one,pick_run,List.size_toArray]<;>rfl
def rSlL (K:PySem.W.Frag):V→Option Int→Option Int→Hp→VK→Prop:=fun x lo hi H Q=>∃ a xs,x = .ref a∧SqL K H a xs∧∀ p,H p=none→Q (.ref p) (upd H p (.lst (Zni xs lo hi)))
theorem ZiZ:SlR X (rSlL X.K):=by
 intro pins s σ H x v vl vu lo hi sl Q I rx hs pl pu h
 obtain ⟨a,xs,rfl,hx,q⟩:=h
 cases rx
 obtain ⟨its,r,ht,hz⟩:=I.list hx
 have hlen:=r.length
 refine ⟨"list",_,slot_list_getitem.lookup,ht.isList.typeIs,?_⟩
 refine wpAny_getItem_list_slice ht.isList hs pl pu .none (by simp) ?_ (by rw [List.size_toArray]<;>omega)
 rw [Zfn,← hlen]
 refine ⟨.ref s.heap.objs.size,_,I.laid (t':=s.toks) (o:=.lst (Zni xs lo hi)) (fun b ob q=>Heap.get?_push_of_some _ q) (Nat.le_refl _) ?_,rfl,q _ (I.hok.fresh (Nat.le_refl _))⟩
 exact ⟨Nat.le_trans (ZgL xs lo hi) hz,_,0,(r.drop (HT.sIx xs.length 0 lo)).take (HT.sIx xs.length xs.length hi-HT.sIx xs.length 0 lo),Heap.get?_push_size _ rfl⟩
def Zex:V→Bool
 | .non=>true
 | .bl _=>true
 | .int _=>true
 | .str _=>true
 | _=>false
def eqV:V→V→Bool
 | .non,.non=>true
 | .bl a,.bl b=>a==b
 | .bl a,.int b=>(if a then 1 else 0)==b
 | .int a,.bl b=>a==(if b then 1 else 0)
 | .int a,.int b=>a==b
 | .str a,.str b=>a==b
 | _,_=>false
theorem ZnB {A:Around} {s:Shared} {y x:V} {u v:Value} (ry:RelV y u) (rx:RelV x v) (fy:Zex y=true) (fx:Zex x=true):SeqAt.EqAt A s u v (eqV y x):=by
 cases y with
 | non=>
  cases ry
  cases x with
  | non=>cases rx; exact SeqAt.EqAt.same _
  | bl b=>cases rx; exact SeqAt.EqAt.none_bool b
  | int b=>obtain ⟨t,rfl⟩:=rx; exact SeqAt.EqAt.none_int b t
  | str b=>obtain ⟨t,rfl⟩:=rx; exact SeqAt.EqAt.none_str b t
  | _=>exact absurd (show false=true from fx) Bool.false_ne_true
 | bl a=>
  cases ry
  cases x with
  | non=>cases rx; exact SeqAt.EqAt.bool_none a
  | bl b=>cases rx; exact SeqAt.EqAt.bool_bool a b
  | int b=>obtain ⟨t,rfl⟩:=rx; exact SeqAt.EqAt.bool_int a b t
  | str b=>obtain ⟨t,rfl⟩:=rx; exact SeqAt.EqAt.bool_str a b t
  | _=>exact absurd (show false=true from fx) Bool.false_ne_true
 | int a=>
  obtain ⟨t',rfl⟩:=ry
  cases x with
  | non=>cases rx; exact SeqAt.EqAt.int_none a t'
  | bl b=>cases rx; exact SeqAt.EqAt.int_bool a t' b
  | int b=>obtain ⟨t,rfl⟩:=rx; exact SeqAt.EqAt.int_int a t' b t
  | str b=>obtain ⟨t,rfl⟩:=rx; exact SeqAt.EqAt.int_str a t' b t
  | _=>exact absurd (show false=true from fx) Bool.false_ne_true
 | str a=>
  obtain ⟨t',rfl⟩:=ry
  cases x with
  | non=>cases rx; exact SeqAt.EqAt.str_none a t'
  | bl b=>cases rx; exact SeqAt.EqAt.str_bool a t' b
  | int b=>obtain ⟨t,rfl⟩:=rx; exact SeqAt.EqAt.str_int a t' b t
  | str b=>obtain ⟨t,rfl⟩:=rx; exact SeqAt.EqAt.str_str a t' b t
  | _=>exact absurd (show false=true from fx) Bool.false_ne_true
 | _=>exact absurd (show false=true from fy) Bool.false_ne_true
def eqU (x:V) (u:Value):Bool:=match u with
 | .none=>eqV .non x
 | .bool b=>eqV (.bl b) x
 | .int i _=>eqV (.int i) x
 | .str z _=>eqV (.str z) x
 | _=>false
theorem ZlQ {x y:V} {u:Value} (r:RelV y u) (f:Zex y=true):eqU x u=eqV y x:=by
 cases y with
 | non=>cases r; rfl
 | bl b=>cases r; rfl
 | int i=>obtain ⟨t,rfl⟩:=r; rfl
 | str z=>obtain ⟨t,rfl⟩:=r; rfl
 | _=>exact absurd (show false=true from f) Bool.false_ne_true
theorem ZgN {x:V}:∀ {xs:List V} {us:List Value},Vals xs us→xs.all Zex=true→us.any (eqU x)=xs.any fun y=>eqV y x
 | _,_,.nil,_=>rfl
 | y::xs,u::us,.cons r t,f=>by
  rw [List.all_cons,Bool.and_eq_true] at f
  rw [List.any_cons,List.any_cons,ZlQ r f.1,ZgN t f.2]
theorem Zfo {A:Around} {s:Shared} {x:V} {v:Value} (rx:RelV x v) (fx:Zex x=true):∀ {xs:List V} {us:List Value},Vals xs us→xs.all Zex=true→∀ u∈us,SeqAt.EqAt A s u v (eqU x u)
 | _,_,.nil,_=>fun u hu=>by cases hu
 | y::xs,u::us,.cons r t,f=>fun u' hu=>by
  rw [List.all_cons,Bool.and_eq_true] at f
  rcases List.mem_cons.mp hu with rfl | hu
  ·rw [ZlQ r f.1]; exact ZnB r rx f.1 fx
  ·exact Zfo rx fx t f.2 u' hu
def inV (x:V) (xs:List V):Bool:=xs.any fun y=>eqV y x
def rIn (K:PySem.W.Frag) (neg:Bool):R2:=fun x y H Q=>∃ p xs,y = .ref p∧(SqL K H p xs∨SqT K H p xs)∧Zex x=true∧xs.all Zex=true∧Q (.bl (if neg then !inV x xs else inV x xs)) H
theorem Zbg:OpR X (compareOp .In) (rIn X.K false):=by
 intro pins s σ H x y v u Q I rx ry h
 obtain ⟨p,xs,rfl,hq,fx,fs,q⟩:=h
 cases ry
 rcases hq with hq | hq
 ·obtain ⟨its,r,pl,hz⟩:=I.list hq
  refine SeqAt.in_listAt (eqU x) pl.isList (fun w hw=>Zfo rx fx r fs w (by simpa using hw)) ⟨.bl _,H,I,rfl,?_⟩
  rw [show its.toArray.any (eqU x)=its.any (eqU x) by simp,ZgN r fs]
  exact q
 ·obtain ⟨its,r,pl,hz⟩:=I.tuple hq
  refine SeqAt.in_tupleAt (eqU x) pl (fun w hw=>Zfo rx fx r fs w (by simpa using hw)) ⟨.bl _,H,I,rfl,?_⟩
  rw [show its.toArray.any (eqU x)=its.any (eqU x) by simp,ZgN r fs]
  exact q
theorem ZaC:CallR X (.builtin "len") (fun xs H Q=>∃ p ys,xs=[.ref p]∧(SqL X.K H p ys∨SqT X.K H p ys)∧Q (.int ys.length) H):=by
 intro pins s σ H xs us Q I r h
 obtain ⟨p,ys,rfl,hq,q⟩:=h
 obtain ⟨u,rfl,rx⟩:=ZkE r
 cases rx
 have hn:=Zhn
 rcases hq with hq | hq
 ·obtain ⟨its,r',pl,hz⟩:=I.list hq
  have hlen:=r'.length
  exact Calls.call_len_list pl.isList (by simp only [List.size_toArray]<;>omega) ⟨.int ys.length,H,I.tok _,⟨s.toks+1,by rw [List.size_toArray,hlen]⟩,q⟩
 ·obtain ⟨its,r',pl,hz⟩:=I.tuple hq
  have hlen:=r'.length
  exact len_tuple pl (by simp only [List.size_toArray]<;>omega) ⟨.int ys.length,H,I.tok _,⟨s.toks+1,by rw [List.size_toArray,hlen]⟩,q⟩
theorem CallR.or {f:Value} {r r':List V→Hp→VK→Prop} (h:CallR X f r) (h':CallR X f r'):CallR X f (fun xs H Q=>r xs H Q∨r' xs H Q):=by
 intro pins s σ H xs us Q I rs q
 rcases q with q | q
 ·exact h pins s σ H xs us Q I rs q
 ·exact h' pins s σ H xs us Q I rs q
def tyV (K:PySem.W.Frag) (T:String) (x:V) (H:Hp):Prop:=match x with
 | .str _=>T="str"
 | .int _=>T="int"
 | .ref p=>(T="list"∧∃ xs,SqL K H p xs)∨(T="tuple"∧∃ o,K.lookup p=some o∧o.cls = .type "tuple"∧o.dict=none) ∨
   (T="dict"∧((∃ kvs,H p=some (.dK kvs))∨∃ kvs,H p=some (.dT kvs)))∨(T="set"∧∃ S n,H p=some (.set S n))
 | _=>False
theorem ZlR {pins:List (Addr×Obj)} {σ:St} {H:Hp} {s:Shared} {T:String} {x:V} {v:Value} (I:Inv X pins σ H s) (r:RelV x v) (ty:tyV X.K T x H):
  s.TypeIs v T∧∀ a,v = .ref a→∃ ob,s.heap.get? a=some ob∧ob.dict=none:=by
 cases x with
 | str z=>
  obtain ⟨t,rfl⟩:=r
  cases (show T="str" from ty)
  exact ⟨typeIs_str s z t,fun _ e=>nomatch e⟩
 | int i=>
  obtain ⟨t,rfl⟩:=r
  cases (show T="int" from ty)
  exact ⟨typeIs_int s i t,fun _ e=>nomatch e⟩
 | ref p=>
  cases r
  rcases ty with ⟨rfl,xs,hq⟩ | ⟨rfl,o,hk,hc,hd⟩ | ⟨rfl,hk⟩ | ⟨rfl,S,n,hk⟩
  ·obtain ⟨its,_,pl,_⟩:=I.list hq
   refine ⟨pl.isList.typeIs,fun a e=>?_⟩
   cases e
   obtain ⟨o,n,e,c,hd,_⟩:=pl
   exact ⟨o,e,hd⟩
  ·refine ⟨⟨o,I.kIn p o hk,hc⟩,fun a e=>?_⟩
   cases e
   exact ⟨o,I.kIn _ o hk,hd⟩
  ·have z:∃ o,s.heap.get? p=some o∧o.ExactDict:=by
    rcases hk with ⟨kvs,hk⟩ | ⟨kvs,hk⟩
    ·obtain ⟨_,_,_,_,o,_,_,e,ex,_⟩:=I.hok p _ hk
     exact ⟨o,e,ex⟩
    ·obtain ⟨_,_,_,_,o,_,_,e,ex,_⟩:=I.hok p _ hk
     exact ⟨o,e,ex⟩
   obtain ⟨o,e,ex⟩:=z
   refine ⟨⟨o,e,ex.1⟩,fun a e2=>?_⟩
   cases e2
   exact ⟨o,e,ex.2.1⟩
  ·obtain ⟨o,_,_,_,e,ex,_⟩:=I.hok p _ hk
   refine ⟨⟨o,e,ex.1⟩,fun a e2=>?_⟩
   cases e2
   exact ⟨o,e,ex.2.1⟩
 | _=>exact False.elim ty
def tBM0 (K:PySem.W.Frag) (T:String) (r:V→List V→Hp→VK→Prop) (to:TE):TE:=fun σ H Q=>to σ H fun x H1=>tyV K T x H1∧r x [] H1 Q
def tBM (K:PySem.W.Frag) (T:String) (r:V→List V→Hp→VK→Prop) (to:TE) (t:TA):TE:=fun σ H Q=>to σ H fun x H1=>tyV K T x H1∧t σ H1 fun xs H2=>r x xs H2 Q
variable {o e:Expr} {es:List Expr} {to:TE} {t:TA} {name:Str} {apos cpos:Pos} {T id:String} {r:V→List V→Hp→VK→Prop}
theorem Zi0 (pa:PlainAttrs T) (slot:Slot T name id) (hty:typeOf (.builtin id)=pure (.type "method_descriptor")) (hm:MtR X id r) (ho:PE X o to)
  (hbase:attributeBase o name X.env (eval o X.env)=eval o X.env:=by rfl) (hline:(apos.endLine==cpos.line)=true:=by rfl):PE X (.Call (.Attribute o name apos) [] [] cpos) (tBM0 X.K T r to):=by
 intro pins s σ H Q I h
 refine wpAny_Call_method0_late hbase hline (thn (ho pins s σ H _ I h) fun v s1 ⟨x,H1,I1,r1,ty,q1⟩=>?_)
 obtain ⟨h1,h2⟩:=ZlR I1 r1 ty
 exact ⟨T,id,pa,slot,hty,h1,h2,Calls.callWith_builtin rfl (PySem.evalArgs_none (hm pins s1 σ H1 x [] v [] Q I1 r1 .nil q1))⟩
theorem Zcv (pa:PlainAttrs T) (slot:Slot T name id) (hty:typeOf (.builtin id)=pure (.type "method_descriptor")) (hm:MtR X id r) (ho:PE X o to) (ha:PA X (e::es) t)
  (hbase:attributeBase o name X.env (eval o X.env)=eval o X.env:=by rfl)
  (hfew:((backTo cpos (starEach (e::es) X.env)).all (fun x=>!x.1)&&(backToKw cpos (keywordEach [] X.env)).all (fun x=>x.1.isSome)
   && decide ((e::es).length+([]:List Keyword).length+(if ([]:List Keyword).isEmpty then 0 else 1)<30))=true:=by rfl)
  (hline:(apos.endLine==cpos.line)=true:=by rfl) (hs:starEach (e::es) X.env=(false,eval e X.env)::starEach es X.env:=by rfl) (hplain:(backTo cpos (starEach es X.env)).any (·.1)=false:=by rfl):
  PE X (.Call (.Attribute o name apos) (e::es) [] cpos) (tBM X.K T r to t):=by
 intro pins s σ H Q I h
 refine wpAny_Call_method_late hbase hfew hline rfl (thn (ho pins s σ H _ I h) fun v s1 ⟨x,H1,I1,r1,ty,q1⟩=>?_)
 obtain ⟨h1,h2⟩:=ZlR I1 r1 ty
 refine ⟨T,id,pa,slot,hty,h1,h2,?_⟩
 have hA:=ha cpos pins s1 σ H1 _ I1 q1
 rw [hs] at hA ⊢
 refine Calls.callWith_builtin (by show (false||(backTo cpos (starEach es X.env)).any (·.1))=false; rw [hplain]<;>rfl) (Calls.evalArgs_plain ?_)
 exact thn hA fun us s2 ⟨vs,H2,I2,r2,q2⟩=>hm pins s2 σ H2 x vs v us Q I2 r1 r2 q2
end
end L2
namespace L2
open PySem PySem.Spec PyProof.Rows
def MtM (X:Cx) (id:String) (r:V→List V→Hp→VK→Prop):Prop:=
 ∀ (pins:List (Addr×Obj)) (s:Shared) (σ:St) (H:Hp) (x:V) (xs:List V) (v:Value) (us:List Value) (Q:VK),Inv X pins σ H s→RelV x v→Vals xs us→r x xs H Q →
  wpAny (model X.prog X.w) X.A (call (.builtin id) (v::us)) (EP X pins σ Q) X.xe s
theorem Vals.one:∀ {x:V} {us:List Value},Vals [x] us→∃ u,us=[u]∧RelV x u
 | _,_,.cons r .nil=>⟨_,rfl,r⟩
theorem Vals.two:∀ {x y:V} {us:List Value},Vals [x,y] us→∃ u v,us=[u,v]∧RelV x u∧RelV y v
 | _,_,_,.cons r (.cons q .nil)=>⟨_,_,rfl,r,q⟩
theorem Vals.zero:∀ {us:List Value},Vals [] us→us=[]
 | _,.nil=>rfl
theorem Vals.dropLast {xs:List V} {us:List Value} (h:Vals xs us):Vals xs.dropLast us.dropLast:=by
 induction h with
 | nil=>exact .nil
 | cons r t ih=>
  cases t with
  | nil=>exact .nil
  | cons q t'=>exact .cons r ih
theorem Vals.eraseIdx:∀ {xs:List V} {us:List Value} (i:Nat),Vals xs us→Vals (xs.eraseIdx i) (us.eraseIdx i)
 | _,_,_,.nil=>.nil
 | _,_,0,.cons _ t=>t
 | _,_,i+1,.cons r t=>.cons r (Vals.eraseIdx i t)
theorem Zh4 {α:Type} (l:List α):l.eraseIdx (l.length-1)=l.dropLast:=by
 induction l with
 | nil=>rfl
 | cons a r ih=>
  cases r with
  | nil=>rfl
  | cons b r=>
   have e:(a::b::r).length-1=((b::r).length-1)+1:=by
    have h1:(a::b::r).length=r.length+2:=rfl
    have h2:(b::r).length=r.length+1:=rfl
    omega
   rw [e,List.eraseIdx_cons_succ,ih]
   all_goals rfl
section
variable {X:Cx} {pins:List (Addr×Obj)} {σ:St} {H:Hp} {s:Shared} {l b:Addr} {xs ys zs:List V}
theorem Inv.lset {its its':List Value} {n:Nat} {f:Array Value→Array Value} {t':Nat} (I:Inv X pins σ H s) (hH:H l=some (.lst xs))
  (e:s.heap.get? l=some { cls:=.type "list",data:=.seq its.toArray n }) (hf:f its.toArray=its'.toArray) (hv:Vals ys its') (hz:ys.length≤sizeLine):
  Inv X pins σ (upd H l (.lst ys)) { s with heap:=s.heap.update l (Obj.mapSeq f),toks:=t' }:=by
 have q:=PySem.IsL.update e f
 rw [hf] at q
 refine I.write (x:=l) (e:=l) (by rw [hH]; exact trivial) (.inl rfl) (fun b' u hb hu=>(Heap.get?_update_other s.heap (Obj.mapSeq f) (Ne.symm hb)).trans hu) ⟨_,q⟩ ?_
 exact ⟨hz,its',_,hv,q⟩
theorem Inv.lnew {its:List Value} {t':Nat} (I:Inv X pins σ H s) (hv:Vals ys its) (hz:ys.length≤sizeLine):
  Inv X pins σ (upd H s.heap.objs.size (.lst ys)) { s with heap:=s.heap.push { cls:=.type "list",data:=.seq its.toArray },toks:=t' }:=
 I.laid (fun _ _ q=>Heap.get?_push_of_some _ q) (Nat.le_refl _) ⟨hz,its,0,hv,Heap.get?_push_size _ rfl⟩
theorem Inv.fresh (I:Inv X pins σ H s):H s.heap.objs.size=none:=I.hok.fresh (Nat.le_refl _)
theorem Inv.lstM (I:Inv X pins σ H s) (hH:H l=some (.lst xs)):xs.length≤sizeLine∧∃ (its:List Value) (n:Nat),Vals xs its∧xs.length=its.length∧s.heap.get? l=some { cls:=.type "list",data:=.seq its.toArray n }:=by
 obtain ⟨z,its,n,r,e⟩:=I.hok l _ hH
 exact ⟨z,its,n,r,r.length,e⟩
theorem ZkI {n:Nat} (h:n≤sizeLine):Builtin.List.listTooLong n=false:=by
 unfold Builtin.List.listTooLong
 exact decide_eq_false (by omega)
end
section
variable {X:Cx}
def rAppend:V→List V→Hp→VK→Prop:=fun x vs H Q=>∃ l xs y,x = .ref l∧vs=[y]∧H l=some (.lst xs)∧xs.length<sizeLine∧Q .non (upd H l (.lst (xs++[y])))
theorem ZaW:MtM X "list.append" rAppend:=by
 intro pins s σ H x vs v us Q I rx rv h
 obtain ⟨l,xs,y,rfl,rfl,hH,hz,q⟩:=h
 cases rx
 obtain ⟨u,rfl,ru⟩:=rv.one
 obtain ⟨z,its,n,r,hl,e⟩:=I.lstM hH
 refine call_meets F.slot_list_append ⟨_,e,rfl⟩ F.entry_list_append (F.args_list_append_2 _ _) (PySem.list_append l its.toArray n u (by rw [List.size_toArray]; omega)) ⟨e,?_⟩
 refine ⟨.non,_,I.lset (its':=its++[u]) hH e (by simp) (r.append (.cons ru .nil)) ?_,rfl,q⟩
 rw [List.length_append,List.length_singleton]
 omega
def rExtend:V→List V→Hp→VK→Prop:=fun x vs H Q=>∃ l b xs zs,x = .ref l∧vs=[.ref b]∧H l=some (.lst xs)∧H b=some (.lst zs)∧xs.length+zs.length≤sizeLine∧Q .non (upd H l (.lst (xs++zs)))
theorem Zi1:MtM X "list.extend" rExtend:=by
 intro pins s σ H x vs v us Q I rx rv h
 obtain ⟨l,b,xs,zs,rfl,rfl,hH,hB,hz,q⟩:=h
 cases rx
 obtain ⟨u,rfl,ru⟩:=rv.one
 cases ru
 obtain ⟨z,its,n,r,hl,e⟩:=I.lstM hH
 obtain ⟨z2,its2,n2,r2,hl2,e2⟩:=I.lstM hB
 have hsz:its.toArray.size+its2.toArray.size≤sizeLine:=by rw [List.size_toArray,List.size_toArray]; omega
 have hlong:¬ (!its.toArray.isEmpty&&Builtin.List.listTooLong (its.toArray.size+its2.toArray.size))=true:=by
  rw [ZkI hsz,Bool.and_false]
  exact Bool.false_ne_true
 refine call_meets F.slot_list_extend ⟨_,e,rfl⟩ F.entry_list_extend (F.args_list_extend_2 _ _)
  (AutoSeq1.list_extend_list_list_0 l its.toArray n b its2.toArray n2 hlong (by rw [List.size_toArray]; omega) (by omega)) ⟨e,e2,?_⟩
 refine ⟨.non,_,I.lset (its':=its++its2) hH e (by simp) (r.append r2) ?_,rfl,q⟩
 rw [List.length_append]
 omega
def rPop:V→List V→Hp→VK→Prop:=fun x vs H Q=>∃ l xs y,x = .ref l∧vs=[]∧H l=some (.lst xs)∧xs[xs.length-1]? = some y∧Q y (upd H l (.lst xs.dropLast))
theorem ZlS:MtM X "list.pop" rPop:=by
 intro pins s σ H x vs v us Q I rx rv h
 obtain ⟨l,xs,y,rfl,rfl,hH,hy,q⟩:=h
 cases rx
 have hus:=rv.zero
 subst hus
 obtain ⟨z,its,n,r,hl,e⟩:=I.lstM hH
 obtain ⟨u,hu,ru⟩:=r.get hy
 have hy':its.toArray[its.toArray.size-1]? = some u:=by
  show its.toArray[its.length-1]? = some u
  rw [← Array.getElem?_toList,← hl]
  exact hu
 refine call_meets F.slot_list_pop ⟨_,e,rfl⟩ F.entry_list_pop (F.args_list_pop_1 _) (MeetsSeq.list_pop_last l its.toArray n u hy' (by rw [List.size_toArray]; omega)) ⟨e,?_⟩
 refine ⟨y,_,I.lset (its':=its.dropLast) hH e ?_ r.dropLast ?_,ru,q⟩
 ·show its.toArray.eraseIdxIfInBounds (its.toArray.size-1)=its.dropLast.toArray
  rw [List.size_toArray,List.eraseIdxIfInBounds_toArray,Zh4]
 ·rw [List.length_dropLast]
  omega
def rCat:R2:=fun x y H Q=>∃ l b xs zs,x = .ref l∧y = .ref b∧H l=some (.lst xs)∧H b=some (.lst zs)∧xs.length+zs.length≤sizeLine∧∀ p,H p=none→Q (.ref p) (upd H p (.lst (xs++zs)))
theorem Zhq:OpR X (binaryOp .Add) rCat:=by
 intro pins s σ H x y v u Q I rx ry h
 obtain ⟨l,b,xs,zs,rfl,rfl,hH,hB,hz,q⟩:=h
 cases rx
 cases ry
 obtain ⟨z,its,n,r,hl,e⟩:=I.lstM hH
 obtain ⟨z2,its2,n2,r2,hl2,e2⟩:=I.lstM hB
 refine PySem.P.add_list e e2 ?_ (by rw [List.size_toArray,List.size_toArray]; omega)
 have ea:its.toArray++its2.toArray=(its++its2).toArray:=by simp
 rw [ea]
 exact ⟨.ref _,_,I.lnew (t':=s.toks) (r.append r2) (by rw [List.length_append]; omega),rfl,q _ I.fresh⟩
end
section
variable {prog:Program} {w:World} {A:Around} {E:Value→Shared→Prop} {s:Shared}
end
section
variable {X:Cx}
end
end L2
namespace L2
open PySem PySem.Spec PyProof.Rows
theorem Vals.ints:∀ {ns:List Int} {us:List Value},Vals (ns.map V.int) us→IntsAre us ns
 | [],us,h=>by
  rw [List.map_nil] at h
  cases h
  exact IntsAre.nil
 | n::ns,us,h=>by
  rw [List.map_cons] at h
  cases h with
  | cons r t=>
   obtain ⟨k,rfl⟩:=r
   exact IntsAre.cons n k (Vals.ints t)
theorem Zdy:∀ {us:List Value} {ns:List Int},IntsAre us ns→Vals (ns.map V.int) us
 | _,_,.nil=>by rw [List.map_nil]; exact Paired.nil
 | _,_,.cons n t h=>by rw [List.map_cons]; exact Paired.cons (show RelV (V.int n) (Value.int n t) from ⟨t,rfl⟩) (Zdy h)
theorem Vals.strs:∀ {xs:List Str} {us:List Value},Vals (xs.map V.str) us→StrsAre us xs
 | [],us,h=>by
  rw [List.map_nil] at h
  cases h
  exact StrsAre.nil
 | x::xs,us,h=>by
  rw [List.map_cons] at h
  cases h with
  | cons r t=>
   obtain ⟨k,rfl⟩:=r
   exact StrsAre.cons x k (Vals.strs t)
theorem Vals.bls:∀ {bs:List Bool} {us:List Value},Vals (bs.map V.bl) us→us=bs.map Value.bool
 | [],us,h=>by
  rw [List.map_nil] at h
  cases h
  rfl
 | b::bs,us,h=>by
  rw [List.map_cons] at h
  cases h with
  | cons r t=>
   cases r
   rw [Vals.bls t,List.map_cons]
theorem Vals.ref1 {a:Addr} {us:List Value} (r:Vals [V.ref a] us):us=[Value.ref a]:=by
 cases r with
 | cons r t=>
  cases t
  cases r
  rfl
section
variable {prog:Program} {w:World} {A:Around} {E:Value→Shared→Prop} {s:Shared} {l:Addr} {its:List Value} {ns:List Int} {Q:Value→Shared→Prop}
theorem Zmn (hh:A.handled=none) (hl:s.heap.IsList l its.toArray) (hi:IntsAre its ns) (hne:0<ns.length)
  (h:∀ h' tk M t',(∀ b o,s.heap.get? b=some o→h'.get? b=some o)→M∈ns→(∀ a,a∈ns→M≤a)→Q (.int M t') { s with heap:=h',toks:=tk }):wpAny (model prog w) A (call (.builtin "min") [.ref l]) Q E s:=by
 obtain ⟨xs,e⟩:=hi.allInts.items
 have hn:numsOf (intItems xs).toList=ns:=by rw [← e]; exact hi.numsOf
 rw [nums_intItems] at hn
 subst hn
 rw [e] at hl
 have hsz:0<xs.size:=by simpa using hne
 refine PySem.min_intList hh hl hsz fun v h' tk hv hk=>?_
 obtain ⟨t,rfl⟩:=intItems_at hv
 obtain ⟨h1,h2⟩:=argBest_lt (numAt xs) (xs.size-1)
 refine h h' tk _ t hk ?_ fun a ha=>?_
 ·rw [numAt_eq]; exact PySem.getD_mem (by rw [List.length_map,Array.length_toList]; omega)
 ·obtain ⟨j,hj,rfl⟩:=mem_getD ha
  rw [List.length_map,Array.length_toList] at hj
  rw [← numAt_eq]; exact h2 j (by omega)
end
section
variable {X:Cx}
def rMin (K:PySem.W.Frag):List V→Hp→VK→Prop:=fun vs H Q=>∃ (a:Addr) (ns:List Int),vs=[V.ref a]∧SqL K H a (ns.map V.int)∧0<ns.length∧∀ m,m∈ns→(∀ y,y∈ns→m≤y)→Q (.int m) H
theorem ZnC (hc:X.calm=true):CallR X (.builtin "min") (rMin X.K):=by
 intro pins s σ H vs us Q I r h
 obtain ⟨a,ns,rfl,hs,hne,q⟩:=h
 obtain ⟨its,rv,hl,_⟩:=I.list hs
 rw [Vals.ref1 r]
 exact Zmn (I.ok.hd hc) hl.isList rv.ints hne fun h' tk m t' hk h1 h2=>⟨.int _,H,I.kept hk,⟨_,rfl⟩,q m h1 h2⟩
end
section
variable {X:Cx}
end
section
variable {X:Cx}
end
theorem ZkJ {prog:Program} {w:World} {A:Around} {E:Value→Shared→Prop} {s:Shared} {l:Addr} {items:Array Value} {Q:Value→Shared→Prop} (hl:s.heap.IsList l items)
  (h:∀ s₂:Shared,s₂={ s with heap:=s.heap.push { cls:=.type "list_iterator",data:=.fields #[.ref l,.int 0 0] } } →
   (s₂.heap.IsListIter s.heap.objs.size l 0∧s₂.heap.IsList l items)→l≠s.heap.objs.size→Q (.ref s.heap.objs.size) s₂):wpAny (model prog w) A (pyIter (.ref l)) Q E s:=by
 have hlt:l<s.heap.objs.size:=by obtain ⟨_,e,_⟩:=hl; exact Heap.lt_size e
 exact wpAny_pyIter_list hl (h _ rfl ⟨⟨_,Heap.get?_push_size _ rfl,rfl,rfl⟩,hl.push _⟩ (Nat.ne_of_lt hlt))
theorem ZgO {prog:Program} {w:World} {A:Around} {bs:List Bool} {its:List Value} (e:its=bs.map Value.bool):
  TruthOf prog w A (fun i v=>its.toArray[i]? = some v) (fun i=>bs.getD i false):=fun i v s Q E hv hq=>by
 have hv':its[i]? = some v:=by simpa using hv
 rw [e,List.getElem?_map] at hv'
 obtain ⟨b,hb,rfl⟩:=Option.map_eq_some_iff.mp hv'
 have hg:bs.getD i false=b:=by rw [List.getD_eq_getElem?_getD,hb]<;>rfl
 have hq':Q (bs.getD i false) s:=hq
 rw [hg] at hq'
 exact wpAny_truthy_bool hq'
theorem ZfU:∀ bs:List Bool,(List.range bs.length).all (fun i=>bs.getD i false)=bs.all id
 | []=>rfl
 | b::bs=>by
  rw [List.length_cons,List.range_succ_eq_map,List.all_cons,List.all_map,List.all_cons,← ZfU bs]
  all_goals rfl
section
variable {X:Cx}
def rAll (K:PySem.W.Frag):List V→Hp→VK→Prop:=fun vs H Q=>∃ (a:Addr) (bs:List Bool),vs=[V.ref a]∧SqL K H a (bs.map V.bl)∧Q (.bl (bs.all id)) H
theorem ZnD (hc:X.calm=true):CallR X (.builtin "all") (rAll X.K):=by
 intro pins s σ H vs us Q I r h
 obtain ⟨a,bs,rfl,hs,q⟩:=h
 obtain ⟨its,rv,hl,_⟩:=I.list hs
 rw [Vals.ref1 r]
 have hb:=rv.bls
 refine call_all_walk (ZkJ hl.isList fun s₂ e2 st hne=>?_)
 subst e2
 refine ⟨_,_,_,_,_,_,_,rfl,Walks.list (A:=X.A.in1) (I.ok.hd hc) _ a hne its.toArray,st,ZgO hb,fun h' tk hk=>?_⟩
 refine ⟨.bl _,H,I.kept fun b o eo=>hk b o (fun hmem=>?_) (Heap.get?_push_of_some _ eo),?_,q⟩
 ·rcases List.mem_cons.mp hmem with e1 | hmem
  ·exact absurd (e1 ▸ Heap.lt_size eo) (Nat.lt_irrefl _)
  ·cases hmem
 ·show Value.bool _=Value.bool _
  rw [← ZfU,hb,List.size_toArray,List.length_map]
end
mutual
inductive Dp (K:PySem.W.Frag) (H:Hp):V→PyData→Prop
 | non:Dp K H .non .none
 | bl (b:Bool):Dp K H (.bl b) (.bool b)
 | int (i:Int):Dp K H (.int i) (.int i)
 | str (x:Str):Dp K H (.str x) (.str x)
 | lst {a:Addr} {xs:List V} {ds:List PyData}:SqL K H a xs→DpAll K H xs ds→Dp K H (.ref a) (.list ds)
 | tup {a:Addr} {xs:List V} {ds:List PyData}:SqT K H a xs→DpAll K H xs ds→Dp K H (.ref a) (.tuple ds)
inductive DpAll (K:PySem.W.Frag) (H:Hp):List V→List PyData→Prop
 | nil:DpAll K H [] []
 | cons {v:V} {vs:List V} {d:PyData} {ds:List PyData}:Dp K H v d→DpAll K H vs ds→DpAll K H (v::vs) (d::ds)
end
section
variable {X:Cx} {pins:List (Addr×Obj)} {σ:St} {H:Hp} {s:Shared}
end
section
variable {X:Cx}
end
end L2
namespace L2
open PySem PySem.Spec PyProof.Rows
abbrev ZlT (h:Heap) (c:Addr) (v:Option Value):Prop:=h.IsCell c v
def relS (scope sc:Scope):Scope:=
 { scope with names:=scope.names.map fun (n,k)=>if (k == .free&&sc.kind == .function&&sc.names.lookup n==some .cell) then (n,.cell) else (n,k) }
def ZaT (cells:List (Str×Addr)):List (Str×NameKind)→List (Str×Addr)→List (Str×Addr)
 | [],acc=>acc
 | (n,k)::r,acc=>if k == .free then ZaT cells r ((n,(cells.lookup n).getD 0)::acc) else ZaT cells r acc
theorem Zdz (env:Env) (f:Str×NameKind→List (Str×Addr)→Sem (ForInStep (List (Str×Addr))))
  (hf:∀ n k c,f (n,k) c=if k == .free then (do let a ← cellOf env n; pure (.yield ((n,a)::c))) else pure (.yield c)):
  ∀ (names:List (Str×NameKind)) (acc:List (Str×Addr)),(∀ y∈names,y.2 = .free→∃ c,env.cells.lookup y.1=some c)→forIn names acc f=pure (ZaT env.cells names acc)
 | [],acc,_=>by rw [List.forIn_nil]; rfl
 | (n,k)::r,acc,h=>by
  rw [List.forIn_cons,hf]
  have ih:=fun acc=>Zdz env f hf r acc fun y hy=>h y (List.mem_cons_of_mem _ hy)
  unfold ZaT
  by_cases hk:(k==NameKind.free)=true
  ·rw [if_pos hk,if_pos hk]
   obtain ⟨c,hc⟩:=h (n,k) List.mem_cons_self (by simpa using hk)
   have e:cellOf env n=pure c:=by unfold cellOf; rw [hc]
   rw [e]
   have e2:(env.cells.lookup n).getD 0=c:=by rw [hc]; rfl
   rw [e2]
   exact ih _
  ·rw [if_neg hk,if_neg hk]
   exact ih _
theorem Zh5 {scope:Scope} {env:Env} (h:∀ y∈scope.names,y.2 = .free→∃ c,env.cells.lookup y.1=some c):closureFor scope env=pure (ZaT env.cells scope.names []):=by
 simp only [closureFor]
 rw [Zdz env _ (fun n k c=>rfl) scope.names [] h]
 rfl
theorem Zdb {α:Type}:∀ {l:List (Str×α)} {n:Str} {c:α},(n,c)∈l→∃ c',l.lookup n=some c'
 | (k,v)::r,n,c,h=>by
  rw [List.lookup_cons]
  cases hb:n==k with
  | true=>exact ⟨_,rfl⟩
  | false=>
   rcases List.mem_cons.mp h with e | h
   ·cases e; simp at hb
   ·exact Zdb h
theorem ZbV {cells:List (Str×Addr)}:∀ {names:List (Str×NameKind)} {acc:List (Str×Addr)} {n:Str} {c:Addr},(n,c)∈ZaT cells names acc→(n,c)∈acc∨((n,.free)∈names∧c=(cells.lookup n).getD 0)
 | [],_,_,_,h=>.inl h
 | (m,k)::r,acc,n,c,h=>by
  unfold ZaT at h
  split at h
  ·rename_i hk
   have hk:k = .free:=by simpa using hk
   rcases ZbV h with h | ⟨h1,h2⟩
   ·rcases List.mem_cons.mp h with e | h
    ·cases e; exact .inr ⟨hk ▸ List.mem_cons_self,rfl⟩
    ·exact .inl h
   ·exact .inr ⟨List.mem_cons_of_mem _ h1,h2⟩
  ·rcases ZbV h with h | ⟨h1,h2⟩
   ·exact .inl h
   ·exact .inr ⟨List.mem_cons_of_mem _ h1,h2⟩
theorem Zcw {cells:List (Str×Addr)}:∀ {names:List (Str×NameKind)} {acc:List (Str×Addr)} {p:Str×Addr},p∈acc→p∈ZaT cells names acc
 | [],_,_,h=>h
 | (m,k)::r,acc,p,h=>by
  unfold ZaT
  split
  ·exact Zcw (List.mem_cons_of_mem _ h)
  ·exact Zcw h
theorem Zcx {cells:List (Str×Addr)}:∀ {names:List (Str×NameKind)} {acc:List (Str×Addr)} {n:Str},(n,.free)∈names→(n,(cells.lookup n).getD 0)∈ZaT cells names acc
 | (m,k)::r,acc,n,h=>by
  unfold ZaT
  rcases List.mem_cons.mp h with e | h
  ·cases e
   exact Zcw List.mem_cons_self
  ·split
   ·exact Zcx h
   ·exact Zcx h
theorem Zb6:∀ {names:List (Str×NameKind)} {h:Heap} {acc:List (Str×Addr)} {x:Str} {c:Addr},(x,c)∈cellsFrom h.objs.size names acc →
  (x,c)∈acc∨((x,.cell)∈names∧h.objs.size≤c∧ZlT (pushCells h names) c none)
 | [],_,_,_,_,h=>.inl h
 | (n,k)::r,h,acc,x,c,hm=>by
  unfold cellsFrom at hm
  unfold pushCells
  split at hm
  ·rename_i hk
   rw [if_pos hk]
   have hk:k = .cell:=by simpa using hk
   rw [← Heap.size_push h { cls:=.type "cell",data:=.cell none }] at hm
   rcases Zb6 hm with hm | ⟨h1,h2,h3⟩
   ·rcases List.mem_cons.mp hm with e | hm
    ·cases e
     exact .inr ⟨hk ▸ List.mem_cons_self,Nat.le_refl _,_,pushCells_keeps r _ _ _ (Heap.get?_push_size _ rfl),rfl⟩
    ·exact .inl hm
   ·rw [Heap.size_push] at h2
    exact .inr ⟨List.mem_cons_of_mem _ h1,Nat.le_of_succ_le h2,h3⟩
  ·rename_i hk
   rw [if_neg hk]
   rcases Zb6 hm with hm | ⟨h1,h2,h3⟩
   ·exact .inl hm
   ·exact .inr ⟨List.mem_cons_of_mem _ h1,h2,h3⟩
theorem ZcQ:∀ {names:List (Str×NameKind)} {n:Nat} {acc:List (Str×Addr)} {p:Str×Addr},p∈acc→p∈cellsFrom n names acc
 | [],_,_,_,h=>h
 | (m,k)::r,n,acc,p,h=>by
  unfold cellsFrom
  split
  ·exact ZcQ (List.mem_cons_of_mem _ h)
  ·exact ZcQ h
theorem ZdR:∀ {names:List (Str×NameKind)} {n:Nat} {acc:List (Str×Addr)} {x:Str},(x,.cell)∈names→∃ c,(x,c)∈cellsFrom n names acc
 | (m,k)::r,n,acc,x,h=>by
  unfold cellsFrom
  rcases List.mem_cons.mp h with e | h
  ·cases e
   exact ⟨n,ZcQ List.mem_cons_self⟩
  ·split
   ·exact ZdR h
   ·exact ZdR h
theorem ZdS:∀ {names:List (Str×NameKind)} {h:Heap} {acc:List (Str×Addr)} {x y:Str} {c:Addr},(∀ p∈acc,p.2<h.objs.size)→(∀ x y c,(x,c)∈acc→(y,c)∈acc→x=y) →
  (x,c)∈cellsFrom h.objs.size names acc→(y,c)∈cellsFrom h.objs.size names acc→x=y
 | [],_,_,_,_,_,_,hi,h1,h2=>hi _ _ _ h1 h2
 | (n,k)::r,h,acc,x,y,c,hl,hi,h1,h2=>by
  unfold cellsFrom at h1 h2
  split at h1
  ·rename_i hk
   rw [if_pos hk] at h2
   rw [← Heap.size_push h { cls:=.type "cell",data:=.cell none }] at h1 h2
   refine ZdS (h:=h.push _) (fun p hp=>?_) (fun x y c a b=>?_) h1 h2
   ·rw [Heap.size_push]
    rcases List.mem_cons.mp hp with rfl | hp
    ·exact Nat.lt_succ_self _
    ·exact Nat.lt_succ_of_lt (hl p hp)
   ·rcases List.mem_cons.mp a with e | a<;>rcases List.mem_cons.mp b with e' | b
    ·cases e; cases e'; rfl
    ·cases e; exact absurd (hl _ b) (Nat.lt_irrefl _)
    ·cases e'; exact absurd (hl _ a) (Nat.lt_irrefl _)
    ·exact hi _ _ _ a b
  ·rename_i hk
   rw [if_neg hk] at h2
   exact ZdS hl hi h1 h2
theorem ZgP {M:Model} {A:Around} {E:Value→Shared→Prop} {s:Shared} {scope:Scope} {globals:Addr} {closure:List (Str×Addr)} {qual:Str} {func:Option Addr} {code:Value} {around:Env} {builtins:Addr} {Q:Env→Shared→Prop}
  (h:Q (newEnv scope s.heap.objs.size globals (cellsFrom (s.heap.objs.size+1) scope.names closure) qual func code (some around) builtins)
   { s with heap:=pushCells (s.heap.push { cls:=.type "dict",data:=.dict #[] }) scope.names }):
  wpAny M A (newFunctionEnv scope globals closure [] qual func code (some around) builtins) Q E s:=by
 simp only [newFunctionEnv,Option.isSome_some,if_true]
 refine wpAny_bind (wpAny_alloc ?_)
 refine wpAny_bind (wpAny_layCells _ (fun n k c=>rfl) scope.names closure _ _ ?_)
 rw [show ({ s with heap:=s.heap.push { cls:=.type "dict",data:=.dict #[] } }:Shared).heap.objs.size=s.heap.objs.size+1 from Heap.size_push ..]
 rw [List.forIn_nil]
 exact wpAny_bind (wpAny_pure (wpAny_pure h))
theorem Zcy {sc:Scope}:∀ {names:List (Str×NameKind)} {x:Str} {k:NameKind},
  (names.map fun (n,k)=>if (k==NameKind.free&&sc.kind == .function&&sc.names.lookup n==some .cell) then (n,NameKind.cell) else (n,k)).lookup x=some k →
  ∃ k',names.lookup x=some k'∧(k=k'∨(k' = .free∧k = .cell))
 | [],_,_,h=>by simp at h
 | (n,k₀)::r,x,k,h=>by
  have ih:=@Zcy sc r x k
  have h':List.lookup x ((if (k₀==NameKind.free&&sc.kind == .function&&sc.names.lookup n==some .cell)=true then (n,NameKind.cell) else (n,k₀))::(r.map _))=some k:=h
  cases hx:x==n with
  | true=>
   simp only [List.lookup_cons,hx]
   by_cases hc:(k₀==NameKind.free&&sc.kind == .function&&sc.names.lookup n==some .cell)=true
   ·rw [if_pos hc] at h'
    simp only [List.lookup_cons,hx] at h'
    cases h'
    simp only [Bool.and_eq_true,beq_iff_eq] at hc
    exact ⟨k₀,rfl,.inr ⟨hc.1.1,rfl⟩⟩
   ·rw [if_neg hc] at h'
    simp only [List.lookup_cons,hx] at h'
    cases h'
    exact ⟨_,rfl,.inl rfl⟩
  | false=>
   simp only [List.lookup_cons,hx]
   by_cases hc:(k₀==NameKind.free&&sc.kind == .function&&sc.names.lookup n==some .cell)=true
   ·rw [if_pos hc] at h'
    simp only [List.lookup_cons,hx] at h'
    exact ih h'
   ·rw [if_neg hc] at h'
    simp only [List.lookup_cons,hx] at h'
    exact ih h'
structure BlkOk (N:List Str) (sc scope:Scope) (own:List (Str×Nat)):Prop where
 kind:scope.kind = .function
 uniq:∀ y∈scope.names,scope.names.lookup y.1=some y.2
 ix:∀ p∈own,N[p.2]? = some p.1
 free:∀ y∈scope.names,y.2 = .free→sc.names.lookup y.1=some .cell∨sc.names.lookup y.1=some .free
 own:∀ y∈scope.names,y.2 = .local∨y.2 = .cell→y.1∈own.map (·.1)∨y.1∉N
def Zba (σ:St):List Nat→St
 | []=>σ
 | v::vs=>(Zba σ vs).set v none
theorem Zcz (σ:St):∀ vs:List Nat,(Zba σ vs).length=σ.length
 | []=>rfl
 | v::vs=>by unfold Zba; rw [List.length_set,Zcz σ vs]
theorem ZdT {σ:St} {i:Nat} {x:V}:∀ {vs:List Nat},(Zba σ vs)[i]? = some (some x)→σ[i]? = some (some x)∧i∉vs
 | [],h=>⟨h,by simp⟩
 | v::vs,h=>by
  unfold Zba at h
  by_cases hi:v=i
  ·subst hi
   by_cases hv:v<(Zba σ vs).length
   ·rw [List.getElem?_set_self hv] at h; cases h
   ·rw [List.getElem?_eq_none (by simpa using hv)] at h; cases h
  ·rw [List.getElem?_set_ne hi] at h
   obtain ⟨h1,h2⟩:=ZdT h
   exact ⟨h1,by simp only [List.mem_cons,not_or]; exact ⟨fun e=>hi e.symm,h2⟩⟩
abbrev Cx.blk (X:Cx) (s:Shared) (H:Hp) (scope:Scope) (cenv:Env) (fp:List Addr):Cx:={ X with s_0:=s,H_0:=H,env:=cenv,outer:=X.stack,ex:=fp,fn:=fun x=>scope.names.lookup x==some .cell,pn:=[],xe:=fun _ _=>False }
section
variable {X:Cx} {pins:List (Addr×Obj)} {σ:St} {H:Hp} {s:Shared}
theorem ZgQ {scope:Scope} {own:List (Str×Nat)} {fp:List Addr} (I:Inv X pins σ H s) (ok:BlkOk X.N X.env.scope scope own) (hN:X.N.Nodup) (hfp:∀ b∈fp,ZiH X pins H b∧b<s.heap.objs.size):
  Inv (X.blk s H scope (compEnvC scope (cellsFrom (s.heap.objs.size+1) scope.names (ZaT X.env.cells scope.names [])) s.heap.objs.size X.env) fp) [] (Zba σ (own.map (·.2))) H { s with heap:=pushCells (s.heap.push { cls:=.type "dict",data:=.dict #[] }) scope.names }:=by
 have hfree:∀ y∈scope.names,y.2 = .free→∃ c,X.env.cells.lookup y.1=some c:=fun y hy e=>by
  rcases ok.free y hy e with k | k
  ·exact I.ok.has _ (.inl k)
  ·exact I.ok.has _ (.inr k)
 generalize hcenv:compEnvC scope (cellsFrom (s.heap.objs.size+1) scope.names (ZaT X.env.cells scope.names [])) s.heap.objs.size X.env=cenv
 have kp:∀ b o,s.heap.get? b=some o→(pushCells (s.heap.push { cls:=.type "dict",data:=.dict #[] }) scope.names).get? b=some o:=fun b o e=>pushCells_keeps _ _ _ _ (Heap.get?_push_of_some _ e)
 have hL:cenv.locals=s.heap.objs.size:=by rw [← hcenv]; rfl
 have hcl:cenv.cells=cellsFrom (s.heap.objs.size+1) scope.names (ZaT X.env.cells scope.names []):=by rw [← hcenv]; rfl
 have hsc:cenv.scope=relS scope X.env.scope:=by rw [← hcenv]; rfl
 rw [← Heap.size_push s.heap { cls:=.type "dict",data:=.dict #[] }] at hcl
 have cm:∀ {y c},(y,c)∈ZaT X.env.cells scope.names []→X.env.cells.lookup y=some c∧c<s.heap.objs.size:=fun {y c} hm=>by
  rcases ZbV hm with hm | ⟨h1,rfl⟩
  ·cases hm
  ·obtain ⟨c,hc⟩:=hfree _ h1 rfl
   rw [hc]
   obtain ⟨w,z⟩:=I.cell _ _ hc
   exact ⟨rfl,z.lt⟩
 have mem:∀ {y c},cenv.cells.lookup y=some c→(X.env.cells.lookup y=some c∧c<s.heap.objs.size)∨(s.heap.objs.size+1≤c∧ZlT (pushCells (s.heap.push { cls:=.type "dict",data:=.dict #[] }) scope.names) c none):=fun {y c} e=>by
  rw [hcl] at e
  rcases Zb6 (PySem.mem_of_lookup e) with hm | ⟨_,h2,h3⟩
  ·exact .inl (cm hm)
  ·rw [Heap.size_push] at h2; exact .inr ⟨h2,h3⟩
 have look:∀ {y},scope.names.lookup y=some .free→∃ c,cenv.cells.lookup y=some c∧X.env.cells.lookup y=some c:=fun {y} hl=>by
  have hy:(y,NameKind.free)∈scope.names:=PySem.mem_of_lookup hl
  obtain ⟨c',e'⟩:=Zdb (ZcQ (names:=scope.names) (n:=(s.heap.push { cls:=.type "dict",data:=.dict #[] }).objs.size) (Zcx (cells:=X.env.cells) (acc:=[]) hy))
  rw [← hcl] at e'
  refine ⟨c',e',?_⟩
  rw [hcl] at e'
  rcases Zb6 (PySem.mem_of_lookup e') with hm | ⟨h1,_,_⟩
  ·exact (cm hm).1
  ·have:=ok.uniq _ h1
   rw [hl] at this; cases this
 have okB:(X.blk s H scope cenv fp).Ok:=by
  refine ⟨I.ok.mod,by show cenv.scope.kind=_; rw [hsc]; exact ok.kind,by show cenv.globals=_; rw [← hcenv]; exact I.ok.glob,by show cenv.builtins=_; rw [← hcenv]; exact I.ok.blt,by show s.heap.objs.size≤cenv.locals; rw [hL]; exact Nat.le_refl _,
   fun y z c e1 e2=>?_,fun y hy=>?_,fun y c z e=>?_,I.ok.hd,I.ok.frames,.inl rfl,fun b hb=>⟨?_,fun y c e z=>?_⟩,I.bs,Nat.le_trans I.ok.bsz I.sz,fun b o e hb=>?_,fun b hb z=>?_,I.stack,I.stkFree⟩
  ·have e1:cenv.cells.lookup y=some c:=e1
   have e2:cenv.cells.lookup z=some c:=e2
   rw [hcl] at e1 e2
   refine ZdS (fun p hp=>?_) (fun y z c a b=>I.ok.inj y z c (cm a).1 (cm b).1) (PySem.mem_of_lookup e1) (PySem.mem_of_lookup e2)
   rw [Heap.size_push]
   exact Nat.lt_succ_of_lt (cm (y:=p.1) (c:=p.2) hp).2
  ·show ∃ c,cenv.cells.lookup y=some c
   have key:∀ k,cenv.kindOf y=some k→(k = .cell∨k = .free)→∃ c,cenv.cells.lookup y=some c:=fun k hk hk'=>by
    unfold Env.kindOf at hk
    rw [hsc] at hk
    obtain ⟨k',e,r⟩:=Zcy hk
    have:k' = .cell∨k' = .free:=by
     rcases r with rfl | ⟨rfl,_⟩
     ·exact hk'
     ·exact .inr rfl
    rcases this with rfl | rfl
    ·obtain ⟨c,hm⟩:=ZdR (n:=(s.heap.push { cls:=.type "dict",data:=.dict #[] }).objs.size) (acc:=ZaT X.env.cells scope.names []) (PySem.mem_of_lookup e)
     obtain ⟨c',e'⟩:=Zdb hm
     exact ⟨c',by rw [hcl]; exact e'⟩
    ·obtain ⟨c,h1,_⟩:=look e
     exact ⟨c,h1⟩
   rcases hy with hy | hy
   ·exact key _ hy (.inl rfl)
   ·exact key _ hy (.inr rfl)
  ·have z:(scope.names.lookup y==some NameKind.cell)=true:=z
   have z:scope.names.lookup y=some .cell:=by simpa using z
   have e:cenv.cells.lookup y=some c:=e
   rw [hcl] at e
   rcases Zb6 (PySem.mem_of_lookup e) with hm | ⟨_,h2,_⟩
   ·rcases ZbV hm with hm | ⟨h1,_⟩
    ·cases hm
    ·have q:=ok.uniq _ h1
     rw [z] at q; cases q
   ·rw [Heap.size_push] at h2
    exact Nat.le_of_succ_le h2
  ·show b≠cenv.locals
   rw [hL]; exact Nat.ne_of_lt (hfp b hb).2
  ·have e:cenv.cells.lookup y=some c:=e
   rcases mem e with ⟨h1,_⟩ | ⟨h1,_⟩
   ·exact (hfp b hb).1.2.2.2.2.1 y c h1 z
   ·have h2:s.heap.objs.size+1≤b:=by rw [← z]; exact h1
    exact absurd (Nat.lt_of_lt_of_le (hfp b hb).2 (Nat.le_of_succ_le h2)) (Nat.lt_irrefl _)
  ·rcases (hfp b hb).1.2.2.2.1 with z | z
   ·exact I.ok.noex b o e z
   ·exact absurd (Nat.lt_of_lt_of_le (Heap.lt_size e) (Nat.le_trans I.ok.bsz z)) (Nat.lt_irrefl _)
  ·rcases List.mem_cons.mp (I.stkSub b z) with z | z
   ·exact (hfp b hb).1.2.1 z
   ·exact (hfp b hb).1.2.2.1 z
 refine ⟨okB,rfl,I.bare,Un.kept kp,⟨fun _=>none,?_,fun i y av e1 e2 e3=>?_⟩,fun y c e=>?_,?_,fun y c e=>?_,fun p hp=>?_,I.hok.kept kp,by rw [Zcz]; exact I.len⟩
 ·show Heap.Ns _ cenv.locals _
  rw [hL]
  exact Heap.Ns.keeps (Heap.Ns.new ..) fun b o e=>pushCells_keeps _ _ _ _ e
 ·obtain ⟨e2,hne⟩:=ZdT e2
  have hfr:scope.names.lookup y=some .free∧(cenv.kindOf y=some .cell∨cenv.kindOf y=some .free):=by
   have key:∀ k,cenv.scope.names.lookup y=some k→k = .local∨k = .cell∨k = .free→scope.names.lookup y=some .free∧(cenv.kindOf y=some .cell∨cenv.kindOf y=some .free):=fun k hk hk'=>by
    have hk0:=hk
    rw [hsc] at hk
    obtain ⟨k',e,r⟩:=Zcy hk
    have no:¬ (k' = .local∨k' = .cell):=fun hh=>by
     rcases ok.own _ (PySem.mem_of_lookup e) hh with e' | e'
     ·obtain ⟨p,hp,hpy⟩:=List.mem_map.mp e'
      have e3:=ok.ix p hp
      have:p.1=y:=hpy
      rw [this] at e3
      exact hne (List.mem_map.mpr ⟨p,hp,Zfl hN e3 e1⟩)
     ·exact e' (List.mem_of_getElem? e1)
    rcases r with rfl | ⟨rfl,rfl⟩
    ·rcases hk' with rfl | rfl | rfl
     ·exact absurd (.inl rfl) no
     ·exact absurd (.inr rfl) no
     ·exact ⟨e,.inr hk0⟩
    ·exact ⟨e,.inl hk0⟩
   have e3:Vis cenv.scope y:=e3
   rcases e3 with e3 | e3 | e3
   ·exact key _ e3 (.inl rfl)
   ·exact key _ e3 (.inr (.inl rfl))
   ·exact key _ e3 (.inr (.inr rfl))
  obtain ⟨m,hn,hl⟩:=I.loc
  have hvis:Vis X.env.scope y:=(ok.free _ (PySem.mem_of_lookup hfr.1) rfl).elim (fun k=>.inr (.inl k)) (fun k=>.inr (.inr k))
  obtain ⟨w,r,q⟩:=hl i y av e1 e2 hvis
  refine ⟨w,r,.inr ⟨hfr.2,?_⟩⟩
  obtain ⟨c,h1,h2⟩:=look hfr.1
  rcases q with ⟨k,_⟩ | ⟨_,c',e',z⟩
  ·have k:X.env.scope.names.lookup y=some .local:=k
   rcases ok.free _ (PySem.mem_of_lookup hfr.1) rfl with k' | k'<;>rw [show X.env.scope.names.lookup y=_ from k'] at k<;>cases k
  ·rw [h2] at e'; cases e'
   exact ⟨c,h1,z.keeps kp⟩
 ·have e:cenv.cells.lookup y=some c:=e
  rcases mem e with ⟨h1,_⟩ | ⟨_,z⟩
  ·obtain ⟨w,z⟩:=I.cell y c h1
   exact ⟨w,z.keeps kp⟩
  ·exact ⟨_,z⟩
 ·show H cenv.locals=none
  rw [hL]; exact I.hok.fresh (Nat.le_refl _)
 ·have e:cenv.cells.lookup y=some c:=e
  rcases mem e with ⟨h1,_⟩ | ⟨h1,_⟩
  ·exact I.freeC y c h1
  ·exact I.hok.fresh (Nat.le_of_succ_le h1)
 ·exact absurd (show p∈([]:List (Addr×Obj))++[] from hp) (by simp)
theorem ZnE {E:Value→Shared→Prop} {D:Addr} {xs:List V} {y:V} {v:Value} {Q:Value→Shared→Prop} (I:Inv X pins σ H s) (hD:H D=some (.lst xs)) (hz:xs.length<sizeLine) (r:RelV y v)
  (h:∀ s',Inv X pins σ (upd H D (.lst (xs++[y]))) s'→Q .none s'):wpAny (model X.prog X.w) X.A (call (.builtin "list.append") [.ref D,v]) Q E s:=by
 obtain ⟨hz',its,n,ri,e⟩:=I.hok D _ hD
 have hl:=ri.length
 refine append_at (hsz:=by rw [List.size_toArray]; omega) e fun h' sb ho'=>?_
 refine h { s with heap:=h' } (I.write (t':=s.toks) (by rw [hD]; trivial) (.inl rfl) (fun b u hb q=>(sb.2 b hb).trans q) ⟨_,ho'⟩ ⟨by rw [List.length_append]; exact hz,its++[v],n+1,ri.append (.cons r .nil),?_⟩)
 rw [ho']
 simp
def PTs (X:Cx) (ifs:List Expr) (t:TT):Prop:=
 ∀ (pins:List (Addr×Obj)) (s:Shared) (σ:St) (H:Hp) (Q:Bool→Hp→Prop),Inv X pins σ H s→t σ H Q →
  wpAny (model X.prog X.w) X.A (forIn ifs true fun c r=>if r=true then do let ok ← isTrue c X.env (eval c X.env); pure (ForInStep.yield ok) else pure (ForInStep.yield r)) (TP X pins σ Q) X.xe s
def tYes:TT:=fun _ H Q=>Q true H
theorem Zb7:PTs X [] tYes:=fun _ _ _ H _ I h=>wpAny_tests_nil ⟨H,I,h⟩
theorem ZdU {c:Expr} {t:TT} (h:PT X c t):PTs X [c] t:=fun pins s σ H Q I hw=>wpAny_tests_one (h pins s σ H Q I hw)
end
theorem Znj {α:Type} {t:Sem α} {Q Q':α→Shared→Prop} {M:Model} {A:Around} {E:Value→Shared→Prop} {s:Shared} (h:wpAny M A t Q (fun _ _=>False) s) (hQ:∀ a s,Q a s→Q' a s):wpAny M A t Q' E s:=wpAny_mono h hQ fun _ _ z=>False.elim z
theorem ZfV {prog:Program} {w:World} {A:Around} {R:Result→Shared→Prop} {s:Shared} {elt target ZbH:Expr} {ifs:List Expr} {scope:Scope} {pos:Pos} {it acc:Value} {env:Env} (I:Nat→Shared→Prop)
  (turn:∀ n s,I n s→wpAny (model prog w) A (pyNext it) (fun r s₁=>match r with
   | none=>R (.ok .next) s₁
   | some v=>wpAny (model prog w) A (letOwnedTupleGo target it v) (fun _ s₁'=>wpAny (model prog w) A (assign target env v) (fun _ s₂=>
     wpAny (model prog w) A (forIn ifs true fun c r=>if r=true then do let ok ← isTrue c env (eval c env); pure (ForInStep.yield ok) else pure (ForInStep.yield r)) (fun ok s₃=>
      if ok=true then wpAny (model prog w) A (eval elt env) (fun x s₄=>
       wpAny (model prog w) A (call (.builtin "list.append") [acc,x]) (fun _ s₅=>∃ m,m<n∧I m s₅) (notedBy (model prog w) A env fun e s'=>R (.error e) s') s₄) (notedBy (model prog w) A env fun e s'=>R (.error e) s') s₃
      else ∃ m,m<n∧I m s₃) (notedBy (model prog w) A env fun e s'=>R (.error e) s') s₂) (notedBy (model prog w) A env fun e s'=>R (.error e) s') s₁') (notedBy (model prog w) A env fun e s'=>R (.error e) s') s₁) (notedBy (model prog w) A env fun e s'=>R (.error e) s') s)
  (n:Nat) (h:I n s):
  codeAny (model prog w) A (.compLoop (.ListComp elt [⟨target,ZbH,ifs,0⟩] scope pos) 0 it acc env) R s:=by
 refine codeAny_loop rfl I (fun n s hI=>?_) n h
 show wpAny _ A ((compTurn (.ListComp elt [⟨target,ZbH,ifs,0⟩] scope pos) 0 it acc env).onRaise (fun x=>do noteFrame x env; theTreesLotGoes x)) _ _ s
 refine wpAny_noted ?_
 rw [compTurn_list]
 refine wpAny_bind (wpAny_standAt (wpAny_bind (wpAny_mono (turn n s hI) (fun r s₁ h₁=>?_) fun _ _ h'=>h')))
 cases r with
 | none=>exact wpAny_pure h₁
 | some v=>
  refine wpAny_bind (wpAny_mono h₁ (fun _ s₁' h₁'=>?_) fun _ _ h'=>h')
  refine wpAny_bind (wpAny_mono h₁' (fun _ s₂ h₂=>wpAny_bind (wpAny_mono h₂ (fun ok s₃ h₃=>?_) fun _ _ h'=>h')) fun _ _ h'=>h')
  cases ok with
  | false=>exact wpAny_pure ⟨rfl,h₃⟩
  | true=>
   exact wpAny_bind (wpAny_bind (wpAny_mono h₃ (fun x s₄ h₄=>wpAny_bind (wpAny_mono h₄ (fun _ s₅ h₅=>wpAny_pure (wpAny_pure ⟨rfl,h₅⟩)) fun _ _ h'=>h')) fun _ _ h'=>h'))
section
variable {X:Cx}
def tLc (wi:TI) (g:TG) (tt:TT) (te:TE) (vs:List Nat):TE:=fun σ H Q=>wi σ H fun J H1=>∀ D,H1 D=none→∃ W:Nat→Nat→Hp→Prop,(∃ m,W 0 m (upd H1 D (.lst [])))∧∀ i m H,W i m H →
 (J.stop i H∧Q (.ref D) H)∨(J.go i H∧∃ Nx:Hp→Prop,(∀ H',Nx H'→∃ m',m'<m∧W (i+1) m' H')∧∀ x H',J.yld i H x H'→g x (Zba σ vs) H' fun σ2 H2=>Zba σ2 vs=Zba σ vs∧tt σ2 H2 fun b H3=>
  if b=true then te σ2 H3 fun y H4=>∃ acc,H4 D=some (.lst acc)∧acc.length<sizeLine∧Nx (upd H4 D (.lst (acc++[y]))) else Nx H3)
theorem Zi2 {pins:List (Addr×Obj)} {s:Shared} {σ:St} {H:Hp} {Q:VK} {elt tg ZbH:Expr} {ifs:List Expr} {scope:Scope} {own:List (Str×Nat)} {pos pos':Pos} {wi:TI} {g:TG} {tt:TT} {te:TE} {use:Option (Value→Sem Unit)} {Qf:Value→Shared→Prop}
  (hc:X.calm=true) (hN:X.N.Nodup) (I:Inv X pins σ H s) (hi:PI X tg ZbH wi) (ok:BlkOk X.N X.env.scope scope own)
  (hg:∀ (s:Shared) (H:Hp) (C:Addr) (cl:List (Str×Addr)) (fp:List Addr),PG (X.blk s H scope (compEnvC scope cl C X.env) fp) tg g) (ht:∀ (s:Shared) (H:Hp) (C:Addr) (cl:List (Str×Addr)) (fp:List Addr),PTs (X.blk s H scope (compEnvC scope cl C X.env) fp) ifs tt)
  (he:∀ (s:Shared) (H:Hp) (C:Addr) (cl:List (Str×Addr)) (fp:List Addr),PE (X.blk s H scope (compEnvC scope cl C X.env) fp) elt te) (hs:∀ x,foldedSetIterable ZbH X.env x=pure x)
  (h:tLc wi g tt te (own.map (·.2)) σ H Q)
  (hRR:∀ D C s' m H',Inv X pins σ H' s'→Q (.ref D) H'→s'.heap.Ns C m→ZiH X pins H' C→compPost (model X.prog X.w) X.A X.xe use Qf (.ref D) C (.ok .next) s'):
  wpAny (model X.prog X.w) X.A (comprehension (.ListComp elt [⟨tg,ZbH,ifs,0⟩] scope pos) scope X.env pos' (newList []) false (eval ZbH X.env) use) Qf X.xe s:=by
 have hfree:∀ y∈scope.names,y.2 = .free→∃ c,X.env.cells.lookup y.1=some c:=fun y hy e=>by
  rcases ok.free y hy e with k | k
  ·exact I.ok.has _ (.inl k)
  ·exact I.ok.has _ (.inr k)
 refine wpAny_comprehension_free (use:=use) rfl hs (Zh5 hfree) ok.kind (fun y hy e=>by rw [ok.uniq y hy,e])
  (thn (hi pins s σ H _ I h) fun xv s1 hx=>thn hx fun itv s2 h2=>?_)
 obtain ⟨it,fp,tn,J,H2,e,I2,T,st2,f2,q⟩:=h2
 subst e
 refine wpAny_newObj_type (ZgP ?_) (by show 0≤sizeLine; decide)
 generalize hD:s2.heap.objs.size=D
 have hDn:H2 D=none:=I2.hok.fresh (Nat.le_of_eq hD)
 obtain ⟨W,⟨m0,w0⟩,turn⟩:=q D hDn
 generalize hs3:({ s2 with heap:=s2.heap.push { cls:=.type "list",data:=.seq ([]:List Value).toArray } }:Shared)=s3
 have I3:Inv X pins σ (upd H2 D (.lst [])) s3:=by
  rw [← hs3]
  refine I2.laid (t':=s2.toks) (fun b o e=>Heap.get?_push_of_some _ e) (Nat.le_of_eq hD) ⟨Nat.zero_le _,[],0,.nil,?_⟩
  rw [← hD]
  exact Heap.get?_push_size _ rfl
 have h3:s3.heap=s2.heap.push { cls:=.type "list",data:=.seq ([]:List Value).toArray }:=by rw [← hs3]
 have sz:∀ b∈fp,b<s2.heap.objs.size:=fun b hb=>by
  obtain ⟨o,e,_⟩:=T.obj _ _ st2 b hb
  exact Heap.lt_size e
 have f3:∀ b∈fp,ZiH X pins (upd H2 D (.lst [])) b∧b<s3.heap.objs.size:=fun b hb=>by
  have hlt:=sz b hb
  refine ⟨⟨?_,(f2 b hb).2⟩,by rw [h3,Heap.size_push]; exact Nat.lt_succ_of_lt hlt⟩
  rw [Zag (by rw [← hD]; exact Nat.ne_of_lt hlt)]
  exact (f2 b hb).1
 have st3:tn 0 s3.heap:=T.keep _ _ _ st2 fun b _ o e=>by rw [h3]; exact Heap.get?_push_of_some _ e
 have I4:=ZgQ I3 ok hN f3
 have pg:=hg s3 (upd H2 D (.lst [])) s3.heap.objs.size (cellsFrom (s3.heap.objs.size+1) scope.names (ZaT X.env.cells scope.names [])) fp
 have pt:=ht s3 (upd H2 D (.lst [])) s3.heap.objs.size (cellsFrom (s3.heap.objs.size+1) scope.names (ZaT X.env.cells scope.names [])) fp
 have pe:=he s3 (upd H2 D (.lst [])) s3.heap.objs.size (cellsFrom (s3.heap.objs.size+1) scope.names (ZaT X.env.cells scope.names [])) fp
 show codeAny _ _ (.compStart (.ListComp elt [⟨tg,ZbH,ifs,0⟩] scope pos) 0 (.ref it) (.ref D) (compEnvC scope (cellsFrom (s3.heap.objs.size+1) scope.names (ZaT X.env.cells scope.names [])) s3.heap.objs.size X.env)) (compPost (model X.prog X.w) X.A X.xe use Qf (.ref D) s3.heap.objs.size) { s3 with heap:=pushCells (s3.heap.push { cls:=.type "dict",data:=.dict #[] }) scope.names }
 have nfp:∀ b∈fp,(upd H2 D (.lst [])) b=none:=fun b hb=>(f3 b hb).1.1
 generalize hce:compEnvC scope (cellsFrom (s3.heap.objs.size+1) scope.names (ZaT X.env.cells scope.names [])) s3.heap.objs.size X.env=ce at I4 pg pt pe ⊢
 have cL:ce.locals=s3.heap.objs.size:=by subst hce; rfl
 generalize hH3:upd H2 D (.lst [])=H3 at I3 I4 pg pt pe w0 nfp f3
 generalize hs4:({ s3 with heap:=pushCells (s3.heap.push { cls:=.type "dict",data:=.dict #[] }) scope.names }:Shared)=s4 at I4 ⊢
 have st4:tn 0 s4.heap:=T.keep _ _ _ st3 fun b _ o e=>by rw [← hs4]; exact pushCells_keeps _ _ _ _ (Heap.get?_push_of_some _ e)
 have stat:∀ {σ':St} {H':Hp} {s':Shared},Inv (X.blk s3 H3 scope ce fp) [] σ' H' s'→(∀ b∈fp,H' b=none)→∀ b∈fp,ZiH (X.blk s3 H3 scope ce fp) [] H' b:=fun {σ' H' s'} I' hn b hb=>
  ⟨hn b hb,(I'.ok.exf b hb).1,I'.ok.exfs b hb,.inl hb,fun x c e=>(I'.ok.exf b hb).2 x c e,fun p hp=>absurd (show p∈([]:List (Addr×Obj))++[] from hp) (by simp)⟩
 have loop:codeAny (model X.prog X.w) X.A (.compLoop (.ListComp elt [⟨tg,ZbH,ifs,0⟩] scope pos) 0 (.ref it) (.ref D) ce) (compPost (model X.prog X.w) X.A X.xe use Qf (.ref D) s3.heap.objs.size) s4:=by
  refine ZfV (fun n s'=>∃ i H',Inv (X.blk s3 H3 scope ce fp) [] (Zba σ (own.map (·.2))) H' s'∧tn i s'.heap∧(∀ b∈fp,H' b=none)∧W i n H') ?_ m0 ⟨0,H3,I4,st4,nfp,w0⟩
  rintro n s5 ⟨i,H5,I5,st5,n5,w5⟩
  rcases turn i n H5 w5 with ⟨stop,qq⟩ | ⟨go,Nx,hNx,step⟩
  ·have td:=T.done (X.blk s3 H3 scope ce fp) rfl rfl rfl hc i [] s5 _ H5 (fun _ _=>False) I5 (stat I5 n5) st5 stop
   refine Znj td fun r s6 ⟨hr,I6⟩=>?_
   subst hr
   have I7:Inv X pins σ H5 s6:=I3.call' (ch:=fp) I6.os I6.base I6.hok I6.bare fun b hb=>⟨(f3 b hb).1.2.2.2.1,(f3 b hb).1.2.1,(f3 b hb).1.2.2.2.2.1,(f3 b hb).1.2.2.2.2.2⟩
   have nC:H5 s3.heap.objs.size=none:=by
    have z:H5 ce.locals=none:=I6.free
    rw [cL] at z
    exact z
   obtain ⟨m,hn,_⟩:=I6.loc
   have hn:s6.heap.Ns ce.locals m:=hn
   rw [cL] at hn
   exact hRR D s3.heap.objs.size s6 m H5 I7 qq hn (I3.fpOk (Nat.le_refl _) nC)
  ·have ti:=T.item (X.blk s3 H3 scope ce fp) rfl rfl rfl hc i [] s5 _ H5 (fun _ _=>False) I5 (stat I5 n5) st5 go
   refine Znj ti fun r s6 ⟨u,hr,h6⟩=>?_
   subst hr
   refine Znj h6 fun _ s7 ⟨x,H7,I7,r7,y7,st7,n7⟩=>?_
   have I7':=I7.pinned (stat I7 n7) (T.obj _ _ st7)
   refine Znj (pg _ s7 _ H7 x u _ I7' r7 (step x H7 y7)) fun _ s8 ⟨σ8,H8,I8,hw8,q8⟩=>?_
   refine Znj (pt _ s8 σ8 H8 _ I8 q8) fun b s9 ⟨H9,I9,q9⟩=>?_
   have fin:∀ {s':Shared} {H':Hp},Inv (X.blk s3 H3 scope ce fp) ([]++ZfN fp s7.heap) σ8 H' s'→Nx H'→∃ m,m<n∧∃ i H',Inv (X.blk s3 H3 scope ce fp) [] (Zba σ (own.map (·.2))) H' s'∧tn i s'.heap∧(∀ b∈fp,H' b=none)∧W i m H':=fun {s' H'} I' nx=>by
    obtain ⟨m',hm,w'⟩:=hNx H' nx
    have pin':∀ b∈fp,∀ o,s7.heap.get? b=some o→s'.heap.get? b=some o∧H' b=none:=fun b hb o e=>
     let z:=I'.pin (b,o) (List.mem_append_right _ (List.mem_append_right _ (Zc8 hb e)))
     ⟨z.1,z.2.1⟩
    have hl:(Zba σ (own.map (·.2))).length=σ8.length:=by rw [← hw8,Zcz]
    refine ⟨m',hm,i+1,H',(I'.unpinned (pins:=[])).weak hl (fun j v e=>?_),T.keep _ _ _ st7 fun b hb o e=>(pin' b hb o e).1,fun b hb=>?_,w'⟩
    ·rw [← hw8] at e
     exact (ZdT e).1
    ·obtain ⟨o,e,_⟩:=T.obj _ _ st7 b hb
     exact (pin' b hb o e).2
   cases b with
   | false=>
    simp only [Bool.false_eq_true,if_false] at q9 ⊢
    exact fin I9 q9
   | true=>
    simp only [if_true] at q9 ⊢
    refine Znj (pe _ s9 σ8 H9 _ I9 q9) fun z s10 ⟨yv,H10,I10,r10,acc,hD10,hz10,nx⟩=>?_
    exact ZnE (X:=X.blk s3 H3 scope ce fp) I10 hD10 hz10 r10 fun s11 I11=>fin I11 nx
 exact codeAny_compStart_list loop (T.self X.A 0 _ _ _ st4 loop)
theorem ZfW {elt tg ZbH:Expr} {ifs:List Expr} {scope:Scope} {own:List (Str×Nat)} {pos:Pos} {wi:TI} {g:TG} {tt:TT} {te:TE} (hc:X.calm=true) (hN:X.N.Nodup) (hi:PI X tg ZbH wi) (ok:BlkOk X.N X.env.scope scope own)
  (hg:∀ (s:Shared) (H:Hp) (C:Addr) (cl:List (Str×Addr)) (fp:List Addr),PG (X.blk s H scope (compEnvC scope cl C X.env) fp) tg g) (ht:∀ (s:Shared) (H:Hp) (C:Addr) (cl:List (Str×Addr)) (fp:List Addr),PTs (X.blk s H scope (compEnvC scope cl C X.env) fp) ifs tt)
  (he:∀ (s:Shared) (H:Hp) (C:Addr) (cl:List (Str×Addr)) (fp:List Addr),PE (X.blk s H scope (compEnvC scope cl C X.env) fp) elt te) (hs:∀ x,foldedSetIterable ZbH X.env x=pure x:=by intro _; rfl):
  PE X (.ListComp elt [⟨tg,ZbH,ifs,0⟩] scope pos) (tLc wi g tt te (own.map (·.2))):=by
 intro pins s σ H Q I h
 rw [eval_ListComp]
 refine Zi2 hc hN I hi ok hg ht he hs h fun D C s' m H' I' q hn f=>⟨m,hn,fun h'' sb=>?_⟩
 obtain ⟨f0,f1,f2,f3,f4,f5⟩:=f
 exact ⟨.ref D,H',I'.turned (t':=s'.toks) (fun b o hb e=>(sb.2 b hb).trans e) f0 f1 f3 f4 f5,rfl,q⟩
theorem ZcR {i:Nat} {y:Str} {py:Pos} {elt tg ZbH:Expr} {ifs:List Expr} {scope:Scope} {own:List (Str×Nat)} {pos spos:Pos} {wi:TI} {g:TG} {tt:TT} {te:TE} (hc:X.calm=true) (hN:X.N.Nodup) (hy:X.N[i]? = some y) (hyl:X.env.scope.names.lookup y=some .local)
  (hsw:swapsWith (.ListComp elt [⟨tg,ZbH,ifs,0⟩] scope pos) (some (.Name y py)) spos.line X.env=pure true) (hi:PI X tg ZbH wi) (ok:BlkOk X.N X.env.scope scope own)
  (hg:∀ (s:Shared) (H:Hp) (C:Addr) (cl:List (Str×Addr)) (fp:List Addr),PG (X.blk s H scope (compEnvC scope cl C X.env) fp) tg g) (ht:∀ (s:Shared) (H:Hp) (C:Addr) (cl:List (Str×Addr)) (fp:List Addr),PTs (X.blk s H scope (compEnvC scope cl C X.env) fp) ifs tt)
  (he:∀ (s:Shared) (H:Hp) (C:Addr) (cl:List (Str×Addr)) (fp:List Addr),PE (X.blk s H scope (compEnvC scope cl C X.env) fp) elt te) (hs:∀ x,foldedSetIterable ZbH X.env x=pure x:=by intro _; rfl):
  PS X (.Assign [.Name y py] (.ListComp elt [⟨tg,ZbH,ifs,0⟩] scope pos) spos) (Zpc (tLc wi g tt te (own.map (·.2))) (ZdH i)):=by
 intro pins s σ H D I h
 rw [exec_Assign_Name_used _ _ _ _ hsw]
 refine wpAny_bind (wpAny_standAt (wpAny_bind ?_))
 show wpAny _ X.A (do let _ ← comprehension (.ListComp elt [⟨tg,ZbH,ifs,0⟩] scope pos) scope X.env (firstIterPos [⟨tg,ZbH,ifs,0⟩] pos) (newList []) false (eval ZbH X.env) (some (assign (.Name y py) X.env))) _ _ s
 have h:tLc wi g tt te (own.map (·.2)) σ H (fun x H1=>ZdH i x σ H1 D.nx):=h
 refine wpAny_bind (thn (Zi2 (Qf:=fun _ s'=>SP X pins D .next s') hc hN I hi ok hg ht he hs h fun L C s' m H' I' q hn f=>?_) fun _ s' hq=>wpAny_pure (wpAny_pure hq))
 show wpAny _ _ (assign (.Name y py) X.env (.ref L)) _ _ _
 refine wpAny_assign_Name (ZfJ (v:=V.ref L) I' hN hy (.inl hyl) rfl (fun s2 I2 ⟨a,sb,ha⟩=>?_) (.inr hyl))
 obtain ⟨f0,f1,f2,f3,f4,f5⟩:=f
 have haC:C≠a:=by
  rcases ha with z | z
  ·rw [z]; exact f1
  ·exact fun e=>f4 y a z e.symm
 refine ⟨m,hn.sameBut sb haC,fun h3 sb3=>?_⟩
 exact ⟨_,H',I2.turned (t':=s2.toks) (fun b o hb e=>(sb3.2 b hb).trans e) f0 f1 f3 f4 f5,q⟩
theorem ZdV {elt:Expr} {gs:List Comprehension} {scope:Scope} {pos py:Pos} {y:Str} {l:Nat} {env:Env} (hk:env.scope.kind = .function) (hy:env.scope.names.lookup y=some .local) (hl:(py.line==pos.line)=true)
  (ha:(scope.names.any fun (n,k)=>n==y&&(k == .local||k == .cell))=false):swapsWith (.ListComp elt gs scope pos) (some (.Name y py)) l env=pure true:=by
 have ky:env.kindOf y=some .local:=hy
 have hb:env.blockKind = .function:=by unfold Env.blockKind; rw [hk]; rfl
 unfold swapsWith
 simp only [hb,ky,ha,Expr.pos,hl]
 rfl
end
theorem ZkK {lo:Int} {n:Nat} {g:TG} {tt:TT} {te:TE} {vs:List Nat} {σ:St} {H1:Hp} {D:Addr} {Qd:Hp→Prop} (Pv:Nat→Hp→Prop) (h0:Pv 0 (upd H1 D (.lst [])))
  (hs:∀ i H,i<n→Pv i H→g (.int (lo+i)) (Zba σ vs) H fun σ2 H2=>Zba σ2 vs=Zba σ vs∧tt σ2 H2 fun b H3=>
   if b=true then te σ2 H3 fun y H4=>∃ acc,H4 D=some (.lst acc)∧acc.length<sizeLine∧Pv (i+1) (upd H4 D (.lst (acc++[y]))) else Pv (i+1) H3) (hd:∀ H,Pv n H→Qd H):
  ∃ W:Nat→Nat→Hp→Prop,(∃ m,W 0 m (upd H1 D (.lst [])))∧∀ i m H,W i m H →
   ((Itr lo n).stop i H∧Qd H)∨((Itr lo n).go i H∧∃ Nx:Hp→Prop,(∀ H',Nx H'→∃ m',m'<m∧W (i+1) m' H')∧∀ x H',(Itr lo n).yld i H x H'→g x (Zba σ vs) H' fun σ2 H2=>Zba σ2 vs=Zba σ vs∧tt σ2 H2 fun b H3=>
    if b=true then te σ2 H3 fun y H4=>∃ acc,H4 D=some (.lst acc)∧acc.length<sizeLine∧Nx (upd H4 D (.lst (acc++[y]))) else Nx H3):=by
 refine ⟨fun i m H=>m=n-i∧i≤n∧Pv i H,⟨n,by simp,Nat.zero_le _,h0⟩,?_⟩
 rintro i m H ⟨rfl,hi,p⟩
 by_cases hlt:i<n
 ·refine .inr ⟨hlt,Pv (i+1),fun H' p'=>⟨n-(i+1),by omega,rfl,hlt,p'⟩,fun x H' y=>?_⟩
  obtain ⟨e,y⟩:=y
  subst e y
  exact hs i _ hlt p
 ·have e:i=n:=by omega
  subst e
  exact .inl ⟨Nat.le_refl _,hd H p⟩
theorem Zmo {K:PySem.W.Frag} {a:Addr} {xs:List V} {g:TG} {tt:TT} {te:TE} {vs:List Nat} {σ:St} {H1:Hp} {D:Addr} {Qd:Hp→Prop} (Pv:Nat→Hp→Prop) (h0:Pv 0 (upd H1 D (.lst []))) (hl:∀ i H,i≤xs.length→Pv i H→SqL K H a xs)
  (hs:∀ i x H,xs[i]? = some x→Pv i H→g x (Zba σ vs) H fun σ2 H2=>Zba σ2 vs=Zba σ vs∧tt σ2 H2 fun b H3=>
   if b=true then te σ2 H3 fun y H4=>∃ acc,H4 D=some (.lst acc)∧acc.length<sizeLine∧Pv (i+1) (upd H4 D (.lst (acc++[y]))) else Pv (i+1) H3) (hd:∀ H,Pv xs.length H→Qd H):
  ∃ W:Nat→Nat→Hp→Prop,(∃ m,W 0 m (upd H1 D (.lst [])))∧∀ i m H,W i m H →
   ((Itl K a).stop i H∧Qd H)∨((Itl K a).go i H∧∃ Nx:Hp→Prop,(∀ H',Nx H'→∃ m',m'<m∧W (i+1) m' H')∧∀ x H',(Itl K a).yld i H x H'→g x (Zba σ vs) H' fun σ2 H2=>Zba σ2 vs=Zba σ vs∧tt σ2 H2 fun b H3=>
    if b=true then te σ2 H3 fun y H4=>∃ acc,H4 D=some (.lst acc)∧acc.length<sizeLine∧Nx (upd H4 D (.lst (acc++[y]))) else Nx H3):=by
 refine ⟨fun i m H=>m=xs.length-i∧i≤xs.length∧Pv i H,⟨xs.length,by simp,Nat.zero_le _,h0⟩,?_⟩
 rintro i m H ⟨rfl,hi,p⟩
 have q:=hl i H hi p
 by_cases hlt:i<xs.length
 ·refine .inr ⟨⟨xs,xs[i],q,by simp [hlt]⟩,Pv (i+1),fun H' p'=>⟨xs.length-(i+1),by omega,rfl,hlt,p'⟩,fun x H' y=>?_⟩
  obtain ⟨e,y⟩:=y
  subst e
  exact hs i x _ (y xs q) p
 ·have e:i=xs.length:=by omega
  subst e
  exact .inl ⟨⟨xs,q,Nat.le_refl _⟩,hd H p⟩
def Zph (N:List Str) (sc scope:Scope) (own:List (Str×Nat)):Bool:=
 (match scope.kind with | .function=>true | _=>false)&&(scope.names.all fun y=>decide (scope.names.lookup y.1=some y.2))&&(own.all fun p=>decide (N[p.2]? = some p.1)) &&
  (scope.names.all fun y=>match y.2 with
   | .free=>(match sc.names.lookup y.1 with | some .cell=>true | some .free=>true | _=>false)
   | .local=>decide (y.1∈own.map (·.1))||decide (y.1∉N)
   | .cell=>decide (y.1∈own.map (·.1))||decide (y.1∉N)
   | _=>true)
theorem Za4 {N:List Str} {sc scope:Scope} {own:List (Str×Nat)} (h:Zph N sc scope own=true):BlkOk N sc scope own:=by
 unfold Zph at h
 simp only [Bool.and_eq_true,List.all_eq_true,decide_eq_true_eq] at h
 obtain ⟨⟨⟨h1,h2⟩,h3⟩,h4⟩:=h
 refine ⟨?_,h2,h3,fun y hy e=>?_,fun y hy e=>?_⟩
 ·split at h1
  ·assumption
  ·cases h1
 ·have q:=h4 y hy
  simp only [e] at q
  split at q<;>first | exact .inl (by assumption) | exact .inr (by assumption) | cases q
 ·have q:=h4 y hy
  rcases e with e | e<;>(simp only [e,Bool.or_eq_true,decide_eq_true_eq] at q; exact q)
end L2
namespace L2
open PySem PySem.Spec PyProof.Rows
section
variable {prog:Program} {w:World} {A:Around} {R:Result→Shared→Prop} {s:Shared} {elt t0 i0 t1 i1:Expr} {ifs0 ifs1:List Expr} {scope:Scope} {pos:Pos} {it acc:Value} {env:Env}
end
section
variable {X:Cx}
end
end L2
namespace L2
open PySem PySem.Spec PyProof.Rows
section
variable {κ:Type} [DecidableEq κ]
def Zeu (kvs:List (κ×V)) (k:κ):Option V:=(kvs.find? fun kv=>decide (kv.1=k)).map (·.2)
def ZdW (kvs:List (κ×V)) (k:κ) (v:V):List (κ×V):=
 if (kvs.any fun kv=>decide (kv.1=k))=true then kvs.map (fun kv=>if kv.1=k then (kv.1,v) else kv) else kvs++[(k,v)]
def ZgR (kvs:List (κ×V)) (k:κ):List (κ×V):=kvs.filter fun kv=>decide (kv.1≠k)
theorem ZcS {p:κ×V} {r:List (κ×V)} {k:κ} (e:p.1=k):Zeu (p::r) k=some p.2:=by simp [Zeu,List.find?_cons,e]
theorem ZcT {p:κ×V} {r:List (κ×V)} {k:κ} (e:¬ p.1=k):Zeu (p::r) k=Zeu r k:=by simp [Zeu,List.find?_cons,e]
theorem Zhr (k:κ):∀ kvs:List (κ×V),(kvs.any fun kv=>decide (kv.1=k))=(Zeu kvs k).isSome
 | []=>rfl
 | p::r=>by
  rw [List.any_cons]
  by_cases e:p.1=k
  ·simp only [ZcS e,decide_eq_true e,Bool.true_or,Option.isSome_some]
  ·rw [ZcT e,decide_eq_false e,Bool.false_or]; exact Zhr k r
theorem ZcA (kvs:List (κ×V)) (k:κ) (v:V):(ZdW kvs k v).length≤kvs.length+1:=by
 unfold ZdW
 split
 ·rw [List.length_map]; omega
 ·rw [List.length_append,List.length_cons,List.length_nil]; omega
theorem RelO.isSome_eq {o:Option V} {u:Option Value} (r:RelO o u):o.isSome=u.isSome:=by
 cases o with
 | none=>cases u with
  | none=>rfl
  | some _=>exact (show False from r).elim
 | some _=>cases u with
  | none=>exact (show False from r).elim
  | some _=>rfl
theorem RelO.getD {o:Option V} {u:Option Value} {d:V} {d':Value} (r:RelO o u) (rd:RelV d d'):RelV (o.getD d) (u.getD d'):=by
 cases o with
 | none=>cases u with
  | none=>exact rd
  | some _=>exact (show False from r).elim
 | some _=>cases u with
  | none=>exact (show False from r).elim
  | some _=>exact r
theorem KV.val {kvs:List (κ×V)} {vs:List (κ×Value)} (r:KV kvs vs) (k:κ):RelO (Zeu kvs k) (valueAt vs k):=by
 unfold KV at r
 induction r with
 | nil=>exact True.intro
 | @cons p q ps qs h t ih=>
  obtain ⟨h1,h2⟩:=h
  by_cases e:p.1=k
  ·have e':q.1=k:=h1.symm.trans e
   have b:valueAt (q::qs) k=some q.2:=by simp [valueAt,List.find?_cons,e']
   rw [ZcS e,b]; exact h2
  ·have e':¬ q.1=k:=fun z=>e (h1.trans z)
   have b:valueAt (q::qs) k=valueAt qs k:=by simp [valueAt,List.find?_cons,e']
   rw [ZcT e,b]; exact ih
theorem KV.any {kvs:List (κ×V)} {vs:List (κ×Value)} (r:KV kvs vs) (k:κ):(kvs.any fun kv=>decide (kv.1=k))=vs.any fun kv=>decide (kv.1=k):=by
 unfold KV at r
 induction r with
 | nil=>rfl
 | cons h t ih=>rw [List.any_cons,List.any_cons,ih,h.1]
theorem KV.repl {kvs:List (κ×V)} {vs:List (κ×Value)} (r:KV kvs vs) (k:κ) {y:V} {u:Value} (ry:RelV y u):
  KV (kvs.map fun kv=>if kv.1=k then (kv.1,y) else kv) (vs.map fun kv=>if kv.1=k then (kv.1,u) else kv):=by
 unfold KV at r ⊢
 induction r with
 | nil=>exact .nil
 | @cons p q ps qs h t ih=>
  rw [List.map_cons,List.map_cons]
  refine .cons ?_ ih
  obtain ⟨h1,h2⟩:=h
  by_cases e:p.1=k
  ·rw [if_pos e,if_pos (h1.symm.trans e)]; exact ⟨h1,ry⟩
  ·rw [if_neg e,if_neg (fun z=>e (h1.trans z))]; exact ⟨h1,h2⟩
theorem KV.put {kvs:List (κ×V)} {vs:List (κ×Value)} (r:KV kvs vs) (k:κ) {y:V} {u:Value} (ry:RelV y u):KV (ZdW kvs k y) (stored vs k u):=by
 unfold ZdW stored
 rw [r.any k]
 by_cases e:(vs.any fun kv=>decide (kv.1=k))=true
 ·rw [if_pos e,if_pos e]; exact r.repl k ry
 ·rw [if_neg e,if_neg e]; exact Paired.snoc r ⟨rfl,ry⟩
theorem KV.drop {kvs:List (κ×V)} {vs:List (κ×Value)} (r:KV kvs vs) (k:κ):KV (ZgR kvs k) (without vs k):=by
 unfold KV at r ⊢
 unfold ZgR without
 induction r with
 | nil=>exact .nil
 | @cons p q ps qs h t ih=>
  obtain ⟨h1,h2⟩:=h
  rw [List.filter_cons,List.filter_cons]
  by_cases e:p.1=k
  ·have a:¬ decide (p.1≠k)=true:=by simp [e]
   have b:¬ decide (q.1≠k)=true:=by simp [h1.symm.trans e]
   rw [if_neg a,if_neg b]; exact ih
  ·have e':¬ q.1=k:=fun z=>e (h1.trans z)
   have a:decide (p.1≠k)=true:=by simp [e]
   have b:decide (q.1≠k)=true:=by simp [e']
   rw [if_pos a,if_pos b]; exact .cons ⟨h1,h2⟩ ih
theorem KV.keys {kvs:List (κ×V)} {vs:List (κ×Value)} (r:KV kvs vs):kvs.map (·.1)=vs.map (·.1):=by
 unfold KV at r
 induction r with
 | nil=>rfl
 | cons h t ih=>rw [List.map_cons,List.map_cons,ih,h.1]
theorem KV.length {kvs:List (κ×V)} {vs:List (κ×Value)} (r:KV kvs vs):kvs.length=vs.length:=Paired.length r
theorem ZkL (kvs:List (κ×V)) (k:κ):(ZgR kvs k).length≤kvs.length:=List.length_filter_le _ _
end
theorem Zfp {P:Program} {w:World} {k:Key} {u:Value} (r:RelV (kV k) u):(ZaM P w).is k u=true:=by
 cases k with
 | inl i=>obtain ⟨t,e⟩:=(show ∃ t,u=Value.int i t from r); subst e; exact ZgH P w i t
 | inr x=>obtain ⟨t,e⟩:=(show ∃ t,u=Value.str x t from r); subst e; exact ZgI P w x t
theorem ZfX {P:Program} {w:World}:∀ {ks:List Key} {us:List Value},Vals (ks.map kV) us→ItemsAre (ZaM P w) ks us
 | [],_,r=>by rw [List.map_nil] at r; cases r; exact .nil
 | k::ks,_,r=>by
  rw [List.map_cons] at r
  cases r with
  | cons h t=>exact .cons (Zfp h) (ZfX t)
abbrev KT (H:Hp):List (List Key×V)→List (List Key×Addr×Value)→Prop:=Paired fun p q=>p.1=q.1∧H q.2.1=some (.tup (p.1.map kV))∧RelV p.2 q.2.2
theorem KT.val {H:Hp} {kvs:List (List Key×V)} {xs:List (List Key×Addr×Value)} (r:KT H kvs xs) (k:List Key):RelO (Zeu kvs k) ((atKey xs k).map (·.2)):=by
 induction r with
 | nil=>exact True.intro
 | @cons p q ps qs h t ih=>
  obtain ⟨h1,_,h2⟩:=h
  by_cases e:p.1=k
  ·have e':q.1=k:=h1.symm.trans e
   have b:atKey (q::qs) k=some q.2:=by simp [atKey,List.find?_cons,e']
   rw [ZcS e,b]; exact h2
  ·have e':¬ q.1=k:=fun z=>e (h1.trans z)
   have b:atKey (q::qs) k=atKey qs k:=by simp [atKey,List.find?_cons,e']
   rw [ZcT e,b]; exact ih
theorem KT.repl {H:Hp} {kvs:List (List Key×V)} {xs:List (List Key×Addr×Value)} (r:KT H kvs xs) (k:List Key) {y:V} {u:Value} (ry:RelV y u):
  KT H (kvs.map fun kv=>if kv.1=k then (kv.1,y) else kv) (xs.map (putAt k u)):=by
 induction r with
 | nil=>exact .nil
 | @cons p q ps qs h t ih=>
  rw [List.map_cons,List.map_cons]
  refine .cons ?_ ih
  obtain ⟨h1,h2,h3⟩:=h
  unfold putAt
  by_cases e:p.1=k
  ·rw [if_pos e,if_pos (h1.symm.trans e)]; exact ⟨h1,h2,ry⟩
  ·rw [if_neg e,if_neg (fun z=>e (h1.trans z))]; exact ⟨h1,h2,h3⟩
theorem KT.put {H:Hp} {kvs:List (List Key×V)} {xs:List (List Key×Addr×Value)} (r:KT H kvs xs) (k:List Key) {b:Addr} {y:V} {u:Value} (hb:H b=some (.tup (k.map kV))) (ry:RelV y u):
  KT H (ZdW kvs k y) (storedH xs k b u):=by
 have e:(kvs.any fun kv=>decide (kv.1=k))=(atKey xs k).isSome:=by
  rw [Zhr,(r.val k).isSome_eq,Option.isSome_map]
 unfold ZdW storedH
 rw [e]
 by_cases q:(atKey xs k).isSome=true
 ·rw [if_pos q,if_pos q]; exact r.repl k ry
 ·rw [if_neg q,if_neg q]; exact Paired.snoc r ⟨rfl,hb,ry⟩
theorem KT.keeps {H H':Hp} {kvs:List (List Key×V)} {xs:List (List Key×Addr×Value)} (r:KT H kvs xs) (ht:∀ b ys,H b=some (.tup ys)→H' b=some (.tup ys)):KT H' kvs xs:=
 Paired.mapP r fun _ _ z=>⟨z.1,ht _ _ z.2.1,z.2.2⟩
section
variable {P:Program} {w:World} {H:Hp} {h:Heap} {a:Addr}
theorem ZnF {u:HO} (ok:HOk P w H h) (e:Rd H a u):ObjOk P w H h a u:=e.ok ok
theorem ZfY {kvs:List (Key×V)} (ok:HOk P w H h) (e:Rd H a (.dK kvs)):kvs.length≤sizeLine∧(a==sysModules)=false∧∃ vs,KV kvs vs∧h.DictOf (ZaM P w) a vs:=
 show ObjOk P w H h a (.dK kvs) from ZnF ok e
theorem ZkM {kvs:List (Key×V)} (ok:HOk P w H h) (e:H a=some (.dK kvs)):kvs.length≤sizeLine∧(a==sysModules)=false∧∃ vs,KV kvs vs∧h.DictOf (ZaM P w) a vs:=ZfY ok (.inl e)
theorem ZeE {ks:List Key} (ok:HOk P w H h) (e:H a=some (.tup (ks.map kV))):(tupleKind (ZaM P w)).is h ks a:=by
 obtain ⟨_,its,r,o,h1,h2,n,h3⟩:=(show ObjOk P w H h a (.tup (ks.map kV)) from ok a _ e)
 exact ⟨o,its.toArray,n,h1,h2,h3,by simpa using ZfX r⟩
theorem ZgS {kvs:List (List Key×V)} (ok:HOk P w H h) (e:Rd H a (.dT kvs)):kvs.length≤sizeLine∧(a==sysModules)=false ∧
  ∃ xs,KT H kvs xs∧h.DictOfH (tupleKind (ZaM P w)) a xs:=by
 obtain ⟨z,y,xs,r,o,es,ep,h1,h2,h3,h4,h5⟩:=(show ObjOk P w H h a (.dT kvs) from ZnF ok e)
 refine ⟨z,y,xs,r,o,es,ep,h1,h2,h3,h4,fun x hx=>?_,h5⟩
 have all:∀ {l:List (List Key×V)} {m:List (List Key×Addr×Value)},KT H l m→∀ x∈m,(tupleKind (ZaM P w)).is h x.1 x.2.1:=by
  intro l m q
  induction q with
  | nil=>intro x hx; exact nomatch hx
  | @cons p q ps qs hq t ih=>
   intro x hx
   rcases List.mem_cons.mp hx with e | hx
   ·subst e
    exact ZeE ok (by rw [← hq.1]; exact hq.2.1)
   ·exact ih x hx
 exact all r x hx
theorem ZoN {kvs:List (List Key×V)} (ok:HOk P w H h) (e:H a=some (.dT kvs)):kvs.length≤sizeLine∧(a==sysModules)=false ∧
  ∃ xs,KT H kvs xs∧h.DictOfH (tupleKind (ZaM P w)) a xs:=ZgS ok (.inl e)
end
def DGet (H:Hp) (a:Addr) (y:V) (r:Option V):Prop:=
 (∃ kvs k,Rd H a (.dK kvs)∧y=kV k∧r=Zeu kvs k)∨∃ kvs k b,Rd H a (.dT kvs)∧y = .ref b∧H b=some (.tup (k.map kV))∧r=Zeu kvs k
def DPut (H:Hp) (a:Addr) (y v:V) (H':Hp):Prop:=
 (∃ kvs k,H a=some (.dK kvs)∧y=kV k∧kvs.length<sizeLine∧H'=upd H a (.dK (ZdW kvs k v))) ∨
 ∃ kvs k b,H a=some (.dT kvs)∧y = .ref b∧H b=some (.tup (k.map kV))∧kvs.length<sizeLine∧H'=upd H a (.dT (ZdW kvs k v))
theorem DGet.k {H:Hp} {a:Addr} {kvs:List (Key×V)} {k:Key} (e:H a=some (.dK kvs)):DGet H a (kV k) (Zeu kvs k):=.inl ⟨kvs,k,.inl e,rfl,rfl⟩
theorem DGet.t {H:Hp} {a b:Addr} {kvs:List (List Key×V)} {k:List Key} (e:H a=some (.dT kvs)) (eb:H b=some (.tup (k.map kV))):DGet H a (.ref b) (Zeu kvs k):=.inr ⟨kvs,k,b,.inl e,rfl,eb,rfl⟩
theorem DPut.k {H:Hp} {a:Addr} {kvs:List (Key×V)} {k:Key} {v:V} (e:H a=some (.dK kvs)) (hl:kvs.length<sizeLine):DPut H a (kV k) v (upd H a (.dK (ZdW kvs k v))):=.inl ⟨kvs,k,e,rfl,hl,rfl⟩
theorem DPut.t {H:Hp} {a b:Addr} {kvs:List (List Key×V)} {k:List Key} {v:V} (e:H a=some (.dT kvs)) (eb:H b=some (.tup (k.map kV))) (hl:kvs.length<sizeLine):
  DPut H a (.ref b) v (upd H a (.dT (ZdW kvs k v))):=.inr ⟨kvs,k,b,e,rfl,eb,hl,rfl⟩
section
variable {X:Cx} {pins:List (Addr×Obj)} {σ:St} {H:Hp} {s:Shared} {a:Addr} {y v:V} {u r:Value} {o:Option V} {A:Around} {E:Value→Shared→Prop}
theorem Inv.big (I:Inv X pins σ H s):sysModules<s.heap.objs.size:=by
 have h:mainGlobals<s.heap.objs.size:=(I.mod.glob.keeps I.bk).lt
 exact Nat.lt_trans (by decide) h
theorem Zi3 {Q:Value→Shared→Prop} (hu:A.units+1<cLine) (I:Inv X pins σ H s) (g:DGet H a y (some v)) (ry:RelV y u) (h:∀ w' s',Inv X pins σ H s'→RelV v w'→Q w' s'):
  wpAny (model X.prog X.w) A (getItem (.ref a) u) Q E s:=by
 rcases g with ⟨kvs,k,e,ey,l⟩ | ⟨kvs,k,b,e,ey,eb,l⟩
 ·subst ey
  obtain ⟨z,hd,vs,rel,dd⟩:=ZfY I.hok e
  obtain ⟨w',hw,rw'⟩:=RelO.some_of (v:=v) (o:=valueAt vs k) (by rw [l]; exact rel.val k)
  exact wpAny_getItem_of (Zfp ry) dd.mapOf hw (h w' _ (I.tok _) rw')
 ·subst ey
  cases (show u=Value.ref b from ry)
  obtain ⟨z,hd,xs,rel,dd⟩:=ZgS I.hok e
  obtain ⟨w',hw,rw'⟩:=RelO.some_of (v:=v) (o:=(atKey xs k).map (·.2)) (by rw [l]; exact rel.val k)
  obtain ⟨p,hp,hp2⟩:=Option.map_eq_some_iff.mp hw
  refine wpAny_getItem_heap (tupleKind_room_in1 hu) (ZeE I.hok eb) dd hp ?_
  rw [hp2]
  exact h w' _ (I.tok _) rw'
theorem d_in {Q:Value→Shared→Prop} (hu:A.units+1<cLine) (I:Inv X pins σ H s) (g:DGet H a y o) (ry:RelV y u) (h:∀ s',Inv X pins σ H s'→Q (.bool o.isSome) s'):
  wpAny (model X.prog X.w) A (compareOp .In u (.ref a)) Q E s:=by
 rcases g with ⟨kvs,k,e,ey,l⟩ | ⟨kvs,k,b,e,ey,eb,l⟩
 ·subst ey
  obtain ⟨z,hd,vs,rel,dd⟩:=ZfY I.hok e
  refine wpAny_in_of (Zfp ry) hd dd.mapOf ?_
  rw [← (rel.val k).isSome_eq,← l]
  exact h _ (I.tok _)
 ·subst ey
  cases (show u=Value.ref b from ry)
  obtain ⟨z,hd,xs,rel,dd⟩:=ZgS I.hok e
  refine wpAny_in_heap (tupleKind_room_in1 hu) (ZeE I.hok eb) hd dd ?_
  have q:=(rel.val k).isSome_eq
  rw [Option.isSome_map] at q
  rw [← q,← l]
  exact h _ (I.tok _)
theorem Zmp {Q:Value→Shared→Prop} (hu:A.units+1<cLine) (I:Inv X pins σ H s) (g:DGet H a y o) (ry:RelV y u) (h:∀ s',Inv X pins σ H s'→Q (.bool (!o.isSome)) s'):
  wpAny (model X.prog X.w) A (compareOp .NotIn u (.ref a)) Q E s:=by
 rcases g with ⟨kvs,k,e,ey,l⟩ | ⟨kvs,k,b,e,ey,eb,l⟩
 ·subst ey
  obtain ⟨z,hd,vs,rel,dd⟩:=ZfY I.hok e
  refine wpAny_notIn_of (Zfp ry) hd dd.mapOf ?_
  rw [← (rel.val k).isSome_eq,← l]
  exact h _ (I.tok _)
 ·subst ey
  cases (show u=Value.ref b from ry)
  obtain ⟨z,hd,xs,rel,dd⟩:=ZgS I.hok e
  refine wpAny_notIn_heap (tupleKind_room_in1 hu) (ZeE I.hok eb) hd dd ?_
  have q:=(rel.val k).isSome_eq
  rw [Option.isSome_map] at q
  rw [← q,← l]
  exact h _ (I.tok _)
theorem Zfq {h':Heap} {t':Nat} {ob:HO} (I:Inv X pins σ H s) (mu:Mut (H a)) (hs:Heap.SameBut a s.heap h') (he:∃ q,h'.get? a=some q) (new:ObjOk X.prog X.w (upd H a ob) h' a ob):
  Inv X pins σ (upd H a ob) { s with heap:=h',toks:=t' }:=
 I.write (x:=a) (e:=a) mu (.inl rfl) (fun b q hb z=>(hs.2 b hb).trans z) he new
theorem Zi4 {P:Program} {w:World} {H':Hp} {h':Heap} {kvs:List (Key×V)} {vs:List (Key×Value)} (z:kvs.length≤sizeLine) (hd:(a==sysModules)=false) (rel:KV kvs vs) (dd:h'.DictOf (ZaM P w) a vs):
  ObjOk P w H' h' a (.dK kvs):=⟨z,hd,vs,rel,dd⟩
theorem Zi5 {H':Hp} {Q:Unit→Shared→Prop} (hu:A.units+1<cLine) (I:Inv X pins σ H s) (g:DPut H a y v H') (ry:RelV y u) (rv:RelV v r) (h:∀ s',Inv X pins σ H' s'→Q () s'):
  wpAny (model X.prog X.w) A (setItem (.ref a) u r) Q E s:=by
 rcases g with ⟨kvs,k,e,ey,l,eH⟩ | ⟨kvs,k,b,e,ey,eb,l,eH⟩
 ·subst ey eH
  obtain ⟨z,hd,vs,rel,dd⟩:=ZkM I.hok e
  have hz:vs.length≤sizeLine:=by rw [← rel.length]; exact z
  have hl:(ZdW kvs k v).length≤sizeLine:=by have:=ZcA kvs k v; omega
  refine wpAny_setItem_pairs (hsz:=hz) (Zfp ry) dd fun h' dd' hs=>h _ ?_
  have he:∃ q,h'.get? a=some q:=let ⟨q,_,_,hq,_⟩:=dd'; ⟨q,hq⟩
  exact Zfq I (by rw [e]; exact True.intro) hs he (Zi4 hl hd (rel.put k rv) dd')
 ·subst ey eH
  cases (show u=Value.ref b from ry)
  obtain ⟨z,hd,xs,rel,dd⟩:=ZoN I.hok e
  have hz:xs.length≤sizeLine:=by rw [← Paired.length rel]; exact z
  have hl:(ZdW kvs k v).length≤sizeLine:=by have:=ZcA kvs k v; omega
  refine wpAny_setItem_heap (hsz:=hz) (tupleKind_room_in1 hu) (ZeE I.hok eb) dd fun h' dd' hs=>h _ ?_
  obtain ⟨q,es,ep,hq,h2,h3,h4,_,h5⟩:=dd'
  refine Zfq I (by rw [e]; exact True.intro) hs ⟨q,hq⟩ ⟨hl,hd,_,(rel.put k eb rv).keeps fun c ys ec=>?_,q,es,ep,hq,h2,h3,h4,h5⟩
  rw [Zag (ZaF ec e (fun z=>nomatch z))]
  exact ec
end
section
variable {X:Cx} {pins:List (Addr×Obj)} {σ:St} {H:Hp} {s:Shared} {a:Addr} {kvs:List (Key×V)} {k:Key} {u:Value} {A:Around} {E:Value→Shared→Prop}
theorem ZoO {v:V} {more:List Value} {Q:Value→Shared→Prop} (I:Inv X pins σ H s) (e:H a=some (.dK kvs)) (ry:RelV (kV k) u) (l:Zeu kvs k=some v) (hm:more=[]∨∃ x,more=[x])
  (h:∀ w' s',Inv X pins σ (upd H a (.dK (ZgR kvs k))) s'→RelV v w'→Q w' s'):wpAny (model X.prog X.w) A (call (.builtin "dict.pop") (.ref a::u::more)) Q E s:=by
 obtain ⟨z,hd,vs,rel,dd⟩:=ZkM I.hok e
 obtain ⟨w',hw,rw'⟩:=RelO.some_of (v:=v) (o:=valueAt vs k) (by rw [← l]; exact rel.val k)
 have hp:(keyPart u).isSome=true:=by
  cases k with
  | inl i=>obtain ⟨t,q⟩:=(show ∃ t,u=Value.int i t from ry); subst q; rfl
  | inr x=>obtain ⟨t,q⟩:=(show ∃ t,u=Value.str x t from ry); subst q; rfl
 have ha:argsOk "dict.pop" ⟨.ref a::u::more,[]⟩:=by
  rcases hm with q | ⟨x,q⟩
  ·subst q; exact PySem.F.args_dict_pop_2 _ _
  ·subst q; exact PySem.F.args_dict_pop_3 _ _ _
 refine call_meetsIn PySem.F.slot_dict_pop dd.typeIs PySem.F.entry_dict_pop ha (meets_dict_pop_there (ZaM X.prog X.w) a (Zfp ry) more hm hp)
  ⟨vs,w',dd,by rw [← rel.length]; exact z,hw,fun h' dd' hs=>h w' _ ?_ rw'⟩
 have he:∃ q,h'.get? a=some q:=let ⟨q,_,_,hq,_⟩:=dd'; ⟨q,hq⟩
 exact Zfq I (by rw [e]; exact True.intro) hs he (Zi4 (Nat.le_trans (ZkL kvs k) z) hd (rel.drop k) dd')
theorem ZoP {Q:Value→Shared→Prop} (I:Inv X pins σ H s) (e:Rd H a (.dK kvs)) (h:∀ t s',Inv X pins σ H s'→Q (.int kvs.length t) s'):wpAny (model X.prog X.w) A (call (.builtin "len") [.ref a]) Q E s:=by
 obtain ⟨z,hd,vs,rel,dd⟩:=ZfY I.hok e
 refine call_len_dict hd dd (by rw [← rel.length]; rw [sizeLine_eq] at z; omega) ?_
 rw [← rel.length]
 exact h _ _ (I.tok _)
end
def Zpi (i:Expr):Prop:=∀ ov iv,subscripted i false ov iv=operate [ov,iv] (getItem ov iv)
theorem Zmq {prog:Program} {w:World} {A:Around} {E:Value→Shared→Prop} {s:Shared} {env:Env} {value slice:Expr} {pos:Pos} {T id:String} {Q:Value→Shared→Prop}
  (hl:typeLookup (.type T) "__getitem__"=pure (some (.builtin id))) (hs:Zpi slice)
  (h:wpAny (model prog w) A (eval value env) (fun o s₁=>wpAny (model prog w) A (eval slice env) (fun i s₂=>s₂.TypeIs o T∧wpAny (model prog w) A (getItem o i) Q E s₂) E s₁) E s):
  wpAny (model prog w) A (eval (.Subscript value slice pos) env) Q E s:=by
 refine Subscript_ (wpAny_mono h (fun o s₁ h₁=>wpAny_mono h₁ (fun i s₂ h₂=>?_) fun _ _ x=>x) fun _ _ x=>x)
 obtain ⟨hT,h₂⟩:=h₂
 unfold subscriptTail
 refine wpAny_bind ?_
 rw [getitemInPython_of_ne hT.not_modules]
 refine wpAny_bind (wpAny_specialOf hT hl ?_)
 have fin:wpAny (model prog w) A (subscripted slice false o i) (fun r s₃=>wpAny (model prog w) A (letTemporaryGo value o r >>= fun _=>pure r) Q E s₃) E s₂:=by
  rw [hs o i]
  exact wpAny_operating (wpAny_mono h₂ (fun r s₃ h₃=>wpAny_bind (wpAny_letTemporaryGo (wpAny_pure h₃))) fun _ _ x=>x)
 first
  | exact wpAny_pure (wpAny_bind fin)
  | exact wpAny_bind (wpAny_pure (wpAny_bind fin))
  | exact wpAny_bind fin
theorem ZgT {X:Cx} {pins:List (Addr×Obj)} {σ:St} {H:Hp} {s:Shared} {a:Addr} {y:V} {o:Option V} (I:Inv X pins σ H s) (g:DGet H a y o):s.TypeIs (.ref a) "dict":=by
 rcases g with ⟨kvs,k,e,_,_⟩ | ⟨kvs,k,b,e,_,_,_⟩
 ·obtain ⟨_,_,vs,_,dd⟩:=ZfY I.hok e
  exact dd.typeIs
 ·obtain ⟨_,_,xs,_,dd⟩:=ZgS I.hok e
  exact dd.typeIs
def ZoQ (td ty:TE):TE:=fun σ H Q=>td σ H fun x H1=>ty σ H1 fun y H2=>∃ a v,x = .ref a∧DGet H2 a y (some v)∧Q v H2
def tDIn (ty td:TE):TE:=fun σ H Q=>ty σ H fun y H1=>td σ H1 fun x H2=>∃ a o,x = .ref a∧DGet H2 a y o∧Q (.bl o.isSome) H2
def Zmr (ty td:TE):TE:=fun σ H Q=>ty σ H fun y H1=>td σ H1 fun x H2=>∃ a o,x = .ref a∧DGet H2 a y o∧Q (.bl (!o.isSome)) H2
def ZoR (td ty tv:TE):TS:=fun D σ H=>tv σ H fun v H1=>td σ H1 fun x H2=>ty σ H2 fun y H3=>∃ a H4,x = .ref a∧DPut H3 a y v H4∧D.nx σ H4
section
variable {X:Cx} {o i e value:Expr} {pos pos' tpos:Pos} {td ty tv:TE}
theorem Zi6 (hu:X.A.units+1<cLine) (ho:PE X o td) (hi:PE X i ty) (hs:Zpi i):PE X (.Subscript o i pos) (ZoQ td ty):=by
 intro pins s σ H Q I h
 refine Zmq PySem.F.slot_dict_getitem.lookup hs (thn (ho pins s σ H _ I h) fun u s1 ⟨x,H1,I1,rx,q1⟩=>thn (hi pins s1 σ H1 _ I1 q1) fun iv s2 ⟨y,H2,I2,ry,a,v,ex,g,q2⟩=>?_)
 subst ex
 obtain rfl:u=Value.ref a:=rx
 exact ⟨ZgT I2 g,Zi3 hu I2 g ry fun w' s3 I3 rw'=>⟨v,H2,I3,rw',q2⟩⟩
theorem ZlU (hu:X.A.units+1<cLine) (hi:PE X i ty) (ho:PE X o td):PC X .In i o (tDIn ty td):=by
 intro pins s σ H Q I h
 refine thn (hi pins s σ H _ I h) fun iv s1 ⟨y,H1,I1,ry,q1⟩=>thn (ho pins s1 σ H1 _ I1 q1) fun u s2 ⟨x,H2,I2,rx,a,ov,ex,g,q2⟩=>?_
 subst ex
 obtain rfl:u=Value.ref a:=rx
 exact d_in hu I2 g ry fun s3 I3=>⟨.bl ov.isSome,H2,I3,rfl,q2⟩
theorem ZdX (hu:X.A.units+1<cLine) (hi:PE X i ty) (ho:PE X o td):PC X .NotIn i o (Zmr ty td):=by
 intro pins s σ H Q I h
 refine thn (hi pins s σ H _ I h) fun iv s1 ⟨y,H1,I1,ry,q1⟩=>thn (ho pins s1 σ H1 _ I1 q1) fun u s2 ⟨x,H2,I2,rx,a,ov,ex,g,q2⟩=>?_
 subst ex
 obtain rfl:u=Value.ref a:=rx
 exact Zmp hu I2 g ry fun s3 I3=>⟨.bl (!ov.isSome),H2,I3,rfl,q2⟩
theorem ZgU (hu:X.A.units+1<cLine) (ho:PE X o td) (hi:PE X i ty) (hv:PE X value tv) (hs:swapsWith value (some (.Subscript o i pos')) pos.line X.env=pure false):
  PS X (.Assign [.Subscript o i pos'] value pos) (ZoR td ty tv):=by
 intro pins s σ H D I h
 refine wpAny_Assign_Subscript (thn (hv pins s σ H _ I h) fun r s1 ⟨v,H1,I1,rv,q1⟩=>thn (ho pins s1 σ H1 _ I1 q1) fun u s2 ⟨x,H2,I2,rx,q2⟩=>thn (hi pins s2 σ H2 _ I2 q2) fun iv s3 ⟨y,H3,I3,ry,a,H4,ex,g,q3⟩=>?_) hs
 subst ex
 obtain rfl:u=Value.ref a:=rx
 exact Zi5 hu I3 g ry rv fun s4 I4=>⟨σ,H4,I4,q3⟩
end
theorem ZkN {P:Program} {w:World} {H:Hp} (h:Heap) (hb:sysModules<h.objs.size):ObjOk P w H (h.push { cls:=.type "dict",data:=.dict #[] }) h.objs.size (.dK []):=
 ⟨Nat.zero_le _,beq_eq_false_iff_ne.mpr (Ne.symm (Nat.ne_of_lt hb)),[],.nil,Heap.DictOf.new h⟩
theorem ZkO {P:Program} {w:World} {H:Hp} (h:Heap) (hb:sysModules<h.objs.size):ObjOk P w H (h.push { cls:=.type "dict",data:=.dict #[] }) h.objs.size (.dT []):=
 ⟨Nat.zero_le _,beq_eq_false_iff_ne.mpr (Ne.symm (Nat.ne_of_lt hb)),[],.nil,_,#[],0,Heap.get?_push_size _ rfl,⟨rfl,rfl,rfl⟩,rfl,rfl,List.nodup_nil⟩
def tDNewT:TE:=fun _ H Q=>∀ p,H p=none→Q (.ref p) (upd H p (.dT []))
section
variable {X:Cx} {pos:Pos}
theorem ZkP:PE X (.Dict [] [] pos) tDNewT:=fun pins s σ H Q I h=>
 wpAny_Dict_empty ⟨.ref s.heap.objs.size,_,I.laid (a:=s.heap.objs.size) (o:=.dT []) (t':=s.toks) (fun _ _ q=>Heap.get?_push_of_some _ q) (Nat.le_refl _) (ZkO s.heap I.big),rfl,h _ (I.hok.fresh (Nat.le_refl _))⟩
end
def Zi7:List (TE×TE)→St→Hp→(List (V×V)→Hp→Prop)→Prop
 | [],_,H,Q=>Q [] H
 | (tk,tv)::r,σ,H,Q=>tk σ H fun x H1=>tv σ H1 fun y H2=>Zi7 r σ H2 fun ps H3=>Q ((x,y)::ps) H3
abbrev VV:List (V×V)→List (Value×Value)→Prop:=Paired fun p q=>RelV p.1 q.1∧RelV p.2 q.2
def PPs (X:Cx) (pos:Pos) (keys:List (Option Expr)) (values:List Expr) (trs:List (TE×TE)):Prop:=
 ∀ (pins:List (Addr×Obj)) (s:Shared) (σ:St) (H:Hp) (Q:List (V×V)→Hp→Prop),Inv X pins σ H s→Zi7 trs σ H Q →
  wpAny (model X.prog X.w) X.A (evalPairs (pairTrees keys values X.env pos)) (fun vs s'=>∃ ps H',Inv X pins σ H' s'∧VV ps vs∧Q ps H') X.xe s
theorem Zi8 {X:Cx} {pos:Pos}:PPs X pos [] [] []:=fun pins s σ H Q I h=>pairTrees_nil_walk ⟨[],H,I,.nil,h⟩
theorem Zhs {X:Cx} {pos:Pos} {k v:Expr} {ks:List (Option Expr)} {vs:List Expr} {tk tv:TE} {trs:List (TE×TE)} (hk:PE X k tk) (hv:PE X v tv) (hr:PPs X pos ks vs trs):
  PPs X pos (some k::ks) (v::vs) ((tk,tv)::trs):=fun pins s σ H Q I h=>
 pairTrees_cons_walk (thn (hk pins s σ H _ I h) fun u s1 ⟨x,H1,I1,rx,q1⟩=>thn (hv pins s1 σ H1 _ I1 q1) fun w2 s2 ⟨y,H2,I2,ry,q2⟩=>
  thn (hr pins s2 σ H2 _ I2 q2) fun ws s3 ⟨ps,H3,I3,rel,q3⟩=>⟨(x,y)::ps,H3,I3,.cons ⟨rx,ry⟩ rel,q3⟩)
def ZbJ (kvs more:List (Key×V)):List (Key×V):=more.foldl (fun acc kv=>ZdW acc kv.1 kv.2) kvs
theorem KV.merge:∀ {more:List (Key×V)} {rs:List (Key×Value)} {kvs:List (Key×V)} {vs:List (Key×Value)},KV more rs→KV kvs vs→KV (ZbJ kvs more) (merged vs rs):=by
 intro more rs kvs vs r
 unfold KV at r
 induction r generalizing kvs vs with
 | nil=>intro q; exact q
 | @cons p q ps qs h t ih=>
  intro r0
  have e:KV (ZdW kvs p.1 p.2) (stored vs q.1 q.2):=by
   have:=r0.put p.1 h.2
   rw [← h.1]; exact this
  exact ih e
theorem ZbW:∀ (more kvs:List (Key×V)),(ZbJ kvs more).length≤kvs.length+more.length
 | [],kvs=>by show kvs.length≤kvs.length+0; omega
 | p::r,kvs=>by
  have h1:=ZbW r (ZdW kvs p.1 p.2)
  have h2:=ZcA kvs p.1 p.2
  show (ZbJ (ZdW kvs p.1 p.2) r).length≤_
  rw [List.length_cons]; omega
theorem ZeF {P:Program} {w:World}:∀ {kvs:List (Key×V)} {ws:List (Value×Value)},VV (kvs.map fun kv=>(kV kv.1,kv.2)) ws→∃ rs,Carries (ZaM P w) ws rs∧KV kvs rs
 | [],_,r=>by rw [List.map_nil] at r; cases r; exact ⟨[],True.intro,.nil⟩
 | p::kvs,_,r=>by
  rw [List.map_cons] at r
  cases r with
  | @cons a b as bs h t=>
   obtain ⟨rs,c,q⟩:=ZeF (P:=P) (w:=w) t
   obtain ⟨b1,b2⟩:=b
   exact ⟨(p.1,b2)::rs,⟨Zfp h.1,rfl,c⟩,.cons ⟨rfl,h.2⟩ q⟩
def ZoS (trs:List (TE×TE)):TE:=fun σ H Q=>∀ p,H p=none→Zi7 trs σ (upd H p (.dK [])) fun ps H2=>H2 p=some (.dK [])∧∃ kvs:List (Key×V),ps=kvs.map (fun kv=>(kV kv.1,kv.2))∧kvs.length≤15∧Q (.ref p) (upd H2 p (.dK (ZbJ [] kvs)))
theorem Zi9 {X:Cx} {pos:Pos} {keys:List (Option Expr)} {values:List Expr} {trs:List (TE×TE)} (h:PPs X pos keys values trs) (hall:keys.all (·.isSome)=true) (hl:keys.length=values.length) (h0:keys≠[])
  (h15:keys.length≤15):PE X (.Dict keys values pos) (ZoS trs):=by
 intro pins s σ H Q I q
 have hn:=I.hok.fresh (Nat.le_refl s.heap.objs.size)
 have I1:=I.laid (a:=s.heap.objs.size) (o:=.dK []) (h':=s.heap.push { cls:=.type "dict",data:=.dict #[] }) (t':=s.toks) (fun _ _ q=>Heap.get?_push_of_some _ q) (Nat.le_refl _) (ZkN s.heap I.big)
 refine wpAny_Dict_walk (knd:=ZaM X.prog X.w) hall hl h0 h15 (thn (h pins _ σ _ _ I1 (q _ hn)) fun ws s2 ⟨ps,H2,I2,rel,e,kvs,ep,lk,q2⟩=>?_)
 subst ep
 obtain ⟨rs,c,rk⟩:=ZeF (P:=X.prog) (w:=X.w) rel
 obtain ⟨z,hd,vs0,r0,dd⟩:=ZkM I2.hok e
 cases r0
 refine ⟨rs,c,dd,fun h' dd' hs=>⟨.ref s.heap.objs.size,_,?_,rfl,q2⟩⟩
 have hz:(ZbJ [] kvs).length≤sizeLine:=by
  have h1:=ZbW kvs []
  rw [List.length_nil] at h1
  rw [sizeLine_eq]; omega
 have he:∃ q,h'.get? s.heap.objs.size=some q:=let ⟨q,_,_,hq,_⟩:=dd'; ⟨q,hq⟩
 exact Zfq I2 (by rw [e]; exact True.intro) hs he (Zi4 hz hd (rk.merge .nil) dd')
structure M1 (X:Cx) (o:Expr) (m:Str) (apos:Pos) (e:Expr) (cpos:Pos):Prop where
 base:attributeBase o m X.env (eval o X.env)=eval o X.env
 few:((backTo cpos (starEach [e] X.env)).all (fun x=>!x.1)&&(backToKw cpos (keywordEach [] X.env)).all (fun x=>x.1.isSome)
  && decide (([e]:List Expr).length+([]:List Keyword).length+(if ([]:List Keyword).isEmpty then 0 else 1)<30))=true
 line:(apos.endLine==cpos.line)=true
 trees:backTo cpos (starEach [e] X.env)=[(false,eval e X.env)]
def IsD (H:Hp) (a:Addr):Prop:=(∃ kvs,Rd H a (.dK kvs))∨∃ kvs,Rd H a (.dT kvs)
theorem ZlV {X:Cx} {pins:List (Addr×Obj)} {σ:St} {H:Hp} {s:Shared} {a:Addr} (I:Inv X pins σ H s) (d:IsD H a):
  s.TypeIs (.ref a) "dict"∧(∀ b,Value.ref a = .ref b→∃ ob,s.heap.get? b=some ob∧ob.dict=none)∧(a==sysModules)=false:=by
 rcases d with ⟨kvs,e⟩ | ⟨kvs,e⟩
 ·obtain ⟨_,hd,vs,_,dd⟩:=ZfY I.hok e
  refine ⟨dd.typeIs,fun b q=>?_,hd⟩
  cases q
  obtain ⟨ob,_,_,h1,h2,_⟩:=dd
  exact ⟨ob,h1,h2.2.1⟩
 ·obtain ⟨_,hd,xs,_,dd⟩:=ZgS I.hok e
  refine ⟨dd.typeIs,fun b q=>?_,hd⟩
  cases q
  obtain ⟨ob,_,_,h1,h2,_⟩:=dd
  exact ⟨ob,h1,h2.2.1⟩
section
variable {X:Cx} {pins:List (Addr×Obj)} {σ:St} {H:Hp} {s:Shared} {a:Addr} {y d:V} {u r:Value} {o:Option V} {A:Around} {E:Value→Shared→Prop}
theorem ZnG {Q:Value→Shared→Prop} (hu:A.units+1<cLine) (I:Inv X pins σ H s) (g:DGet H a y o) (ry:RelV y u) (h:∀ w' s',Inv X pins σ H s'→RelV (o.getD .non) w'→Q w' s'):
  wpAny (model X.prog X.w) A (call (.builtin "dict.get") [.ref a,u]) Q E s:=by
 rcases g with ⟨kvs,k,e,ey,l⟩ | ⟨kvs,k,b,e,ey,eb,l⟩
 ·subst ey
  obtain ⟨z,hd,vs,rel,dd⟩:=ZfY I.hok e
  refine call_meetsIn PySem.F.slot_dict_get dd.typeIs PySem.F.entry_dict_get (PySem.F.args_dict_get_2 _ _) (meets_dict_get (ZaM X.prog X.w) a (Zfp ry) hd) ⟨_,dd.mapOf,h _ _ (I.tok _) ?_⟩
  rw [l]
  exact (rel.val k).getD rfl
 ·subst ey
  cases (show u=Value.ref b from ry)
  obtain ⟨z,hd,xs,rel,dd⟩:=ZgS I.hok e
  refine call_meetsIn PySem.F.slot_dict_get dd.typeIs PySem.F.entry_dict_get (PySem.F.args_dict_get_2 _ _) (meetsH_dict_get (tupleKind (ZaM X.prog X.w)) a b hd) ⟨tupleKind_room_in1 hu,k,xs,ZeE I.hok eb,dd,h _ _ (I.tok _) ?_⟩
  rw [l]
  exact (rel.val k).getD rfl
end
def ZnH (td ty:TE):TE:=fun σ H Q=>td σ H fun x H1=>∃ a,x = .ref a∧IsD H1 a∧ty σ H1 fun y H2=>∃ o,DGet H2 a y o∧Q (o.getD .non) H2
def ZnI (td ty:TE):TE:=fun σ H Q=>td σ H fun x H1=>∃ a,x = .ref a∧IsD H1 a∧ty σ H1 fun y H2=>∃ kvs k v,H2 a=some (.dK kvs)∧y=kV k∧Zeu kvs k=some v∧Q v (upd H2 a (.dK (ZgR kvs k)))
section
variable {X:Cx} {o e f:Expr} {apos cpos:Pos} {td ty tx:TE}
theorem ZkQ (hu:X.A.units+1<cLine) (ho:PE X o td) (he:PE X e ty) (m:M1 X o "get" apos e cpos):PE X (.Call (.Attribute o "get" apos) [e] [] cpos) (ZnH td ty):=by
 intro pins s σ H Q I h
 refine wpAny_Call_method m.base m.few m.line PySem.F.plainAttrs_dict PySem.F.slot_dict_get PySem.F.type_dict_get (thn (ho pins s σ H _ I h) fun u s1 ⟨x,H1,I1,rx,a,ex,d,q1⟩=>?_)
 subst ex
 obtain rfl:u=Value.ref a:=rx
 obtain ⟨t1,t2,_⟩:=ZlV I1 d
 refine ⟨t1,t2,?_⟩
 rw [m.trees]
 refine Calls.callWith_builtin rfl (Calls.evalArgs_plain (Calls.spliced_cons (thn (he pins s1 σ H1 _ I1 q1) fun iv s2 ⟨y,H2,I2,ry,ov,g,q2⟩=>Calls.spliced_nil ?_)))
 exact ZnG hu I2 g ry fun w' s3 I3 rw'=>⟨_,H2,I3,rw',q2⟩
theorem Zht (ho:PE X o td) (he:PE X e ty) (m:M1 X o "pop" apos e cpos):PE X (.Call (.Attribute o "pop" apos) [e] [] cpos) (ZnI td ty):=by
 intro pins s σ H Q I h
 refine wpAny_Call_method m.base m.few m.line PySem.F.plainAttrs_dict PySem.F.slot_dict_pop PySem.F.type_dict_pop (thn (ho pins s σ H _ I h) fun u s1 ⟨x,H1,I1,rx,a,ex,d,q1⟩=>?_)
 subst ex
 obtain rfl:u=Value.ref a:=rx
 obtain ⟨t1,t2,_⟩:=ZlV I1 d
 refine ⟨t1,t2,?_⟩
 rw [m.trees]
 refine Calls.callWith_builtin rfl (Calls.evalArgs_plain (Calls.spliced_cons (thn (he pins s1 σ H1 _ I1 q1) fun iv s2 ⟨y,H2,I2,ry,kvs,k,v,ea,ey,l,q2⟩=>Calls.spliced_nil ?_)))
 subst ey
 exact ZoO I2 ea ry l (.inl rfl) fun w' s3 I3 rw'=>⟨v,_,I3,rw',q2⟩
end
section
variable {X:Cx} {pins:List (Addr×Obj)} {σ:St} {H:Hp} {s:Shared} {a:Addr} {kvs:List (Key×V)} {A:Around} {E:Value→Shared→Prop}
end
section
variable {X:Cx} {pins:List (Addr×Obj)} {σ:St} {H:Hp} {s:Shared} {a:Addr} {y:V} {u:Value} {A:Around} {E:Value→Shared→Prop}
end
end L2
namespace L2
open PySem PySem.Spec PyProof.Rows
theorem Zey:typeLookup (.type "list") "keys"=pure none:=am_miss_of_fast (by first | decide +kernel | rfl)
theorem Zhu:entryFor table "dict.update.loop"=some Builtin.«dict.update.loop»:=entryFor_of_tree (by kernel_rfl)
theorem ZcU:plainId "dict.update.loop"=true:=by decide +kernel
section
variable {prog:Program} {w:World} {A:Around} {E:Value→Shared→Prop}
theorem Zja {s:Shared} {a:Addr} {o:Obj} {xs:Array Value} {k:Nat} {Q:Option Value→Shared→Prop} (hx:s.heap.get? a=some o) (hc:o.cls = .type "list") (hdat:o.data = .seq xs k) (hd:o.dict=none) (hA:A.handled=none)
  (h:∀ h' tk,(∀ b ob,s.heap.get? b=some ob→h'.get? b=some ob)→Q none { s with heap:=h',toks:=tk }):wpAny (model prog w) A (getAttr? (.ref a) "keys") Q E s:=by
 obtain ⟨c,dct,dat,sl⟩:=o
 simp only at hc hdat hd
 subst hc hdat hd
 obtain ⟨hp,g,d,tk,os⟩:=s
 have hT:∀ tk',(⟨hp,g,d,tk',os⟩:Shared).TypeIs (.ref a) "list":=fun _=>⟨_,hx,rfl⟩
 have hmiss:=Zey
 have hname:(["__module__","__name__","__qualname__","__doc__","__annotations__"]:List Str).contains "keys"=false:=by decide +kernel
 have hsz:("keys":Str).length+100≤sizeLine:=by first | size_fits | decide +kernel
 have f1:=sub_AttributeError
 have f3:=PySem.F.slot_list_getattribute.lookup
 have f4:=PySem.F.slot_list_getattribute.bind (.ref a)
 have f5:=am_list_getattr_none
 unfold getAttr? getAttrBy? getAttrBy
 repeat (any_goals (first | assumption | exact hT _ | ((with_reducible show wpAny _ _ (call (Value.builtin "list.__getattribute__") _ _) _ _ _); refine call_meets PySem.F.slot_list_getattribute (hT _) am_entry_list_getattribute (PySem.F.args_list_getattribute_2 _ _) (meets_getattribute_miss_list a xs k sl "keys" _ hmiss hname hsz) ⟨hx,hA,fun h' tk' e hx'=>?_⟩) | wp_step))
 obtain ⟨t',u',he⟩:=hx'.there
 show wpAny _ _ (getattributeRaised _ _ _ _ _ _ _) _ _ _
 unfold getattributeRaised
 repeat (any_goals (first | assumption | wp_step))
 all_goals first | exact h _ _ hx'.keeps | (dsimp only; repeat (any_goals (first | assumption | exact h _ _ hx'.keeps | wp_step)))
theorem Zhv {R:Result→Shared→Prop} {S I l:Addr} {items:Array Value} {res:Value} (hh:A.handled=none) (hlI:l≠I) (hSI:S≠I) (hSl:S≠l):
  ∀ (rest:List (Key×Value)) (i:Nat) (acc:List (Key×Value)) (ix:Int) (t:Tok) (s:Shared),items.size=i+rest.length→acc.length+rest.length≤sizeLine →
   (∀ (j:Nat) (q:Key×Value),rest[j]? = some q→∃ (b:Addr) (u:Value),items[i+j]? = some (.ref b)∧b≠S∧b≠I∧IsTup s.heap b #[u,q.2]∧Zfj q.1 u=true) →
   s.heap.IsListIter I l i→s.heap.IsList l items→s.heap.DictOf (ZaM prog w) S acc →
   (∀ h' tk,h'.DictOf (ZaM prog w) S (merged acc rest)→(∀ b o,b≠S→b≠I→s.heap.get? b=some o→h'.get? b=some o)→R (.ok (.ret res)) { s with heap:=h',toks:=tk }) →
   codeAny (model prog w) A (.builtin "dict.update.loop" ⟨[.ref S,.ref I,.int ix t,res],[]⟩) R s
 | [],i,acc,ix,t,s,hsz,hln,ht,hit,hl,hm,hR=>by
  refine codeAny_builtin Zhu ?_
  rw [Around.under_plainId ZcU _]
  show wpAny _ A.in1 (pyNext (.ref I) >>= _) _ _ s
  refine wpAny_bind (wpAny_pyNext_list_end (A:=A.in1) hh hit hl (by first | exact Array.getElem?_eq_none (Nat.le_of_eq hsz) | (simp at hsz; simp; omega)) fun h' he=>?_)
  show wpAny _ A.in1 (Builtin.Dict.addKeywords S [] >>= _) _ _ _
  refine wpAny_bind (wpAny_pure (wpAny_pure ?_))
  exact hR h' s.toks (hm.extBut he hSI) fun b o _ hb e=>he b o hb e
 | q::rest,i,acc,ix,t,s,hsz,hln,ht,hit,hl,hm,hR=>by
  obtain ⟨b,u,hb,hbS,hbI,htup,hk⟩:=ht 0 q rfl
  rw [List.length_cons] at hsz hln
  refine codeAny_builtin Zhu ?_
  rw [Around.under_plainId ZcU _]
  show wpAny _ A.in1 (pyNext (.ref I) >>= _) _ _ s
  refine wpAny_bind (wpAny_pyNext_list_item (x:=.ref b) hit hl (by simpa using hb) fun h1 hit1 hs1=>?_)
  have ht1:IsTup h1 b #[u,q.2]:=htup.extBut hs1.extBut hbI
  have hl1:h1.IsList l items:=hl.extBut hs1.extBut hlI
  have hm1:h1.DictOf (ZaM prog w) S acc:=hm.extBut hs1.extBut hSI
  obtain ⟨o,ho,hc,n,hd⟩:=id ht1
  show wpAny _ A.in1 (holding [Value.ref b] _ >>= _) _ _ _
  refine wpAny_bind (wpAny_holding ?_)
  refine wpAny_bind (wpAny_tryCatch ?_)
  unfold Builtin.Dict.pairItems
  refine wpAny_bind (wpAny_typeOf (T:="tuple") ⟨o,ho,hc⟩ ?_)
  rw [if_pos (by first | decide | rfl | simp)]
  refine wpAny_bind (wpAny_seqItems ho hd (wpAny_pure ?_))
  show wpAny _ A.in1 (holding [u,q.2] (dictSet S u q.2)) _ _ _
  refine wpAny_holding (wpAny_dictSet_pairs (knd:=ZaM prog w) (k:=q.1) hk hm1 (fun h2 hm2 hs2=>?_) (by omega))
  refine wpAny_pure ⟨plainId_quiet ZcU _,Zhv (items:=items) hh hlI hSI hSl rest (i+1) (stored acc q.1 q.2) (ix+1) 0 _ (show items.size=i+1+rest.length by omega) ?_ (fun j q' e=>?_) ?_ ?_ hm2 fun h' tk hd' k=>?_⟩
  ·have z:=stored_length_le acc q.1 q.2
   omega
  ·obtain ⟨b',u',hb',hbS',hbI',htup',hk'⟩:=ht (j+1) q' (by simpa using e)
   refine ⟨b',u',?_,hbS',hbI',(htup'.extBut hs1.extBut hbI').extBut hs2.extBut hbS',hk'⟩
   rw [show i+1+j=i+(j+1) by omega]
   exact hb'
  ·exact hit1.at fun o' e=>hs2.extBut I o' (Ne.symm hSI) e
  ·exact hl1.extBut hs2.extBut (Ne.symm hSl)
  ·exact hR h' tk hd' fun c oc h3 h4 e=>k c oc h3 h4 (hs2.extBut c oc h3 (hs1.extBut c oc h4 e))
theorem ZdY {s:Shared} {l:Addr} {ol:Obj} {items:Array Value} {n:Nat} {prs:List (Key×Value)} {Q:Value→Shared→Prop} (hh:A.handled=none) (hl:s.heap.get? l=some ol) (hc:ol.cls = .type "list") (hd:ol.dict=none)
  (hdat:ol.data = .seq items n) (hsz:items.size=prs.length) (hln:prs.length≤sizeLine)
  (ht:∀ (j:Nat) (q:Key×Value),prs[j]? = some q→∃ (b:Addr) (u:Value),items[j]? = some (.ref b)∧IsTup s.heap b #[u,q.2]∧Zfj q.1 u=true)
  (h:∀ h' tk,h'.DictOf (ZaM prog w) s.heap.objs.size (merged [] prs)→(∀ b o,s.heap.get? b=some o→h'.get? b=some o)→Q (.ref s.heap.objs.size) { s with heap:=h',toks:=tk }):
  wpAny (model prog w) A (call (.type "dict") [.ref l]) Q E s:=by
 refine callType_codes (Q₁:=fun obj s₁=>obj = .ref s.heap.objs.size∧s₁={ s with heap:=s.heap.push { cls:=.type "dict",data:=.dict #[] } }) PySem.F.kt_called_dict (PySem.F.kt_typeCall_dict_1 _) PySem.F.entry_dict_init (kt_code_dict_new _ ⟨rfl,rfl⟩) ?_
 rintro obj s₁ ⟨rfl,rfl⟩
 have hnew:(s.heap.push { cls:=.type "dict",data:=.dict #[] }).DictOf (ZaM prog w) s.heap.objs.size []:=Heap.DictOf.new s.heap
 have k0:∀ b o,s.heap.get? b=some o→(s.heap.push { cls:=.type "dict",data:=.dict #[] }).get? b=some o:=fun b o e=>Heap.get?_push_of_some _ e
 refine ⟨hnew.typeIs,PySem.F.args_dict_init_2 _ _,?_⟩
 unfold Builtin.«dict.__init__»
 refine wpAny_bind ?_
 unfold Builtin.Dict.selfAndRest
 refine wpAny_bind (wpAny_notOrdered_dict hnew.typeIs ?_)
 show wpAny _ _ (pure (s.heap.objs.size,[Value.ref l])) _ _ _
 refine wpAny_pure ?_
 show wpAny _ _ (Builtin.Dict.updateFrom "dict.__init__" s.heap.objs.size (.ref l) [] .none) _ _ _
 unfold Builtin.Dict.updateFrom
 refine wpAny_bind (wpAny_typeOf (T:="list") ⟨ol,k0 _ _ hl,hc⟩ ?_)
 rw [if_pos (by first | decide | rfl | simp)]
 refine wpAny_bind (Zja (k0 _ _ hl) hc hdat hd hh fun h1 tk1 hk1=>?_)
 rw [if_pos (show (none:Option Value).isNone=true from rfl)]
 refine wpAny_bind (wpAny_rule ?_)
 have hl1:h1.IsList l items:=⟨ol,hk1 _ _ (k0 _ _ hl),hc,n,hdat⟩
 have hS1:s.heap.objs.size<h1.objs.size:=by
  have e:(s.heap.push { cls:=.type "dict",data:=.dict #[] }).get? s.heap.objs.size=some { cls:=.type "dict",data:=.dict #[] }:=Heap.get?_push_size _ rfl
  exact Heap.lt_size (hk1 _ _ e)
 refine wpAny_bind (wpAny_pyIter_list hl1 ?_)
 have k2:∀ b o,h1.get? b=some o→(h1.push { cls:=.type "list_iterator",data:=.fields #[.ref l,.int 0 0] }).get? b=some o:=fun b o e=>Heap.get?_push_of_some _ e
 have hlt:l<s.heap.objs.size:=Heap.lt_size hl
 have key:=Zhv (prog:=prog) (w:=w) (A:=A.in1) (R:=wants (fun r s₂=>r = .none∧Q (.ref s.heap.objs.size) s₂) E) (S:=s.heap.objs.size) (I:=h1.objs.size) (l:=l) (items:=items) (res:=Value.none) hh
  (Nat.ne_of_lt (Nat.lt_trans hlt hS1)) (Nat.ne_of_lt hS1) (Nat.ne_of_gt hlt) prs 0 [] 0 0
  { s with heap:=h1.push { cls:=.type "list_iterator",data:=.fields #[.ref l,.int 0 0] },toks:=tk1 } (by rw [hsz,Nat.zero_add]) (by rw [List.length_nil,Nat.zero_add]; exact hln)
  (fun j q e=>by
   obtain ⟨b,u,e1,e2,e3⟩:=ht j q e
   have hb:b<s.heap.objs.size:=e2.lt
   exact ⟨b,u,by rw [Nat.zero_add]; exact e1,Nat.ne_of_lt hb,Nat.ne_of_lt (Nat.lt_trans hb hS1),e2.keeps fun c o z=>k2 _ _ (hk1 _ _ (k0 _ _ z)),e3⟩)
  ⟨_,Heap.get?_push_size _ rfl,rfl,rfl⟩ (hl1.at fun o e=>k2 _ _ e) ((hnew.at fun o e=>hk1 _ _ e).at fun o e=>k2 _ _ e)
  (fun h' tk hd' k=>⟨rfl,h h' tk hd' fun b o e=>k b o (Nat.ne_of_lt (Heap.lt_size e)) (Nat.ne_of_lt (Nat.lt_trans (Heap.lt_size e) hS1)) (k2 _ _ (hk1 _ _ (k0 _ _ e)))⟩)
 first
  | exact wpAny_pure ⟨plainId_quiet ZcU _,key⟩
  | exact wpAny_bind (wpAny_pure (wpAny_pure ⟨plainId_quiet ZcU _,key⟩))
end
section
variable {X:Cx}
theorem Zhw {pins:List (Addr×Obj)} {σ:St} {H:Hp} {s:Shared} (I:Inv X pins σ H s):∀ {ps:List Addr} {kvs:List (Key×V)},Paired (fun p kv=>SqT X.K H p [kV kv.1,kv.2]) ps kvs →
  ∃ prs:List (Key×Value),KV kvs prs∧prs.length=ps.length∧∀ (j:Nat) (q:Key×Value),prs[j]? = some q→∃ (b:Addr) (u:Value),ps[j]? = some b∧IsTup s.heap b #[u,q.2]∧Zfj q.1 u=true
 | _,_,.nil=>⟨[],.nil,rfl,fun j q e=>by simp at e⟩
 | _,_,.cons (a:=p) (b:=kv) h t=>by
  obtain ⟨prs,r,hl,hp⟩:=Zhw I t
  obtain ⟨its,rv,ht,_⟩:=I.tuple h
  obtain ⟨u,y,ei,ru,ry⟩:=ZoH rv
  subst ei
  refine ⟨(kv.1,y)::prs,.cons ⟨rfl,ry⟩ r,by rw [List.length_cons,List.length_cons,hl],fun j q e=>?_⟩
  cases j with
  | zero=>
   have e':(kv.1,y)=q:=Option.some.inj e
   subst e'
   exact ⟨p,u,rfl,ht,Zfp (P:=X.prog) (w:=X.w) ru⟩
  | succ j=>
   obtain ⟨b,u',e1,e2,e3⟩:=hp j q (by simpa using e)
   exact ⟨b,u',by simpa using e1,e2,e3⟩
theorem Zjb:∀ {ps:List Addr} {us:List Value},Vals (ps.map V.ref) us→us=ps.map Value.ref
 | [],us,r=>by
  rw [List.map_nil] at r
  cases r
  rfl
 | p::ps,us,r=>by
  rw [List.map_cons] at r
  cases r with
  | cons h t=>
   cases h
   rw [List.map_cons,← Zjb t]
theorem Zh6 (hcalm:X.calm=true):CallR X (.type "dict") (fun xs H Q=>∃ (a:Addr) (ps:List Addr) (kvs:List (Key×V)),xs=[.ref a]∧SqL X.K H a (ps.map V.ref)∧Paired (fun p kv=>SqT X.K H p [kV kv.1,kv.2]) ps kvs ∧
  ∀ p,H p=none→Q (.ref p) (upd H p (.dK (ZbJ [] kvs)))):=by
 intro pins s σ H xs us Q I r q
 obtain ⟨a,ps,kvs,ex,hq,hp,q⟩:=q
 subst ex
 obtain ⟨u,eu,rx⟩:=ZkE r
 subst eu
 cases rx
 obtain ⟨its,rv,pl,hz⟩:=I.list hq
 have ei:=Zjb rv
 subst ei
 rw [List.length_map] at hz
 obtain ⟨prs,rel,hl,hpr⟩:=Zhw I hp
 obtain ⟨o,n,ho,hc,hd,hdat⟩:=pl
 refine ZdY (prs:=prs) (I.ok.hd hcalm) ho hc hd hdat (by simp [hl]) (by rw [hl]; exact hz) (fun j q' e=>?_) fun h' tk hd' k=>?_
 ·obtain ⟨b,u,e1,e2,e3⟩:=hpr j q' e
  exact ⟨b,u,by simp [e1],e2,e3⟩
 ·have hm:(s.heap.objs.size==sysModules)=false:=beq_eq_false_iff_ne.mpr (Nat.ne_of_gt I.big)
  have hlen:(ZbJ [] kvs).length≤sizeLine:=by
   refine Nat.le_trans (ZbW kvs []) ?_
   rw [List.length_nil,Nat.zero_add,rel.length,hl]
   exact hz
  exact ⟨.ref s.heap.objs.size,upd H s.heap.objs.size (.dK (ZbJ [] kvs)),I.laid (t':=tk) k (Nat.le_refl _) (show ObjOk X.prog X.w _ _ _ (.dK (ZbJ [] kvs)) from ⟨hlen,hm,merged [] prs,KV.merge rel .nil,hd'⟩),rfl,q _ (I.hok.fresh (Nat.le_refl _))⟩
end
end L2
namespace L2
open PySem PySem.Spec PyProof.Rows
section
variable {X:Cx} {pins:List (Addr×Obj)} {σ:St} {H:Hp} {s:Shared} {h':Heap}
theorem Inv.turnedL {t':Nat} {ch:List Addr} (I:Inv X pins σ H s) (k:∀ b o,b∉ch→s.heap.get? b=some o→h'.get? b=some o) (hf:∀ b∈ch,ZiH X pins H b):Inv X pins σ H { s with heap:=h',toks:=t' }:=by
 have nit:∀ b u,H b=some u→b∉ch:=fun b u e z=>by
  have q:=(hf b z).1
  rw [q] at e; cases e
 refine I.step (g':=s.gens) (d':=s.drawn) (ch:=ch) (fun b hb=>⟨(hf b hb).2.2.2.1,(hf b hb).2.1,(hf b hb).2.2.2.2.1,(hf b hb).2.2.2.2.2⟩) (fun b o _ _ hc e _=>k b o hc e) (fun b o _ _ hc e _=>⟨o.slots,k b o hc e⟩)
  (fun _ _ _ _ n=>n) (fun b o hc e=>⟨o,k b o hc e⟩) (fun _ _ e=>e) (fun _ _ _ e=>e) (fun b ps e=>⟨#[],by rw [e]; simp⟩) (fun m hm=>?_) (fun b u e=>?_) I.bare
 ·obtain ⟨o,es,ep,ho,r⟩:=hm
  exact ⟨o,es,ep,k _ o (fun z=>(hf _ z).2.1 rfl) ho,r⟩
 ·refine (I.hok b u e).stay (fun c v hc q=>k c v ?_ q) (fun _ q=>q) fun _ _ q=>q
  rcases hc with z | z
  ·rw [z]; exact nit b u e
  ·exact nit c _ z
theorem Inv.turnedNew {t':Nat} {ch:List Addr} {T:Addr} {ob:HO} (I:Inv X pins σ H s) (k:∀ b o,b∉ch→s.heap.get? b=some o→h'.get? b=some o) (hf:∀ b∈ch,ZiH X pins H b) (hT:s.heap.objs.size≤T)
  (new:ObjOk X.prog X.w (upd H T ob) h' T ob):Inv X pins σ (upd H T ob) { s with heap:=h',toks:=t' }:=by
 have hn:H T=none:=I.hok.fresh hT
 have nit:∀ b u,H b=some u→b∉ch:=fun b u e z=>by
  have q:=(hf b z).1
  rw [q] at e; cases e
 refine I.step (g':=s.gens) (d':=s.drawn) (ch:=ch) (fun b hb=>⟨(hf b hb).2.2.2.1,(hf b hb).2.1,(hf b hb).2.2.2.2.1,(hf b hb).2.2.2.2.2⟩) (fun b o _ _ hc e _=>k b o hc e) (fun b o _ _ hc e _=>⟨o.slots,k b o hc e⟩)
  (fun b o _ e n=>?_) (fun b o hc e=>⟨o,k b o hc e⟩) (fun b xs e=>?_) (fun b o u e=>?_) (fun b ps e=>⟨#[],?_⟩) (fun m hm=>?_) (fun b u e=>?_) I.bare
 ·rw [Zag (Nat.ne_of_lt (Nat.lt_of_lt_of_le (Heap.lt_size e) hT))]; exact n
 ·rw [Zag (Zao e hn)]; exact e
 ·rw [Zag (Zao e hn)]; exact e
 ·rw [Zag (Zao e hn),e]; simp
 ·obtain ⟨o,es,ep,ho,r⟩:=hm
  exact ⟨o,es,ep,k _ o (fun z=>(hf _ z).2.1 rfl) ho,r⟩
 ·by_cases hb:b=T
  ·subst hb
   rw [Zac] at e
   cases e
   exact new
  ·rw [Zag hb] at e
   refine (I.hok b u e).stay (fun c v hc q=>k c v ?_ q) (fun c q=>by rw [Zag (Zao q hn)]; exact q) fun c xs q=>by rw [Zag (Zao q hn)]; exact q
   rcases hc with z | z
   ·rw [z]; exact nit b u e
   ·exact nit c _ z
end
section
variable {X:Cx}
theorem ZlW {tg:Expr} {pins:List (Addr×Obj)} {σ:St} {H:Hp} {s:Shared} {R:It→Hp→Prop} {J:It} {tn:Nat→Heap→Prop} {tk:Nat} (I:Inv X pins σ H s) (o:Obj)
  (T:Turn X.prog X.w X.K tg J [s.heap.objs.size] s.heap.objs.size tn) (st:tn 0 (s.heap.push o)) (q:R J H):PIE X pins σ tg R (.ref s.heap.objs.size) { s with heap:=s.heap.push o,toks:=tk }:=by
 refine ⟨s.heap.objs.size,[s.heap.objs.size],tn,J,H,rfl,I.kept fun b ob e=>Heap.get?_push_of_some _ e,T,st,fun b hb=>?_,q⟩
 have e:b=s.heap.objs.size:=by simpa using hb
 subst e
 exact I.fpOk (Nat.le_refl _) (I.hok.fresh (Nat.le_refl _))
end
def RgC (i j c:Int) (n:Nat):Prop:=c≠0∧c.natAbs<1073741824∧Builtin.Range.small i j c=true∧Builtin.Range.rangeSize i j c=n
theorem RgC.neg {i j:Int} (ha:-(2^62)≤i) (ha':i<2^62) (hb:-(2^62)≤j) (hb':j<2^62):RgC i j (-1) (i-j).toNat:=
 ⟨by decide,by decide,PySem.W.small_down ha ha' hb hb',PySem.W.rangeSize_downNat i j⟩
section
variable {X:Cx} {tg:Expr}
end
section
variable {X:Cx} {tg:Expr}
end
def Its (x:Str):It:=⟨fun i _=>i<x.cps.size,fun i H v H'=>H'=H∧∃ c,x.cps[i]? = some c∧v = .str ⟨#[c]⟩,fun i _=>x.cps.size≤i⟩
theorem Zhx {P:Program} {w:World} {K:PySem.W.Frag} {tg:Expr} (it:Addr) (x:Str) (t:Tok) (ty:String) (hty:ty="str_ascii_iterator"∨ty="str_iterator"):
  Turn P w K tg (Its x) [it] it (fun i h=>h.IsStrIter it ty x t i) where
 mem:=by simp
 obj:=fun i h st b hb=>by
  have e:b=it:=by simpa using hb
  subst e
  obtain ⟨o,e,c,d⟩:=st
  exact ⟨o,e,fun v z=>by rw [d] at z; cases z⟩
 keep:=fun i h h' st k=>let ⟨o,ho,r⟩:=st; ⟨o,k it (by simp) o ho,r⟩
 item:=by
  intro X hP hw hK hc i pins s σ H E I hf st hg
  subst hP hw hK
  obtain ⟨f0,f1,f2,f3,f4,f5⟩:=hf it (by simp)
  have W:Walks X.prog X.w X.A it [it] [it] x.cps.size (SignAt x) (fun i h=>h.IsStrIter it ty x t i):=by
   rcases hty with e | e
   ·rw [e]; exact Walks.strAscii (I.ok.hd hc) it x t
   ·rw [e]; exact Walks.strWide (I.ok.hd hc) it x t
  have hno:["enumerate","zip","dict_itemiterator","dict_reverseitemiterator","odict_iterator","itertools.zip_longest","itertools.pairwise"].contains ty=false:=by
   rcases hty with e | e
   ·rw [e]; decide
   ·rw [e]; decide
  refine W.item i s _ _ hg st fun v h' tk hv st' kk=>?_
  obtain ⟨c,u,hcx,rfl⟩:=hv
  have I1:Inv X pins σ H { s with heap:=h',toks:=tk }:=I.turned (fun b o hb e=>kk b o (by simpa using hb) e) f0 f1 f3 f4 f5
  obtain ⟨oi,e,cc,dd⟩:=id st'
  exact ⟨_,rfl,Zmg (s:={ s with heap:=h',toks:=tk }) e cc dd hno ⟨.str ⟨#[c]⟩,H,I1,⟨u,rfl⟩,⟨rfl,c,hcx,rfl⟩,st',fun b hb=>(hf b hb).1⟩⟩
 done:=by
  intro X hP hw hK hc i pins s σ H E I hf st hg
  subst hP hw hK
  obtain ⟨f0,f1,f2,f3,f4,f5⟩:=hf it (by simp)
  have hx:x.cps[i]? = none:=Array.getElem?_eq_none hg
  rcases hty with e | e
  ·rw [e] at st
   exact wpAny_pyNext_ascii_end (I.ok.hd hc) st hx fun h' eb=>⟨rfl,I.turned (t':=s.toks) (fun b o hb e=>eb b o hb e) f0 f1 f3 f4 f5⟩
  ·rw [e] at st
   exact wpAny_pyNext_wide_end (I.ok.hd hc) st hx fun h' eb=>⟨rfl,I.turned (t':=s.toks) (fun b o hb e=>eb b o hb e) f0 f1 f3 f4 f5⟩
 self:=fun A i s Q E st h=>by
  rcases hty with e | e
  ·rw [e] at st; exact wpAny_pyIter_striter_ascii st h
  ·rw [e] at st; exact wpAny_pyIter_striter_wide st h
def iStr (te:TE):TI:=fun σ H R=>te σ H fun v H1=>∃ x,v = .str x∧R (Its x) H1
theorem ZnJ {X:Cx} {tg e:Expr} {te:TE} (he:PE X e te):PI X tg e (iStr te):=by
 intro pins s σ H R I h
 refine thn (he pins s σ H _ I h) fun v s1 ⟨y,H1,I1,r1,x,ex,q⟩=>?_
 subst ex
 obtain ⟨t,rfl⟩:=r1
 cases ha:x.cps.all (·<128)
 ·exact wpAny_pyIter_wide ha (ZlW (tk:=s1.toks) I1 _ (Zhx _ x t "str_iterator" (.inr rfl)) ⟨_,Heap.get?_push_size _ rfl,rfl,rfl⟩ q)
 ·exact wpAny_pyIter_ascii ha (ZlW (tk:=s1.toks) I1 _ (Zhx _ x t "str_ascii_iterator" (.inl rfl)) ⟨_,Heap.get?_push_size _ rfl,rfl,rfl⟩ q)
section
variable {prog:Program} {w:World} {A:Around} {E:Value→Shared→Prop} {s:Shared}
end
theorem paired_get {α β:Type} {G:α→β→Prop} {l₁:List α} {l₂:List β} (h:Paired G l₁ l₂):∀ {i:Nat} {a:α},l₁[i]? = some a→∃ b,l₂[i]? = some b∧G a b:=by
 induction h with
 | nil=>intro i a e; simp at e
 | @cons a b l₁ l₂ r t ih=>
  intro i a' e
  cases i with
  | zero=>
   simp only [List.getElem?_cons_zero,Option.some.injEq] at e
   subst e
   exact ⟨b,rfl,r⟩
  | succ j=>
   simp only [List.getElem?_cons_succ] at e ⊢
   exact ih e
section
variable {X:Cx} {pins:List (Addr×Obj)} {σ:St} {H:Hp} {s:Shared} {d:Addr} {o:Obj}
end
section
variable {P:Program} {w:World} {K:PySem.W.Frag} {tg:Expr} {d:Addr} {o:Obj} {es:Array DictEntry} {ep:Nat}
end
section
variable {X:Cx} {tg e:Expr} {td:TE} {apos cpos:Pos}
end
def Ite (K:PySem.W.Frag) (a:Addr):It:=
 ⟨fun i H=>∃ (xs:List V) (x:V),SqL K H a xs∧xs[i]? = some x,fun i H v H'=>∃ T x,v = .ref T∧H T=none∧H'=upd H T (.tup [.int (i:Nat),x])∧∀ xs,SqL K H a xs→xs[i]? = some x,fun i H=>∃ xs:List V,SqL K H a xs∧xs.length≤i⟩
theorem Zjc {P:Program} {w:World} {K:PySem.W.Frag} {elts:List Expr} {kk:Nat} {tpos:Pos} (a e it:Addr):
  Turn P w K (.Tuple elts kk tpos) (Ite K a) [e,it] e (fun i h=>(∃ old,IsEnum h e it ((i:Nat):Int) old)∧h.IsListIter it a i∧e≠it) where
 mem:=by simp
 obj:=fun i h st b hb=>by
  obtain ⟨⟨old,he⟩,⟨o,ho,hc,hd⟩,_⟩:=st
  have e':b=e∨b=it:=by simpa using hb
  rcases e' with z | z
  ·rw [z]; exact ⟨_,he,fun v q=>nomatch q⟩
  ·rw [z]; exact ⟨o,ho,fun v q=>by rw [hd] at q; cases q⟩
 keep:=fun i h h' st k=>let ⟨⟨old,he⟩,hi,hne⟩:=st; ⟨⟨old,k e (by simp) _ he⟩,hi.at fun o q=>k it (by simp) o q,hne⟩
 item:=by
  intro X hP hw hK hc i pins s σ H E I hf st hg
  subst hP hw hK
  obtain ⟨⟨old,he⟩,hit,hne⟩:=st
  obtain ⟨xs,x,hq,hx⟩:=hg
  obtain ⟨its,rv,p,hz⟩:=I.list hq
  obtain ⟨u,hu,ru⟩:=rv.get hx
  have hel:e<s.heap.objs.size:=Heap.lt_size he
  have hil:it<s.heap.objs.size:=by obtain ⟨_,q,_⟩:=hit; exact Heap.lt_size q
  refine wpAny_pyNext_enum_item he hit p.isList (x:=u) (by simpa using hu) hne fun h' ho hit' hT hsz hk=>?_
  refine ⟨_,rfl,wpAny_letOwnedTupleGo_enum (s:={ s with heap:=h',toks:=s.toks+1 }) ho fun h'' he' sb=>?_⟩
  have hT2:h''.get? s.heap.objs.size=some { cls:=.type "tuple",data:=.seq #[.int i s.toks,u] }:=(sb.2 _ (Nat.ne_of_gt hel)).trans hT
  have new:ObjOk X.prog X.w (upd H s.heap.objs.size (.tup [.int (i:Nat),x])) h'' s.heap.objs.size (.tup [.int (i:Nat),x]):=
   ⟨by show 2≤sizeLine; decide,[.int i s.toks,u],.cons ⟨_,rfl⟩ (.cons ru .nil),⟨_,hT2,rfl,_,rfl⟩⟩
  have I1:Inv X pins σ (upd H s.heap.objs.size (.tup [.int (i:Nat),x])) { s with heap:=h'',toks:=s.toks+1 }:=
   I.turnedNew (ch:=[e,it]) (fun b ob hb q=>(sb.2 b (fun z=>hb (by simp [z]))).trans (hk b ob (fun z=>hb (by simp [z])) (fun z=>hb (by simp [z])) q)) hf (Nat.le_refl _) new
  refine ⟨.ref s.heap.objs.size,_,I1,rfl,⟨_,x,rfl,I.hok.fresh (Nat.le_refl _),rfl,fun ys hy=>by rw [I.list_inj hy hq]; exact hx⟩,⟨⟨u,?_⟩,hit'.at fun o q=>(sb.2 it (Ne.symm hne)).trans q,hne⟩,fun b hb=>?_⟩
  ·have e1:((i+1:Nat):Int)=(i:Int)+1:=by omega
   rw [e1]; exact he'
  ·have hb':b<s.heap.objs.size:=by
    have e':b=e∨b=it:=by simpa using hb
    rcases e' with z | z
    ·rw [z]; exact hel
    ·rw [z]; exact hil
   rw [Zag (Nat.ne_of_lt hb')]
   exact (hf b hb).1
 done:=by
  intro X hP hw hK hc i pins s σ H E I hf st hg
  subst hP hw hK
  obtain ⟨⟨old,he⟩,hit,hne⟩:=st
  obtain ⟨xs,hq,hx⟩:=hg
  obtain ⟨its,rv,p,hz⟩:=I.list hq
  obtain ⟨f0,f1,f2,f3,f4,f5⟩:=hf it (by simp)
  have hl:=rv.length
  exact wpAny_pyNext_enum_end (I.ok.hd hc) he hit p.isList (by simp; omega) fun h' eb=>⟨rfl,I.turned (t':=s.toks) (fun b o hb q=>eb b o hb q) f0 f1 f3 f4 f5⟩
 self:=fun A i s Q E st h=>let ⟨⟨_,he⟩,_⟩:=st; wpAny_pyIter_enum he h
def ZoT (K:PySem.W.Frag) (ta:TA):TI:=fun σ H R=>ta σ H fun vs H1=>∃ a xs,vs=[.ref a]∧SqL K H1 a xs∧R (Ite K a) H1
theorem Zjd {X:Cx} {e:Expr} {ta:TA} {p pos tpos:Pos} {elts:List Expr} {kk:Nat} (hg:Gl X "enumerate") (hm:X.mg "enumerate"=none) (ha:PA X [e] ta) (hs:starEach [e] X.env=[(false,eval e X.env)]:=by rfl):
  PI X (.Tuple elts kk tpos) (.Call (.Name "enumerate" p) [e] [] pos) (ZoT X.K ta):=by
 intro pins s σ H R I h
 refine Call_ (Zez I hg hm boot_enumerate (PyProof.Rows.callWith_type1 (thn (ha pos pins s σ H _ I h) fun us s1 ⟨vs,H1,I1,r1,q1⟩=>?_) hs rfl))
 obtain ⟨a,xs,ex,hq,q⟩:=q1
 subst ex
 cases r1 with
 | cons r rr=>
  cases rr
  cases r
  obtain ⟨its,rv,p',hz⟩:=I1.list hq
  refine call_enumerate_list p'.isList fun h' he hit hsz hk=>wpAny_pyIter_enum he ?_
  have I2:Inv X pins σ H1 { s1 with heap:=h' }:=I1.kept (t':=s1.toks) hk
  refine ⟨s1.heap.objs.size+1,[s1.heap.objs.size+1,s1.heap.objs.size],_,_,H1,rfl,I2,Zjc a (s1.heap.objs.size+1) s1.heap.objs.size,⟨⟨.none,he⟩,hit,Nat.succ_ne_self _⟩,fun b hb=>?_,q⟩
  have e':b=s1.heap.objs.size+1∨b=s1.heap.objs.size:=by simpa using hb
  have hle:s1.heap.objs.size≤b:=by
   rcases e' with z | z
   ·rw [z]; exact Nat.le_add_right _ _
   ·rw [z]; exact Nat.le_refl _
  exact I1.fpOk hle (I1.hok.fresh hle)
theorem Zje:bootBuiltins "zip"=some (.type "zip"):=by decide +kernel
def Itz (K:PySem.W.Frag) (a b:Addr):It:=
 ⟨fun i H=>∃ (xs ys:List V) (x y:V),SqL K H a xs∧SqL K H b ys∧xs[i]? = some x∧ys[i]? = some y,
  fun i H v H'=>∃ T x y,v = .ref T∧H T=none∧H'=upd H T (.tup [x,y])∧(∀ xs,SqL K H a xs→xs[i]? = some x)∧∀ ys,SqL K H b ys→ys[i]? = some y,
  fun i H=>∃ xs ys:List V,SqL K H a xs∧SqL K H b ys∧(xs.length≤i∨ys.length≤i)⟩
theorem ZkR {P:Program} {w:World} {K:PySem.W.Frag} {elts:List Expr} {kk:Nat} {tpos:Pos} {a b z TI TO i1 i2:Addr} (D:ZipApart z TI TO i1 i2 a b):
  Turn P w K (.Tuple elts kk tpos) (Itz K a b) [z,TI,TO,i1,i2] z (fun i h=>IsZip h z TI TO .none∧IsPair h TI (.ref i1) (.ref i2)∧(∃ x y,IsPair h TO x y)∧h.IsListIter i1 a i∧h.IsListIter i2 b i) where
 mem:=by simp
 obj:=fun i h st c hc=>by
  obtain ⟨hz,hTI,⟨x,y,hTO⟩,⟨o1,e1,_,d1⟩,⟨o2,e2,_,d2⟩⟩:=st
  have e':c=z∨c=TI∨c=TO∨c=i1∨c=i2:=by simpa using hc
  rcases e' with q | q | q | q | q
  ·rw [q]; exact ⟨_,hz,fun v q=>nomatch q⟩
  ·rw [q]; exact ⟨_,hTI,fun v q=>nomatch q⟩
  ·rw [q]; exact ⟨_,hTO,fun v q=>nomatch q⟩
  ·rw [q]; exact ⟨o1,e1,fun v q=>by rw [d1] at q; cases q⟩
  ·rw [q]; exact ⟨o2,e2,fun v q=>by rw [d2] at q; cases q⟩
 keep:=fun i h h' st k=>by
  obtain ⟨hz,hTI,⟨x,y,hTO⟩,h1,h2⟩:=st
  exact ⟨k z (by simp) _ hz,k TI (by simp) _ hTI,⟨x,y,k TO (by simp) _ hTO⟩,h1.at fun o q=>k i1 (by simp) o q,h2.at fun o q=>k i2 (by simp) o q⟩
 item:=by
  intro X hP hw hK hc i pins s σ H E I hf st hg
  subst hP hw hK
  obtain ⟨hz,hTI,⟨x0,y0,hTO⟩,h1,h2⟩:=st
  obtain ⟨xs,ys,x,y,hqx,hqy,hx,hy⟩:=hg
  obtain ⟨its,rv,p,_⟩:=I.list hqx
  obtain ⟨its2,rv2,p2,_⟩:=I.list hqy
  obtain ⟨u,hu,ru⟩:=rv.get hx
  obtain ⟨u2,hu2,ru2⟩:=rv2.get hy
  have hzl:z<s.heap.objs.size:=Heap.lt_size hz
  refine wpAny_pyNext_zip_item D hz hTI hTO h1 h2 p.isList p2.isList (x:=u) (y:=u2) (by simpa using hu) (by simpa using hu2) fun h' z' TO' h1' h2' hT hsz hk=>?_
  refine ⟨_,rfl,wpAny_letOwnedTupleGo_zip (s:={ s with heap:=h' }) z' fun h'' z'' sb=>?_⟩
  have hT2:h''.get? s.heap.objs.size=some { cls:=.type "tuple",data:=.seq #[u,u2] }:=(sb.2 _ (Nat.ne_of_gt hzl)).trans hT
  have new:ObjOk X.prog X.w (upd H s.heap.objs.size (.tup [x,y])) h'' s.heap.objs.size (.tup [x,y]):=
   ⟨by show 2≤sizeLine; decide,[u,u2],.cons ru (.cons ru2 .nil),⟨_,hT2,rfl,_,rfl⟩⟩
  have I1:Inv X pins σ (upd H s.heap.objs.size (.tup [x,y])) { s with heap:=h'' }:=
   I.turnedNew (t':=s.toks) (ch:=[z,TI,TO,i1,i2]) (fun c o hb q=>(sb.2 c (fun q'=>hb (by simp [q']))).trans (hk c o (fun q'=>hb (by simp [q'])) (fun q'=>hb (by simp [q'])) (fun q'=>hb (by simp [q'])) (fun q'=>hb (by simp [q'])) q)) hf (Nat.le_refl _) new
  refine ⟨.ref s.heap.objs.size,_,I1,rfl,⟨_,x,y,rfl,I.hok.fresh (Nat.le_refl _),rfl,fun l hl=>by rw [I.list_inj hl hqx]; exact hx,fun l hl=>by rw [I.list_inj hl hqy]; exact hy⟩,⟨z'',?_,⟨u,u2,?_⟩,?_,?_⟩,fun c hcm=>?_⟩
  ·exact (sb.2 _ D.TIz).trans (hk _ _ D.TIz D.TITO D.TIi1 D.TIi2 hTI)
  ·exact (sb.2 _ D.TOz).trans TO'
  ·exact h1'.at fun o q=>(sb.2 _ D.i1z).trans q
  ·exact h2'.at fun o q=>(sb.2 _ D.i2z).trans q
  ·have hlt:c<s.heap.objs.size:=by
    have e':c=z∨c=TI∨c=TO∨c=i1∨c=i2:=by simpa using hcm
    rcases e' with q | q | q | q | q
    ·rw [q]; exact hzl
    ·rw [q]; exact Heap.lt_size hTI
    ·rw [q]; exact Heap.lt_size hTO
    ·rw [q]; obtain ⟨_,e1,_⟩:=h1; exact Heap.lt_size e1
    ·rw [q]; obtain ⟨_,e2,_⟩:=h2; exact Heap.lt_size e2
   rw [Zag (Nat.ne_of_lt hlt)]
   exact (hf c hcm).1
 done:=by
  intro X hP hw hK hc i pins s σ H E I hf st hg
  subst hP hw hK
  obtain ⟨hz,hTI,⟨x0,y0,hTO⟩,h1,h2⟩:=st
  obtain ⟨xs,ys,hqx,hqy,hend⟩:=hg
  obtain ⟨its,rv,p,_⟩:=I.list hqx
  obtain ⟨its2,rv2,p2,_⟩:=I.list hqy
  have l1:=rv.length
  have l2:=rv2.length
  have he:its.toArray[i]? = none∨its2.toArray[i]? = none:=by
   rcases hend with q | q
   ·exact .inl (by simp; omega)
   ·exact .inr (by simp; omega)
  exact wpAny_pyNext_zip_end (I.ok.hd hc) D hz hTI hTO h1 h2 p.isList p2.isList he fun h' hk=>⟨rfl,I.turnedL (t':=s.toks) (ch:=[z,TI,TO,i1,i2]) (fun c o hb q=>
   hk c o (fun q'=>hb (by simp [q'])) (fun q'=>hb (by simp [q'])) (fun q'=>hb (by simp [q'])) (fun q'=>hb (by simp [q'])) q) hf⟩
 self:=fun A i s Q E st h=>wpAny_pyIter_zip st.1 h
def iZip (K:PySem.W.Frag) (ta:TA):TI:=fun σ H R=>ta σ H fun vs H1=>∃ a b xs ys,vs=[.ref a,.ref b]∧SqL K H1 a xs∧SqL K H1 b ys∧R (Itz K a b) H1
theorem ZlX {X:Cx} {e e2:Expr} {ta:TA} {p pos tpos:Pos} {elts:List Expr} {kk:Nat} (hg:Gl X "zip") (hm:X.mg "zip"=none) (ha:PA X [e,e2] ta)
  (hs:starEach [e,e2] X.env=(false,eval e X.env)::starEach [e2] X.env:=by rfl) (hpl:(backTo pos (starEach [e2] X.env)).any (·.1)=false:=by rfl):
  PI X (.Tuple elts kk tpos) (.Call (.Name "zip" p) [e,e2] [] pos) (iZip X.K ta):=by
 intro pins s σ H R I h
 refine Call_ (Zez I hg hm Zje (PyProof.Rows.callWith_type1 (thn (ha pos pins s σ H _ I h) fun us s1 ⟨vs,H1,I1,r1,q1⟩=>?_) hs hpl))
 obtain ⟨a,b,xs,ys,ex,hqx,hqy,q⟩:=q1
 subst ex
 cases r1 with
 | cons r rr=>
  cases rr with
  | cons r' rr=>
   cases rr
   cases r
   cases r'
   obtain ⟨its,rv,p1,_⟩:=I1.list hqx
   obtain ⟨its2,rv2,p2,_⟩:=I1.list hqy
   have la:a<s1.heap.objs.size:=p1.lt
   have lb:b<s1.heap.objs.size:=p2.lt
   refine call_zip_2 p1.isList p2.isList fun h' hz hTI hTO h1 h2 hsz hk=>wpAny_pyIter_zip hz ?_
   have I2:Inv X pins σ H1 { s1 with heap:=h' }:=I1.kept (t':=s1.toks) hk
   refine ⟨s1.heap.objs.size+4,[s1.heap.objs.size+4,s1.heap.objs.size+2,s1.heap.objs.size+3,s1.heap.objs.size,s1.heap.objs.size+1],_,_,H1,rfl,I2,ZkR (PySem.W.ktu_apart s1.heap.objs.size a b la lb),⟨hz,hTI,⟨_,_,hTO⟩,h1,h2⟩,fun c hcm=>?_,q⟩
   have e':c=s1.heap.objs.size+4∨c=s1.heap.objs.size+2∨c=s1.heap.objs.size+3∨c=s1.heap.objs.size∨c=s1.heap.objs.size+1:=by simpa using hcm
   have hle:s1.heap.objs.size≤c:=by
    rcases e' with z | z | z | z | z
    ·rw [z]; exact Nat.le_add_right _ _
    ·rw [z]; exact Nat.le_add_right _ _
    ·rw [z]; exact Nat.le_add_right _ _
    ·rw [z]; exact Nat.le_refl _
    ·rw [z]; exact Nat.le_add_right _ _
   exact I1.fpOk hle (I1.hok.fresh hle)
end L2
section
namespace Bits
open PySem PyProof.Rows
end Bits
end
section
namespace TL
open PySem PySem.Builtin PySem.Builtin.Str PySem.StrLaws
abbrev tl (x:Str):List Nat:=x.cps.toList
theorem ZnK (x:Str):x.length=(tl x).length:=by simp [tl,Str.length]
def pre (S l:List Nat):Bool:=l.take S.length==S
def spl (S:List Nat):Nat→List Nat→List Nat→List (List Nat)
 | _,acc,[]=>[acc]
 | 0,acc,c::r=>if pre S (c::r)=true then acc::spl S (S.length-1) [] r else spl S 0 (acc++[c]) r
 | k+1,acc,_::r=>spl S k acc r
def par (S:List Nat):List Nat→List Nat→Option (List Nat×List Nat)
 | _,[]=>none
 | acc,c::r=>if pre S (c::r)=true then some (acc,(c::r).drop S.length) else par S (acc++[c]) r
def numL (n:Nat):List Nat:=(Nat.toDigits 10 n).map Char.toNat
theorem tl_num (n:Nat):tl (Str.ofString (toString ((n:Nat):Int)))=numL n:=PySem.W.KIN.signs_num n
theorem ZcV:∀ d:Nat,d<10→(Nat.digitChar d).toNat=48+d:=by decide
theorem numL_lt {n:Nat} (h:n<10):numL n=[48+n]:=by
 unfold numL
 rw [Nat.toDigits_of_lt_base h]
 show [(Nat.digitChar n).toNat]=_
 rw [ZcV n h]
theorem numL_step {n:Nat} (h:10≤n):numL n=numL (n / 10)++[48+n%10]:=by
 have hm:n%10<10:=Nat.mod_lt n (by decide)
 have t:Nat.toDigits 10 (n / 10)++Nat.toDigits 10 (n%10)=Nat.toDigits 10 (10*(n / 10)+n%10):=Nat.toDigits_append_toDigits (by decide) (by omega) hm
 rw [Nat.div_add_mod] at t
 show (Nat.toDigits 10 n).map Char.toNat=_
 rw [← t,List.map_append,Nat.toDigits_of_lt_base hm]
 show (Nat.toDigits 10 (n / 10)).map Char.toNat++[(Nat.digitChar (n%10)).toNat]=_
 rw [ZcV _ hm]<;>rfl
theorem numL_len {n k:Nat} (hk:0<k) (h:n<10^k):(numL n).length≤k:=by
 have z:=PyProof.Rows.toString_length_le (v:=(n:Int)) (by omega) hk (by
  have e:((10:Int)^k)=((10^k:Nat):Int):=by
   first
    | exact (Int.natCast_pow 10 k).symm
    | simp
  rw [e]
  first | exact Int.ofNat_lt.mpr h | omega)
 rw [ZnK,tl_num] at z
 exact z
end TL
end
namespace L2
open PySem PySem.Spec PyProof.Rows
section
variable {X:Cx} {pins:List (Addr×Obj)} {σ:St} {H:Hp} {s:Shared} {Q:VK}
end
section
variable {X:Cx}
end
section
variable {X:Cx} {o e:Expr} {to te:TE}
end
end L2
namespace L2
open PySem PySem.Spec PyProof.Rows
section
variable {X:Cx}
end
theorem IsPart.raw {v:Value} {o:Option Int} (p:IsPart v o):∃ l:Option (Int×Tok),v=partValue l∧l.map (·.1)=o:=by
 cases p with
 | none=>exact ⟨none,rfl,rfl⟩
 | int i t=>exact ⟨some (i,t),rfl,rfl⟩
end L2
namespace Att
open PySem PySem.W PySem.Calls PyProof.Rows
theorem ints_of_wellAll {P:Params} {h:Heap}:∀ (ns:List Int) (vs:List Value),WellAll P h vs (ns.map WData.int)→IntsAre vs ns:=by
 intro ns
 induction ns with
 | nil=>
  intro vs w
  rw [List.map_nil] at w
  cases w
  exact .nil
 | cons n ns ih=>
  intro vs w
  rw [List.map_cons] at w
  cases w with
  | cons a b=>
   cases a
   exact .cons _ _ (ih _ b)
section
variable {prog:Program} {w:World} {A:Around} {E:Value→Shared→Prop} {s:Shared} {K:Frag}
def Zpj (h:Heap) (L d:Addr):List (Addr×Obj):=(List.range h.objs.size).filterMap fun a=>if a=L∨a=d then none else (h.get? a).map fun o=>(a,o)
end
end Att
namespace L2
open PySem PySem.Spec PyProof.Rows
theorem ZdZ:∀ {vs:List Value} {ns:List Int},IntsAre vs ns→Vals (ns.map V.int) vs
 | _,_,.nil=>.nil
 | _,_,.cons n t h=>.cons ⟨t,rfl⟩ (ZdZ h)
def ZoU (H:Hp):Prop:=∀ b,H b=none∨∃ o xs,H b=some (.frz o (.lst xs))
end L2
namespace L2
open PySem PySem.Spec PyProof.Rows
end L2
namespace L2
open PySem PySem.Spec PyProof.Rows
def Zbh (s:Stmt) (j:Nat):Stmt:=match s with
 | .ClassDef _ _ _ body _ _ _ _ _ _ _=>body.getD j (.Pass ⟨0,0,0,0⟩)
 | _=>.Pass ⟨0,0,0,0⟩
def Zaq (s:Stmt):Arguments:=match s with
 | .FunctionDef _ a _ _ _ _ _ _ _ _=>a
 | _=>{ posonlyargs:=[],args:=[],vararg:=none,kwonlyargs:=[],kw_defaults:=[],kwarg:=none,defaults:=[] }
def Zap (s:Stmt):List Stmt:=match s with
 | .FunctionDef _ _ b _ _ _ _ _ _ _=>b
 | _=>[]
def Zad (s:Stmt):Scope:=match s with
 | .FunctionDef _ _ _ _ _ _ sc _ _ _=>sc
 | _=>{ kind:=.function,names:=[],isGenerator:=false,isCoroutine:=false }
abbrev CX0:CXT:=fun _ _ _ _ _ _=>False
abbrev E0:XK:=fun _ _ _=>False
theorem Zar {X:Cx}:ZdQ CX0 X E0:=fun _ _ _ _ _ _ _ h=>h.elim
structure Fun (K:PySem.W.Frag) (x qual:Str) (st:Stmt) (f:Addr) (fd:FuncData):Prop where
 ex:∃ (oc:Value) (od:Option Addr) (kV doc pm:Value) (an:Option Addr) (cdv ct:Value) (osl:Array (Option Value)),
  fd=PySem.W.fnOf x qual (Zaq st) (Zap st) (Zad st) .none kV doc pm an cdv ct∧K.lookup f=some ⟨oc,od,.func fd,osl⟩∧PySem.W.codeIn K cdv qual=true
 kp:PySem.W.keepIn K (.ref f)=true
section
variable {P:Program} {w:World} {K:PySem.W.Frag} {mg:Str→Option Value} {base:Heap}
theorem Fun.ok {x qual:Str} {st:Stmt} {f:Addr} {fd:FuncData} {N ps:List Str} {k:Nat} {sp:Sp} (F:Fun K x qual st f fd) (S:FnScope N ps (Zad st)) (len:∀ vs H Q E,sp vs H Q E→vs.length=ps.length)
  (hbody:∀ (cdv:Value) (A:Around) (outer:List Env) (s:Shared) (H:Hp) (vs:List V) (Q:VK) (E:XK),Room k (A.deeper (envOfC qual (Zad st) s.heap.objs.size f cdv))→sp vs H Q E →
   ∃ t,PSs (Znh CX0 P w K mg base N qual (Zad st) f cdv A outer s H E).nox (Zap st) t∧t { nx:=fun _ H'=>Q .non H',rt:=Q } (start N vs) H):FnOk P w K mg base CX0 (k+1) f fd ps sp:=by
 obtain ⟨oc,od,kV,doc,pm,an,cdv,ct,osl,rfl,lk,hcd⟩:=F.ex
 refine ZoL lk hcd S len fun A outer s H vs Q E hr hsp=>?_
 obtain ⟨t,h,q⟩:=hbody cdv A outer s H vs Q E hr hsp
 exact ⟨t,h.nox,q⟩
theorem Fun.binds {x qual:Str} {st:Stmt} {f:Addr} {fd:FuncData} {ps:List Str} (F:Fun K x qual st f fd)
  (h:∀ (kV doc pm:Value) (an:Option Addr) (cdv ct:Value) (us:List Value),us.length=ps.length→bindArgs (PySem.W.fnOf x qual (Zaq st) (Zap st) (Zad st) .none kV doc pm an cdv ct) ⟨us,[]⟩=pure (ps.zip us)):Binds K fd ps []:=by
 obtain ⟨oc,od,kV,doc,pm,an,cdv,ct,osl,rfl,lk,hcd⟩:=F.ex
 exact .all (h kV doc pm an cdv ct)
theorem Zay {x qual:Str} {st:Stmt} {f:Addr} {oc:Value} {od an:Option Addr} {osl:Array (Option Value)} {kV doc pm cdv ct:Value} (l:K.lookup f=some ⟨oc,od,.func (PySem.W.fnOf x qual (Zaq st) (Zap st) (Zad st) .none kV doc pm an cdv ct),osl⟩)
  (c:PySem.W.codeIn K cdv qual=true) (k:PySem.W.keepIn K (.ref f)=true):Fun K x qual st f (PySem.W.fnOf x qual (Zaq st) (Zap st) (Zad st) .none kV doc pm an cdv ct):=⟨⟨oc,od,kV,doc,pm,an,cdv,ct,osl,rfl,l,c⟩,k⟩
end
theorem ZgV {A:Around} {k:Nat} (hr:Room k A):A.units+1<cLine:=Nat.lt_of_le_of_lt (Nat.add_le_add_left (by decide:1≤64) _) hr.units
theorem ZbC {n:Nat} (h:n≤1000):n<sizeLine:=Nat.lt_of_le_of_lt h (by decide)
section
variable {X:Cx}
theorem pv (i:Nat) {x:Str} {pos:Pos} (hN:X.N[i]? = some x:=by rfl) (hv:Vis X.env.scope x:=by first | exact Or.inl rfl | exact Or.inr (Or.inl rfl) | exact Or.inr (Or.inr rfl)) (hd:(x==("__debug__":Str))=false:=by decide)
  (hcd:(x==("__classdict__":Str))=false:=by decide):PE X (.Name x pos) (Zpa i):=Zns hN hv hd hcd
theorem Zjf:CallR X (.builtin "len") (fun xs H Q=>∃ a kvs,xs=[V.ref a]∧H a=some (.dK kvs)∧Q (.int kvs.length) H):=by
 intro pins s σ H xs us Q I r h
 obtain ⟨a,kvs,rfl,ha,q⟩:=h
 obtain ⟨u,rfl,ru⟩:=ZkE r
 cases ru
 exact ZoP I (.inl ha) fun t s' I'=>⟨.int kvs.length,H,I',⟨t,rfl⟩,q⟩
end
theorem Zjg {A B:Prop} (h:B):if false=true then A else B:=by
 rw [if_neg Bool.false_ne_true]
 exact h
theorem Zh7 {A B:Prop} (h:A):if true=true then A else B:=by
 rw [if_pos rfl]
 exact h
theorem Zbn {c A B:Prop} [Decidable c] (h1:c→A) (h2:¬ c→B):if c then A else B:=by
 by_cases h:c
 ·rw [if_pos h]
  exact h1 h
 ·rw [if_neg h]
  exact h2 h
def Same (H H':Hp):Prop:=∀ b o,H b=some o→H' b=some o
theorem Same.refl (H:Hp):Same H H:=fun _ _ h=>h
theorem Same.trans {H H1 H2:Hp} (a:Same H H1) (b:Same H1 H2):Same H H2:=fun c o h=>b c o (a c o h)
theorem Same.free {H H':Hp} (e:Same H H') {l:Addr} (h:H' l=Option.none):H l=Option.none:=by
 cases q:H l with
 | none=>rfl
 | some o=>
  rw [e l o q] at h
  cases h
theorem Same.seq {K:PySem.W.Frag} {H H':Hp} {a:Addr} {xs:List V} (e:Same H H') (h:SqL K H a xs):SqL K H' a xs:=by
 rcases h with (h | ⟨o,h⟩) | h
 ·exact .inl (.inl (e _ _ h))
 ·exact .inl (.inr ⟨o,e _ _ h⟩)
 ·exact .inr h
section
variable {κ:Type} [DecidableEq κ]
end
theorem Same.made {H H1:Hp} {x dx C:Addr} (nx:H x=Option.none) (nd:H dx=Option.none) (k:∀ b o,(upd (upd H dx (.own x)) x (.ins C dx [])) b=some o→b≠x→H1 b=some o):Same H H1:=fun b o e=>
 k b o (by rw [Zag (Zao e nx),Zag (Zao e nd)]; exact e) (Zao e nx)
end L2
namespace Le
def lexLe:List Int→List Int→Bool
 | [],_=>true
 | _::_,[]=>false
 | x::xs,y::ys=>if x=y then lexLe xs ys else decide (x≤y)
theorem Zh8 (x y:Int) (xs ys:List Int):lexLe (x::xs) (y::ys)=if x=y then lexLe xs ys else decide (x≤y):=rfl
end Le
namespace Pc
structure S where
 pos:Nat
 stuck:Bool
def has (ns:List Int) (st:S):Bool:=!st.stuck&&decide (st.pos<ns.length)
def see (ns ws:List Int) (st:S):Bool:=has ns st&&ws.contains (ns.getD st.pos 0)
def tk (ns ws:List Int) (st:S):Int×S:=if see ns ws st=true then (ns.getD st.pos 0,⟨st.pos+1,st.stuck⟩) else (0,⟨st.pos,true⟩)
def tks (ns:List Int):List Int→S→S
 | [],st=>st
 | c::r,st=>tks ns r (tk ns [c] st).2
def digs:List Int:=[48,49,50,51,52,53,54,55,56,57]
def Zb8 (ns:List Int) (g:Int) (stuck:Bool):Nat→Int→Nat→Int×Nat
 | 0,v,n=>(v,n)
 | k+1,v,n=>if see ns digs ⟨n,stuck⟩=true then
   (if 10*v+ns.getD n 0-48=0∨g<10*v+ns.getD n 0-48 then (v,n) else Zb8 ns g stuck k (10*v+ns.getD n 0-48) (n+1))
  else (v,n)
def nm (ns:List Int) (g:Int) (st:S):Int×S:=
 let r:=Zb8 ns g st.stuck (ns.length-st.pos) 0 st.pos
 (r.1,⟨r.2,st.stuck||decide (r.1=0)⟩)
def cells (ns ws:List Int):Nat→S→List Int×S
 | 0,st=>([],st)
 | k+1,st=>let r:=cells ns ws k st
  let t:=tk ns ws r.2
  (r.1++[t.1],t.2)
def Zb9 (ns ws:List Int) (w:Nat):Nat→S→List Int×S
 | 0,st=>([],st)
 | k+1,st=>let r:=Zb9 ns ws w k st
  let t:=cells ns ws w r.2
  (r.1++t.1,tks ns [10] t.2)
def fin (ns:List Int) (st:S):S:=if has ns st=true then ⟨st.pos,true⟩ else st
theorem Zhy (ns:List Int) (c:Int):∀ (l:List Int) (st:S),tks ns (l++[c]) st=(tk ns [c] (tks ns l st)).2
 | [],_=>rfl
 | d::r,st=>Zhy ns c r (tk ns [d] st).2
theorem Zd0 (ns ws:List Int):∀ (k:Nat) (st:S),(cells ns ws k st).1.length=k
 | 0,_=>rfl
 | k+1,st=>by
  show ((cells ns ws k st).1++[_]).length=k+1
  rw [List.length_append,Zd0 ns ws k st]
  rfl
theorem ZdI (ns ws:List Int) (w:Nat):∀ (k:Nat) (st:S),(Zb9 ns ws w k st).1.length=k*w
 | 0,_=>by rw [Nat.zero_mul]; rfl
 | k+1,st=>by
  show ((Zb9 ns ws w k st).1++(cells ns ws w _).1).length=(k+1)*w
  rw [List.length_append,ZdI ns ws w k st,Zd0,Nat.succ_mul]
theorem Zd1 {α:Type} {l:List α} {i:Nat} {x:α} (h:l[i]? = some x):l.take (i+1)=l.take i++[x]:=by
 rw [List.take_add_one,h]
 rfl
theorem ZdA (ns:List Int) (g:Int) (b:Bool):∀ (k:Nat) (v:Int) (n:Nat),0≤v→v≤g→0≤(Zb8 ns g b k v n).1∧(Zb8 ns g b k v n).1≤g
 | 0,v,n,h1,h2=>⟨h1,h2⟩
 | k+1,v,n,h1,h2=>by
  unfold Zb8
  by_cases hs:see ns digs ⟨n,b⟩=true
  ·rw [if_pos hs]
   by_cases hc:10*v+ns.getD n 0-48=0∨g<10*v+ns.getD n 0-48
   ·rw [if_pos hc]
    exact ⟨h1,h2⟩
   ·rw [if_neg hc]
    have hd:digs.contains (ns.getD n 0)=true:=by
     unfold see at hs
     exact (Bool.and_eq_true_iff.mp hs).2
    have hd2:48≤ns.getD n 0:=by
     have hm:ns.getD n 0∈digs:=by simpa using hd
     unfold digs at hm
     simp only [List.mem_cons,List.not_mem_nil,or_false] at hm
     lia
    exact ZdA ns g b k _ _ (by lia) (by lia)
  ·rw [if_neg hs]
   exact ⟨h1,h2⟩
theorem Zjh (ns:List Int) {g:Int} (hg:0≤g) (st:S):0≤(nm ns g st).1∧(nm ns g st).1≤g:=ZdA ns g st.stuck _ 0 st.pos (Int.le_refl 0) hg
theorem ZfZ (ns:List Int) {g:Nat} (st:S):∃ v:Nat,(nm ns g st).1=(v:Int)∧v≤g:=by
 have h:=Zjh ns (Int.natCast_nonneg g) st
 exact ⟨(nm ns g st).1.toNat,by lia,by lia⟩
structure FieldM where
 wide:Int
 deep:Int
 places:List Int
 st:S
def Za0 (ns:List Int) (st:S):FieldM:=
 let w:=nm ns 6 (tks ns [102,105,101,108,100,32] st)
 let d:=nm ns 12 (tks ns [32] w.2)
 let r:=Zb9 ns (digs++[46]) w.1.toNat d.1.toNat (tks ns [10] d.2)
 ⟨w.1,d.1,r.1,fin ns r.2⟩
def lets:List Int:=[97,98,99,100,101,102,103,104,105,106,107,108,109,110,111,112,113,114,115,116,117,118,119,120,121,122]
def ZaI (ns:List Int):Nat→S→List Int×S
 | 0,st=>([],st)
 | k+1,st=>if see ns (lets++digs) st=true then ((tk ns (lets++digs) st).1::(ZaI ns k (tk ns (lets++digs) st).2).1,(ZaI ns k (tk ns (lets++digs) st).2).2) else ([],st)
def Za8 (ns:List Int) (k:Nat) (st:S):List Int×S:=((tk ns lets st).1::(ZaI ns (k-1) (tk ns lets st).2).1,(ZaI ns (k-1) (tk ns lets st).2).2)
structure PartM where
 name:List Int
 w:Nat
 d:Nat
 h:Nat
 places:List Int
def psigns:List Int:=[46,35,115,116,98]
def ZaU (ns:List Int) (st:S):PartM×S:=
 let n:=Za8 ns 8 (tks ns [112,97,114,116,32] st)
 let w:=nm ns 16 (tks ns [32] n.2)
 let d:=nm ns 16 (tks ns [32] w.2)
 let h:=nm ns 18 (tks ns [32] d.2)
 let g:=nm ns 9999 (tks ns [32] h.2)
 let r:=Zb9 ns psigns w.1.toNat (d.1.toNat*h.1.toNat) (tks ns [10] g.2)
 (⟨n.1,w.1.toNat,d.1.toNat,h.1.toNat,r.1⟩,r.2)
def Za1 (ns:List Int):Nat→S→List PartM×S
 | 0,st=>([],st)
 | k+1,st=>if has ns st=true then ((ZaU ns st).1::(Za1 ns k (ZaU ns st).2).1,(Za1 ns k (ZaU ns st).2).2) else ([],st)
def Zbk (ns:List Int) (st:S):List PartM×S:=((ZaU ns st).1::(Za1 ns 63 (ZaU ns st).2).1,fin ns (Za1 ns 63 (ZaU ns st).2).2)
structure PartOk (p:PartM):Prop where
 w1:1≤p.w
 w2:p.w≤16
 d1:1≤p.d
 d2:p.d≤16
 h1:1≤p.h
 h2:p.h≤18
 len:p.places.length=p.d*p.h*p.w
theorem PartOk.small {p:PartM} (h:PartOk p):p.places.length≤4608:=by
 rw [h.len]
 have e1:p.d*p.h≤16*18:=Nat.mul_le_mul h.d2 h.h2
 have e2:p.d*p.h*p.w≤16*18*16:=Nat.mul_le_mul e1 h.w2
 exact e2
def Zal (p:PartM):List Nat:=(List.range p.places.length).filter fun i=>p.places.getD i 46 != 46
theorem Zca {p:PartM} {n:Nat} (h:n∈Zal p):n<p.places.length:=by
 unfold Zal at h
 exact List.mem_range.mp (List.mem_filter.mp h).1
theorem ZeG (p:PartM):(Zal p).length≤p.places.length:=by
 unfold Zal
 exact Nat.le_trans (List.length_filter_le _ _) (Nat.le_of_eq List.length_range)
def Zf0 (p:PartM):Bool:=((p.places.drop (p.w*p.d)).zip p.places).all fun q=>!(q.1 != 46&&([115,98]:List Int).contains q.2) && !(q.2 != 46&&([116,98]:List Int).contains q.1)
def xsM (p:PartM):List Nat:=(Zal p).map fun n=>n%p.w
def ysM (p:PartM):List Nat:=(Zal p).map fun n=>n / p.w%p.d
def zsM (p:PartM):List Nat:=(Zal p).map fun n=>n / (p.w*p.d)
def Zf1 (p:PartM):Bool:=(xsM p).contains 0&&((xsM p).contains (p.w-1)&&((ysM p).contains 0&&((ysM p).contains (p.d-1)&&((zsM p).contains 0&&(zsM p).contains (p.h-1)))))
def Zd2 (p:PartM) (n:Nat):List Nat:=
 (((((if 0<n%p.w then [n-1] else [])++(if n%p.w+1<p.w then [n+1] else []))++(if 0<n / p.w%p.d then [n-p.w] else []))++(if n / p.w%p.d+1<p.d then [n+p.w] else [])) ++
  (if 0<n / (p.w*p.d) then [n-p.w*p.d] else []))++(if n / (p.w*p.d)+1<p.h then [n+p.w*p.d] else [])
inductive Reach (p:PartM) (c:Nat):Nat→Prop
 | here:Reach p c c
 | step {x y:Nat}:Reach p c x→y∈Zd2 p x→y∈Zal p→Reach p c y
def Zd3 (p:PartM):Prop:=match Zal p with
 | []=>False
 | c::_=>∀ x∈Zal p,Reach p c x
def ZdB (p:PartM):Prop:=Zf0 p=true∧Zf1 p=true∧Zd3 p
def Zfr (ps:List PartM):Bool:=(ps.zip (ps.drop 1)).all fun q=>!Le.lexLe q.2.name q.1.name
def ZbK (ps:List PartM):Prop:=Zfr ps=true∧∀ p∈ps,ZdB p
def Zcq (p:PartM):Bool:=decide (p.h=1)&&(decide (p.w≤6)&&(decide (p.d≤4)&&decide (p.places.count 98=p.places.length)))
def Zaj:PartM:=⟨[],0,0,0,[]⟩
def ZaK (ps:List PartM) (i:Nat):Bool:=Zcq (ps.getD i Zaj)&&(List.range i).all fun j=>!(Zcq (ps.getD j Zaj)&&((ps.getD j Zaj).w==(ps.getD i Zaj).w&&(ps.getD j Zaj).d==(ps.getD i Zaj).d))
def ZaX (ps:List PartM):List Nat:=(List.range ps.length).filter (ZaK ps)
structure Dfs (p:PartM) (c:Nat) (L W:List Nat):Prop where
 nd:L.Nodup
 sub:∀ x∈L,x∈Zal p
 cin:c∈Zal p
 cout:c∉L
 reach:∀ x∈Zal p,x∉L→Reach p c x
 wait:∀ x∈W,x∈Zal p∧x∉L
def Done (p:PartM) (L W A:List Nat):Prop:=∀ x∈Zal p,x∉L→x∉W→x∉A→∀ y∈Zd2 p x,y∉L
theorem Dfs.fin {p:PartM} {c:Nat} {L:List Nat} (h:Dfs p c L []) (hd:Done p L [] []):L=[]↔∀ x∈Zal p,Reach p c x:=by
 constructor
 ·intro e x hx
  exact h.reach x hx (by rw [e]; simp)
 ·intro hr
  have out:∀ x,Reach p c x→x∈Zal p∧x∉L:=by
   intro x hx
   induction hx with
   | here=>exact ⟨h.cin,h.cout⟩
   | step r hy hc ih=>exact ⟨hc,hd _ ih.1 ih.2 (by simp) (by simp) _ hy⟩
  cases e:L with
  | nil=>rfl
  | cons x r=>
   have hx:x∈L:=by rw [e]; exact List.mem_cons_self
   exact absurd hx (out x (hr x (h.sub x hx))).2
theorem Dfs.move {p:PartM} {c:Nat} {L W:List Nat} {x y:Nat} (h:Dfs p c L W) (hx:x∈Zal p) (hxL:x∉L) (hy:y∈Zd2 p x) (hL:y∈L):Dfs p c (L.filter (fun z=>decide (z≠y))) (W++[y]):=by
 refine ⟨h.nd.sublist List.filter_sublist,fun z hz=>h.sub z (List.mem_filter.mp hz).1,h.cin,fun q=>h.cout (List.mem_filter.mp q).1,fun z hz hn=>?_,fun z hz=>?_⟩
 ·by_cases e:z=y
  ·subst e
   exact .step (h.reach x hx hxL) hy hz
  ·exact h.reach z hz fun q=>hn (List.mem_filter.mpr ⟨q,by simpa using e⟩)
 ·rcases List.mem_append.mp hz with q | q
  ·exact ⟨(h.wait z q).1,fun q2=>(h.wait z q).2 (List.mem_filter.mp q2).1⟩
  ·have e:z=y:=by simpa using q
   subst e
   exact ⟨h.sub z hL,fun q2=>by have:=(List.mem_filter.mp q2).2; simp at this⟩
theorem Done.move {p:PartM} {L W A:List Nat} {y:Nat} (h:Done p L W A):Done p (L.filter (fun z=>decide (z≠y))) (W++[y]) A:=by
 intro x hx hn hw ha z hz q
 have hxy:x≠y:=fun e=>hw (List.mem_append_right _ (by simp [e]))
 have hxL:x∉L:=fun e=>hn (List.mem_filter.mpr ⟨e,by simpa using hxy⟩)
 exact h x hx hxL (fun e=>hw (List.mem_append_left _ e)) ha z hz (List.mem_filter.mp q).1
theorem Zh9 {L:List Nat} {y:Nat} (hn:L.Nodup) (hy:y∈L):(L.filter (fun z=>decide (z≠y))).length+1=L.length:=by
 induction L with
 | nil=>simp at hy
 | cons a r ih=>
  obtain ⟨h1,h2⟩:=List.nodup_cons.mp hn
  by_cases e:a=y
  ·subst e
   have:r.filter (fun z=>decide (z≠a))=r:=List.filter_eq_self.mpr fun z hz=>by
    have:z≠a:=fun q=>h1 (q ▸ hz)
    simpa using this
   rw [List.filter_cons,if_neg (by simp),this]
   rfl
  ·rw [List.filter_cons,if_pos (by simpa using e),List.length_cons,List.length_cons]
   rcases List.mem_cons.mp hy with q | q
   ·exact absurd q.symm e
   ·have:=ih h2 q
    lia
end Pc
namespace Le
open PySem PyProof.Rows L2
theorem ZkS (A:Around) (s:Shared) (a:Int) (t:Tok) (c:Int) (u:Tok) (prog:Program) (w:World) (E:Value→Shared→Prop) (Q:Value→Shared→Prop) (h:Q (.bool (decide (a≤c))) s):
  wpAny (model prog w) A (richCompare .LtE (.int a t) (.int c u)) Q E s:=
 (PyProof.Rows.le_int h:wpAny (model prog w) A (compareOp .LtE (.int a t) (.int c u)) Q E s)
theorem ZgW:∀ {vs:List Value} {ns:List Int} {i:Nat},IntsAre vs ns→i<vs.length→∃ a t,vs[i]? = some (.int a t)∧ns[i]? = some a
 | _,_,_,.nil,h=>absurd h (Nat.not_lt_zero _)
 | _,_,0,.cons a t _,_=>⟨a,t,rfl,rfl⟩
 | _,_,i+1,.cons a t r,h=>ZgW (i:=i) r (Nat.lt_of_succ_lt_succ h)
section
open PySem.SeqAt
open PySem.AutoSeq1 (wpAny_loadPart')
open PySem.MeetsSeq PySem.MeetsSeq2 PySem.MeetsSeq3
theorem Zms (l b:Addr) (items items2:Array Value) (n n2:Nat) (dd dd2:Option Addr) (sl sl2:Array (Option Value)) (ns ms:List Int) (hi:IntsAre items.toList ns) (hj:IntsAre items2.toList ms) (k:Nat):
  ∀ i:Nat,items.size-i=k→i≤items.size→i≤items2.size→Meets (Builtin.«list.__eq__.loop» ⟨[.ref l,.ref b,rawInt i,rawInt 1],[]⟩)
   (fun _ R s=>s.heap.get? l=some { cls:=.type "list",dict:=dd,data:=.seq items n,slots:=sl }∧s.heap.get? b=some { cls:=.type "list",dict:=dd2,data:=.seq items2 n2,slots:=sl2 } ∧
    R (.ok (.ret (.bool (lexLe (ns.drop i) (ms.drop i))))) s):=by
 have z1:items.size=ns.length:=by rw [← hi.length]; simp
 have z2:items2.size=ms.length:=by rw [← hj.length]; simp
 induction k with
 | zero=>
  intro i hk hle hle2 prog w A R s h
  obtain ⟨hp,g,d,tk,os⟩:=s; obtain ⟨hl,hb,h⟩:=h
  wp_walk using wpAny_loadPart' hl,wpAny_loadPart' hb
  have hi1:items[((i:Nat):Int).toNat]? = none:=by simp; lia
  have hd:ns.drop i=[]:=by simp; lia
  have hle3:decide (items.size≤items2.size)=true:=decide_eq_true (by lia)
  rw [hd] at h
  rw [hi1]
  wp_walk using wpAny_loadPart' hl,wpAny_loadPart' hb
  show R (.ok (.ret (.bool (decide (items.size≤items2.size))))) _
  rw [hle3]
  exact h
 | succ k ih=>
  intro i hk hle hle2 prog w A R s h
  obtain ⟨hp,g,d,tk,os⟩:=s; obtain ⟨hl,hb,h⟩:=h
  wp_walk using wpAny_loadPart' hl,wpAny_loadPart' hb
  have hlt:i<items.size:=by lia
  obtain ⟨a,t,e1,f1⟩:=ZgW (i:=i) hi (by simpa using hlt)
  have hi1:items[((i:Nat):Int).toNat]? = some (.int a t):=by simpa using e1
  obtain ⟨g1,g2⟩:=List.getElem?_eq_some_iff.mp f1
  have hd:ns.drop i=a::ns.drop (i+1):=by rw [List.drop_eq_getElem_cons g1,g2]
  by_cases hlt2:i<items2.size
  ·obtain ⟨c,u,e2,f2⟩:=ZgW (i:=i) hj (by simpa using hlt2)
   have hi2:items2[((i:Nat):Int).toNat]? = some (.int c u):=by simpa using e2
   obtain ⟨g3,g4⟩:=List.getElem?_eq_some_iff.mp f2
   have hd2:ms.drop i=c::ms.drop (i+1):=by rw [List.drop_eq_getElem_cons g3,g4]
   have hc:((i:Int)+1)=((i+1:Nat):Int):=by push_cast; rfl
   rw [hd,hd2,Zh8] at h
   rw [hi1,hi2]
   obtain ⟨e,he,hiff⟩:=HT.eqAt_int A.in1 ⟨hp,g,d,tk,os⟩ a t c u
   refine wpAny_bind (he prog w _ _ ?_)
   cases hb':e with
   | true=>
    rw [if_pos (hiff.mp hb')] at h
    wp_walk
    rw [hc]
    exact ⟨plainId_quiet plain_eq_loop _,codeAny_builtin entry_eq_loop (by
     rw [Around.under_plainId plain_eq_loop _]
     exact ih (i+1) (by lia) (by lia) (by lia) prog w A R _ ⟨hl,hb,h⟩)⟩
   | false=>
    rw [if_neg (fun q=>absurd (hiff.mpr q) (by rw [hb']; exact Bool.false_ne_true))] at h
    wp_walk using wpAny_loadPart' hl,wpAny_loadPart' hb
    rw [hi1,hi2]
    have hri:=ZkS A.in1 ⟨hp,g,d,tk,os⟩ a t c u prog w
    wp_walk using hri
    exact h
  ·have hi2:items2[((i:Nat):Int).toNat]? = none:=by simp; lia
   have hd2:ms.drop i=[]:=by simp; lia
   have hle3:decide (items.size≤items2.size)=false:=decide_eq_false (by lia)
   rw [hd,hd2] at h
   rw [hi1,hi2]
   wp_walk using wpAny_loadPart' hl,wpAny_loadPart' hb
   show R (.ok (.ret (.bool (decide (items.size≤items2.size))))) _
   rw [hle3]
   exact h
theorem Zf2 (l b:Addr) (items items2:Array Value) (n n2:Nat) (dd dd2:Option Addr) (sl sl2:Array (Option Value)) (ns ms:List Int) (hi:IntsAre items.toList ns) (hj:IntsAre items2.toList ms):
  Meets (Builtin.«list.__le__» ⟨[.ref l,.ref b],[]⟩)
   (fun _ R s=>s.heap.get? l=some { cls:=.type "list",dict:=dd,data:=.seq items n,slots:=sl }∧s.heap.get? b=some { cls:=.type "list",dict:=dd2,data:=.seq items2 n2,slots:=sl2 } ∧
    R (.ok (.ret (.bool (lexLe ns ms)))) s):=by
 intro prog w A R s h
 obtain ⟨hp,g,d,tk,os⟩:=s; obtain ⟨hl,hb,h⟩:=h
 have f3:=AutoSeq1.sub_list_list
 wp_walk using wpAny_loadPart' hl,wpAny_loadPart' hb
 exact ⟨plainId_quiet plain_eq_loop _,codeAny_builtin entry_eq_loop (by
  rw [Around.under_plainId plain_eq_loop _]
  exact Zms l b items items2 n n2 dd dd2 sl sl2 ns ms hi hj _ 0 rfl (Nat.zero_le _) (Nat.zero_le _) prog w A R _ ⟨hl,hb,by simpa using h⟩)⟩
end
section
variable {prog:Program} {w:World} {A:Around} {E:Value→Shared→Prop} {s:Shared}
theorem ZgX {l b:Addr} {items items2:Array Value} {ns ms:List Int} {Q:Value→Shared→Prop} (hl:s.heap.IsList l items) (hb:s.heap.IsList b items2) (hi:IntsAre items.toList ns) (hj:IntsAre items2.toList ms)
  (hu:A.units<cLine) (h:Q (.bool (lexLe ns ms)) s):wpAny (model prog w) A (compareOp .LtE (.ref l) (.ref b)) Q E s:=by
 obtain ⟨⟨cls,dd,data,sl⟩,ho,hc,n,hd⟩:=id hl
 obtain ⟨⟨cls2,dd2,data2,sl2⟩,ho2,hc2,n2,hd2⟩:=id hb
 simp only at hc hd hc2 hd2
 subst hc hd hc2 hd2
 exact richCompare_meets_room (op:=.LtE) ⟨_,ho,rfl⟩ ⟨_,ho2,rfl⟩ PySem.F.slot_list_le PySem.F.entry_list_le (PySem.F.args_list_le_2 _ _) (Zf2 l b items items2 n n2 dd dd2 sl sl2 ns ms hi hj)
  ⟨ho,ho2,show Value.bool (lexLe ns ms)≠Value.notImplemented∧Q (.bool (lexLe ns ms)) s from ⟨(fun x=>nomatch x),h⟩⟩ hu
end
def rLeL (K:PySem.W.Frag):R2:=fun x y H Q=>∃ a b ns ms,x = .ref a∧y = .ref b∧SqL K H a (ns.map V.int)∧SqL K H b (ms.map V.int)∧Q (.bl (lexLe ns ms)) H
theorem op_leL {X:Cx} (hu:X.A.units<cLine):OpR X (compareOp .LtE) (rLeL X.K):=by
 intro pins s σ H x y v u Q I rx ry h
 obtain ⟨a,b,ns,ms,rfl,rfl,ha,hb,q⟩:=h
 cases rx
 cases ry
 obtain ⟨its,r1,p1,_⟩:=I.list ha
 obtain ⟨its2,r2,p2,_⟩:=I.list hb
 have i1:IntsAre its.toArray.toList ns:=Zda r1
 have i2:IntsAre its2.toArray.toList ms:=Zda r2
 exact ZgX p1.isList p2.isList i1 i2 hu ⟨.bl (lexLe ns ms),H,I,rfl,q⟩
end Le
namespace Sa
open PySem PySem.W PySem.Calls PyProof.Rows L2
inductive Arg where
 | ints (ns:List Int)
 | int (i:Int)
def Arg.data:Arg→WData
 | .ints ns=>.list (ns.map .int)
 | .int i=>.int i
def Arg.is (K:Frag) (H:Hp):V→Arg→Prop
 | v,.ints ns=>∃ a,v = .ref a∧SqL K H a (ns.map V.int)
 | v,.int i=>v = .int i
def ZnL (h:Heap) (p:Addr×List Int):Prop:=∃ vs:List Value,h.get? p.1=some { cls:=.type "list",data:=.seq vs.toArray }∧IntsAre vs p.2∧p.2.length≤sizeLine
theorem Zhz:∀ {vs:List Value} {ns ms:List Int},IntsAre vs ns→IntsAre vs ms→ns=ms
 | _,_,_,.nil,g=>by cases g; rfl
 | _,_,_,.cons n t h,g=>by
  cases g with
  | cons _ _ g=>rw [Zhz h g]
theorem Zdc {α:Type}:∀ {L:List (Addr×α)} {a:Addr} {x:α},L.lookup a=some x→(a,x)∈L
 | [],a,x,h=>by simp at h
 | (b,y)::r,a,x,h=>by
  rw [List.lookup_cons] at h
  split at h
  ·rename_i e
   have e':a=b:=by simpa using e
   cases h
   subst e'
   exact List.mem_cons_self
  ·exact List.mem_cons_of_mem _ (Zdc h)
theorem Zd4 {α:Type}:∀ {L:List (Addr×α)} {a:Addr} {x:α},(a,x)∈L→∃ y,L.lookup a=some y
 | [],a,x,h=>by simp at h
 | (b,y)::r,a,x,h=>by
  rw [List.lookup_cons]
  split
  ·exact ⟨_,rfl⟩
  ·rename_i e
   rcases List.mem_cons.mp h with q | q
   ·cases q
    simp at e
   ·exact Zd4 q
def H0 (K:Frag) (h:Heap) (L:List (Addr×List Int)):Hp:=fun b=>if K.lookup b=none then (L.lookup b).bind fun ns=>(h.get? b).map fun o=>.frz o (.lst (ns.map V.int)) else none
theorem Zji {K:Frag} {h:Heap} {L:List (Addr×List Int)} {b:Addr} {u:HO} (e:H0 K h L b=some u):K.lookup b=none∧∃ ns o,(b,ns)∈L∧h.get? b=some o∧u = .frz o (.lst (ns.map V.int)):=by
 unfold H0 at e
 split at e
 ·rename_i hk
  obtain ⟨ns,h1,h2⟩:=Option.bind_eq_some_iff.mp e
  obtain ⟨o,h3,h4⟩:=Option.map_eq_some_iff.mp h2
  exact ⟨hk,ns,o,Zdc h1,h3,h4.symm⟩
 ·cases e
theorem Zmt (K:Frag) (h:Heap) (L:List (Addr×List Int)):ZoU (H0 K h L):=fun b=>by
 cases e:H0 K h L b with
 | none=>exact .inl rfl
 | some u=>
  obtain ⟨_,ns,o,_,_,rfl⟩:=Zji e
  exact .inr ⟨o,_,rfl⟩
theorem ZnM {K:Frag} {h:Heap} {L:List (Addr×List Int)} (KX:K.In h) (hL:∀ p∈L,ZnL h p) {p:Addr×List Int} (hp:p∈L):SqL K (H0 K h L) p.1 (p.2.map V.int):=by
 obtain ⟨a,ns⟩:=p
 obtain ⟨vs,ho,hi,hl⟩:=hL _ hp
 cases hk:K.lookup a with
 | some o=>
  have e:=KX a o hk
  rw [ho] at e
  cases e
  have lenV:=hi.length
  exact .inr ⟨_,vs.toArray,_,hk,rfl,rfl,rfl,by rw [List.size_toArray,lenV]; exact hl,by simpa using ZdZ hi⟩
 | none=>
  obtain ⟨ms,hm⟩:=Zd4 hp
  obtain ⟨ws,ho2,hi2,_⟩:=hL _ (Zdc hm)
  have e:vs.toArray=ws.toArray:=by
   have q:=ho.symm.trans ho2
   have q2:=Option.some.inj q
   injection q2 with _ _ q3 _
   injection q3
  have e2:vs=ws:=by simpa using e
  subst e2
  have e3:=Zhz hi hi2
  dsimp only at e3
  subst e3
  refine .inl (.inr ⟨{ cls:=.type "list",data:=.seq vs.toArray },?_⟩)
  show H0 K h L a=_
  unfold H0
  rw [if_pos hk,hm]
  show (h.get? a).map _=_
  rw [show h.get? a=_ from ho]
  rfl
theorem Zd5 {PP:Params} {h:Heap}:∀ {args:List Arg} {vals:List Value},WellAll PP h vals (args.map Arg.data)→(∀ ns,Arg.ints ns∈args→ns.length≤sizeLine) →
  ∃ (L:List (Addr×List Int)) (vs:List V),(∀ p∈L,ZnL h p)∧Vals vs vals∧∀ (K:Frag) (H:Hp),(∀ p∈L,SqL K H p.1 (p.2.map V.int))→Paired (Arg.is K H) vs args
 | [],vals,w,_=>by
  cases w
  exact ⟨[],[],fun p hp=>absurd hp (by simp),.nil,fun _ _ _=>.nil⟩
 | .int i::r,vals,w,hl=>by
  have w':WellAll PP h vals (.int i::r.map Arg.data):=w
  cases w' with
  | cons w1 w2=>
   cases w1
   obtain ⟨L,vs,h1,h2,h3⟩:=Zd5 w2 fun ns hm=>hl ns (List.mem_cons_of_mem _ hm)
   exact ⟨L,.int i::vs,h1,.cons ⟨_,rfl⟩ h2,fun K H hH=>.cons rfl (h3 K H hH)⟩
 | .ints ns::r,vals,w,hl=>by
  have w':WellAll PP h vals (.list (ns.map .int)::r.map Arg.data):=w
  cases w' with
  | cons w1 w2=>
   cases w1 with
   | @list a us xs ho hall=>
    obtain ⟨L,vs,h1,h2,h3⟩:=Zd5 w2 fun ns hm=>hl ns (List.mem_cons_of_mem _ hm)
    refine ⟨(a,ns)::L,.ref a::vs,fun p hp=>?_,.cons rfl h2,fun K H hH=>.cons ⟨a,rfl,hH (a,ns) List.mem_cons_self⟩ (h3 K H fun p hp=>hH p (List.mem_cons_of_mem _ hp))⟩
    rcases List.mem_cons.mp hp with e | e
    ·subst e
     exact ⟨us,ho,Att.ints_of_wellAll ns us hall,hl ns List.mem_cons_self⟩
    ·exact h1 p e
theorem ZeH {cl:Str→Option Addr} {h:Heap}:∀ {vs:List Value} {ns:List Int},IntsAre vs ns→ReadsAllW [] cl h vs (ns.map .int) []
 | _,_,.nil=>.nil
 | _,_,.cons n t r=>ReadsAllW.cons (as:=[]) (.int n t) (ZeH r)
theorem Zjj {P:Program} {w:World} {PP:Params} {K:Frag} {mg mb:Str→Option Value} {CX:CXT} {k:Nat} {fa:Addr} {fd:FuncData} {ps:List Str} {sp:Sp} {s₁:Shared} {vals:List Value} {args:List Arg} {ans:List Int}
  (KX:K.In s₁.heap) (hns:s₁.heap.Ns mainGlobals mg) (hb:s₁.heap.Ns builtinsNs mb) (hbb:∀ x:Str,x≠"__name__"→mb x=bootBuiltins x) (hlim:s₁.heap.NoLimit) (hg:s₁.gens=#[])
  (wl:WellAll PP s₁.heap vals (args.map Arg.data)) (hl:∀ ns,Arg.ints ns∈args→ns.length≤sizeLine) (hr:Room k callerA)
  (F:∀ base:Heap,K.In base→base.Ns mainGlobals mg→FnOk P w K mg base CX k fa fd ps sp) (hbind:Binds K fd ps [])
  (hsp:∀ (H:Hp) (vs:List V),ZoU H→Paired (Arg.is K H) vs args→sp vs H (fun v H'=>∃ p,v = .ref p∧H' p=some (.lst (ans.map V.int))) fun _ _ _=>False)
  (hCX:∀ H e s',CX [] H s₁ (fun _ _ _=>False) e s'→False):
  codeAny (model P w) callerA (.call (.ref fa) ⟨vals,[]⟩) (fun r s'=>(∃ (p:Addr) (its:List Value) (n:Nat),r = .ok (.ret (.ref p))∧s'.heap.get? p=some { cls:=.type "list",data:=.seq its.toArray n }∧IntsAre its ans)∧OldK s₁.heap s'.heap∧s'.os=s₁.os∧AllBare s'.gens) s₁:=by
 obtain ⟨L,vs,hL,rv,hA⟩:=Zd5 wl hl
 have hO:=Zmt K s₁.heap L
 have hPr:=hA K (H0 K s₁.heap L) fun p hp=>ZnM KX hL hp
 generalize hHe:H0 K s₁.heap L=H at hO hPr
 have hS:∀ b u,H b=some u→K.lookup b=none∧∃ (vs:List Value) (ns:List Int),s₁.heap.get? b=some { cls:=.type "list",data:=.seq vs.toArray }∧IntsAre vs ns∧ns.length≤sizeLine∧u = .frz { cls:=.type "list",data:=.seq vs.toArray } (.lst (ns.map V.int)):=fun b u e=>by
  rw [← hHe] at e
  obtain ⟨h1,ns,o,h2,h3,h4⟩:=Zji e
  obtain ⟨ws,g1,g2,g3⟩:=hL _ h2
  dsimp only at g1
  rw [h3] at g1
  cases g1
  exact ⟨h1,ws,ns,h3,g2,g3,h4⟩
 have hok:HOk P w H s₁.heap:=fun b u e=>by
  obtain ⟨_,ws,ns,h1,h2,h3,rfl⟩:=hS b u e
  exact ⟨h1,by rw [List.length_map]; exact h3,ws,_,ZdZ h2,h1⟩
 have base_of:∀ {b:Addr} {o:Obj},s₁.heap.get? b=some o→H b=none→(Zkz s₁.heap H).get? b=some o:=fun e n=>ZkA e n
 have noA:∀ {b:Addr} {o:Obj} {es:Array DictEntry} {ep:Nat},s₁.heap.get? b=some o→o.data = .dict es ep→H b=none:=fun {b o es ep} e d=>by
  cases q:H b with
  | none=>rfl
  | some u=>
   obtain ⟨_,ws,ns,h1,_⟩:=hS b u q
   rw [h1] at e; cases e
   have d':Data.seq ws.toArray _=Data.dict es ep:=d
   cases d'
 have nsK:∀ {b:Addr} {m:Str→Option Value},s₁.heap.Ns b m→(Zkz s₁.heap H).Ns b m:=fun {b m} ⟨o,es,ep,e,d,r⟩=>⟨o,es,ep,base_of e (noA e d),d,r⟩
 have hKb:K.In (Zkz s₁.heap H):=fun b o e=>base_of (KX b o e) (by
  cases q:H b with
  | none=>rfl
  | some u=>
   obtain ⟨h1,_⟩:=hS b u q
   rw [h1] at e; cases e)
 have hM:Mod K mg (Zkz s₁.heap H):=⟨hKb,nsK hns,⟨mb,nsK hb,hbb⟩,let ⟨mc,h1,h2⟩:=hlim; ⟨mc,nsK h1,h2⟩⟩
 have e0:Env0 P w K mg (Zkz s₁.heap H) callerA [] s₁ H:=⟨rfl,hM,fun b o e=>Zmb e,Nat.le_of_eq (ZiL _ _),trivial,fun b hb=>absurd (show b∈([]:List Addr) from hb) (by simp),hok,.of_eq hg⟩
 have FF:=F _ hKb (nsK hns)
 have hsp':=hsp H vs hO hPr
 have hlen:(vals++[]).length=ps.length:=by
  rw [List.append_nil,← rv.length]
  exact FF.len _ _ _ _ hsp'
 have hbd:=hbind s₁ vals KX hlen
 rw [List.append_nil] at hbd
 refine codeAny_mono (FF.run callerA [] s₁ H ⟨vals,[]⟩ vals vs _ _ hr e0 hbd rv hsp') fun r s' h=>?_
 cases r with
 | error e=>exact (hCX H e s' h).elim
 | ok fl=>
  cases fl with
  | next=>exact False.elim h
  | brk=>exact False.elim h
  | cont=>exact False.elim h
  | ret u=>
   obtain ⟨v,H',os,bare,un,hok',r',p,rfl,hp⟩:=h
   obtain rfl:u=Value.ref p:=r'
   obtain ⟨_,its,n,rits,hob⟩:=hok' p _ hp
   refine ⟨⟨p,its,n,rfl,hob,Zda rits⟩,OldK.of_keep fun b o e=>?_,os,bare⟩
   cases q:H b with
   | none=>exact un.keep b o e q (by intro z; exact absurd (show b∈([]:List Addr) from z) (by simp)) (by simp)
   | some u=>
    rcases hO b with z | ⟨ob,xs,z⟩
    ·rw [q] at z; cases z
    ·have z2:=un.frzs b ob _ z
     obtain ⟨e1,_⟩:=hok b _ z
     obtain ⟨e2,_⟩:=hok' b _ z2
     rw [e] at e1; cases e1
     exact e2
theorem walk_spec {r:OpenSpec} {k:Nat} {q:Program} {loose:List Str} {XP:(Str→Option Value)→Heap→Prop} {YP:World→Heap→Prop} {d:DefRec} {K:Params→Frag} {sp:Frag→Sp} {ps:List Str} {Iv:List Arg→List Int→Prop}
  (hr:Room k callerA) (hdf:d.params.defaults=[])
  (hdec:∀ as,r.pre as=true→∃ (args:List Arg) (ans:List Int),as=args.map Arg.data∧(∀ ns,Arg.ints ns∈args→ns.length≤sizeLine)∧r.post as (.list (ans.map .int))=true∧Iv args ans)
  (hY:∀ (w:World) (h:Heap),YP w h→(K w.params).In h)
  (F:∀ (w:World) (mg:Str→Option Value) (fa:Addr) (h:Heap),(K w.params).In h→h.Ns mainGlobals mg→mg d.name=some (.ref fa) →
   ∃ fd:FuncData,Binds (K w.params) fd ps []∧∀ base:Heap,(K w.params).In base→base.Ns mainGlobals mg→FnOk r.prog w (K w.params) mg base CX0 k fa fd ps (sp (K w.params)))
  (hsp:∀ (K:Frag) (H:Hp) (vs:List V) (args:List Arg) (ans:List Int),Iv args ans→ZoU H→Paired (Arg.is K H) vs args→sp K vs H (fun v H'=>∃ p,v = .ref p∧H' p=some (.lst (ans.map V.int))) fun _ _ _=>False):
  WalkOS q loose XP YP r d [] (fun f vs=>PySem.call f vs):=by
 intro w s₀ s₁ mg mb G Y fa o pm cd doc dV kV ho hd hcd hD hmg hg args vals as hpre hlay hrd hwl hlo
 obtain ⟨ar,ans,rfl,hl,hpost,hi⟩:=hdec args hpre
 have KX:=hY w _ Y
 obtain ⟨fd,hb,hF⟩:=F w mg fa _ KX G.T.g hmg
 refine enter_call (codeAny_mono (Zjj KX G.T.g G.T.b G.T.builtins G.T.nolimit hg hwl hl hr hF hb (fun H vs hO hP=>hsp _ H vs ar ans hi hO hP) (fun _ _ _ h=>h)) fun res s' hq=>?_)
 obtain ⟨⟨p,its,n,rfl,hob,hits⟩,h2,h3,h4⟩:=hq
 exact ⟨.inl ⟨.ref p,.list (ans.map .int),[p],rfl,fun _=>rfl,.list hob rfl rfl (by show ReadsAllW [] _ _ its.toArray.toList _ _; simpa using ZeH hits),hpost,fun hu=>absurd (show false=true from hu) (by decide)⟩,h2,h3,h4⟩
end Sa
namespace Pc
open PySem PySem.W PySem.Spec PyProof.Rows L2
def rdF (a:Addr) (st:S):List (Str×V):=[("text",.ref a),("at",.int st.pos),("stuck",.bl st.stuck)]
theorem Zd6:¬ (("text":Str)="at"):=by decide +kernel
theorem Zd7:¬ (("text":Str)="stuck"):=by decide +kernel
theorem ZgY:¬ (("at":Str)="stuck"):=by decide +kernel
theorem Zah {g f:Str} {v:V} {r:List (Str×V)}:List.lookup g ((f,v)::r)=if g=f then some v else r.lookup g:=by
 rw [List.lookup_cons]
 by_cases h:g=f
 ·subst h; simp
 ·rw [if_neg h,beq_eq_false_iff_ne.mpr h]
theorem ZdJ (a:Addr) (st:S):(rdF a st).lookup ("text":Str)=some (.ref a):=by
 unfold rdF; rw [Zah,if_pos rfl]
theorem ZeI (a:Addr) (st:S):(rdF a st).lookup ("at":Str)=some (.int st.pos):=by
 unfold rdF; rw [Zah,if_neg (fun e=>Zd6 e.symm),Zah,if_pos rfl]
theorem ZcW (a:Addr) (st:S):(rdF a st).lookup ("stuck":Str)=some (.bl st.stuck):=by
 unfold rdF; rw [Zah,if_neg (fun e=>Zd7 e.symm),Zah,if_neg (fun e=>ZgY e.symm),Zah,if_pos rfl]
theorem ZaN (a:Addr) (st:S) {m:Str} (h1:¬ m="text") (h2:¬ m="at") (h3:¬ m="stuck"):(rdF a st).lookup m=none:=by
 unfold rdF; rw [Zah,if_neg h1,Zah,if_neg h2,Zah,if_neg h3]; rfl
theorem Zf3 (a:Addr) (st:S) (n:Nat):ZaR "at" (.int n) (rdF a st)=rdF a ⟨n,st.stuck⟩:=by
 unfold rdF
 show (if ("text":Str)="at" then _ else (("text":Str),V.ref a)::(if ("at":Str)="at" then _ else _))=_
 rw [if_neg Zd6,if_pos rfl]
theorem Zcb (a:Addr) (st:S) (b:Bool):ZaR "stuck" (.bl b) (rdF a st)=rdF a ⟨st.pos,b⟩:=by
 unfold rdF
 show (if ("text":Str)="stuck" then _ else (("text":Str),V.ref a)::(if ("at":Str)="stuck" then _ else (("at":Str),V.int st.pos)::(if ("stuck":Str)="stuck" then _ else _)))=_
 rw [if_neg Zd7,if_neg ZgY,if_pos rfl]
theorem Zmu (a:Addr):ZaR "stuck" (.bl false) (ZaR "at" (.int 0) (ZaR "text" (.ref a) []))=rdF a ⟨0,false⟩:=by
 show ZaR "stuck" (.bl false) (ZaR "at" (.int 0) [(("text":Str),V.ref a)])=_
 have e1:ZaR "at" (.int 0) [(("text":Str),V.ref a)]=[(("text":Str),V.ref a),(("at":Str),V.int 0)]:=by
  show (if ("text":Str)="at" then _ else (("text":Str),V.ref a)::[(("at":Str),V.int 0)])=_
  rw [if_neg Zd6]
 rw [e1]
 show (if ("text":Str)="stuck" then _ else (("text":Str),V.ref a)::(if ("at":Str)="stuck" then _ else (("at":Str),V.int 0)::[(("stuck":Str),V.bl false)]))=_
 rw [if_neg Zd7,if_neg ZgY]
 rfl
theorem Zd8 (a:Addr) (st:S):(rdF a st).length<1000:=by show 3<1000; decide
def RdAt (C:Addr) (H:Hp) (p a:Addr) (st:S):Prop:=∃ dx,H p=some (.ins C dx (rdF a st))
def Keep (p:Addr) (H H':Hp):Prop:=∀ b o,H b=some o→b≠p→H' b=some o
theorem Keep.refl (p:Addr) (H:Hp):Keep p H H:=fun _ _ e _=>e
theorem Keep.trans {p:Addr} {H H1 H2:Hp} (a:Keep p H H1) (b:Keep p H1 H2):Keep p H H2:=fun c o e n=>b c o (a c o e n) n
theorem Keep.of {p:Addr} {H H':Hp} (h:Same H H'):Keep p H H':=fun b o e _=>h b o e
theorem Keep.put {p:Addr} {H:Hp} {o:HO}:Keep p H (upd H p o):=fun b u e n=>by rw [Zag n]; exact e
theorem Keep.new {p q:Addr} {H:Hp} {o:HO} (h:H q=none):Keep p H (upd H q o):=fun b u e _=>by rw [Zag (Zao e h)]; exact e
theorem Zai {q:Addr} {H:Hp} {o:HO} (h:H q=none):Same H (upd H q o):=fun b u e=>by rw [Zag (Zao e h)]; exact e
theorem ZnN {H:Hp} {C dx p w:Addr} {fs:List (Str×V)} {xs:List V} (hp:H p=some (.ins C dx fs)) (h:Rd H w (.lst xs)):w≠p:=by
 rcases h with h | ⟨o,h⟩
 ·exact ZaF h hp (by intro z; cases z)
 ·exact ZaF h hp (by intro z; cases z)
theorem Keep.seq {K:Frag} {H H':Hp} {C dx p w:Addr} {fs:List (Str×V)} {xs:List V} (k:Keep p H H') (hp:H p=some (.ins C dx fs)) (h:SqL K H w xs):SqL K H' w xs:=by
 rcases h with h | h
 ·have n:=ZnN hp h
  rcases h with h | ⟨o,h⟩
  ·exact .inl (.inl (k _ _ h n))
  ·exact .inl (.inr ⟨o,k _ _ h n⟩)
 ·exact .inr h
theorem RdAt.seq {K:Frag} {H H':Hp} {C p a w:Addr} {st:S} {xs:List V} (r:RdAt C H p a st) (k:Keep p H H') (h:SqL K H w xs):SqL K H' w xs:=
 let ⟨_,e⟩:=r
 k.seq e h
theorem RdAt.same {H H':Hp} {C p a:Addr} {st:S} (r:RdAt C H p a st) (k:Same H H'):RdAt C H' p a st:=
 let ⟨dx,e⟩:=r
 ⟨dx,k _ _ e⟩
theorem Zcj (i:Int) (ws:List Int):inV (.int i) (ws.map V.int)=ws.contains i:=by
 unfold inV
 rw [List.any_map]
 induction ws with
 | nil=>rfl
 | cons a r ih=>
  rw [List.any_cons,ih,List.contains_cons]
  congr 1
  show (a==i)=(i==a)
  exact Bool.beq_comm
theorem ZcX (ws:List Int):(ws.map V.int).all Zex=true:=by
 rw [List.all_map]
 exact List.all_eq_true.mpr fun _ _=>rfl
theorem getElem?_ints {ws:List Int} {i:Nat} {y:V} (h:(ws.map V.int)[i]? = some y):∃ z,ws[i]? = some z∧y=V.int z:=by
 rw [List.getElem?_map] at h
 obtain ⟨z,h1,h2⟩:=Option.map_eq_some_iff.mp h
 exact ⟨z,h1,h2.symm⟩
theorem Zck {ns:List Int} {n:Nat} (h:n<ns.length):atI (ns.map V.int) (n:Int)=some (V.int (ns.getD n 0)):=by
 refine Za7 ?_
 rw [List.getElem?_map,List.getElem?_eq_getElem h,List.getD_eq_getElem?_getD,List.getElem?_eq_getElem h]
 rfl
theorem ZnO {x:Str} {g:TG} {tt:TT} {te:TE} {vs:List Nat} {σ:L2.St} {H1:Hp} {D:Addr} {Qd:Hp→Prop} (Pv:Nat→Hp→Prop) (h0:Pv 0 (upd H1 D (.lst [])))
  (hs:∀ i c H,x.cps.toList[i]? = some c→Pv i H→g (.str ⟨#[c]⟩) (Zba σ vs) H fun σ2 H2=>Zba σ2 vs=Zba σ vs∧tt σ2 H2 fun b H3=>
   if b=true then te σ2 H3 fun y H4=>∃ acc,H4 D=some (.lst acc)∧acc.length<sizeLine∧Pv (i+1) (upd H4 D (.lst (acc++[y]))) else Pv (i+1) H3) (hd:∀ H,Pv x.cps.toList.length H→Qd H):
  ∃ W:Nat→Nat→Hp→Prop,(∃ m,W 0 m (upd H1 D (.lst [])))∧∀ i m H,W i m H →
   ((Its x).stop i H∧Qd H)∨((Its x).go i H∧∃ Nx:Hp→Prop,(∀ H',Nx H'→∃ m',m'<m∧W (i+1) m' H')∧∀ y H',(Its x).yld i H y H'→g y (Zba σ vs) H' fun σ2 H2=>Zba σ2 vs=Zba σ vs∧tt σ2 H2 fun b H3=>
    if b=true then te σ2 H3 fun y H4=>∃ acc,H4 D=some (.lst acc)∧acc.length<sizeLine∧Nx (upd H4 D (.lst (acc++[y]))) else Nx H3):=by
 refine ⟨fun i m H=>m=x.cps.size-i∧i≤x.cps.size∧Pv i H,⟨x.cps.size,by simp,Nat.zero_le _,h0⟩,?_⟩
 rintro i m H ⟨rfl,hi,p⟩
 by_cases hlt:i<x.cps.size
 ·refine .inr ⟨hlt,Pv (i+1),fun H' p'=>⟨x.cps.size-(i+1),by lia,rfl,hlt,p'⟩,fun y H' z=>?_⟩
  obtain ⟨e,c,hc,rfl⟩:=z
  subst e
  exact hs i c _ (by rw [Array.getElem?_toList]; exact hc) p
 ·have e:i=x.cps.size:=by lia
  subst e
  exact .inl ⟨Nat.le_refl _,hd H (by rw [Array.length_toList]; exact p)⟩
def ZnP (K:Frag):V→List V→Hp→VK→Prop:=fun x xs H Q=>∃ (a:Addr) (ns:List Int) (k:Int),x=V.ref a∧xs=[.int k]∧SqL K H a (ns.map V.int)∧Q (.int (ns.count k:Nat)) H
theorem Zjk {X:Cx}:MtR X "list.count" (ZnP X.K):=by
 intro pins s σ H x xs v us Q I rx rxs h
 obtain ⟨a,ns,k,rfl,rfl,hs,q⟩:=h
 cases rx
 obtain ⟨u,rfl,t,rfl⟩:=Vals.one rxs
 obtain ⟨its,rv,⟨o,n,ho,hc,hdn,hd⟩,hlen⟩:=I.list hs
 exact count_list_ints (l:=a) (vs:=its) ⟨o,ho,hc,n,hd⟩ rv.ints ⟨.int (ns.count k:Nat),H,I.tok _,⟨_,rfl⟩,q⟩
theorem ZbP {c:TT} {tb:TS} {D:Ends} {σ:L2.St} {H:Hp} (Ex:L2.St→Hp→Prop) (h:∀ D:Ends,(∀ σ H,Ex σ H→D.nx σ H)→ZiN c tb D σ H) (k:∀ σ H,Ex σ H→D.nx σ H):ZiN c tb D σ H:=h D k
def fF (w d l:V):List (Str×V):=[("width",w),("depth",d),("places",l)]
theorem Zor:¬ (("width":Str)="depth"):=by decide +kernel
theorem Zos:¬ (("width":Str)="places"):=by decide +kernel
theorem Zot:¬ (("depth":Str)="places"):=by decide +kernel
theorem ZnQ (w d l:V):(fF w d l).lookup ("width":Str)=some w:=by unfold fF; rw [Zah,if_pos rfl]
theorem fF_d (w d l:V):(fF w d l).lookup ("depth":Str)=some d:=by unfold fF; rw [Zah,if_neg (fun e=>Zor e.symm),Zah,if_pos rfl]
theorem Zou (w d l:V):(fF w d l).lookup ("places":Str)=some l:=by unfold fF; rw [Zah,if_neg (fun e=>Zos e.symm),Zah,if_neg (fun e=>Zot e.symm),Zah,if_pos rfl]
theorem ZnR (w d l:V):ZaR "places" l (ZaR "depth" d (ZaR "width" w []))=fF w d l:=by
 have e1:ZaR "depth" d (ZaR "width" w [])=[(("width":Str),w),(("depth":Str),d)]:=by
  show (if ("width":Str)="depth" then _ else (("width":Str),w)::[(("depth":Str),d)])=_
  rw [if_neg Zor]
 rw [e1]
 show (if ("width":Str)="places" then _ else (("width":Str),w)::(if ("depth":Str)="places" then _ else (("depth":Str),d)::[(("places":Str),l)]))=_
 rw [if_neg Zos,if_neg Zot]
 rfl
def Zaw (x:Str):List Int:=x.cps.toList.map fun (c:Nat)=>(c:Int)
end Pc
namespace Pc
open PySem PySem.W PySem.Spec PyProof.Rows L2
def pF (a b c d e:V):List (Str×V):=[("name",a),("width",b),("depth",c),("height",d),("places",e)]
theorem Zpk:¬ (("name":Str)="width"):=by decide +kernel
theorem Zpl:¬ (("name":Str)="depth"):=by decide +kernel
theorem Zpm:¬ (("name":Str)="height"):=by decide +kernel
theorem Zpn:¬ (("name":Str)="places"):=by decide +kernel
theorem Zpo:¬ (("width":Str)="height"):=by decide +kernel
theorem Zpp:¬ (("depth":Str)="height"):=by decide +kernel
theorem Zpq:¬ (("height":Str)="places"):=by decide +kernel
theorem ZoV (a b c d e:V):(pF a b c d e).lookup ("name":Str)=some a:=by unfold pF; rw [Zah,if_pos rfl]
theorem Zia (a b c d e:V):(pF a b c d e).lookup ("width":Str)=some b:=by unfold pF; rw [Zah,if_neg (fun e=>Zpk e.symm),Zah,if_pos rfl]
theorem Zkx (a b c d e:V):(pF a b c d e).lookup ("depth":Str)=some c:=by unfold pF; rw [Zah,if_neg (fun e=>Zpl e.symm),Zah,if_neg (fun e=>Zor e.symm),Zah,if_pos rfl]
theorem ZoW (a b c d e:V):(pF a b c d e).lookup ("height":Str)=some d:=by unfold pF; rw [Zah,if_neg (fun e=>Zpm e.symm),Zah,if_neg (fun e=>Zpo e.symm),Zah,if_neg (fun e=>Zpp e.symm),Zah,if_pos rfl]
theorem ZnS (a b c d e:V):(pF a b c d e).lookup ("places":Str)=some e:=by unfold pF; rw [Zah,if_neg (fun e=>Zpn e.symm),Zah,if_neg (fun e=>Zos e.symm),Zah,if_neg (fun e=>Zot e.symm),Zah,if_neg (fun e=>Zpq e.symm),Zah,if_pos rfl]
theorem ZbQ (f g:Str) (v x:V) (h:¬ g=f) (r:List (Str×V)):ZaR f v ((g,x)::r)=(g,x)::ZaR f v r:=by
 show (if g=f then _ else _)=_
 rw [if_neg h]
theorem ZnT (a b c d e:V):ZaR "places" e (ZaR "height" d (ZaR "depth" c (ZaR "width" b (ZaR "name" a []))))=pF a b c d e:=by
 have e0:ZaR ("name":Str) a []=[(("name":Str),a)]:=rfl
 have e1:ZaR ("width":Str) b []=[(("width":Str),b)]:=rfl
 have e2:ZaR ("depth":Str) c []=[(("depth":Str),c)]:=rfl
 have e3:ZaR ("height":Str) d []=[(("height":Str),d)]:=rfl
 have e4:ZaR ("places":Str) e []=[(("places":Str),e)]:=rfl
 rw [e0,ZbQ _ _ _ _ Zpk,e1,ZbQ _ _ _ _ Zpl,ZbQ _ _ _ _ Zor,e2,ZbQ _ _ _ _ Zpm,ZbQ _ _ _ _ Zpo,ZbQ _ _ _ _ Zpp,e3,ZbQ _ _ _ _ Zpn,ZbQ _ _ _ _ Zos,ZbQ _ _ _ _ Zot,ZbQ _ _ _ _ Zpq,e4]
 rfl
def PartAt (D:Addr) (H:Hp) (q:Addr) (P:PartM):Prop:=∃ dx l1 l2,H q=some (.ins D dx (pF (.ref l1) (.int P.w) (.int P.d) (.int P.h) (.ref l2)))∧H l1=some (.lst (P.name.map V.int))∧H l2=some (.lst (P.places.map V.int))
theorem PartAt.same {D:Addr} {H H':Hp} {q:Addr} {P:PartM} (h:PartAt D H q P) (s:Same H H'):PartAt D H' q P:=
 let ⟨dx,l1,l2,a,b,c⟩:=h
 ⟨dx,l1,l2,s _ _ a,s _ _ b,s _ _ c⟩
theorem PartAt.keep {D C p a:Addr} {st:S} {H H':Hp} {q:Addr} {P:PartM} (h:PartAt D H q P) (r:RdAt C H p a st) (s:Keep p H H'):PartAt D H' q P:=by
 obtain ⟨dx,l1,l2,h1,h2,h3⟩:=h
 obtain ⟨dy,h4⟩:=r
 refine ⟨dx,l1,l2,s _ _ h1 (ZaF h1 h4 ?_),s _ _ h2 (ZaF h2 h4 (by intro z; cases z)),s _ _ h3 (ZaF h3 h4 (by intro z; cases z))⟩
 intro z
 injection z with _ _ z
 have:=congrArg List.length z
 unfold pF rdF at this
 simp at this
theorem Zf4 {qs:List Addr} {ns:List Int} (h:qs≠[]):HO.lst (qs.map V.ref)≠HO.lst (ns.map V.int):=by
 intro z
 injection z with z
 cases qs with
 | nil=>exact h rfl
 | cons a r=>
  cases ns with
  | nil=>cases z
  | cons b s=>
   rw [List.map_cons,List.map_cons] at z
   injection z with z _
   cases z
theorem PartAt.put {D l:Addr} {H:Hp} {q:Addr} {P:PartM} {qs:List Addr} {o:HO} (h:PartAt D H q P) (hl:H l=some (.lst (qs.map V.ref))) (hq:qs≠[]):PartAt D (upd H l o) q P:=by
 obtain ⟨dx,l1,l2,h1,h2,h3⟩:=h
 refine ⟨dx,l1,l2,?_,?_,?_⟩
 ·rw [Zag (ZaF h1 hl (by intro z; cases z))]; exact h1
 ·rw [Zag (ZaF h2 hl (fun z=>Zf4 hq z.symm))]; exact h2
 ·rw [Zag (ZaF h3 hl (fun z=>Zf4 hq z.symm))]; exact h3
theorem ZbX {α β:Type} {F:α→β→Prop}:∀ {l:List α} {m:List β} {a:α} {b:β},Paired F l m→F a b→Paired F (l++[a]) (m++[b])
 | _,_,_,_,.nil,h=>.cons h .nil
 | _,_,_,_,.cons x r,h=>.cons x (ZbX r h)
theorem ZaD {α β:Type} {F G:α→β→Prop} (f:∀ a b,F a b→G a b):∀ {l:List α} {m:List β},Paired F l m→Paired G l m
 | _,_,.nil=>.nil
 | _,_,.cons x r=>.cons (f _ _ x) (ZaD f r)
theorem paired_get {α β:Type} {F:α→β→Prop}:∀ {l:List α} {m:List β} {i:Nat} {a:α},Paired F l m→l[i]? = some a→∃ b,m[i]? = some b∧F a b
 | _,_,_,_,.nil,h=>by simp at h
 | _,_,0,_,.cons x r,h=>by simp at h; subst h; exact ⟨_,rfl,x⟩
 | _,_,i+1,_,.cons x r,h=>by
  obtain ⟨b,h1,h2⟩:=paired_get (i:=i) r (by simpa using h)
  exact ⟨b,by simpa using h1,h2⟩
end Pc
namespace Pc
open PySem PySem.W PySem.Spec PyProof.Rows L2
theorem Zjl {K:Frag} {a b:Addr} {xs ys:List V} {g:TG} {tb:TS} {D:Ends} {σ:L2.St} {H:Hp} (Pv:Nat→L2.St→Hp→Prop) (h0:Pv 0 σ H) (hl:∀ i σ H,i≤xs.length→i≤ys.length→Pv i σ H→SqL K H a xs∧SqL K H b ys)
  (hs:∀ i x y T σ H,xs[i]? = some x→ys[i]? = some y→Pv i σ H→H T=none→g (.ref T) σ (upd H T (.tup [x,y])) fun σ2 H2=>tb { D with nx:=Pv (i+1),ct:=Pv (i+1),bk:=D.nx } σ2 H2) (hd:∀ i σ H,i=xs.length∨i=ys.length→Pv i σ H→D.nx σ H):
  ∃ W:Nat→Nat→L2.St→Hp→Prop,(∃ m,W 0 m σ H)∧∀ i m σ H,W i m σ H →
   ((Itz K a b).stop i H∧D.nx σ H)∨((Itz K a b).go i H∧∃ N:L2.St→Hp→Prop,(∀ σ' H',N σ' H'→∃ m',m'<m∧W (i+1) m' σ' H')∧∀ x H',(Itz K a b).yld i H x H'→g x σ H' fun σ2 H2=>tb { D with nx:=N,ct:=N,bk:=D.nx } σ2 H2):=by
 refine ⟨fun i m σ H=>m=xs.length-i∧i≤xs.length∧i≤ys.length∧Pv i σ H,⟨xs.length,by simp,Nat.zero_le _,Nat.zero_le _,h0⟩,?_⟩
 rintro i m σ H ⟨rfl,hi,hj,p⟩
 obtain ⟨q1,q2⟩:=hl i σ H hi hj p
 by_cases hlt:i<xs.length∧i<ys.length
 ·obtain ⟨l1,l2⟩:=hlt
  refine .inr ⟨⟨xs,ys,xs[i],ys[i],q1,q2,by simp [l1],by simp [l2]⟩,Pv (i+1),fun σ' H' p'=>⟨xs.length-(i+1),by lia,rfl,l1,l2,p'⟩,fun x H' z=>?_⟩
  obtain ⟨T,x,y,rfl,hT,rfl,z1,z2⟩:=z
  exact hs i x y T σ H (z1 xs q1) (z2 ys q2) p hT
 ·have e:i=xs.length∨i=ys.length:=by lia
  refine .inl ⟨⟨xs,ys,q1,q2,?_⟩,hd i σ H e p⟩
  rcases e with e | e
  ·exact .inl (by lia)
  ·exact .inr (by lia)
theorem ZkT {K:Frag} {a:Addr} {xs:List V} {g:TG} {tb:TS} {D:Ends} {σ:L2.St} {H:Hp} (Pv:Nat→L2.St→Hp→Prop) (h0:Pv 0 σ H) (hl:∀ i σ H,i≤xs.length→Pv i σ H→SqL K H a xs)
  (hs:∀ i x T σ H,xs[i]? = some x→Pv i σ H→H T=none→g (.ref T) σ (upd H T (.tup [.int (i:Nat),x])) fun σ2 H2=>tb { D with nx:=Pv (i+1),ct:=Pv (i+1),bk:=D.nx } σ2 H2) (hd:∀ σ H,Pv xs.length σ H→D.nx σ H):
  ∃ W:Nat→Nat→L2.St→Hp→Prop,(∃ m,W 0 m σ H)∧∀ i m σ H,W i m σ H →
   ((Ite K a).stop i H∧D.nx σ H)∨((Ite K a).go i H∧∃ N:L2.St→Hp→Prop,(∀ σ' H',N σ' H'→∃ m',m'<m∧W (i+1) m' σ' H')∧∀ x H',(Ite K a).yld i H x H'→g x σ H' fun σ2 H2=>tb { D with nx:=N,ct:=N,bk:=D.nx } σ2 H2):=by
 refine ⟨fun i m σ H=>m=xs.length-i∧i≤xs.length∧Pv i σ H,⟨xs.length,by simp,Nat.zero_le _,h0⟩,?_⟩
 rintro i m σ H ⟨rfl,hi,p⟩
 have q:=hl i σ H hi p
 by_cases hlt:i<xs.length
 ·refine .inr ⟨⟨xs,xs[i],q,by simp [hlt]⟩,Pv (i+1),fun σ' H' p'=>⟨xs.length-(i+1),by lia,rfl,hlt,p'⟩,fun x H' y=>?_⟩
  obtain ⟨T,x,rfl,hT,rfl,y⟩:=y
  exact hs i x T σ H (y xs q) p hT
 ·have e:i=xs.length:=by lia
  subst e
  exact .inl ⟨⟨xs,q,Nat.le_refl _⟩,hd σ H p⟩
theorem Zmv {K:Frag} {a:Addr} {xs:List V} {g:TG} {tt:TT} {te:TE} {vs:List Nat} {σ:L2.St} {H1:Hp} {D:Addr} {Qd:Hp→Prop} (Pv:Nat→Hp→Prop) (h0:Pv 0 (upd H1 D (.lst []))) (hl:∀ i H,i≤xs.length→Pv i H→SqL K H a xs)
  (hs:∀ i x T H,xs[i]? = some x→Pv i H→H T=none→g (.ref T) (Zba σ vs) (upd H T (.tup [.int (i:Nat),x])) fun σ2 H2=>Zba σ2 vs=Zba σ vs∧tt σ2 H2 fun b H3=>
   if b=true then te σ2 H3 fun y H4=>∃ acc,H4 D=some (.lst acc)∧acc.length<sizeLine∧Pv (i+1) (upd H4 D (.lst (acc++[y]))) else Pv (i+1) H3) (hd:∀ H,Pv xs.length H→Qd H):
  ∃ W:Nat→Nat→Hp→Prop,(∃ m,W 0 m (upd H1 D (.lst [])))∧∀ i m H,W i m H →
   ((Ite K a).stop i H∧Qd H)∨((Ite K a).go i H∧∃ Nx:Hp→Prop,(∀ H',Nx H'→∃ m',m'<m∧W (i+1) m' H')∧∀ x H',(Ite K a).yld i H x H'→g x (Zba σ vs) H' fun σ2 H2=>Zba σ2 vs=Zba σ vs∧tt σ2 H2 fun b H3=>
    if b=true then te σ2 H3 fun y H4=>∃ acc,H4 D=some (.lst acc)∧acc.length<sizeLine∧Nx (upd H4 D (.lst (acc++[y]))) else Nx H3):=by
 refine ⟨fun i m H=>m=xs.length-i∧i≤xs.length∧Pv i H,⟨xs.length,by simp,Nat.zero_le _,h0⟩,?_⟩
 rintro i m H ⟨rfl,hi,p⟩
 have q:=hl i H hi p
 by_cases hlt:i<xs.length
 ·refine .inr ⟨⟨xs,xs[i],q,by simp [hlt]⟩,Pv (i+1),fun H' p'=>⟨xs.length-(i+1),by lia,rfl,hlt,p'⟩,fun x H' y=>?_⟩
  obtain ⟨T,x,rfl,hT,rfl,y⟩:=y
  exact hs i x T H (y xs q) p hT
 ·have e:i=xs.length:=by lia
  subst e
  exact .inl ⟨⟨xs,q,Nat.le_refl _⟩,hd H p⟩
theorem ZeJ {c:TT} {t u:TS} {D:Ends} {σ:L2.St} {H:Hp} (Ex:L2.St→Hp→Prop) (h:∀ D:Ends,(∀ σ H,Ex σ H→D.nx σ H)→ZoA c t u D σ H) (k:∀ σ H,Ex σ H→D.nx σ H):ZoA c t u D σ H:=h D k
def Zan (l:List Nat):List V:=l.map fun (n:Nat)=>V.int (n:Int)
theorem Zfs (l:List Nat):Zan l=(l.map fun (n:Nat)=>(n:Int)).map V.int:=by
 unfold Zan
 rw [List.map_map]
 rfl
theorem getElem?_intsN {l:List Nat} {i:Nat} {y:V} (h:(Zan l)[i]? = some y):∃ z,l[i]? = some z∧y=V.int (z:Int):=by
 unfold Zan at h
 rw [List.getElem?_map] at h
 obtain ⟨z,h1,h2⟩:=Option.map_eq_some_iff.mp h
 exact ⟨z,h1,h2.symm⟩
end Pc
namespace L2
open PySem PySem.Spec PyProof.Rows
theorem ZcB {X:Cx} {K:PySem.W.Frag} {pos p q:Pos} {x y:Str} {i j k:Nat} (hK:X.K=K) (hc:X.calm=true) (hN:X.N.Nodup) (hi:X.N[i]? = some x) (hj:X.N[j]? = some y) (hx:X.env.scope.names.lookup x=some .local) (hy:X.env.scope.names.lookup y=some .local):
  PG X (.Tuple [.Name x p,.Name y q] k pos) (Zpb K 2 (Zme (ZdH i) (Zme (ZdH j) gNil))):=by
 subst hK
 exact Znu hc (Zhk (ZaS hN hi (.inl hx) (.inr hx)) (Zhk (ZaS hN hj (.inl hy) (.inr hy)) Zmf))
open Pc in
theorem Zft {D:Addr} {H1:Hp} (hD:H1 D=none) {ok:Nat→Bool} {R:Hp→Nat→V→Prop} (mono:∀ H H' i y,(∃ ys,H D=some (.lst ys))→Keep D H H'→R H i y→R H' i y) {i n:Nat} (hi:i<n) (hn:n<sizeLine) {H:Hp} {Yg:(V→Hp→Prop)→(Hp→Prop)→Prop}
  (hv:Same H1 H∧∃ ys,H D=some (.lst ys)∧Paired (fun k y=>R H k y) ((List.range i).filter ok) ys)
  (turn:∀ (Y:V→Hp→Prop) (N:Hp→Prop),(ok i=true→∀ y H4,Same H H4→R H4 i y→Y y H4)→(ok i=false→∀ H3,Same H H3→N H3)→Yg Y N):
  Yg (fun y H4=>∃ acc,H4 D=some (.lst acc)∧acc.length<sizeLine∧(Same H1 (upd H4 D (.lst (acc++[y])))∧∃ ys,(upd H4 D (.lst (acc++[y]))) D=some (.lst ys)∧Paired (fun k y'=>R (upd H4 D (.lst (acc++[y]))) k y') ((List.range (i+1)).filter ok) ys))
   (fun H3=>Same H1 H3∧∃ ys,H3 D=some (.lst ys)∧Paired (fun k y=>R H3 k y) ((List.range (i+1)).filter ok) ys):=by
 obtain ⟨h1,ys,h2,h3⟩:=hv
 have hlen:ys.length=((List.range i).filter ok).length:=(Paired.length h3).symm
 have hle:((List.range i).filter ok).length≤i:=Nat.le_trans (List.length_filter_le _ _) (Nat.le_of_eq List.length_range)
 refine turn _ _ (fun hok y H4 hs hR=>⟨ys,hs _ _ h2,by lia,?_,ys++[y],Zac,?_⟩) (fun hok H3 hs=>⟨h1.trans hs,ys,hs _ _ h2,?_⟩)
 ·intro b o e
  have:b≠D:=fun q=>by rw [q,hD] at e; cases e
  rw [Zag this]
  exact hs _ _ (h1 _ _ e)
 ·rw [List.range_succ,List.filter_append,List.filter_cons_of_pos hok]
  have m:∀ k y',R H4 k y'→R (upd H4 D (.lst (ys++[y]))) k y':=fun k y' h=>mono _ _ _ _ ⟨ys,hs _ _ h2⟩ Keep.put h
  exact ZbX (ZaD (fun k y' h=>m k y' (mono _ _ _ _ ⟨ys,h2⟩ (Keep.of hs) h)) h3) (m i y hR)
 ·rw [List.range_succ,List.filter_append,List.filter_cons_of_neg (by rw [hok]; simp),List.filter_nil,List.append_nil]
  exact ZaD (fun k y' h=>mono _ _ _ _ ⟨ys,h2⟩ (Keep.of hs) h) h3
open Pc in
theorem Zbo {K:PySem.W.Frag} {a:Addr} {xs:List V} {g:TG} {tt:TT} {te:TE} {vs:List Nat} {σ:St} {H1:Hp} {D:Addr} {Qd:Hp→Prop} (ok:Nat→Bool) (R:Hp→Nat→V→Prop) (hD:H1 D=none) (hl:SqL K H1 a xs) (hn:xs.length<sizeLine)
  (mono:∀ H H' i y,(∃ ys,H D=some (.lst ys))→Keep D H H'→R H i y→R H' i y)
  (turn:∀ i x H (Y:V→Hp→Prop) (N:Hp→Prop),xs[i]? = some x→Same H1 H→(∃ ys,H D=some (.lst ys))→(ok i=true→∀ y H4,Same H H4→R H4 i y→Y y H4)→(ok i=false→∀ H3,Same H H3→N H3) →
   g x (Zba σ vs) H fun σ2 H2=>Zba σ2 vs=Zba σ vs∧tt σ2 H2 fun b H3=>if b=true then te σ2 H3 Y else N H3)
  (hd:∀ H ys,Same H1 H→H D=some (.lst ys)→Paired (fun k y=>R H k y) ((List.range xs.length).filter ok) ys→Qd H):
  ∃ W:Nat→Nat→Hp→Prop,(∃ m,W 0 m (upd H1 D (.lst [])))∧∀ i m H,W i m H →
   ((Itl K a).stop i H∧Qd H)∨((Itl K a).go i H∧∃ Nx:Hp→Prop,(∀ H',Nx H'→∃ m',m'<m∧W (i+1) m' H')∧∀ x H',(Itl K a).yld i H x H'→g x (Zba σ vs) H' fun σ2 H2=>Zba σ2 vs=Zba σ vs∧tt σ2 H2 fun b H3=>
    if b=true then te σ2 H3 fun y H4=>∃ acc,H4 D=some (.lst acc)∧acc.length<sizeLine∧Nx (upd H4 D (.lst (acc++[y]))) else Nx H3):=by
 refine Zmo (K:=K) (a:=a) (xs:=xs) (fun i H=>Same H1 H∧∃ ys,H D=some (.lst ys)∧Paired (fun k y=>R H k y) ((List.range i).filter ok) ys) ⟨Zai hD,[],Zac,.nil⟩ (fun i H _ hv=>hv.1.seq hl) (fun i x H hx hv=>?_) (fun H hv=>?_)
 ·exact Zft hD mono (List.getElem?_eq_some_iff.mp hx).1 hn (Yg:=fun Y N=>g x (Zba σ vs) H fun σ2 H2=>Zba σ2 vs=Zba σ vs∧tt σ2 H2 fun b H3=>if b=true then te σ2 H3 Y else N H3) hv fun Y N h1 h2=>turn i x H Y N hx hv.1 (let ⟨ys,e,_⟩:=hv.2; ⟨ys,e⟩) h1 h2
 ·obtain ⟨h1,ys,h2,h3⟩:=hv
  exact hd H ys h1 h2 h3
open Pc in
theorem Zjm {n:Nat} {g:TG} {tt:TT} {te:TE} {vs:List Nat} {σ:St} {H1:Hp} {D:Addr} {Qd:Hp→Prop} (ok:Nat→Bool) (R:Hp→Nat→V→Prop) (hD:H1 D=none) (hn:n<sizeLine)
  (mono:∀ H H' i y,(∃ ys,H D=some (.lst ys))→Keep D H H'→R H i y→R H' i y)
  (turn:∀ i H (Y:V→Hp→Prop) (N:Hp→Prop),i<n→Same H1 H→(∃ ys,H D=some (.lst ys))→(ok i=true→∀ y H4,Same H H4→R H4 i y→Y y H4)→(ok i=false→∀ H3,Same H H3→N H3) →
   g (.int (0+(i:Int))) (Zba σ vs) H fun σ2 H2=>Zba σ2 vs=Zba σ vs∧tt σ2 H2 fun b H3=>if b=true then te σ2 H3 Y else N H3)
  (hd:∀ H ys,Same H1 H→H D=some (.lst ys)→Paired (fun k y=>R H k y) ((List.range n).filter ok) ys→Qd H):
  ∃ W:Nat→Nat→Hp→Prop,(∃ m,W 0 m (upd H1 D (.lst [])))∧∀ i m H,W i m H →
   ((Itr 0 n).stop i H∧Qd H)∨((Itr 0 n).go i H∧∃ Nx:Hp→Prop,(∀ H',Nx H'→∃ m',m'<m∧W (i+1) m' H')∧∀ x H',(Itr 0 n).yld i H x H'→g x (Zba σ vs) H' fun σ2 H2=>Zba σ2 vs=Zba σ vs∧tt σ2 H2 fun b H3=>
    if b=true then te σ2 H3 fun y H4=>∃ acc,H4 D=some (.lst acc)∧acc.length<sizeLine∧Nx (upd H4 D (.lst (acc++[y]))) else Nx H3):=by
 refine ZkK (n:=n) (fun i H=>Same H1 H∧∃ ys,H D=some (.lst ys)∧Paired (fun k y=>R H k y) ((List.range i).filter ok) ys) ⟨Zai hD,[],Zac,.nil⟩ (fun i H hi hv=>?_) (fun H hv=>?_)
 ·exact Zft hD mono hi hn (Yg:=fun Y N=>g (.int (0+(i:Int))) (Zba σ vs) H fun σ2 H2=>Zba σ2 vs=Zba σ vs∧tt σ2 H2 fun b H3=>if b=true then te σ2 H3 Y else N H3) hv fun Y N h1 h2=>turn i H Y N hi hv.1 (let ⟨ys,e,_⟩:=hv.2; ⟨ys,e⟩) h1 h2
 ·obtain ⟨h1,ys,h2,h3⟩:=hv
  exact hd H ys h1 h2 h3
open Pc in
theorem ZkU {K:PySem.W.Frag} {a:Addr} {xs:List V} {g:TG} {tt:TT} {te:TE} {vs:List Nat} {σ:St} {H1:Hp} {D:Addr} {Qd:Hp→Prop} (ok:Nat→Bool) (R:Hp→Nat→V→Prop) (hD:H1 D=none) (hl:SqL K H1 a xs) (hn:xs.length<sizeLine)
  (mono:∀ H H' i y,(∃ ys,H D=some (.lst ys))→Keep D H H'→R H i y→R H' i y)
  (turn:∀ i x T H (Y:V→Hp→Prop) (N:Hp→Prop),xs[i]? = some x→Same H1 H→(∃ ys,H D=some (.lst ys))→H T=none→(ok i=true→∀ y H4,Same H H4→R H4 i y→Y y H4)→(ok i=false→∀ H3,Same H H3→N H3) →
   g (.ref T) (Zba σ vs) (upd H T (.tup [.int (i:Nat),x])) fun σ2 H2=>Zba σ2 vs=Zba σ vs∧tt σ2 H2 fun b H3=>if b=true then te σ2 H3 Y else N H3)
  (hd:∀ H ys,Same H1 H→H D=some (.lst ys)→Paired (fun k y=>R H k y) ((List.range xs.length).filter ok) ys→Qd H):
  ∃ W:Nat→Nat→Hp→Prop,(∃ m,W 0 m (upd H1 D (.lst [])))∧∀ i m H,W i m H →
   ((Ite K a).stop i H∧Qd H)∨((Ite K a).go i H∧∃ Nx:Hp→Prop,(∀ H',Nx H'→∃ m',m'<m∧W (i+1) m' H')∧∀ x H',(Ite K a).yld i H x H'→g x (Zba σ vs) H' fun σ2 H2=>Zba σ2 vs=Zba σ vs∧tt σ2 H2 fun b H3=>
    if b=true then te σ2 H3 fun y H4=>∃ acc,H4 D=some (.lst acc)∧acc.length<sizeLine∧Nx (upd H4 D (.lst (acc++[y]))) else Nx H3):=by
 refine Zmv (K:=K) (a:=a) (xs:=xs) (fun i H=>Same H1 H∧∃ ys,H D=some (.lst ys)∧Paired (fun k y=>R H k y) ((List.range i).filter ok) ys) ⟨Zai hD,[],Zac,.nil⟩ (fun i H _ hv=>hv.1.seq hl) (fun i x T H hx hv hT=>?_) (fun H hv=>?_)
 ·exact Zft hD mono (List.getElem?_eq_some_iff.mp hx).1 hn (Yg:=fun Y N=>g (.ref T) (Zba σ vs) (upd H T (.tup [.int (i:Nat),x])) fun σ2 H2=>Zba σ2 vs=Zba σ vs∧tt σ2 H2 fun b H3=>if b=true then te σ2 H3 Y else N H3) hv fun Y N h1 h2=>turn i x T H Y N hx hv.1 (let ⟨ys,e,_⟩:=hv.2; ⟨ys,e⟩) hT h1 h2
 ·obtain ⟨h1,ys,h2,h3⟩:=hv
  exact hd H ys h1 h2 h3
theorem Zbv {α β:Type} {f:α→β}:∀ {l:List α} {m:List β},Paired (fun k y=>y=f k) l m→m=l.map f
 | _,_,.nil=>rfl
 | _,_,.cons h r=>by rw [h,Zbv r]; rfl
theorem Zdd {D:Addr} {f:Nat→V}:∀ (H H':Hp) (i:Nat) (y:V),(∃ ys,H D=some (.lst ys))→Pc.Keep D H H'→y=f i→y=f i:=fun _ _ _ _ _ _ h=>h
theorem ZcY {l:List Nat}:l.filter (fun _=>true)=l:=List.filter_eq_self.mpr fun _ _=>rfl
theorem Zcl {α β:Type} (f:α→β) (d:α) (l:List α):(List.range l.length).map (fun i=>f (l.getD i d))=l.map f:=by
 apply List.ext_getElem
 ·simp
 ·intro i h1 h2
  have hi:i<l.length:=by simpa using h2
  rw [List.getElem_map,List.getElem_map,List.getElem_range,List.getD_eq_getElem?_getD,List.getElem?_eq_getElem hi]
  rfl
theorem ZhA (xs:List V) (n:Nat):Zni xs (some (n:Int)) none=xs.drop n:=by
 unfold Zni HT.sIx
 by_cases h:n≤xs.length
 ·have e1:¬ (n:Int)<0:=by lia
  simp only [e1,if_false]
  have e2:(min (n:Int) (xs.length:Int)).toNat=n:=by lia
  simp only [Int.toNat_natCast] at *
  first
   | (rw [e2,List.take_of_length_le (by rw [List.length_drop]; lia)])
   | (rw [Nat.min_eq_left h,List.take_of_length_le (by rw [List.length_drop]; lia)])
 ·have e1:¬ (n:Int)<0:=by lia
  simp only [e1,if_false]
  simp only [Int.toNat_natCast] at *
  rw [Nat.min_eq_right (by lia),Nat.sub_self,List.take_zero,List.drop_eq_nil_of_le (by lia)]
def dOf (g:Nat→V) (L:List Nat):List (Key×V):=L.map fun (n:Nat)=>((Sum.inl (n:Int):Key),g n)
theorem inl_inj {a b:Nat}:((Sum.inl (a:Int):Key)=Sum.inl (b:Int))↔a=b:=by
 constructor
 ·intro h
  injection h with h
  lia
 ·intro h
  rw [h]
theorem Zbs (g:Nat→V) (n:Nat):∀ (L:List Nat),Zeu (dOf g L) (Sum.inl (n:Int):Key)=if n∈L then some (g n) else none
 | []=>by simp [dOf,Zeu]
 | a::L=>by
  have ih:=Zbs g n L
  by_cases h:a=n
  ·subst h
   rw [if_pos List.mem_cons_self]
   exact ZcS rfl
  ·have e:Zeu (dOf g (a::L)) (Sum.inl (n:Int):Key)=Zeu (dOf g L) (Sum.inl (n:Int)):=ZcT (fun z=>h (inl_inj.mp z))
   rw [e,ih]
   by_cases h2:n∈L
   ·rw [if_pos h2,if_pos (List.mem_cons_of_mem _ h2)]
   ·rw [if_neg h2,if_neg]
    intro z
    rcases List.mem_cons.mp z with z | z
    ·exact h z.symm
    ·exact h2 z
theorem Zfu (g:Nat→V) {n:Nat} {L:List Nat} (h:n∉L):ZdW (dOf g L) (Sum.inl (n:Int):Key) (g n)=dOf g (L++[n]):=by
 unfold ZdW
 rw [if_neg]
 ·unfold dOf
  rw [List.map_append]
  rfl
 ·rw [Bool.not_eq_true,List.any_eq_false]
  intro kv hkv
  obtain ⟨m,hm,rfl⟩:=List.mem_map.mp hkv
  have:¬ m=n:=fun z=>h (z ▸ hm)
  have h2:¬ ((Sum.inl (m:Int):Key)=Sum.inl (n:Int)):=fun z=>this (inl_inj.mp z)
  show¬decide ((Sum.inl (m:Int):Key)=Sum.inl (n:Int))=true
  rw [decide_eq_false h2]
  simp
theorem Zf5 (g:Nat→V) (n:Nat) (L:List Nat):ZgR (dOf g L) (Sum.inl (n:Int):Key)=dOf g (L.filter fun z=>decide (z≠n)):=by
 unfold ZgR dOf
 rw [List.filter_map]
 congr 1
 refine List.filter_congr fun m _=>?_
 exact decide_eq_decide.mpr (not_congr inl_inj)
theorem Zf6 (g:Nat→V):∀ (M L:List Nat),(L++M).Nodup→ZbJ (dOf g L) (dOf g M)=dOf g (L++M)
 | [],L,_=>by rw [List.append_nil]; rfl
 | a::M,L,h=>by
  have e:L++a::M=(L++[a])++M:=by simp
  have hn:a∉L:=fun z=>by
   have:=(List.nodup_append.mp h).2.2 a z a List.mem_cons_self
   exact this rfl
  show ZbJ (ZdW (dOf g L) (Sum.inl (a:Int):Key) (g a)) (dOf g M)=_
  rw [Zfu g hn,Zf6 g M (L++[a]) (by rw [← e]; exact h),e]
theorem ZgZ (g:Nat→V) (L:List Nat):(dOf g L).length=L.length:=List.length_map _
theorem ZaO {H H':Hp} {l:Addr} {o:HO} (s:Same H H') (h:H l=none):Same H (upd H' l o):=fun b u e=>by
 have:b≠l:=fun z=>by rw [z,h] at e; cases e
 rw [Zag this]
 exact s b u e
theorem ZbD {α:Type} {R:α→Addr→Prop}:∀ {l:List α} {ys:List V},Paired (fun i y=>∃ t,y=V.ref t∧R i t) l ys→∃ ps:List Addr,ys=ps.map V.ref∧Paired (fun p i=>R i p) ps l
 | _,_,.nil=>⟨[],rfl,.nil⟩
 | _,_,.cons h r=>by
  obtain ⟨t,rfl,ht⟩:=h
  obtain ⟨ps,rfl,hp⟩:=ZbD r
  exact ⟨t::ps,rfl,.cons ht hp⟩
theorem ZbY {α β γ:Type} {R:α→β→Prop} {R':α→γ→Prop} {f:β→γ} (h:∀ a b,R a b→R' a (f b)):∀ {l:List α} {m:List β},Paired R l m→Paired R' l (m.map f)
 | _,_,.nil=>.nil
 | _,_,.cons x r=>.cons (h _ _ x) (ZbY h r)
end L2
namespace L2
open PySem PySem.Spec PyProof.Rows
abbrev TJ:=St→Hp→Str→(Str→Hp→Prop)→Prop
def PJ (X:Cx) (es:List Expr) (t:TJ):Prop:=
 ∀ (pins:List (Addr×Obj)) (s:Shared) (σ:St) (H:Hp) (acc:Str) (Q:Str→Hp→Prop),Inv X pins σ H s→t σ H acc Q→Joins (model X.prog X.w) X.A X.xe (evalEach es X.env) acc (fun out s1=>∃ H',Inv X pins σ H' s1∧Q out H') s
section
variable {X:Cx} {e:Expr} {es:List Expr} {te:TE} {t:TJ} {pos:Pos}
def jNil:TJ:=fun _ H acc Q=>Q acc H
def ZoX (te:TE) (t:TJ):TJ:=fun σ H acc Q=>te σ H fun v H1=>∃ y,v = .str y∧(acc++y).length≤sizeLine∧t σ H1 (acc++y) Q
def ZoY (t:TJ):TE:=fun σ H Q=>t σ H Str.empty fun out H1=>out.length≤sizeLine∧Q (.str out) H1
def tFmt (te:TE):TE:=fun σ H Q=>te σ H fun v H1=>∃ i:Int,v = .int i∧i.natAbs.log2<1920∧Q (.str (Str.ofString (toString i))) H1
theorem ZnU:PJ X [] jNil:=fun pins s σ H acc Q I h=>⟨H,I,h⟩
theorem ZbE (ha:PE X e te) (hr:PJ X es t):PJ X (e::es) (ZoX te t):=by
 intro pins s σ H acc Q I h
 show wpAny _ _ (eval e X.env) _ _ _
 refine thn (ha pins s σ H _ I h) fun v s1 h1=>?_
 obtain ⟨x,H1,I1,r1,y,rfl,hl,q⟩:=h1
 obtain ⟨tk,rfl⟩:=r1
 exact ⟨y,tk,rfl,hl,hr pins s1 σ H1 (acc++y) Q I1 q⟩
theorem Zjn {a b:Expr} (h:PJ X (a::b::es) t):PE X (.JoinedStr (a::b::es) pos) (ZoY t):=by
 intro pins s σ H Q I hq
 refine wpAny_JoinedStr ?_
 have h1:=h pins s σ H Str.empty _ I hq
 have mono:∀ (l:List (Sem Value)) (acc:Str) (Q1 Q2:Str→Shared→Prop) (s:Shared),(∀ o s,Q1 o s→Q2 o s)→Joins (model X.prog X.w) X.A X.xe l acc Q1 s→Joins (model X.prog X.w) X.A X.xe l acc Q2 s:=by
  intro l
  induction l with
  | nil=>intro acc Q1 Q2 s f h; exact f _ _ h
  | cons m l ih=>
   intro acc Q1 Q2 s f h
   exact thn h fun v s1 ⟨y,tk,e,hl,q⟩=>⟨y,tk,e,hl,ih _ _ _ _ f q⟩
 refine mono _ _ _ _ _ (fun o s1 hh=>?_) h1
 obtain ⟨H1,I1,hl,q⟩:=hh
 exact ⟨hl,.str o,H1,I1.tok _,⟨_,rfl⟩,q⟩
theorem Zf7 (ha:PE X e te):PE X (.FormattedValue e (-1) none pos) (tFmt te):=by
 intro pins s σ H Q I h
 refine wpAny_FormattedValue_plain (thn (ha pins s σ H _ I h) fun v s1 h1=>?_)
 obtain ⟨x,H1,I1,r1,i,rfl,hl,q⟩:=h1
 obtain ⟨tk,rfl⟩:=r1
 refine wpAny_formatField_int hl ?_
 exact ⟨.str _,H1,(I1.tok _),⟨_,rfl⟩,q⟩
end
end L2
namespace L2
open PySem PySem.Spec PyProof.Rows
section
variable {X:Cx}
def ZoZ (K:PySem.W.Frag):R2:=fun x y H Q=>∃ l b xs zs,x = .ref l∧y = .ref b∧SqL K H l xs∧SqL K H b zs∧xs.length+zs.length≤sizeLine∧∀ p,H p=none→Q (.ref p) (upd H p (.lst (xs++zs)))
theorem Zmw:OpR X (binaryOp .Add) (ZoZ X.K):=by
 intro pins s σ H x y v u Q I rx ry h
 obtain ⟨l,b,xs,zs,rfl,rfl,hH,hB,hz,q⟩:=h
 cases rx
 cases ry
 obtain ⟨its,r,pl,_⟩:=I.list hH
 obtain ⟨its2,r2,pl2,_⟩:=I.list hB
 obtain ⟨⟨cls,dd,data,sl⟩,n,ho,hc,_,hd⟩:=pl
 obtain ⟨⟨cls2,dd2,data2,sl2⟩,n2,ho2,hc2,_,hd2⟩:=pl2
 simp only at hc hd hc2 hd2
 subst hc hd hc2 hd2
 have hl:=r.length
 have hl2:=r2.length
 have ea:its.toArray++its2.toArray=(its++its2).toArray:=by simp
 refine concat_meets ⟨_,ho,rfl⟩ ⟨_,ho2,rfl⟩ noFill_list_add seq_list_add PySem.F.slot_list_add PySem.F.entry_list_add (PySem.F.args_list_add_2 _ _) (list_addW l b its.toArray its2.toArray n n2 dd dd2 sl sl2 (by rw [List.size_toArray,List.size_toArray]; lia)) ⟨ho,ho2,?_⟩
 rw [ea]
 exact ⟨.ref _,_,I.lnew (t':=s.toks) (r.append r2) (by rw [List.length_append]; lia),rfl,q _ I.fresh⟩
end
end L2
namespace Pr
open PySem PySem.Spec PyProof.Rows L2 Pc
set_option maxHeartbeats 4000000
set_option maxRecDepth 100000
def top (i:Nat):Stmt:=PySem.Challenge.pw_platecover_s04_first.main.body.getD i (.Pass ⟨0,0,0,0⟩)
abbrev Zd9:Stmt:=(top 4)
abbrev Zib:Stmt:=(Zbh (top 5) 0)
abbrev Zmx:Stmt:=(Zbh (top 5) 1)
abbrev Zic:Stmt:=(Zbh (top 5) 2)
abbrev Zid:Stmt:=(Zbh (top 5) 3)
abbrev ZeK:Stmt:=(Zbh (top 5) 4)
abbrev Zde:Stmt:=(Zbh (top 5) 5)
abbrev Zie:Stmt:=(Zbh (top 5) 8)
abbrev ZkV:Stmt:=(Zbh (top 5) 9)
structure TxtR (K:PySem.W.Frag) (mg:Str→Option Value) (C:Addr):Prop where
 cl:Cls K C
 nText:NoAttr K C "text"
 nAt:NoAttr K C "at"
 nStuck:NoAttr K C "stuck"
 mgC:mg "Reader"=some (.ref C)
 len:mg "len"=none
 ord:mg "ord"=none
 range:mg "range"=none
 dig:∃ t,mg "DIGITS"=some (.str "0123456789" t)
structure Here (K:PySem.W.Frag) (C:Addr) (H:Hp) (p a:Addr) (ns:List Int) (st:S):Prop where
 rd:RdAt C H p a st
 txt:SqL K H a (ns.map V.int)
def spCodes:Sp:=fun vs H Q _=>∃ x:Str,vs=[.str x]∧x.cps.toList.length<1000∧∀ l,H l=none→Q (.ref l) (upd H l (.lst ((Zaw x).map V.int)))
def ZhB (C:Addr):Sp:=fun vs H Q _=>∃ p dx a:Addr,vs=[.ref p,.ref a]∧H p=some (.ins C dx [])∧∀ H',RdAt C H' p a ⟨0,false⟩→Keep p H H'→Q .non H'
def ZkW (K:PySem.W.Frag) (C:Addr):Sp:=fun vs H Q _=>∃ (p a:Addr) (ns:List Int) (st:S),vs=[.ref p]∧Here K C H p a ns st∧Q (.bl (has ns st)) H
def ZhC (K:PySem.W.Frag) (C:Addr):Sp:=fun vs H Q _=>∃ (p a w:Addr) (ns ws:List Int) (st:S),vs=[.ref p,.ref w]∧Here K C H p a ns st∧SqL K H w (ws.map V.int)∧Q (.bl (see ns ws st)) H
def ZhD (K:PySem.W.Frag) (C:Addr):Sp:=fun vs H Q _=>∃ (p a w:Addr) (ns ws:List Int) (st:S),vs=[.ref p,.ref w]∧Here K C H p a ns st∧SqL K H w (ws.map V.int) ∧
 ∀ H',RdAt C H' p a (tk ns ws st).2→Keep p H H'→Q (.int (tk ns ws st).1) H'
section
variable {P:Program} {w:World} {K:PySem.W.Frag} {mg:Str→Option Value} {base:Heap}
theorem scCodes:FnScope ["signs","sign"] ["signs"] (Zad Zd9):=⟨rfl,rfl,rfl,by decide +kernel,rfl,by decide +kernel,by decide +kernel⟩
theorem ZkX {f C:Addr} {fd:FuncData} (F:Fun K "codes" "codes" Zd9 f fd) (T:TxtR K mg C):FnOk P w K mg base CX0 1 f fd ["signs"] spCodes:=by
 refine F.ok scCodes (fun vs H Q E h=>?_) (fun cdv A outer s H vs Q E hr h=>?_)
 ·obtain ⟨x,rfl,_⟩:=h
  rfl
 ·obtain ⟨x,rfl,hx,k⟩:=h
  refine ⟨_,Zaf (Zav (ZfW rfl scCodes.nd (ZnJ (pv 0)) (Za4 (N:=["signs","sign"]) (sc:=Zad Zd9) (own:=[("sign",1)]) (by decide +kernel)) (fun s H Cc cl fp=>ZaS (i:=1) scCodes.nd rfl (Or.inl rfl)) (fun s H Cc cl fp=>Zb7)
   (fun s H Cc cl fp=>ZaH Zch rfl T.ord (by decide +kernel) (Zaa (pv 1) Zae)))),?_⟩
  refine ⟨_,rfl,x,rfl,fun D hD=>ZnO (fun i H'=>H'=upd H D (.lst (((Zaw x).take i).map V.int))) rfl ?_ ?_⟩
  ·rintro i c H' hc rfl
   refine ⟨rfl,⟨_,rfl,⟨#[c]⟩,rfl,rfl,_,Zac,?_,?_⟩⟩
   ·rw [List.length_map,List.length_take]
    exact Nat.lt_of_le_of_lt (Nat.min_le_right _ _) (by unfold Zaw; rw [List.length_map]; exact ZbC (Nat.le_of_lt hx))
   ·rw [Zfk]
    have e:(Zaw x)[i]? = some (c:Int):=by unfold Zaw; rw [List.getElem?_map,hc]; rfl
    rw [List.take_add_one,e]
    simp
  ·rintro H' rfl
   rw [show x.cps.toList.length=(Zaw x).length from (List.length_map _).symm,List.take_length]
   exact k D hD
theorem ZnV:FnScope ["self","text"] ["self","text"] (Zad Zib):=⟨rfl,rfl,rfl,by decide +kernel,rfl,by decide +kernel,by decide +kernel⟩
theorem Zmy {f C:Addr} {fd:FuncData} (F:Fun K "__init__" "Reader.__init__" Zib f fd) (T:TxtR K mg C):FnOk P w K mg base CX0 1 f fd ["self","text"] (ZhB C):=by
 refine F.ok ZnV (fun vs H Q E h=>?_) (fun cdv A outer s H vs Q E hr h=>?_)
 ·obtain ⟨p,dx,a,rfl,_⟩:=h
  rfl
 ·obtain ⟨p,dx,a,rfl,hp,k⟩:=h
  refine ⟨_,Zab (ZaQ (pv 0) (pv 1) rfl) (Zab (ZaQ (pv 0) Zau rfl) (Zaf (ZaQ (pv 0) ZcK rfl))),?_⟩
  refine ⟨_,rfl,_,rfl,p,C,dx,[],rfl,hp,T.cl,T.nText,(by show 0<1000; decide),_,rfl,p,C,dx,_,rfl,Zac,T.cl,T.nAt,(by show 1<1000; decide),_,rfl,p,C,dx,_,rfl,Zac,T.cl,T.nStuck,?_,?_⟩
  ·exact Nat.lt_of_le_of_lt (Zas _ _ _) (by show 2<1000; decide)
  ·exact k _ ⟨dx,Eq.trans Zac (congrArg (fun q=>some (HO.ins C dx q)) (Zmu a))⟩ fun b o e hb=>by rw [Zag hb,Zag hb,Zag hb]; exact e
theorem Zo0:FnScope ["self"] ["self"] (Zad Zmx):=⟨rfl,rfl,rfl,by decide +kernel,rfl,by decide +kernel,by decide +kernel⟩
theorem ZlY {f C:Addr} {fd:FuncData} (F:Fun K "has_more" "Reader.has_more" Zmx f fd) (T:TxtR K mg C):FnOk P w K mg base CX0 1 f fd ["self"] (ZkW K C):=by
 refine F.ok Zo0 (fun vs H Q E h=>?_) (fun cdv A outer s H vs Q E hr h=>?_)
 ·obtain ⟨p,a,ns,st,rfl,_⟩:=h
  rfl
 ·obtain ⟨p,a,ns,st,rfl,⟨⟨dx,hp⟩,ht⟩,k⟩:=h
  refine ⟨_,Zaf (Zav (ZbN (ZlN (Zam (pv 0) rfl)) (ZeA (Zbl ZfO (Zam (pv 0) rfl) (ZaH ZaC (by rfl) T.len PySem.boot_len (Zaa (Zam (pv 0) rfl) Zae)) (ZaE _))))),?_⟩
  refine ⟨_,rfl,p,C,dx,_,_,rfl,hp,T.cl,T.nStuck,ZcW _ _,st.stuck,rfl,!st.stuck,rfl,Zbn (fun h=>?_) (fun h=>?_)⟩
  ·refine ⟨_,rfl,p,C,dx,_,_,rfl,hp,T.cl,T.nAt,ZeI _ _,_,rfl,p,C,dx,_,_,rfl,hp,T.cl,T.nText,ZdJ _ _,a,_,rfl,.inl ht,_,_,rfl,rfl,?_⟩
   have e:has ns st=decide ((st.pos:Int)<((ns.map V.int).length:Nat)):=by
    unfold has
    rw [show (!st.stuck)=true from h,Bool.true_and,List.length_map]
    exact decide_eq_decide.mpr (by lia)
   rw [e] at k
   exact k
  ·have h':(!st.stuck)=false:=by simpa using h
   have e:has ns st=false:=by
    unfold has
    rw [h']
    rfl
   rw [e] at k
   exact k
theorem ZnW:FnScope ["self","wanted"] ["self","wanted"] (Zad Zic):=⟨rfl,rfl,rfl,by decide +kernel,rfl,by decide +kernel,by decide +kernel⟩
theorem Zmz {f C fH:Addr} {fd fdH:FuncData} (F:Fun K "sees" "Reader.sees" Zic f fd) (T:TxtR K mg C) (FH:Fun K "has_more" "Reader.has_more" Zmx fH fdH) (bH:Binds K fdH ["self"] []) (mH:Meth K C "has_more" fH):
  FnOk P w K mg base CX0 2 f fd ["self","wanted"] (ZhC K C):=by
 have GH:FnOk P w K mg base CX0 1 fH fdH ["self"] (ZkW K C):=ZlY FH T
 refine F.ok ZnW (fun vs H Q E h=>?_) (fun cdv A outer s H vs Q E hr h=>?_)
 ·obtain ⟨p,a,w,ns,ws,st,rfl,_⟩:=h
  rfl
 ·obtain ⟨p,a,w,ns,ws,st,rfl,⟨⟨dx,hp⟩,ht⟩,hw,k⟩:=h
  refine ⟨_,Zaf (Zav (ZbN (Zci (pv 0) T.cl mH GH hr bH .nil Zar) (ZeA (Zbl Zbg (ZbB Zbq (Zam (pv 0) rfl) (Zam (pv 0) rfl) (fun _ _=>rfl)) (pv 1) (by rfl))))),?_⟩
  refine ⟨_,rfl,p,dx,_,rfl,hp,ZaN _ _ (by decide +kernel) (by decide +kernel) (by decide +kernel),p,a,ns,st,rfl,⟨⟨dx,hp⟩,ht⟩,_,rfl,Zbn (fun h=>?_) (fun h=>?_)⟩
  ·have hlt:st.pos<ns.length:=by
    unfold has at h
    exact of_decide_eq_true (Bool.and_eq_true_iff.mp h).2
   refine ⟨_,rfl,p,C,dx,_,_,rfl,hp,T.cl,T.nText,ZdJ _ _,_,rfl,p,C,dx,_,_,rfl,hp,T.cl,T.nAt,ZeI _ _,a,_,_,_,rfl,rfl,ht,Zck hlt,_,rfl,w,_,rfl,.inl hw,rfl,ZcX _,?_⟩
   have e:see ns ws st=(if false=true then !inV (V.int (ns.getD st.pos 0)) (ws.map V.int) else inV (V.int (ns.getD st.pos 0)) (ws.map V.int)):=by
    unfold see
    rw [show has ns st=true from h,Zcj]
    rfl
   rw [e] at k
   exact k
  ·have h':has ns st=false:=by simpa using h
   have e:see ns ws st=false:=by
    unfold see
    rw [h']
    rfl
   rw [e] at k
   exact k
theorem scTake:FnScope ["self","wanted","byte"] ["self","wanted"] (Zad Zid):=⟨rfl,rfl,rfl,by decide +kernel,rfl,by decide +kernel,by decide +kernel⟩
theorem ZmA {f C fS:Addr} {fd fdS:FuncData} (F:Fun K "take" "Reader.take" Zid f fd) (T:TxtR K mg C) (GS:FnOk P w K mg base CX0 2 fS fdS ["self","wanted"] (ZhC K C)) (bS:Binds K fdS ["self","wanted"] []) (mS:Meth K C "sees" fS):
  FnOk P w K mg base CX0 3 f fd ["self","wanted"] (ZhD K C):=by
 refine F.ok scTake (fun vs H Q E h=>?_) (fun cdv A outer s H vs Q E hr h=>?_)
 ·obtain ⟨p,a,w,ns,ws,st,rfl,_⟩:=h
  rfl
 ·obtain ⟨p,a,w,ns,ws,st,rfl,⟨⟨dx,hp⟩,ht⟩,hw,k⟩:=h
  refine ⟨_,Zab (Za6 (ZiM (Zcr (ZaJ (pv 0) T.cl mS GS hr bS .nil Zar (Zaa (pv 1) Zae)))) (Zab (ZaQ (pv 0) ZcK rfl) (Zaf (Zav Zau))) ZaA)
   (Zab (Zat (i:=2) scTake.nd rfl (Or.inl rfl) (ZbB Zbq (Zam (pv 0) rfl) (Zam (pv 0) rfl) (fun _ _=>rfl)))
   (Zab (ZaQ (pv 0) (ZaG ZbI (Zam (pv 0) rfl) Zau) rfl) (Zaf (Zav (pv 2))))),?_⟩
  refine ⟨_,rfl,p,dx,_,rfl,hp,ZaN _ _ (by decide +kernel) (by decide +kernel) (by decide +kernel),_,rfl,p,a,w,ns,ws,st,rfl,⟨⟨dx,hp⟩,ht⟩,hw,_,rfl,Zbn (fun h=>?_) (fun h=>?_)⟩
  ·have e:see ns ws st=false:=by simpa using h
   refine ⟨_,rfl,p,C,dx,_,rfl,hp,T.cl,T.nStuck,Zd8 _ _,?_⟩
   unfold tk at k
   rw [e] at k
   exact k _ ⟨dx,Eq.trans Zac (congrArg (fun q=>some (HO.ins C dx q)) (Zcb a st true))⟩ Keep.put
  ·have e:see ns ws st=true:=by simpa using h
   have hlt:st.pos<ns.length:=by
    unfold see has at e
    exact of_decide_eq_true (Bool.and_eq_true_iff.mp (Bool.and_eq_true_iff.mp e).1).2
   unfold tk at k
   rw [e] at k
   refine ⟨_,rfl,p,C,dx,_,_,rfl,hp,T.cl,T.nText,ZdJ _ _,_,rfl,p,C,dx,_,_,rfl,hp,T.cl,T.nAt,ZeI _ _,a,_,_,_,rfl,rfl,ht,Zck hlt,
    _,rfl,p,C,dx,_,_,rfl,hp,T.cl,T.nAt,ZeI _ _,_,_,rfl,rfl,_,rfl,p,C,dx,_,rfl,hp,T.cl,T.nAt,Zd8 _ _,_,rfl,?_⟩
   exact k _ ⟨dx,Eq.trans Zac (congrArg (fun q=>some (HO.ins C dx q)) (Zf3 a st (st.pos+1)))⟩ Keep.put
end
end Pr
namespace Pr
open PySem PySem.Spec PyProof.Rows L2 Pc
set_option maxHeartbeats 4000000
set_option maxRecDepth 100000
structure Def (K:PySem.W.Frag) (mg:Str→Option Value) (x:Str) (f:Addr) (fd:FuncData) (ps:List Str):Prop where
 mg:mg x=some (.ref f)
 kp:PySem.W.keepIn K (.ref f)=true
 bd:Binds K fd ps []
structure Mth (K:PySem.W.Frag) (C:Addr) (m:Str) (f:Addr) (fd:FuncData) (ps:List Str):Prop where
 mt:Meth K C m f
 bd:Binds K fd ps []
def Zfv (K:PySem.W.Frag) (C:Addr):Sp:=fun vs H Q _=>∃ (p a:Addr) (x:Str) (ns:List Int) (st:S),vs=[.ref p,.str x]∧x.cps.toList.length<1000∧Here K C H p a ns st ∧
 ∀ H',RdAt C H' p a (tks ns (Zaw x) st)→Keep p H H'→Q .non H'
def Zfw (K:PySem.W.Frag) (C:Addr):Sp:=fun vs H Q _=>∃ (p a:Addr) (g:Int) (ns:List Int) (st:S),vs=[.ref p,.int g]∧Here K C H p a ns st ∧
 ∀ H',RdAt C H' p a (nm ns g st).2→Keep p H H'→Q (.int (nm ns g st).1) H'
def Zjo (K:PySem.W.Frag) (C:Addr):Sp:=fun vs H Q _=>∃ (p a:Addr) (w r:Nat) (x:Str) (ns:List Int) (st:S),vs=[.ref p,.int w,.int r,.str x]∧x.cps.toList.length<1000∧w≤100∧r≤1000∧Here K C H p a ns st ∧
 ∀ (l:Addr) (H':Hp),H l=none→H' l=some (.lst ((Zb9 ns (Zaw x) w r st).1.map V.int))→RdAt C H' p a (Zb9 ns (Zaw x) w r st).2→Keep p H H'→Q (.ref l) H'
def ZkY (K:PySem.W.Frag) (C:Addr):Sp:=fun vs H Q _=>∃ (p a:Addr) (ns:List Int) (st:S),vs=[.ref p]∧Here K C H p a ns st∧∀ H',RdAt C H' p a (fin ns st)→Keep p H H'→Q .non H'
section
variable {P:Program} {w:World} {K:PySem.W.Frag} {mg:Str→Option Value} {base:Heap}
theorem scSigns:FnScope ["self","signs","code"] ["self","signs"] (Zad ZeK):=⟨rfl,rfl,rfl,by decide +kernel,rfl,by decide +kernel,by decide +kernel⟩
theorem ZkZ {f C fC fT:Addr} {fd fdC fdT:FuncData} (F:Fun K "take_signs" "Reader.take_signs" ZeK f fd) (T:TxtR K mg C) (GC:FnOk P w K mg base CX0 1 fC fdC ["signs"] spCodes) (bC:Def K mg "codes" fC fdC ["signs"])
  (GT:FnOk P w K mg base CX0 3 fT fdT ["self","wanted"] (ZhD K C)) (bT:Mth K C "take" fT fdT ["self","wanted"]):FnOk P w K mg base CX0 4 f fd ["self","signs"] (Zfv K C):=by
 refine F.ok scSigns (fun vs H Q E h=>?_) (fun cdv A outer s H vs Q E hr h=>?_)
 ·obtain ⟨p,a,x,ns,st,rfl,_⟩:=h
  rfl
 ·obtain ⟨p,a,x,ns,st,rfl,hx,⟨hp,ht⟩,k⟩:=h
  refine ⟨_,Zaf (ZbO PassesOwn.never rfl (Zbc (Zak GC (hr.mono (by decide)) rfl bC.mg bC.kp bC.bd .nil Zar (Zaa (pv 1) Zae))) (ZaS (i:=2) scSigns.nd rfl (Or.inl rfl))
   (Zaf (ZaB (ZaJ (pv 0) T.cl bT.mt GT hr bT.bd .nil Zar (Zaa (ZbA (Zaa (pv 2) Zae)) Zae))))),?_⟩
  refine ⟨_,rfl,x,rfl,hx,fun l hl=>⟨l,rfl,⟨_,SqL.of Zac⟩,ZcN (K:=K) (a:=l) (xs:=(Zaw x).map V.int)
   (fun i σ H2=>∃ v2,σ=[some (.ref p),some (.str x),v2]∧H2 l=some (.lst ((Zaw x).map V.int))∧Keep p H H2∧RdAt C H2 p a (tks ns ((Zaw x).take i) st)) ?_ ?_ ?_ ?_⟩⟩
  ·exact ⟨none,rfl,Zac,Keep.new hl,hp.same (Zai hl)⟩
  ·rintro i σ H2 _ ⟨v2,_,h1,_⟩
   exact SqL.of h1
  ·rintro i y σ H2 hi ⟨v2,rfl,h1,h2,h3⟩
   obtain ⟨c,hc,rfl⟩:=getElem?_ints hi
   obtain ⟨dx,h4⟩:=id h3
   refine ⟨_,rfl,p,dx,_,rfl,h4,ZaN _ _ (by decide +kernel) (by decide +kernel) (by decide +kernel),_,rfl,(by show 1≤sizeLine; decide),fun l2 hl2=>?_⟩
   have s2:Same H2 (upd H2 l2 (.lst [V.int c])):=Zai hl2
   refine ⟨p,a,l2,ns,[c],_,rfl,⟨h3.same s2,s2.seq (hp.seq h2 ht)⟩,SqL.of Zac,fun H3 r3 k3=>?_⟩
   have n1:l≠p:=ZaF h1 h4 (by intro z; cases z)
   refine ⟨_,rfl,k3 _ _ (s2 _ _ h1) n1,h2.trans ((Keep.of s2).trans k3),?_⟩
   rw [Zd1 hc,Zhy]
   exact r3
  ·rintro σ H2 ⟨v2,rfl,h1,h2,h3⟩
   rw [List.length_map,List.take_length] at h3
   exact k _ h3 h2
theorem scNumber:FnScope ["self","greatest","digits","value","longer"] ["self","greatest"] (Zad Zde):=⟨rfl,rfl,rfl,by decide +kernel,rfl,by decide +kernel,by decide +kernel⟩
theorem Zjp:Zaw "0123456789"=digs:=by decide +kernel
theorem Zjq {f C fC fS:Addr} {fd fdC fdS:FuncData} (F:Fun K "take_number" "Reader.take_number" Zde f fd) (T:TxtR K mg C) (GC:FnOk P w K mg base CX0 1 fC fdC ["signs"] spCodes) (bC:Def K mg "codes" fC fdC ["signs"])
  (GS:FnOk P w K mg base CX0 2 fS fdS ["self","wanted"] (ZhC K C)) (bS:Mth K C "sees" fS fdS ["self","wanted"]):FnOk P w K mg base CX0 4 f fd ["self","greatest"] (Zfw K C):=by
 refine F.ok scNumber (fun vs H Q E h=>?_) (fun cdv A outer s H vs Q E hr h=>?_)
 ·obtain ⟨p,a,g,ns,st,rfl,_⟩:=h
  rfl
 ·obtain ⟨p,a,g,ns,st,rfl,⟨hp,ht⟩,k⟩:=h
  obtain ⟨t,hdig⟩:=T.dig
  refine ⟨_,Zab (Zat (i:=2) scNumber.nd rfl (Or.inl rfl) (Zak GC (hr.mono (by decide)) rfl bC.mg bC.kp bC.bd .nil Zar (Zaa (Zax (v:=.str "0123456789") rfl hdig ⟨t,rfl⟩) Zae)))
   (Zab (Zat (i:=3) scNumber.nd rfl (Or.inl rfl) Zau)
   (Zab (Zcg PassesOwn.never (Zcr (ZaJ (pv 0) T.cl bS.mt GS (hr.mono (by decide)) bS.bd .nil Zar (Zaa (pv 2) Zae)))
    (Zab (Zat (i:=4) scNumber.nd rfl (Or.inl rfl) (ZaG Zbz (ZaG ZbI (ZaG ZeB Zau (pv 3)) (ZbB Zbq (Zam (pv 0) rfl) (Zam (pv 0) rfl) (fun _ _=>rfl))) (ZbB Zbq (pv 2) Zau (fun _ _=>rfl))))
    (Zab (Za6 (Znt (Zaz Zew (pv 4) Zau (ZaE _)) (ZlM (Zaz Zc9 (pv 4) (pv 1) (ZaE _)))).pt (Zaf ZkC) ZaA)
    (Zab (Zat (i:=3) scNumber.nd rfl (Or.inl rfl) (pv 4)) (Zaf (ZaQ (pv 0) (ZaG ZbI (Zam (pv 0) rfl) Zau) rfl))))))
   (Zab (Za6 (Zaz Zew (pv 3) Zau (ZaE _)) (Zaf (ZaQ (pv 0) ZcK rfl)) ZaA)
   (Zaf (Zav (pv 3)))))),?_⟩
  refine ⟨_,rfl,(by show 10<1000; decide),fun d hd=>?_⟩
  rw [Zjp]
  refine ZbP (fun σ H2=>∃ (v4:Option V) (v:Int) (n:Nat),σ=[some (.ref p),some (.int g),some (.ref d),some (.int v),v4]∧RdAt C H2 p a ⟨n,st.stuck⟩∧Keep p H H2∧Zb8 ns g st.stuck (ns.length-st.pos) 0 st.pos=(v,n)) (fun D hD=>?_) ?_
  ·refine ⟨fun m σ H2=>∃ (v4:Option V) (v:Int) (n:Nat),σ=[some (.ref p),some (.int g),some (.ref d),some (.int v),v4]∧RdAt C H2 p a ⟨n,st.stuck⟩∧Keep p H H2∧H2 d=some (.lst (digs.map V.int))∧m=ns.length-n ∧
    Zb8 ns g st.stuck (ns.length-st.pos) 0 st.pos=Zb8 ns g st.stuck (ns.length-n) v n,⟨_,none,0,st.pos,rfl,hp.same (Zai hd),Keep.new hd,Zac,rfl,rfl⟩,?_⟩
   rintro m σ H2 ⟨v4,v,n,rfl,h1,h2,h3,rfl,h5⟩
   obtain ⟨dx,h6⟩:=id h1
   have ht2:SqL K H2 a (ns.map V.int):=hp.seq h2 ht
   refine ⟨_,rfl,p,dx,_,rfl,h6,ZaN _ _ (by decide +kernel) (by decide +kernel) (by decide +kernel),_,rfl,p,a,d,ns,digs,⟨n,st.stuck⟩,rfl,⟨h1,ht2⟩,SqL.of h3,_,rfl,Zbn (fun hs=>?_) (fun hs=>?_)⟩
   ·have hlt:n<ns.length:=by
     unfold see has at hs
     exact of_decide_eq_true (Bool.and_eq_true_iff.mp (Bool.and_eq_true_iff.mp hs).1).2
    obtain ⟨m,hm⟩:∃ m,ns.length-n=m+1:=⟨ns.length-n-1,by lia⟩
    have hm2:ns.length-(n+1)=m:=by lia
    rw [hm] at h5
    have h7:Zb8 ns g st.stuck (m+1) v n=if 10*v+ns.getD n 0-48=0∨g<10*v+ns.getD n 0-48 then (v,n) else Zb8 ns g st.stuck m (10*v+ns.getD n 0-48) (n+1):=by
     show (if see ns digs ⟨n,st.stuck⟩=true then _ else _)=_
     rw [if_pos hs]
    rw [h7] at h5
    refine ⟨fun σ' H'=>∃ m',m'<ns.length-n∧∃ (v4:Option V) (v:Int) (n:Nat),σ'=[some (.ref p),some (.int g),some (.ref d),some (.int v),v4]∧RdAt C H' p a ⟨n,st.stuck⟩∧Keep p H H'∧H' d=some (.lst (digs.map V.int))∧m'=ns.length-n ∧
     Zb8 ns g st.stuck (ns.length-st.pos) 0 st.pos=Zb8 ns g st.stuck (ns.length-n) v n,fun _ _ z=>z,?_⟩
    refine ⟨_,rfl,_,_,rfl,rfl,.inl ⟨by decide,by decide⟩,_,rfl,p,C,dx,_,_,rfl,h6,T.cl,T.nText,ZdJ _ _,_,rfl,p,C,dx,_,_,rfl,h6,T.cl,T.nAt,ZeI _ _,a,_,_,_,rfl,rfl,ht2,Zck hlt,_,_,rfl,rfl,
     _,rfl,d,_,_,_,rfl,rfl,SqL.of h3,(show atI (digs.map V.int) ((0:Nat):Int)=some (V.int 48) from Zck (ns:=digs) (n:=0) (by decide)),_,_,rfl,rfl,?_⟩
    refine ⟨_,rfl,rfl,_,rfl,Zbn (fun hz=>?_) (fun hz=>?_)⟩
    ·refine Zh7 ?_
     refine hD _ _ ⟨_,v,n,rfl,h1,h2,?_⟩
     rw [h5,if_pos]
     exact .inl (by simpa using hz)
    ·refine ⟨_,rfl,_,rfl,_,_,rfl,rfl,_,rfl,Zbn (fun hy=>?_) (fun hy=>?_)⟩
     ·refine hD _ _ ⟨_,v,n,rfl,h1,h2,?_⟩
      rw [h5,if_pos]
      exact .inr (of_decide_eq_true hy)
     ·have hno:¬ (10*v+ns.getD n 0-48=0∨g<10*v+ns.getD n 0-48):=by
       rintro (q | q)
       ·exact hz (by simpa using q)
       ·exact hy (decide_eq_true q)
      rw [if_neg hno] at h5
      have n1:d≠p:=ZaF h3 h6 (by intro z; cases z)
      refine ⟨_,rfl,_,rfl,p,C,dx,_,_,rfl,h6,T.cl,T.nAt,ZeI _ _,_,_,rfl,rfl,_,rfl,p,C,dx,_,rfl,h6,T.cl,T.nAt,Zd8 _ _,?_⟩
      refine ⟨ns.length-(n+1),by lia,_,_,n+1,rfl,⟨dx,Eq.trans Zac (congrArg (fun q=>some (HO.ins C dx q)) (Zf3 a ⟨n,st.stuck⟩ (n+1)))⟩,h2.trans Keep.put,by rw [Zag n1]; exact h3,rfl,?_⟩
      rw [h5,hm2]
   ·refine hD _ _ ⟨_,v,n,rfl,h1,h2,?_⟩
    rw [h5]
    cases hl:ns.length-n with
    | zero=>rfl
    | succ q=>
     show (if see ns digs ⟨n,st.stuck⟩=true then _ else _)=_
     rw [if_neg hs]
  ·rintro σ H2 ⟨v4,v,n,rfl,h1,h2,h5⟩
   obtain ⟨dx,h6⟩:=id h1
   have e1:(nm ns g st).1=v:=by unfold nm; rw [h5]
   have e2:(nm ns g st).2=⟨n,st.stuck||decide (v=0)⟩:=by unfold nm; rw [h5]
   rw [e1,e2] at k
   refine ⟨_,rfl,rfl,_,rfl,Zbn (fun hz=>?_) (fun hz=>?_)⟩
   ·have hz':v=0:=by simpa using hz
    refine ⟨_,rfl,p,C,dx,_,rfl,h6,T.cl,T.nStuck,Zd8 _ _,_,rfl,?_⟩
    refine k _ ⟨dx,Eq.trans Zac (congrArg (fun q=>some (HO.ins C dx q)) ?_)⟩ (h2.trans Keep.put)
    rw [Zcb,hz']
    simp
   ·have hz':¬ v=0:=by simpa using hz
    refine ⟨_,rfl,?_⟩
    refine k _ ?_ h2
    rw [decide_eq_false hz',Bool.or_false]
    exact h1
end
end Pr
namespace Pr
open PySem PySem.Spec PyProof.Rows L2 Pc
set_option maxHeartbeats 4000000
set_option maxRecDepth 100000
section
variable {P:Program} {w:World} {K:PySem.W.Frag} {mg:Str→Option Value} {base:Heap}
theorem scRows:FnScope ["self","width","rows","signs","wanted","places","row","column"] ["self","width","rows","signs"] (Zad Zie):=⟨rfl,rfl,rfl,by decide +kernel,rfl,by decide +kernel,by decide +kernel⟩
theorem Zev {n m:Nat} (h:n≤m) (h2:m≤200000):n<sizeLine:=by
 rw [sizeLine_eq]; lia
theorem ZmB {f C fC fT fG:Addr} {fd fdC fdT fdG:FuncData} (F:Fun K "take_rows" "Reader.take_rows" Zie f fd) (T:TxtR K mg C) (GC:FnOk P w K mg base CX0 1 fC fdC ["signs"] spCodes) (bC:Def K mg "codes" fC fdC ["signs"])
  (GT:FnOk P w K mg base CX0 3 fT fdT ["self","wanted"] (ZhD K C)) (bT:Mth K C "take" fT fdT ["self","wanted"]) (GG:FnOk P w K mg base CX0 4 fG fdG ["self","signs"] (Zfv K C)) (bG:Mth K C "take_signs" fG fdG ["self","signs"]):
  FnOk P w K mg base CX0 5 f fd ["self","width","rows","signs"] (Zjo K C):=by
 refine F.ok scRows (fun vs H Q E h=>?_) (fun cdv A outer s H vs Q E hr h=>?_)
 ·obtain ⟨p,a,w,r,x,ns,st,rfl,_⟩:=h
  rfl
 ·obtain ⟨p,a,w,r,x,ns,st,rfl,hx,hw,hrr,⟨hp,ht⟩,k⟩:=h
  refine ⟨_,Zab (Zat (i:=4) scRows.nd rfl (Or.inl rfl) (Zak GC (hr.mono (by decide)) rfl bC.mg bC.kp bC.bd .nil Zar (Zaa (pv 3) Zae)))
   (Zab (Zat (i:=5) scRows.nd rfl (Or.inl rfl) (ZbA Zae))
   (Zab (ZbO PassesOwn.never rfl (ZcM rfl T.range (Zaa (pv 2) Zae)) (ZaS (i:=6) scRows.nd rfl (Or.inl rfl))
    (Zab (ZbO PassesOwn.never rfl (ZcM rfl T.range (Zaa (pv 1) Zae)) (ZaS (i:=7) scRows.nd rfl (Or.inl rfl))
     (Zaf (ZaB (Zcv PySem.F.plainAttrs_list PySem.F.slot_list_append PySem.F.type_list_append ZaW (pv 5) (Zaa (ZaJ (pv 0) T.cl bT.mt GT (hr.mono (by decide)) bT.bd .nil Zar (Zaa (pv 4) Zae)) Zae)))))
    (Zaf (ZaB (ZaJ (pv 0) T.cl bG.mt GG hr bG.bd .nil Zar (Zaa Zbf Zae))))))
   (Zaf (Zav (pv 5))))),?_⟩
  refine ⟨_,rfl,x,rfl,hx,fun wl hwl=>⟨Nat.zero_le _,fun l hl=>?_⟩⟩
  have s1:Same H (upd H wl (.lst ((Zaw x).map V.int))):=Zai hwl
  have s2:Same _ (upd (upd H wl (.lst ((Zaw x).map V.int))) l (.lst [])):=Zai hl
  have hl0:H l=none:=s1.free hl
  have nwl:wl≠l:=Zao Zac hl
  have hcl:(Zaw x).length<1000:=by unfold Zaw; rw [List.length_map]; exact hx
  refine ⟨_,rfl,(r:Int),rfl,by lia,by lia,Zb5 (n:=r) (fun i σ H2=>∃ v6 v7:Option V,σ=[some (.ref p),some (.int w),some (.int r),some (.str x),some (.ref wl),some (.ref l),v6,v7] ∧
   H2 wl=some (.lst ((Zaw x).map V.int))∧H2 l=some (.lst ((Zb9 ns (Zaw x) w i st).1.map V.int))∧RdAt C H2 p a (Zb9 ns (Zaw x) w i st).2∧Keep p H H2) ?_ ?_ ?_⟩
  ·exact ⟨none,none,rfl,by rw [Zag nwl]; exact Zac,Zac,hp.same (s1.trans s2),Keep.of (s1.trans s2)⟩
  ·rintro i σ H2 hi ⟨v6,v7,rfl,h1,h2,h3,h4⟩
   refine ⟨_,rfl,(w:Int),rfl,by lia,by lia,Zb5 (n:=w) (fun j σ H3=>∃ v6 v7:Option V,σ=[some (.ref p),some (.int w),some (.int r),some (.str x),some (.ref wl),some (.ref l),v6,v7] ∧
    H3 wl=some (.lst ((Zaw x).map V.int))∧H3 l=some (.lst (((Zb9 ns (Zaw x) w i st).1++(cells ns (Zaw x) j (Zb9 ns (Zaw x) w i st).2).1).map V.int))∧RdAt C H3 p a (cells ns (Zaw x) j (Zb9 ns (Zaw x) w i st).2).2∧Keep p H H3) ?_ ?_ ?_⟩
   ·exact ⟨_,v7,rfl,h1,by rw [h2]; simp [cells],h3,h4⟩
   ·rintro j σ H3 hj ⟨v6,v7,rfl,g1,g2,g3,g4⟩
    obtain ⟨dx,g5⟩:=id g3
    have nlp:l≠p:=ZaF g2 g5 (by intro z; cases z)
    have nwp:wl≠p:=ZaF g1 g5 (by intro z; cases z)
    refine ⟨_,rfl,.inl ⟨rfl,_,SqL.of g2⟩,_,rfl,p,dx,_,rfl,g5,ZaN _ _ (by decide +kernel) (by decide +kernel) (by decide +kernel),_,rfl,p,a,wl,ns,Zaw x,_,rfl,⟨g3,hp.seq g4 ht⟩,SqL.of g1,fun H4 r4 k4=>?_⟩
    have q2:=k4 _ _ g2 nlp
    refine ⟨l,_,_,rfl,rfl,q2,?_,?_⟩
    ·rw [List.length_map,List.length_append,ZdI,Zd0]
     refine Zev (m:=1000*100+100) ?_ (by decide)
     have e1:i*w≤1000*100:=Nat.mul_le_mul (by lia) hw
     lia
    ·refine ⟨v6,_,rfl,by rw [Zag nwl]; exact k4 _ _ g1 nwp,?_,?_,?_⟩
     ·rw [Zac]
      simp [cells]
     ·obtain ⟨dy,r5⟩:=r4
      exact ⟨dy,by rw [Zag nlp.symm]; exact r5⟩
     ·intro b o e hb
      rw [Zag (Zao e hl0)]
      exact k4 _ _ (g4 b o e hb) hb
   ·rintro σ H3 ⟨v6,v7,rfl,g1,g2,g3,g4⟩
    obtain ⟨dx,g5⟩:=id g3
    have nlp:l≠p:=ZaF g2 g5 (by intro z; cases z)
    have nwp:wl≠p:=ZaF g1 g5 (by intro z; cases z)
    refine ⟨_,rfl,p,dx,_,rfl,g5,ZaN _ _ (by decide +kernel) (by decide +kernel) (by decide +kernel),p,a,_,ns,_,rfl,(by decide +kernel),⟨g3,hp.seq g4 ht⟩,fun H4 r4 k4=>?_⟩
    exact ⟨v6,v7,rfl,k4 _ _ g1 nwp,k4 _ _ g2 nlp,r4,g4.trans k4⟩
  ·rintro σ H2 ⟨v6,v7,rfl,h1,h2,h3,h4⟩
   exact ⟨_,rfl,k l H2 hl0 h2 h3 h4⟩
theorem Zo1:FnScope ["self"] ["self"] (Zad ZkV):=⟨rfl,rfl,rfl,by decide +kernel,rfl,by decide +kernel,by decide +kernel⟩
theorem ZnX {f C fH:Addr} {fd fdH:FuncData} (F:Fun K "take_end" "Reader.take_end" ZkV f fd) (T:TxtR K mg C) (GH:FnOk P w K mg base CX0 1 fH fdH ["self"] (ZkW K C)) (bH:Mth K C "has_more" fH fdH ["self"]):
  FnOk P w K mg base CX0 2 f fd ["self"] (ZkY K C):=by
 refine F.ok Zo1 (fun vs H Q E h=>?_) (fun cdv A outer s H vs Q E hr h=>?_)
 ·obtain ⟨p,a,ns,st,rfl,_⟩:=h
  rfl
 ·obtain ⟨p,a,ns,st,rfl,⟨hp,ht⟩,k⟩:=h
  obtain ⟨dx,h1⟩:=id hp
  refine ⟨_,Zaf (Za6 (Zcr (Zci (pv 0) T.cl bH.mt GH hr bH.bd .nil Zar)) (Zaf (ZaQ (pv 0) ZcK rfl)) ZaA),?_⟩
  refine ⟨_,rfl,p,dx,_,rfl,h1,ZaN _ _ (by decide +kernel) (by decide +kernel) (by decide +kernel),p,a,ns,st,rfl,⟨hp,ht⟩,_,rfl,Zbn (fun h=>?_) (fun h=>?_)⟩
  ·unfold fin at k
   rw [if_pos h] at k
   refine ⟨_,rfl,p,C,dx,_,rfl,h1,T.cl,T.nStuck,Zd8 _ _,?_⟩
   exact k _ ⟨dx,Eq.trans Zac (congrArg (fun q=>some (HO.ins C dx q)) (Zcb a st true))⟩ Keep.put
  ·unfold fin at k
   rw [if_neg h] at k
   exact k _ hp (Keep.refl _ _)
end
end Pr
namespace Pr
open PySem PySem.Spec PyProof.Rows L2 Pc
set_option maxHeartbeats 4000000
set_option maxRecDepth 100000
abbrev ZeL:Stmt:=(Zbh (top 46) 0)
abbrev Zif:Stmt:=(top 47)
structure TxtF (K:PySem.W.Frag) (mg:Str→Option Value) (C:Addr):Prop where
 cl:Cls K C
 nW:NoAttr K C "width"
 nD:NoAttr K C "depth"
 nP:NoAttr K C "places"
 mgC:mg "Field"=some (.ref C)
 gw:∃ t,mg "GREATEST_WIDTH_fields"=some (.int 6 t)
 gd:∃ t,mg "GREATEST_DEPTH_fields"=some (.int 12 t)
 nc:∃ t,mg "NO_COLOUR"=some (.str "." t)
def Zjr (C:Addr):Sp:=fun vs H Q _=>∃ (q dx:Addr) (a b c:V),vs=[.ref q,a,b,c]∧H q=some (.ins C dx [])∧∀ H',(∃ dx,H' q=some (.ins C dx (fF a b c)))→Keep q H H'→Q .non H'
def ZlZ (K:PySem.W.Frag) (C D:Addr):Sp:=fun vs H Q _=>∃ (p a:Addr) (ns:List Int) (st:S),vs=[.ref p]∧Here K C H p a ns st ∧
 ∀ (q l dx:Addr) (H':Hp),H' q=some (.ins D dx (fF (.int (Za0 ns st).wide) (.int (Za0 ns st).deep) (.ref l)))→H' l=some (.lst ((Za0 ns st).places.map V.int))→RdAt C H' p a (Za0 ns st).st→Keep p H H'→Q (.ref q) H'
section
variable {P:Program} {w:World} {K:PySem.W.Frag} {mg:Str→Option Value} {base:Heap}
theorem ZmC:FnScope ["self","width","depth","places"] ["self","width","depth","places"] (Zad ZeL):=⟨rfl,rfl,rfl,by decide +kernel,rfl,by decide +kernel,by decide +kernel⟩
theorem Zk0 {f C:Addr} {fd:FuncData} (F:Fun K "__init__" "Field.__init__" ZeL f fd) (T:TxtF K mg C):FnOk P w K mg base CX0 1 f fd ["self","width","depth","places"] (Zjr C):=by
 refine F.ok ZmC (fun vs H Q E h=>?_) (fun cdv A outer s H vs Q E hr h=>?_)
 ·obtain ⟨q,dx,a,b,c,rfl,_⟩:=h
  rfl
 ·obtain ⟨q,dx,a,b,c,rfl,hq,k⟩:=h
  refine ⟨_,Zab (ZaQ (pv 0) (pv 1) rfl) (Zab (ZaQ (pv 0) (pv 2) rfl) (Zaf (ZaQ (pv 0) (pv 3) rfl))),?_⟩
  refine ⟨_,rfl,_,rfl,q,C,dx,[],rfl,hq,T.cl,T.nW,(by show 0<1000; decide),_,rfl,_,rfl,q,C,dx,_,rfl,Zac,T.cl,T.nD,(by show 1<1000; decide),_,rfl,_,rfl,q,C,dx,_,rfl,Zac,T.cl,T.nP,?_,?_⟩
  ·exact Nat.lt_of_le_of_lt (Zas _ _ _) (by show 2<1000; decide)
  ·exact k _ ⟨dx,Eq.trans Zac (congrArg (fun q=>some (HO.ins C dx q)) (ZnR a b c))⟩ fun b o e hb=>by rw [Zag hb,Zag hb,Zag hb]; exact e
theorem scRead:FnScope ["reader","width","depth","places"] ["reader"] (Zad Zif):=⟨rfl,rfl,rfl,by decide +kernel,rfl,by decide +kernel,by decide +kernel⟩
theorem Zg0:Zaw "field "=[102,105,101,108,100,32]:=by decide +kernel
theorem Zg1:Zaw " "=[32]:=by decide +kernel
theorem Zk1:Zaw "\n"=[10]:=by decide +kernel
theorem Zf8:Zaw ("0123456789"++".")=digs++[46]:=by decide +kernel
theorem ZmD {f C D fI fG fN fR fE:Addr} {fd fdI fdG fdN fdR fdE:FuncData} (F:Fun K "read_field" "read_field" Zif f fd) (T:TxtR K mg C) (TF:TxtF K mg D) (MF:Mk K D fI) (GI:FnOk P w K mg base CX0 1 fI fdI ["self","width","depth","places"] (Zjr D)) (bI:Binds K fdI ["self","width","depth","places"] [])
  (GG:FnOk P w K mg base CX0 4 fG fdG ["self","signs"] (Zfv K C)) (bG:Mth K C "take_signs" fG fdG ["self","signs"]) (GN:FnOk P w K mg base CX0 4 fN fdN ["self","greatest"] (Zfw K C)) (bN:Mth K C "take_number" fN fdN ["self","greatest"])
  (GR:FnOk P w K mg base CX0 5 fR fdR ["self","width","rows","signs"] (Zjo K C)) (bR:Mth K C "take_rows" fR fdR ["self","width","rows","signs"]) (GE:FnOk P w K mg base CX0 2 fE fdE ["self"] (ZkY K C)) (bE:Mth K C "take_end" fE fdE ["self"]):
  FnOk P w K mg base CX0 6 f fd ["reader"] (ZlZ K C D):=by
 refine F.ok scRead (fun vs H Q E h=>?_) (fun cdv A outer s H vs Q E hr h=>?_)
 ·obtain ⟨p,a,ns,st,rfl,_⟩:=h
  rfl
 ·obtain ⟨p,a,ns,st,rfl,⟨hp,ht⟩,k⟩:=h
  obtain ⟨t1,g1⟩:=TF.gw
  obtain ⟨t2,g2⟩:=TF.gd
  obtain ⟨t3,g3⟩:=T.dig
  obtain ⟨t4,g4⟩:=TF.nc
  have hr4:=hr.mono (j:=4) (by decide)
  refine ⟨_,Zab (ZaB (ZaJ (pv 0) T.cl bG.mt GG hr4 bG.bd .nil Zar (Zaa Zbf Zae))) <|
   Zab (Zat (i:=1) scRead.nd rfl (Or.inl rfl) (ZaJ (pv 0) T.cl bN.mt GN hr4 bN.bd .nil Zar (Zaa (Zax (v:=.int 6) rfl g1 ⟨t1,rfl⟩) Zae))) <|
   Zab (ZaB (ZaJ (pv 0) T.cl bG.mt GG hr4 bG.bd .nil Zar (Zaa Zbf Zae))) <|
   Zab (Zat (i:=2) scRead.nd rfl (Or.inl rfl) (ZaJ (pv 0) T.cl bN.mt GN hr4 bN.bd .nil Zar (Zaa (Zax (v:=.int 12) rfl g2 ⟨t2,rfl⟩) Zae))) <|
   Zab (ZaB (ZaJ (pv 0) T.cl bG.mt GG hr4 bG.bd .nil Zar (Zaa Zbf Zae))) <|
   Zab (Zat (i:=3) scRead.nd rfl (Or.inl rfl) (ZaJ (pv 0) T.cl bR.mt GR hr bR.bd .nil Zar (Zaa (pv 1) (Zaa (pv 2) (Zaa (ZaG Zbd (Zax (v:=.str "0123456789") rfl g3 ⟨t3,rfl⟩) (Zax (v:=.str ".") rfl g4 ⟨t4,rfl⟩)) Zae))))) <|
   Zab (ZaB (Zci (pv 0) T.cl bE.mt GE (hr.mono (by decide)) bE.bd .nil Zar)) <|
   Zaf (Zav (ZbM MF GI (hr.mono (by decide)) rfl TF.mgC bI .nil Zar (Zaa (pv 1) (Zaa (pv 2) (Zaa (pv 3) Zae))))),?_⟩
  obtain ⟨d0,e0⟩:=id hp
  refine ⟨_,rfl,p,d0,_,rfl,e0,ZaN _ _ (by decide +kernel) (by decide +kernel) (by decide +kernel),p,a,_,ns,_,rfl,(by decide +kernel),⟨hp,ht⟩,fun H1 r1 k1=>?_⟩
  rw [Zg0] at r1
  obtain ⟨d1,e1⟩:=id r1
  refine ⟨_,rfl,p,d1,_,rfl,e1,ZaN _ _ (by decide +kernel) (by decide +kernel) (by decide +kernel),p,a,6,ns,_,rfl,⟨r1,hp.seq k1 ht⟩,fun H2 r2 k2=>?_⟩
  obtain ⟨d2,e2⟩:=id r2
  have k2:=k1.trans k2
  refine ⟨_,rfl,p,d2,_,rfl,e2,ZaN _ _ (by decide +kernel) (by decide +kernel) (by decide +kernel),p,a,_,ns,_,rfl,(by decide +kernel),⟨r2,hp.seq k2 ht⟩,fun H3 r3 k3=>?_⟩
  rw [Zg1] at r3
  obtain ⟨d3,e3⟩:=id r3
  have k3:=k2.trans k3
  refine ⟨_,rfl,p,d3,_,rfl,e3,ZaN _ _ (by decide +kernel) (by decide +kernel) (by decide +kernel),p,a,12,ns,_,rfl,⟨r3,hp.seq k3 ht⟩,fun H4 r4 k4=>?_⟩
  obtain ⟨d4,e4⟩:=id r4
  have k4:=k3.trans k4
  refine ⟨_,rfl,p,d4,_,rfl,e4,ZaN _ _ (by decide +kernel) (by decide +kernel) (by decide +kernel),p,a,_,ns,_,rfl,(by decide +kernel),⟨r4,hp.seq k4 ht⟩,fun H5 r5 k5=>?_⟩
  rw [Zk1] at r5
  obtain ⟨d5,e5⟩:=id r5
  have k5:=k4.trans k5
  obtain ⟨wn,hw1,hw2⟩:=ZfZ ns (g:=6) (tks ns [102,105,101,108,100,32] st)
  obtain ⟨dn,hd1,hd2⟩:=ZfZ ns (g:=12) (tks ns [32] (nm ns 6 (tks ns [102,105,101,108,100,32] st)).2)
  refine ⟨_,rfl,p,d5,_,rfl,e5,ZaN _ _ (by decide +kernel) (by decide +kernel) (by decide +kernel),_,rfl,_,rfl,_,_,rfl,rfl,(by decide +kernel),
   p,a,wn,dn,(Str.ofString "0123456789"++Str.ofString "."),ns,_,?_,(by decide +kernel),by lia,by lia,⟨r5,hp.seq k5 ht⟩,fun l H6 hl h6 r6 k6=>?_⟩
  ·show [V.ref p,V.int (nm ns 6 (tks ns [102,105,101,108,100,32] st)).1,V.int (nm ns 12 (tks ns [32] (nm ns 6 (tks ns [102,105,101,108,100,32] st)).2)).1,_]=_
   rw [show ((6:Nat):Int)=6 from rfl] at hw1
   rw [show ((12:Nat):Int)=12 from rfl] at hd1
   rw [hw1,hd1]
  obtain ⟨d6,e6⟩:=id r6
  have k6:=k5.trans k6
  rw [Zf8] at h6 r6 e6
  refine ⟨_,rfl,p,d6,_,rfl,e6,ZaN _ _ (by decide +kernel) (by decide +kernel) (by decide +kernel),p,a,ns,_,rfl,⟨r6,hp.seq k6 ht⟩,fun H7 r7 k7=>?_⟩
  obtain ⟨d7,e7⟩:=id r7
  have nlp:l≠p:=ZaF h6 e6 (by intro z; cases z)
  have h7:=k7 _ _ h6 nlp
  have k7:=k6.trans k7
  refine ⟨_,rfl,_,rfl,_,rfl,fun q dx hq hdx hne=>⟨q,dx,_,_,_,rfl,Zac,fun H8 h8 k8=>⟨rfl,?_⟩⟩⟩
  have s8:Same H7 H8:=Same.made hq hdx k8
  obtain ⟨dy,h8⟩:=h8
  have ew:((wn:Nat):Int).toNat=wn:=by lia
  have ed:((dn:Nat):Int).toNat=dn:=by lia
  have ef:Za0 ns st=⟨(wn:Int),(dn:Int),(Zb9 ns (digs++[46]) wn dn (tks ns [10] (nm ns 12 (tks ns [32] (nm ns 6 (tks ns [102,105,101,108,100,32] st)).2)).2)).1,fin ns (Zb9 ns (digs++[46]) wn dn (tks ns [10] (nm ns 12 (tks ns [32] (nm ns 6 (tks ns [102,105,101,108,100,32] st)).2)).2)).2⟩:=by
   unfold Za0
   dsimp only
   rw [show ((6:Nat):Int)=6 from rfl] at hw1
   rw [show ((12:Nat):Int)=12 from rfl] at hd1
   rw [hw1,hd1,ew,ed]
  rw [ef] at k
  refine k q l dy H8 ?_ (s8 _ _ h7) (r7.same s8) (k7.trans (Keep.of s8))
  rw [h8]
  rw [show ((6:Nat):Int)=6 from rfl] at hw1
  rw [show ((12:Nat):Int)=12 from rfl] at hd1
  rw [hw1,hd1]
end
end Pr
namespace Pr
open PySem PySem.Spec PyProof.Rows L2 Pc
set_option maxHeartbeats 4000000
set_option maxRecDepth 100000
abbrev Zig:Stmt:=(Zbh (top 5) 7)
abbrev ZeM:Stmt:=(Zbh (top 20) 0)
abbrev Zih:Stmt:=(top 21)
abbrev Znk:Stmt:=(top 22)
structure TxtP (K:PySem.W.Frag) (mg:Str→Option Value) (C:Addr):Prop where
 cl:Cls K C
 nN:NoAttr K C "name"
 nW:NoAttr K C "width"
 nD:NoAttr K C "depth"
 nH:NoAttr K C "height"
 nP:NoAttr K C "places"
 mgC:mg "Part"=some (.ref C)
 lets:∃ t,mg "LETTERS"=some (.str "abcdefghijklmnopqrstuvwxyz" t)
 mp:∃ t,mg "MOST_PARTS"=some (.int 64 t)
 ln:∃ t,mg "LONGEST_PART_NAME"=some (.int 8 t)
 gw:∃ t,mg "GREATEST_WIDTH_catalogues"=some (.int 16 t)
 gd:∃ t,mg "GREATEST_DEPTH_catalogues"=some (.int 16 t)
 gh:∃ t,mg "GREATEST_HEIGHT"=some (.int 18 t)
 gg:∃ t,mg "GREATEST_WEIGHT"=some (.int 9999 t)
 pw:∃ t,mg "PLATE_WIDTH"=some (.int 6 t)
 pd:∃ t,mg "PLATE_DEPTH"=some (.int 4 t)
 c0:∃ t,mg "NO_CELL"=some (.str "." t)
 c1:∃ t,mg "PLAIN"=some (.str "#" t)
 c2:∃ t,mg "STUD"=some (.str "s" t)
 c3:∃ t,mg "TUBE"=some (.str "t" t)
 c4:∃ t,mg "STUD_AND_TUBE"=some (.str "b" t)
 enum:mg "enumerate"=none
 zip:mg "zip"=none
 dict:mg "dict"=none
 all:mg "all"=none
def Zjs (K:PySem.W.Frag) (C:Addr):Sp:=fun vs H Q _=>∃ (p a:Addr) (k:Nat) (ns:List Int) (st:S),vs=[.ref p,.int k]∧1≤k∧k≤100∧Here K C H p a ns st ∧
 ∀ (l:Addr) (H':Hp),H' l=some (.lst ((Za8 ns k st).1.map V.int))→RdAt C H' p a (Za8 ns k st).2→Keep p H H'→Q (.ref l) H'
def Zjt (D:Addr):Sp:=fun vs H Q _=>∃ (q dx t:Addr) (a b c d e:V),vs=[.ref q,a,.ref t,e]∧H q=some (.ins D dx [])∧H t=some (.tup [b,c,d])∧∀ H',(∃ dx,H' q=some (.ins D dx (pF a b c d e)))→Keep q H H'→Q .non H'
def Zl0 (K:PySem.W.Frag) (C D:Addr):Sp:=fun vs H Q _=>∃ (p a:Addr) (ns:List Int) (st:S),vs=[.ref p]∧Here K C H p a ns st∧∀ (q:Addr) (H':Hp),PartAt D H' q (ZaU ns st).1→RdAt C H' p a (ZaU ns st).2→Keep p H H'→Q (.ref q) H'
def ZnY (K:PySem.W.Frag) (C D:Addr):Sp:=fun vs H Q _=>∃ (p a:Addr) (ns:List Int) (st:S),vs=[.ref p]∧Here K C H p a ns st∧∀ (l:Addr) (qs:List Addr) (H':Hp),H' l=some (.lst (qs.map V.ref))→Paired (PartAt D H') qs (Zbk ns st).1→RdAt C H' p a (Zbk ns st).2→Keep p H H'→Q (.ref l) H'
section
variable {P:Program} {w:World} {K:PySem.W.Frag} {mg:Str→Option Value} {base:Heap}
theorem scName:FnScope ["self","longest","name","wanted"] ["self","longest"] (Zad Zig):=⟨rfl,rfl,rfl,by decide +kernel,rfl,by decide +kernel,by decide +kernel⟩
theorem Zii:Zaw "abcdefghijklmnopqrstuvwxyz"=lets:=by decide +kernel
theorem Zf9:Zaw (Str.ofString "abcdefghijklmnopqrstuvwxyz"++Str.ofString "0123456789")=lets++digs:=by decide +kernel
theorem ZmE {f C D fC fT fS:Addr} {fd fdC fdT fdS:FuncData} (F:Fun K "take_name" "Reader.take_name" Zig f fd) (T:TxtR K mg C) (TP:TxtP K mg D) (GC:FnOk P w K mg base CX0 1 fC fdC ["signs"] spCodes) (bC:Def K mg "codes" fC fdC ["signs"])
  (GT:FnOk P w K mg base CX0 3 fT fdT ["self","wanted"] (ZhD K C)) (bT:Mth K C "take" fT fdT ["self","wanted"]) (GS:FnOk P w K mg base CX0 2 fS fdS ["self","wanted"] (ZhC K C)) (bS:Mth K C "sees" fS fdS ["self","wanted"]):
  FnOk P w K mg base CX0 4 f fd ["self","longest"] (Zjs K C):=by
 refine F.ok scName (fun vs H Q E h=>?_) (fun cdv A outer s H vs Q E hr h=>?_)
 ·obtain ⟨p,a,k,ns,st,rfl,_⟩:=h
  rfl
 ·obtain ⟨p,a,k,ns,st,rfl,hk1,hk2,⟨hp,ht⟩,kk⟩:=h
  obtain ⟨t1,g1⟩:=TP.lets
  obtain ⟨t2,g2⟩:=T.dig
  have hr1:=hr.mono (j:=1) (by decide)
  refine ⟨_,Zab (Zat (i:=2) scName.nd rfl (Or.inl rfl) (ZbA (Zaa (ZaJ (pv 0) T.cl bT.mt GT hr bT.bd .nil Zar (Zaa (Zak GC hr1 rfl bC.mg bC.kp bC.bd .nil Zar (Zaa (Zax (v:=.str "abcdefghijklmnopqrstuvwxyz") rfl g1 ⟨t1,rfl⟩) Zae)) Zae)) Zae))) <|
   Zab (Zat (i:=3) scName.nd rfl (Or.inl rfl) (Zak GC hr1 rfl bC.mg bC.kp bC.bd .nil Zar (Zaa (ZaG Zbd (Zax (v:=.str "abcdefghijklmnopqrstuvwxyz") rfl g1 ⟨t1,rfl⟩) (Zax (v:=.str "0123456789") rfl g2 ⟨t2,rfl⟩)) Zae))) <|
   Zab (Zcg PassesOwn.never (ZfL (Zaz ZfO (ZaH ZaC (by rfl) T.len PySem.boot_len (Zaa (pv 2) Zae)) (pv 1) (ZaE _)) (ZdN (Zcr (ZaJ (pv 0) T.cl bS.mt GS (hr.mono (by decide)) bS.bd .nil Zar (Zaa (pv 3) Zae))))).pt
    (Zaf (ZaB (Zcv PySem.F.plainAttrs_list PySem.F.slot_list_append PySem.F.type_list_append ZaW (pv 2) (Zaa (ZaJ (pv 0) T.cl bT.mt GT hr bT.bd .nil Zar (Zaa (pv 3) Zae)) Zae))))) <|
   Zaf (Zav (pv 2)),?_⟩
  obtain ⟨d0,e0⟩:=id hp
  refine ⟨_,rfl,p,d0,_,rfl,e0,ZaN _ _ (by decide +kernel) (by decide +kernel) (by decide +kernel),_,rfl,(by decide +kernel),fun wl0 hwl0=>?_⟩
  rw [Zii]
  have s0:Same H (upd H wl0 (.lst (lets.map V.int))):=Zai hwl0
  refine ⟨p,a,wl0,ns,lets,st,rfl,⟨hp.same s0,s0.seq ht⟩,SqL.of Zac,fun H1 r1 k1=>⟨by show 1≤sizeLine; decide,fun l hl=>?_⟩⟩
  have k1:Keep p H H1:=(Keep.of s0).trans k1
  have s1:Same H1 (upd H1 l (.lst [V.int (tk ns lets st).1])):=Zai hl
  refine ⟨_,_,rfl,rfl,(by decide +kernel),_,rfl,(by decide +kernel),fun wl hwl=>?_⟩
  rw [Zf9]
  have s2:Same _ (upd (upd H1 l (.lst [V.int (tk ns lets st).1])) wl (.lst ((lets++digs).map V.int))):=Zai hwl
  have nlw:l≠wl:=Zao Zac hwl
  refine ZbP (fun σ H2=>∃ (acc:List Int) (st':S),σ=[some (.ref p),some (.int k),some (.ref l),some (.ref wl)]∧H2 l=some (.lst (acc.map V.int))∧RdAt C H2 p a st'∧Keep p H H2∧Za8 ns k st=(acc,st')) (fun Dn hD=>?_) ?_
  ·refine ⟨fun m σ H2=>∃ (acc:List Int) (st':S),σ=[some (.ref p),some (.int k),some (.ref l),some (.ref wl)]∧H2 l=some (.lst (acc.map V.int))∧H2 wl=some (.lst ((lets++digs).map V.int))∧RdAt C H2 p a st'∧Keep p H H2∧acc.length≤k∧m=k-acc.length ∧
    Za8 ns k st=(acc++(ZaI ns (k-acc.length) st').1,(ZaI ns (k-acc.length) st').2),⟨_,[(tk ns lets st).1],(tk ns lets st).2,rfl,(by rw [Zag nlw,Zac]; rfl),Zac,(r1.same s1).same s2,k1.trans (Keep.of (s1.trans s2)),hk1,rfl,rfl⟩,?_⟩
   rintro m σ H2 ⟨acc,st',rfl,h1,h2,h3,h4,h5,rfl,h6⟩
   obtain ⟨dx,h7⟩:=id h3
   refine ⟨_,rfl,l,_,rfl,.inl (SqL.of h1),_,rfl,_,_,rfl,rfl,_,rfl,Zbn (fun hlt=>?_) (fun hlt=>?_)⟩
   ·have hlt':acc.length<k:=by
     have q:=of_decide_eq_true hlt
     rw [List.length_map] at q
     lia
    obtain ⟨m,hm⟩:∃ m,k-acc.length=m+1:=⟨k-acc.length-1,by lia⟩
    rw [hm] at h6
    refine ⟨_,rfl,p,dx,_,rfl,h7,ZaN _ _ (by decide +kernel) (by decide +kernel) (by decide +kernel),_,rfl,p,a,wl,ns,lets++digs,st',rfl,⟨h3,hp.seq h4 ht⟩,SqL.of h2,_,rfl,Zbn (fun hs=>?_) (fun hs=>?_)⟩
    ·have h8:ZaI ns (m+1) st'=((tk ns (lets++digs) st').1::(ZaI ns m (tk ns (lets++digs) st').2).1,(ZaI ns m (tk ns (lets++digs) st').2).2):=by
      show (if see ns (lets++digs) st'=true then _ else _)=_
      rw [if_pos hs]
     rw [h8] at h6
     refine ⟨fun σ' H'=>∃ m',m'<k-acc.length∧∃ (acc:List Int) (st':S),σ'=[some (.ref p),some (.int k),some (.ref l),some (.ref wl)]∧H' l=some (.lst (acc.map V.int))∧H' wl=some (.lst ((lets++digs).map V.int))∧RdAt C H' p a st'∧Keep p H H'∧acc.length≤k∧m'=k-acc.length ∧
      Za8 ns k st=(acc++(ZaI ns (k-acc.length) st').1,(ZaI ns (k-acc.length) st').2),fun _ _ z=>z,?_⟩
     have nlp:l≠p:=ZaF h1 h7 (by intro z; cases z)
     have nwp:wl≠p:=ZaF h2 h7 (by intro z; cases z)
     refine ⟨_,rfl,.inl ⟨rfl,_,SqL.of h1⟩,_,rfl,p,dx,_,rfl,h7,ZaN _ _ (by decide +kernel) (by decide +kernel) (by decide +kernel),_,rfl,p,a,wl,ns,lets++digs,st',rfl,⟨h3,hp.seq h4 ht⟩,SqL.of h2,fun H3 r3 k3=>?_⟩
     refine ⟨l,_,_,rfl,rfl,k3 _ _ h1 nlp,?_,?_⟩
     ·rw [List.length_map]
      exact Zev (m:=100) (by lia) (by decide)
     ·refine ⟨k-(acc.length+1),by lia,acc++[(tk ns (lets++digs) st').1],(tk ns (lets++digs) st').2,rfl,by rw [Zac]; simp,by rw [Zag nlw.symm]; exact k3 _ _ h2 nwp,?_,?_,by rw [List.length_append]; exact hlt',by rw [List.length_append]; rfl,?_⟩
      ·obtain ⟨dy,r4⟩:=r3
       exact ⟨dy,by rw [Zag nlp.symm]; exact r4⟩
      ·intro b o e hb
       have nb:b≠l:=Zao e (((Same.refl H).trans (Same.refl H)).free (by
        cases q:H l with
        | none=>rfl
        | some o'=>
         have:=k1 l o' q nlp
         rw [hl] at this
         cases this))
       rw [Zag nb]
       exact k3 _ _ (h4 b o e hb) hb
      ·have:k-(acc++[(tk ns (lets++digs) st').1]).length=m:=by rw [List.length_append]; show k-(acc.length+1)=m; lia
       rw [this,h6]
       simp
    ·refine hD _ _ ⟨acc,st',rfl,h1,h3,h4,?_⟩
     have h8:ZaI ns (m+1) st'=([],st'):=by
      show (if see ns (lets++digs) st'=true then _ else _)=_
      rw [if_neg hs]
     rw [h6,h8]
     simp
   ·have hge:k-acc.length=0:=by
     have q:¬ ((acc.map V.int).length:Int)<k:=fun q=>hlt (decide_eq_true q)
     rw [List.length_map] at q
     lia
    refine hD _ _ ⟨acc,st',rfl,h1,h3,h4,?_⟩
    rw [h6,hge]
    simp [ZaI]
  ·rintro σ H2 ⟨acc,st',rfl,h1,h3,h4,h6⟩
   rw [h6] at kk
   exact ⟨_,rfl,kk l H2 h1 h3 h4⟩
theorem ZmF:FnScope ["self","name","size","places"] ["self","name","size","places"] (Zad ZeM):=⟨rfl,rfl,rfl,by decide +kernel,rfl,by decide +kernel,by decide +kernel⟩
theorem Zk2 {f D:Addr} {fd:FuncData} (F:Fun K "__init__" "Part.__init__" ZeM f fd) (T:TxtP K mg D):FnOk P w K mg base CX0 1 f fd ["self","name","size","places"] (Zjt D):=by
 refine F.ok ZmF (fun vs H Q E h=>?_) (fun cdv A outer s H vs Q E hr h=>?_)
 ·obtain ⟨q,dx,t,a,b,c,d,e,rfl,_⟩:=h
  rfl
 ·obtain ⟨q,dx,t,a,b,c,d,e,rfl,hq,ht,k⟩:=h
  refine ⟨_,Zab (ZaQ (pv 0) (pv 1) rfl) <| Zab (ZaQ (pv 0) (ZbB ZcP (pv 2) Zau (fun _ _=>rfl)) rfl) <| Zab (ZaQ (pv 0) (ZbB ZcP (pv 2) Zau (fun _ _=>rfl)) rfl) <|
   Zab (ZaQ (pv 0) (ZbB ZcP (pv 2) Zau (fun _ _=>rfl)) rfl) <| Zaf (ZaQ (pv 0) (pv 3) rfl),?_⟩
  have ntq:t≠q:=ZaF ht hq (by intro z; cases z)
  refine ⟨_,rfl,_,rfl,q,D,dx,[],rfl,hq,T.cl,T.nN,(by show 0<1000; decide),?_⟩
  refine ⟨_,rfl,t,_,_,_,rfl,rfl,SqT.of (by rw [Zag ntq]; exact ht),(show atI [b,c,d] ((0:Nat):Int)=some b from Za7 rfl),_,rfl,q,D,dx,_,rfl,Zac,T.cl,T.nW,(by show 1<1000; decide),?_⟩
  refine ⟨_,rfl,t,_,_,_,rfl,rfl,SqT.of (by rw [Zag ntq,Zag ntq]; exact ht),(show atI [b,c,d] ((1:Nat):Int)=some c from Za7 rfl),_,rfl,q,D,dx,_,rfl,Zac,T.cl,T.nD,?_,?_⟩
  ·exact Nat.lt_of_le_of_lt (Zas _ _ _) (by show 2<1000; decide)
  refine ⟨_,rfl,t,_,_,_,rfl,rfl,SqT.of (by rw [Zag ntq,Zag ntq,Zag ntq]; exact ht),(show atI [b,c,d] ((2:Nat):Int)=some d from Za7 rfl),_,rfl,q,D,dx,_,rfl,Zac,T.cl,T.nH,?_,?_⟩
  ·exact Nat.lt_of_le_of_lt (Zas _ _ _) (Nat.lt_of_le_of_lt (Nat.succ_le_succ (Zas _ _ _)) (by show 3<1000; decide))
  refine ⟨_,rfl,_,rfl,q,D,dx,_,rfl,Zac,T.cl,T.nP,?_,?_⟩
  ·exact Nat.lt_of_le_of_lt (Zas _ _ _) (Nat.lt_of_le_of_lt (Nat.succ_le_succ (Zas _ _ _)) (Nat.lt_of_le_of_lt (Nat.succ_le_succ (Nat.succ_le_succ (Zas _ _ _))) (by show 4<1000; decide)))
  ·exact k _ ⟨dx,Eq.trans Zac (congrArg (fun q=>some (HO.ins D dx q)) (ZnT a b c d e))⟩ fun b o e hb=>by rw [Zag hb,Zag hb,Zag hb,Zag hb,Zag hb]; exact e
end
end Pr
namespace Pr
open PySem PySem.Spec PyProof.Rows L2 Pc
set_option maxHeartbeats 4000000
set_option maxRecDepth 100000
section
variable {P:Program} {w:World} {K:PySem.W.Frag} {mg:Str→Option Value} {base:Heap}
theorem scPart:FnScope ["reader","name","width","depth","height","places"] ["reader"] (Zad Zih):=⟨rfl,rfl,rfl,by decide +kernel,rfl,by decide +kernel,by decide +kernel⟩
theorem Zij:Zaw "part "=[112,97,114,116,32]:=by decide +kernel
theorem ZbL:Zaw " "=[32]:=by decide +kernel
theorem Zju:Zaw "\n"=[10]:=by decide +kernel
theorem Zga:Zaw (Str.ofString "."++Str.ofString "#"++Str.ofString "s"++Str.ofString "t"++Str.ofString "b")=psigns:=by decide +kernel
theorem ZmG {f C D fI fG fN fR fM:Addr} {fd fdI fdG fdN fdR fdM:FuncData} (F:Fun K "read_part" "read_part" Zih f fd) (T:TxtR K mg C) (TP:TxtP K mg D) (MP:Mk K D fI) (GI:FnOk P w K mg base CX0 1 fI fdI ["self","name","size","places"] (Zjt D)) (bI:Binds K fdI ["self","name","size","places"] [])
  (GG:FnOk P w K mg base CX0 4 fG fdG ["self","signs"] (Zfv K C)) (bG:Mth K C "take_signs" fG fdG ["self","signs"]) (GN:FnOk P w K mg base CX0 4 fN fdN ["self","greatest"] (Zfw K C)) (bN:Mth K C "take_number" fN fdN ["self","greatest"])
  (GR:FnOk P w K mg base CX0 5 fR fdR ["self","width","rows","signs"] (Zjo K C)) (bR:Mth K C "take_rows" fR fdR ["self","width","rows","signs"]) (GM:FnOk P w K mg base CX0 4 fM fdM ["self","longest"] (Zjs K C)) (bM:Mth K C "take_name" fM fdM ["self","longest"]):
  FnOk P w K mg base CX0 6 f fd ["reader"] (Zl0 K C D):=by
 refine F.ok scPart (fun vs H Q E h=>?_) (fun cdv A outer s H vs Q E hr h=>?_)
 ·obtain ⟨p,a,ns,st,rfl,_⟩:=h
  rfl
 ·obtain ⟨p,a,ns,st,rfl,⟨hp,ht⟩,k⟩:=h
  obtain ⟨t1,g1⟩:=TP.ln
  obtain ⟨t2,g2⟩:=TP.gw
  obtain ⟨t3,g3⟩:=TP.gd
  obtain ⟨t4,g4⟩:=TP.gh
  obtain ⟨t5,g5⟩:=TP.gg
  obtain ⟨u0,v0⟩:=TP.c0
  obtain ⟨u1,v1⟩:=TP.c1
  obtain ⟨u2,v2⟩:=TP.c2
  obtain ⟨u3,v3⟩:=TP.c3
  obtain ⟨u4,v4⟩:=TP.c4
  have hr4:=hr.mono (j:=4) (by decide)
  refine ⟨_,Zab (ZaB (ZaJ (pv 0) T.cl bG.mt GG hr4 bG.bd .nil Zar (Zaa Zbf Zae))) <|
   Zab (Zat (i:=1) scPart.nd rfl (Or.inl rfl) (ZaJ (pv 0) T.cl bM.mt GM hr4 bM.bd .nil Zar (Zaa (Zax (v:=.int 8) rfl g1 ⟨t1,rfl⟩) Zae))) <|
   Zab (ZaB (ZaJ (pv 0) T.cl bG.mt GG hr4 bG.bd .nil Zar (Zaa Zbf Zae))) <|
   Zab (Zat (i:=2) scPart.nd rfl (Or.inl rfl) (ZaJ (pv 0) T.cl bN.mt GN hr4 bN.bd .nil Zar (Zaa (Zax (v:=.int 16) rfl g2 ⟨t2,rfl⟩) Zae))) <|
   Zab (ZaB (ZaJ (pv 0) T.cl bG.mt GG hr4 bG.bd .nil Zar (Zaa Zbf Zae))) <|
   Zab (Zat (i:=3) scPart.nd rfl (Or.inl rfl) (ZaJ (pv 0) T.cl bN.mt GN hr4 bN.bd .nil Zar (Zaa (Zax (v:=.int 16) rfl g3 ⟨t3,rfl⟩) Zae))) <|
   Zab (ZaB (ZaJ (pv 0) T.cl bG.mt GG hr4 bG.bd .nil Zar (Zaa Zbf Zae))) <|
   Zab (Zat (i:=4) scPart.nd rfl (Or.inl rfl) (ZaJ (pv 0) T.cl bN.mt GN hr4 bN.bd .nil Zar (Zaa (Zax (v:=.int 18) rfl g4 ⟨t4,rfl⟩) Zae))) <|
   Zab (ZaB (ZaJ (pv 0) T.cl bG.mt GG hr4 bG.bd .nil Zar (Zaa Zbf Zae))) <|
   Zab (ZaB (ZaJ (pv 0) T.cl bN.mt GN hr4 bN.bd .nil Zar (Zaa (Zax (v:=.int 9999) rfl g5 ⟨t5,rfl⟩) Zae))) <|
   Zab (ZaB (ZaJ (pv 0) T.cl bG.mt GG hr4 bG.bd .nil Zar (Zaa Zbf Zae))) <|
   Zab (Zat (i:=5) scPart.nd rfl (Or.inl rfl) (ZaJ (pv 0) T.cl bR.mt GR hr bR.bd .nil Zar (Zaa (pv 2) (Zaa (ZaG ZeB (pv 3) (pv 4)) (Zaa
    (ZaG Zbd (ZaG Zbd (ZaG Zbd (ZaG Zbd (Zax (v:=.str ".") rfl v0 ⟨u0,rfl⟩) (Zax (v:=.str "#") rfl v1 ⟨u1,rfl⟩)) (Zax (v:=.str "s") rfl v2 ⟨u2,rfl⟩)) (Zax (v:=.str "t") rfl v3 ⟨u3,rfl⟩)) (Zax (v:=.str "b") rfl v4 ⟨u4,rfl⟩)) Zae))))) <|
   Zaf (Zav (ZbM MP GI (hr.mono (by decide)) rfl TP.mgC bI .nil Zar (Zaa (pv 1) (Zaa (ZeD (Zaa (pv 2) (Zaa (pv 3) (Zaa (pv 4) Zae)))) (Zaa (pv 5) Zae))))),?_⟩
  obtain ⟨d0,e0⟩:=id hp
  refine ⟨_,rfl,p,d0,_,rfl,e0,ZaN _ _ (by decide +kernel) (by decide +kernel) (by decide +kernel),p,a,_,ns,_,rfl,(by decide +kernel),⟨hp,ht⟩,fun H1 r1 k1=>?_⟩
  rw [Zij] at r1
  obtain ⟨d1,e1⟩:=id r1
  refine ⟨_,rfl,p,d1,_,rfl,e1,ZaN _ _ (by decide +kernel) (by decide +kernel) (by decide +kernel),p,a,8,ns,_,rfl,(by decide),(by decide),⟨r1,hp.seq k1 ht⟩,fun ln H2 n2 r2 k2=>?_⟩
  generalize hS1:tks ns [112,97,114,116,32] st=S1 at *
  obtain ⟨d2,e2⟩:=id r2
  have k2:=k1.trans k2
  refine ⟨_,rfl,p,d2,_,rfl,e2,ZaN _ _ (by decide +kernel) (by decide +kernel) (by decide +kernel),p,a,_,ns,_,rfl,(by decide +kernel),⟨r2,hp.seq k2 ht⟩,fun H3 r3 k3=>?_⟩
  rw [ZbL] at r3
  have n3:=k3 _ _ n2 (ZaF n2 e2 (by intro z; cases z))
  obtain ⟨d3,e3⟩:=id r3
  have k3:=k2.trans k3
  refine ⟨_,rfl,p,d3,_,rfl,e3,ZaN _ _ (by decide +kernel) (by decide +kernel) (by decide +kernel),p,a,16,ns,_,rfl,⟨r3,hp.seq k3 ht⟩,fun H4 r4 k4=>?_⟩
  generalize hS3:tks ns [32] (Za8 ns 8 S1).2=S3 at *
  have n4:=k4 _ _ n3 (ZaF n3 e3 (by intro z; cases z))
  obtain ⟨d4,e4⟩:=id r4
  have k4:=k3.trans k4
  refine ⟨_,rfl,p,d4,_,rfl,e4,ZaN _ _ (by decide +kernel) (by decide +kernel) (by decide +kernel),p,a,_,ns,_,rfl,(by decide +kernel),⟨r4,hp.seq k4 ht⟩,fun H5 r5 k5=>?_⟩
  rw [ZbL] at r5
  have n5:=k5 _ _ n4 (ZaF n4 e4 (by intro z; cases z))
  obtain ⟨d5,e5⟩:=id r5
  have k5:=k4.trans k5
  refine ⟨_,rfl,p,d5,_,rfl,e5,ZaN _ _ (by decide +kernel) (by decide +kernel) (by decide +kernel),p,a,16,ns,_,rfl,⟨r5,hp.seq k5 ht⟩,fun H6 r6 k6=>?_⟩
  generalize hS5:tks ns [32] (nm ns 16 S3).2=S5 at *
  have n6:=k6 _ _ n5 (ZaF n5 e5 (by intro z; cases z))
  obtain ⟨d6,e6⟩:=id r6
  have k6:=k5.trans k6
  refine ⟨_,rfl,p,d6,_,rfl,e6,ZaN _ _ (by decide +kernel) (by decide +kernel) (by decide +kernel),p,a,_,ns,_,rfl,(by decide +kernel),⟨r6,hp.seq k6 ht⟩,fun H7 r7 k7=>?_⟩
  rw [ZbL] at r7
  have n7:=k7 _ _ n6 (ZaF n6 e6 (by intro z; cases z))
  obtain ⟨d7,e7⟩:=id r7
  have k7:=k6.trans k7
  refine ⟨_,rfl,p,d7,_,rfl,e7,ZaN _ _ (by decide +kernel) (by decide +kernel) (by decide +kernel),p,a,18,ns,_,rfl,⟨r7,hp.seq k7 ht⟩,fun H8 r8 k8=>?_⟩
  generalize hS7:tks ns [32] (nm ns 16 S5).2=S7 at *
  have n8:=k8 _ _ n7 (ZaF n7 e7 (by intro z; cases z))
  obtain ⟨d8,e8⟩:=id r8
  have k8:=k7.trans k8
  refine ⟨_,rfl,p,d8,_,rfl,e8,ZaN _ _ (by decide +kernel) (by decide +kernel) (by decide +kernel),p,a,_,ns,_,rfl,(by decide +kernel),⟨r8,hp.seq k8 ht⟩,fun H9 r9 k9=>?_⟩
  rw [ZbL] at r9
  have n9:=k9 _ _ n8 (ZaF n8 e8 (by intro z; cases z))
  obtain ⟨d9,e9⟩:=id r9
  have k9:=k8.trans k9
  refine ⟨_,rfl,p,d9,_,rfl,e9,ZaN _ _ (by decide +kernel) (by decide +kernel) (by decide +kernel),p,a,9999,ns,_,rfl,⟨r9,hp.seq k9 ht⟩,fun HA rA kA=>?_⟩
  generalize hS9:tks ns [32] (nm ns 18 S7).2=S9 at *
  have nA:=kA _ _ n9 (ZaF n9 e9 (by intro z; cases z))
  obtain ⟨dA,eA⟩:=id rA
  have kA:=k9.trans kA
  refine ⟨_,rfl,p,dA,_,rfl,eA,ZaN _ _ (by decide +kernel) (by decide +kernel) (by decide +kernel),p,a,_,ns,_,rfl,(by decide +kernel),⟨rA,hp.seq kA ht⟩,fun HB rB kB=>?_⟩
  rw [Zju] at rB
  have nB:=kB _ _ nA (ZaF nA eA (by intro z; cases z))
  obtain ⟨dB,eB⟩:=id rB
  have kB:=kA.trans kB
  obtain ⟨wn,hw1,hw2⟩:=ZfZ ns (g:=16) S3
  obtain ⟨dn,hd1,hd2⟩:=ZfZ ns (g:=16) S5
  obtain ⟨hn,hh1,hh2⟩:=ZfZ ns (g:=18) S7
  have hw1:(nm ns 16 S3).1=(wn:Int):=hw1
  have hd1:(nm ns 16 S5).1=(dn:Int):=hd1
  have hh1:(nm ns 18 S7).1=(hn:Int):=hh1
  have hdh:dn*hn≤16*18:=Nat.mul_le_mul hd2 hh2
  refine ⟨_,rfl,p,dB,_,rfl,eB,ZaN _ _ (by decide +kernel) (by decide +kernel) (by decide +kernel),_,rfl,_,rfl,_,rfl,_,_,rfl,rfl,.inl (by rw [hd1]; exact ⟨by lia,by lia⟩),
   _,_,rfl,rfl,(by decide +kernel),_,_,rfl,rfl,(by decide +kernel),_,_,rfl,rfl,(by decide +kernel),_,_,rfl,rfl,(by decide +kernel),
   p,a,wn,dn*hn,(Str.ofString "."++Str.ofString "#"++Str.ofString "s"++Str.ofString "t"++Str.ofString "b"),ns,_,?_,(by decide +kernel),by lia,by lia,⟨rB,hp.seq kB ht⟩,fun l HC hl hC rC kC=>?_⟩
  ·show [V.ref p,V.int (nm ns 16 S3).1,V.int ((nm ns 16 S5).1*(nm ns 18 S7).1),_]=_
   rw [hw1,hd1,hh1,Int.natCast_mul]
  rw [Zga] at hC rC
  have nC:=kC _ _ nB (ZaF nB eB (by intro z; cases z))
  obtain ⟨dC,eC⟩:=id rC
  have kC:=kB.trans kC
  refine ⟨_,rfl,_,rfl,_,rfl,_,rfl,(by show 3≤sizeLine; decide),fun t htn=>⟨_,rfl,fun q dx hq hdx hne=>?_⟩⟩
  have s1:Same HC (upd HC t (.tup [V.int (nm ns 16 S3).1,V.int (nm ns 16 S5).1,V.int (nm ns 18 S7).1])):=Zai htn
  have ntq:t≠q:=Zao Zac hq
  have ntd:t≠dx:=Zao Zac hdx
  refine ⟨q,dx,t,_,_,_,_,_,rfl,Zac,(by rw [Zag ntq,Zag ntd]; exact Zac),fun HD hD kD=>⟨rfl,?_⟩⟩
  have s2:Same _ HD:=Same.made hq hdx kD
  have s3:=s1.trans s2
  obtain ⟨dy,hD⟩:=hD
  have ep:ZaU ns st=(⟨(Za8 ns 8 S1).1,wn,dn,hn,(Zb9 ns psigns wn (dn*hn) (tks ns [10] (nm ns 9999 S9).2)).1⟩,(Zb9 ns psigns wn (dn*hn) (tks ns [10] (nm ns 9999 S9).2)).2):=by
   unfold ZaU
   dsimp only
   rw [hS1,hS3,hS5,hS7,hS9,hw1,hd1,hh1,Int.toNat_natCast,Int.toNat_natCast,Int.toNat_natCast]
  rw [ep] at k
  refine k q HD ⟨dy,ln,l,?_,s3 _ _ nC,s3 _ _ hC⟩ (rC.same s3) (kC.trans (Keep.of s3))
  rw [hD,hw1,hd1,hh1]
theorem scCat:FnScope ["reader","parts"] ["reader"] (Zad Znk):=⟨rfl,rfl,rfl,by decide +kernel,rfl,by decide +kernel,by decide +kernel⟩
theorem ZnZ {f C D fP fH fE:Addr} {fd fdP fdH fdE:FuncData} (F:Fun K "read_catalogue" "read_catalogue" Znk f fd) (T:TxtR K mg C) (TP:TxtP K mg D) (GP:FnOk P w K mg base CX0 6 fP fdP ["reader"] (Zl0 K C D)) (bP:Def K mg "read_part" fP fdP ["reader"])
  (GH:FnOk P w K mg base CX0 1 fH fdH ["self"] (ZkW K C)) (bH:Mth K C "has_more" fH fdH ["self"]) (GE:FnOk P w K mg base CX0 2 fE fdE ["self"] (ZkY K C)) (bE:Mth K C "take_end" fE fdE ["self"]):
  FnOk P w K mg base CX0 7 f fd ["reader"] (ZnY K C D):=by
 refine F.ok scCat (fun vs H Q E h=>?_) (fun cdv A outer s H vs Q E hr h=>?_)
 ·obtain ⟨p,a,ns,st,rfl,_⟩:=h
  rfl
 ·obtain ⟨p,a,ns,st,rfl,⟨hp,ht⟩,k⟩:=h
  obtain ⟨t1,g1⟩:=TP.mp
  have hr2:=hr.mono (j:=2) (by decide)
  refine ⟨_,Zab (Zat (i:=1) scCat.nd rfl (Or.inl rfl) (ZbA (Zaa (Zak GP hr rfl bP.mg bP.kp bP.bd .nil Zar (Zaa (pv 0) Zae)) Zae))) <|
   Zab (Zcg PassesOwn.never (ZfL (Zaz ZfO (ZaH ZaC (by rfl) T.len PySem.boot_len (Zaa (pv 1) Zae)) (Zax (v:=.int 64) (by rfl) g1 ⟨t1,rfl⟩) (ZaE _)) (ZdN (Zcr (Zci (pv 0) T.cl bH.mt GH (hr.mono (by decide)) bH.bd .nil Zar)))).pt
    (Zaf (ZaB (Zcv PySem.F.plainAttrs_list PySem.F.slot_list_append PySem.F.type_list_append ZaW (pv 1) (Zaa (Zak GP hr rfl bP.mg bP.kp bP.bd .nil Zar (Zaa (pv 0) Zae)) Zae))))) <|
   Zab (ZaB (Zci (pv 0) T.cl bE.mt GE hr2 bE.bd .nil Zar)) <|
   Zaf (Zav (pv 1)),?_⟩
  refine ⟨_,rfl,p,a,ns,st,rfl,⟨hp,ht⟩,fun q0 H1 h1 r1 k1=>⟨by show 1≤sizeLine; decide,fun l hl=>?_⟩⟩
  have s1:Same H1 (upd H1 l (.lst [V.ref q0])):=Zai hl
  refine ZbP (fun σ H2=>∃ (qs:List Addr) (ps:List PartM) (st':S),σ=[some (.ref p),some (.ref l)]∧H2 l=some (.lst (qs.map V.ref))∧Paired (PartAt D H2) qs ps∧RdAt C H2 p a st'∧Keep p H H2∧((ZaU ns st).1::(Za1 ns 63 (ZaU ns st).2).1,(Za1 ns 63 (ZaU ns st).2).2)=(ps,st')) (fun Dn hD=>?_) ?_
  ·refine ⟨fun m σ H2=>∃ (qs:List Addr) (ps:List PartM) (st':S),σ=[some (.ref p),some (.ref l)]∧H2 l=some (.lst (qs.map V.ref))∧qs≠[]∧Paired (PartAt D H2) qs ps∧RdAt C H2 p a st'∧Keep p H H2∧ps.length≤64∧m=64-ps.length ∧
    ((ZaU ns st).1::(Za1 ns 63 (ZaU ns st).2).1,(Za1 ns 63 (ZaU ns st).2).2)=(ps++(Za1 ns (64-ps.length) st').1,(Za1 ns (64-ps.length) st').2),
    ⟨_,[q0],[(ZaU ns st).1],(ZaU ns st).2,rfl,Zac,by simp,.cons (h1.same s1) .nil,r1.same s1,k1.trans (Keep.of s1),by show 1≤64; decide,rfl,rfl⟩,?_⟩
   rintro m σ H2 ⟨qs,ps,st',rfl,h2,hne,h3,h4,h5,h6,rfl,h7⟩
   have hlq:qs.length=ps.length:=Paired.length h3
   obtain ⟨dx,h8⟩:=id h4
   refine ⟨_,rfl,l,_,rfl,.inl (SqL.of h2),_,_,rfl,rfl,_,rfl,Zbn (fun hlt=>?_) (fun hlt=>?_)⟩
   ·have hlt':ps.length<64:=by
     have q:=of_decide_eq_true hlt
     rw [List.length_map] at q
     lia
    obtain ⟨m,hm⟩:∃ m,64-ps.length=m+1:=⟨64-ps.length-1,by lia⟩
    rw [hm] at h7
    refine ⟨_,rfl,p,dx,_,rfl,h8,ZaN _ _ (by decide +kernel) (by decide +kernel) (by decide +kernel),p,a,ns,st',rfl,⟨h4,hp.seq h5 ht⟩,_,rfl,Zbn (fun hs=>?_) (fun hs=>?_)⟩
    ·have h9:Za1 ns (m+1) st'=((ZaU ns st').1::(Za1 ns m (ZaU ns st').2).1,(Za1 ns m (ZaU ns st').2).2):=by
      show (if has ns st'=true then _ else _)=_
      rw [if_pos hs]
     rw [h9] at h7
     refine ⟨fun σ' H'=>∃ m',m'<64-ps.length∧∃ (qs:List Addr) (ps:List PartM) (st':S),σ'=[some (.ref p),some (.ref l)]∧H' l=some (.lst (qs.map V.ref))∧qs≠[]∧Paired (PartAt D H') qs ps∧RdAt C H' p a st'∧Keep p H H'∧ps.length≤64∧m'=64-ps.length ∧
      ((ZaU ns st).1::(Za1 ns 63 (ZaU ns st).2).1,(Za1 ns 63 (ZaU ns st).2).2)=(ps++(Za1 ns (64-ps.length) st').1,(Za1 ns (64-ps.length) st').2),fun _ _ z=>z,?_⟩
     refine ⟨_,rfl,.inl ⟨rfl,_,SqL.of h2⟩,_,rfl,p,a,ns,st',rfl,⟨h4,hp.seq h5 ht⟩,fun q1 H3 h10 r3 k3=>?_⟩
     have nlp:l≠p:=ZaF h2 h8 (by intro z; cases z)
     have h11:=k3 _ _ h2 nlp
     refine ⟨l,_,_,rfl,rfl,h11,?_,?_⟩
     ·rw [List.length_map]
      exact Zev (m:=100) (by lia) (by decide)
     ·refine ⟨64-(ps.length+1),by lia,qs++[q1],ps++[(ZaU ns st').1],(ZaU ns st').2,rfl,by rw [Zac]; simp,by simp,?_,?_,?_,by rw [List.length_append]; exact hlt',by rw [List.length_append]; rfl,?_⟩
      ·refine ZbX ?_ (h10.put h11 hne)
       exact ZaD (fun q P hP=>(hP.keep h4 k3).put h11 hne) h3
      ·obtain ⟨dy,r4⟩:=r3
       exact ⟨dy,by rw [Zag nlp.symm]; exact r4⟩
      ·intro b o e hb
       have nb:b≠l:=by
        intro z
        subst z
        have:=k1 b o e hb
        rw [hl] at this
        cases this
       rw [Zag nb]
       exact k3 _ _ (h5 b o e hb) hb
      ·have:64-(ps++[(ZaU ns st').1]).length=m:=by rw [List.length_append]; show 64-(ps.length+1)=m; lia
       rw [this,h7]
       simp
    ·refine hD _ _ ⟨qs,ps,st',rfl,h2,h3,h4,h5,?_⟩
     have h9:Za1 ns (m+1) st'=([],st'):=by
      show (if has ns st'=true then _ else _)=_
      rw [if_neg hs]
     rw [h7,h9]
     simp
   ·have hge:64-ps.length=0:=by
     have q:¬ ((qs.map V.ref).length:Int)<64:=fun q=>hlt (decide_eq_true q)
     rw [List.length_map] at q
     lia
    refine hD _ _ ⟨qs,ps,st',rfl,h2,h3,h4,h5,?_⟩
    rw [h7,hge]
    simp [Za1]
  ·rintro σ H2 ⟨qs,ps,st',rfl,h2,h3,h4,h5,h7⟩
   injection h7 with e1 e2
   obtain ⟨dx,h8⟩:=id h4
   refine ⟨_,rfl,p,dx,_,rfl,h8,ZaN _ _ (by decide +kernel) (by decide +kernel) (by decide +kernel),p,a,ns,st',rfl,⟨h4,hp.seq h5 ht⟩,fun H3 r3 k3=>?_⟩
   have nlp:l≠p:=ZaF h2 h8 (by intro z; cases z)
   have ec:Zbk ns st=(ps,fin ns st'):=by
    unfold Zbk
    rw [e1,e2]
   rw [ec] at k
   exact ⟨_,rfl,k l qs H3 (k3 _ _ h2 nlp) (ZaD (fun q P hP=>hP.keep h4 k3) h3) r3 (h5.trans k3)⟩
end
end Pr
namespace Pr
open PySem PySem.Spec PyProof.Rows L2 Pc
set_option maxHeartbeats 4000000
set_option maxRecDepth 100000
abbrev Zea:Stmt:=(top 23)
abbrev Znl:Stmt:=(top 24)
abbrev Znm:Stmt:=(top 25)
abbrev Znn:Stmt:=(top 26)
abbrev Zik:Stmt:=(top 34)
def Zg2 (D:Addr):Sp:=fun vs H Q _=>∃ (q:Addr) (p:PartM),vs=[.ref q]∧PartAt D H q p∧PartOk p∧∀ (l:Addr) (H':Hp),Same H H'→H l=none→H' l=some (.lst (Zan (Zal p)))→Q (.ref l) H'
def ZmH (D:Addr):Sp:=fun vs H Q _=>∃ (q:Addr) (p:PartM) (n:Nat),vs=[.ref q,.int n]∧PartAt D H q p∧PartOk p∧Q (.int ((n%p.w:Nat):Int)) H
def ZmI (D:Addr):Sp:=fun vs H Q _=>∃ (q:Addr) (p:PartM) (n:Nat),vs=[.ref q,.int n]∧PartAt D H q p∧PartOk p∧Q (.int ((n / p.w%p.d:Nat):Int)) H
def ZmJ (D:Addr):Sp:=fun vs H Q _=>∃ (q:Addr) (p:PartM) (n:Nat),vs=[.ref q,.int n]∧PartAt D H q p∧PartOk p∧Q (.int ((n / (p.w*p.d):Nat):Int)) H
def Zl1 (D:Addr):Sp:=fun vs H Q _=>∃ (q:Addr) (p:PartM),vs=[.ref q]∧PartAt D H q p∧PartOk p∧Q (.bl (Zcq p)) H
section
variable {P:Program} {w:World} {K:PySem.W.Frag} {mg:Str→Option Value} {base:Heap}
theorem scCells:FnScope ["part","no_cell","at","place"] ["part"] (Zad Zea):=⟨rfl,rfl,rfl,by decide +kernel,rfl,by decide +kernel,by decide +kernel⟩
theorem e46:(Str.ofString ".").cps[0]?.getD 0=46:=by decide +kernel
theorem Zk3 {f C D:Addr} {fd:FuncData} (F:Fun K "cells_of" "cells_of" Zea f fd) (T:TxtR K mg C) (TP:TxtP K mg D):FnOk P w K mg base CX0 1 f fd ["part"] (Zg2 D):=by
 refine F.ok scCells (fun vs H Q E h=>?_) (fun cdv A outer s H vs Q E hr h=>?_)
 ·obtain ⟨q,p,rfl,_⟩:=h
  rfl
 ·obtain ⟨q,p,rfl,⟨dx,l1,l2,hq,h1,h2⟩,ok,k⟩:=h
  obtain ⟨t0,g0⟩:=TP.c0
  refine ⟨_,Zab (Zat (i:=1) scCells.nd rfl (Or.inr rfl) (ZaH Zch (by rfl) T.ord (by decide +kernel) (Zaa (Zax (v:=.str ".") rfl g0 ⟨t0,rfl⟩) Zae)))
   (Zaf (Zav (ZfW rfl scCells.nd (Zjd rfl TP.enum (Zaa (Zam (pv 0) rfl) Zae)) (Za4 (N:=["part","no_cell","at","place"]) (sc:=Zad Zea) (own:=[("at",2),("place",3)]) (by decide +kernel))
    (fun s H Cc cl fp=>ZcB (K:=K) (i:=2) (j:=3) rfl rfl scCells.nd rfl rfl rfl rfl)
    (fun s H Cc cl fp=>ZdU (Zaz ZkD (pv 3) (pv 1) (ZaE _))) (fun s H Cc cl fp=>pv 2)))),?_⟩
  refine ⟨_,rfl,rfl,_,rfl,q,D,dx,_,_,rfl,hq,TP.cl,TP.nP,ZnS _ _ _ _ _,l2,_,rfl,SqL.of h2,fun Dn hDn=>?_⟩
  refine ZkU (K:=K) (a:=l2) (xs:=p.places.map V.int) (fun i=>p.places.getD i 46 != 46) (fun _ i y=>y=V.int (i:Int)) hDn (SqL.of h2) (by rw [List.length_map]; exact Zev (m:=4608) ok.small (by decide)) Zdd ?_ ?_
  ·rintro i x Tt H' Y N hx hS hys hT hY hN
   obtain ⟨c,hc,rfl⟩:=getElem?_ints hx
   have hgd:p.places.getD i 46=c:=by rw [List.getD_eq_getElem?_getD,hc]; rfl
   refine ⟨Tt,_,rfl,SqT.of Zac,rfl,_,_,rfl,_,_,rfl,rfl,rfl,_,rfl,_,rfl,rfl,_,rfl,Zbn (fun h=>?_) (fun h=>?_)⟩
   ·have hne:¬ c=46:=by simpa [e46] using h
    exact ⟨_,rfl,hY (by rw [hgd]; simpa using hne) _ _ (Zai hT) rfl⟩
   ·have he:c=46:=by simpa [e46] using h
    exact hN (by rw [hgd,he]; rfl) _ (Zai hT)
  ·intro H' ys hS hys hp
   rw [List.length_map] at hp
   rw [Zbv hp] at hys
   exact k Dn H' hS hDn hys
theorem Zo2:FnScope ["part","at"] ["part","at"] (Zad Znl):=⟨rfl,rfl,rfl,by decide +kernel,rfl,by decide +kernel,by decide +kernel⟩
theorem Zo3:FnScope ["part","at"] ["part","at"] (Zad Znm):=⟨rfl,rfl,rfl,by decide +kernel,rfl,by decide +kernel,by decide +kernel⟩
theorem Zo4:FnScope ["part","at"] ["part","at"] (Zad Znn):=⟨rfl,rfl,rfl,by decide +kernel,rfl,by decide +kernel,by decide +kernel⟩
theorem Zn0 {f D:Addr} {fd:FuncData} (F:Fun K "x_of" "x_of" Znl f fd) (TP:TxtP K mg D):FnOk P w K mg base CX0 1 f fd ["part","at"] (ZmH D):=by
 refine F.ok Zo2 (fun vs H Q E h=>?_) (fun cdv A outer s H vs Q E hr h=>?_)
 ·obtain ⟨q,p,n,rfl,_⟩:=h
  rfl
 ·obtain ⟨q,p,n,rfl,⟨dx,l1,l2,hq,h1,h2⟩,ok,k⟩:=h
  refine ⟨_,Zaf (Zav (ZaG Zhm (pv 1) (Zam (pv 0) rfl))),?_⟩
  have hw:=ok.w1
  refine ⟨_,rfl,_,rfl,q,D,dx,_,_,rfl,hq,TP.cl,TP.nW,Zia _ _ _ _ _,_,_,rfl,rfl,(by show (0:Int)<p.w; lia),?_⟩
  rw [Int.natCast_emod] at k
  exact k
theorem Zn1 {f D:Addr} {fd:FuncData} (F:Fun K "y_of" "y_of" Znm f fd) (TP:TxtP K mg D):FnOk P w K mg base CX0 1 f fd ["part","at"] (ZmI D):=by
 refine F.ok Zo3 (fun vs H Q E h=>?_) (fun cdv A outer s H vs Q E hr h=>?_)
 ·obtain ⟨q,p,n,rfl,_⟩:=h
  rfl
 ·obtain ⟨q,p,n,rfl,⟨dx,l1,l2,hq,h1,h2⟩,ok,k⟩:=h
  refine ⟨_,Zaf (Zav (ZaG Zhm (ZaG Zfm (pv 1) (Zam (pv 0) rfl)) (Zam (pv 0) rfl))),?_⟩
  have hw:=ok.w1
  have hw2:=ok.w2
  have hd:=ok.d1
  refine ⟨_,rfl,_,rfl,q,D,dx,_,_,rfl,hq,TP.cl,TP.nW,Zia _ _ _ _ _,_,_,rfl,rfl,⟨by show (0:Int)<p.w; lia,by show (p.w:Int)<1073741824; lia⟩,_,rfl,q,D,dx,_,_,rfl,hq,TP.cl,TP.nD,Zkx _ _ _ _ _,_,_,rfl,rfl,(by show (0:Int)<p.d; lia),?_⟩
  rw [Int.natCast_emod,Int.natCast_ediv] at k
  exact k
theorem Zn2 {f D:Addr} {fd:FuncData} (F:Fun K "z_of" "z_of" Znn f fd) (TP:TxtP K mg D):FnOk P w K mg base CX0 1 f fd ["part","at"] (ZmJ D):=by
 refine F.ok Zo4 (fun vs H Q E h=>?_) (fun cdv A outer s H vs Q E hr h=>?_)
 ·obtain ⟨q,p,n,rfl,_⟩:=h
  rfl
 ·obtain ⟨q,p,n,rfl,⟨dx,l1,l2,hq,h1,h2⟩,ok,k⟩:=h
  refine ⟨_,Zaf (Zav (ZaG Zfm (pv 1) (ZaG ZeB (Zam (pv 0) rfl) (Zam (pv 0) rfl)))),?_⟩
  have hw:=ok.w1
  have hw2:=ok.w2
  have hd:=ok.d1
  have hm:p.w*p.d≤16*16:=Nat.mul_le_mul ok.w2 ok.d2
  have hp:0<p.w*p.d:=Nat.mul_pos hw hd
  refine ⟨_,rfl,_,rfl,q,D,dx,_,_,rfl,hq,TP.cl,TP.nW,Zia _ _ _ _ _,_,rfl,q,D,dx,_,_,rfl,hq,TP.cl,TP.nD,Zkx _ _ _ _ _,_,_,rfl,rfl,.inl ⟨by lia,by lia⟩,_,_,rfl,rfl,?_,?_⟩
  ·rw [← Int.natCast_mul]
   exact ⟨by lia,by lia⟩
  ·rw [Int.natCast_ediv,Int.natCast_mul] at k
   exact k
theorem Zn3:FnScope ["part"] ["part"] (Zad Zik):=⟨rfl,rfl,rfl,by decide +kernel,rfl,by decide +kernel,by decide +kernel⟩
theorem ZmK {f C D:Addr} {fd:FuncData} (F:Fun K "has_form_of_plate" "has_form_of_plate" Zik f fd) (T:TxtR K mg C) (TP:TxtP K mg D):FnOk P w K mg base CX0 1 f fd ["part"] (Zl1 D):=by
 refine F.ok Zn3 (fun vs H Q E h=>?_) (fun cdv A outer s H vs Q E hr h=>?_)
 ·obtain ⟨q,p,rfl,_⟩:=h
  rfl
 ·obtain ⟨q,p,rfl,⟨dx,l1,l2,hq,h1,h2⟩,ok,k⟩:=h
  obtain ⟨t1,g1⟩:=TP.pw
  obtain ⟨t2,g2⟩:=TP.pd
  obtain ⟨t3,g3⟩:=TP.c4
  refine ⟨_,Zaf (Zav (ZbN (Zbl Zew (Zam (pv 0) rfl) Zau (ZaE _)) (ZbN (Zbl Znx (Zam (pv 0) rfl) (Zax (v:=.int 6) rfl g1 ⟨t1,rfl⟩) (ZaE _)) (ZbN (Zbl Znx (Zam (pv 0) rfl) (Zax (v:=.int 4) rfl g2 ⟨t2,rfl⟩) (ZaE _))
   (ZeA (Zbl Zew (Zcv PySem.F.plainAttrs_list PySem.F.slot_list_count PySem.F.type_list_count Zjk (Zam (pv 0) rfl) (Zaa (ZaH Zch (by rfl) T.ord (by decide +kernel) (Zaa (Zax (v:=.str "b") rfl g3 ⟨t3,rfl⟩) Zae)) Zae)) (ZaH ZaC (by rfl) T.len PySem.boot_len (Zaa (Zam (pv 0) rfl) Zae)) (ZaE _))))))),?_⟩
  unfold Zcq at k
  refine ⟨_,rfl,q,D,dx,_,_,rfl,hq,TP.cl,TP.nH,ZoW _ _ _ _ _,rfl,_,rfl,Zbn (fun h=>?_) (fun h=>?_)⟩
  ·have hh:p.h=1:=by
    have:(p.h:Int)=1:=by simpa using h
    lia
   rw [decide_eq_true hh,Bool.true_and] at k
   refine ⟨_,rfl,q,D,dx,_,_,rfl,hq,TP.cl,TP.nW,Zia _ _ _ _ _,_,_,rfl,rfl,_,rfl,Zbn (fun h=>?_) (fun h=>?_)⟩
   ·have hw:p.w≤6:=by
     have:=of_decide_eq_true h
     lia
    rw [decide_eq_true hw,Bool.true_and] at k
    refine ⟨_,rfl,q,D,dx,_,_,rfl,hq,TP.cl,TP.nD,Zkx _ _ _ _ _,_,_,rfl,rfl,_,rfl,Zbn (fun h=>?_) (fun h=>?_)⟩
    ·have hd:p.d≤4:=by
      have:=of_decide_eq_true h
      lia
     rw [decide_eq_true hd,Bool.true_and] at k
     refine ⟨_,rfl,q,D,dx,_,_,rfl,hq,TP.cl,TP.nP,ZnS _ _ _ _ _,.inl ⟨rfl,_,SqL.of h2⟩,_,rfl,rfl,l2,p.places,98,rfl,rfl,SqL.of h2,_,rfl,q,D,dx,_,_,rfl,hq,TP.cl,TP.nP,ZnS _ _ _ _ _,l2,_,rfl,.inl (SqL.of h2),rfl,?_⟩
     have e:decide (p.places.count 98=p.places.length)=decide (V.int ((p.places.count 98:Nat):Int)=V.int (((p.places.map V.int).length:Nat):Int)):=by
      rw [List.length_map]
      exact decide_eq_decide.mpr ⟨fun z=>by rw [z],fun z=>by injection z with z; lia⟩
     rw [e] at k
     exact k
    ·have hd:¬ p.d≤4:=fun z=>h (decide_eq_true (by lia))
     rw [decide_eq_false hd,Bool.false_and] at k
     exact k
   ·have hw:¬ p.w≤6:=fun z=>h (decide_eq_true (by lia))
    rw [decide_eq_false hw,Bool.false_and] at k
    exact k
  ·have hh:¬ p.h=1:=fun z=>h (by simp [z])
   rw [decide_eq_false hh,Bool.false_and] at k
   exact k
end
end Pr
namespace Pr
open PySem PySem.Spec PyProof.Rows L2 Pc
set_option maxHeartbeats 4000000
set_option maxRecDepth 100000
abbrev Zil:Stmt:=(top 27)
abbrev ZcZ:Stmt:=(top 28)
abbrev Zim:Stmt:=(top 29)
abbrev Zg3:Stmt:=(top 30)
def Zl2 (D:Addr):Sp:=fun vs H Q _=>∃ (q:Addr) (p:PartM),vs=[.ref q]∧PartAt D H q p∧PartOk p∧∀ H',Same H H'→Q (.bl (Zf0 p)) H'
def Zjv (D:Addr):Sp:=fun vs H Q _=>∃ (q:Addr) (p:PartM),vs=[.ref q]∧PartAt D H q p∧PartOk p∧∀ H',Same H H'→Q (.bl (Zf1 p)) H'
def Zl3 (D:Addr):Sp:=fun vs H Q _=>∃ (q:Addr) (p:PartM) (n:Nat),vs=[.ref q,.int n]∧PartAt D H q p∧PartOk p∧n<p.places.length∧∀ (l:Addr) (H':Hp),Same H H'→H l=none→H' l=some (.lst (Zan (Zd2 p n)))→Q (.ref l) H'
def Zl4 (D:Addr):Sp:=fun vs H Q _=>∃ (q:Addr) (p:PartM),vs=[.ref q]∧PartAt D H q p∧PartOk p∧∀ (b:Bool) H',Same H H'→(b=true↔Zd3 p)→Q (.bl b) H'
section
variable {P:Program} {w:World} {K:PySem.W.Frag} {mg:Str→Option Value} {base:Heap}
theorem scSides:FnScope ["part","cells","xs","ys","zs","at"] ["part"] (Zad ZcZ):=⟨rfl,rfl,rfl,by decide +kernel,rfl,by decide +kernel,by decide +kernel⟩
theorem Za2 (i:Nat) (l:List Nat):inV (.int (i:Int)) (Zan l)=l.contains i:=by
 rw [Zfs,Zcj]
 induction l with
 | nil=>rfl
 | cons a r ih=>
  rw [List.map_cons,List.contains_cons,List.contains_cons,ih]
  congr 1
  apply Bool.eq_iff_iff.mpr
  rw [beq_iff_eq,beq_iff_eq]
  lia
theorem Zbw (l:List Nat):(Zan l).all Zex=true:=by rw [Zfs]; exact ZcX _
theorem Zk4 {f D fC fX fY fZ:Addr} {fd fdC fdX fdY fdZ:FuncData} (F:Fun K "reaches_all_sides" "reaches_all_sides" ZcZ f fd) (TP:TxtP K mg D)
  (GC:FnOk P w K mg base CX0 1 fC fdC ["part"] (Zg2 D)) (bC:Def K mg "cells_of" fC fdC ["part"]) (GX:FnOk P w K mg base CX0 1 fX fdX ["part","at"] (ZmH D)) (bX:Def K mg "x_of" fX fdX ["part","at"])
  (GY:FnOk P w K mg base CX0 1 fY fdY ["part","at"] (ZmI D)) (bY:Def K mg "y_of" fY fdY ["part","at"]) (GZ:FnOk P w K mg base CX0 1 fZ fdZ ["part","at"] (ZmJ D)) (bZ:Def K mg "z_of" fZ fdZ ["part","at"]):
  FnOk P w K mg base CX0 2 f fd ["part"] (Zjv D):=by
 refine F.ok scSides (fun vs H Q E h=>?_) (fun cdv A outer s H vs Q E hr h=>?_)
 ·obtain ⟨q,p,rfl,_⟩:=h
  rfl
 ·obtain ⟨q,p,rfl,hp,ok,k⟩:=h
  obtain ⟨dx,l1,l2,hq,h1,h2⟩:=id hp
  refine ⟨_,Zab (Zat (i:=1) scSides.nd rfl (Or.inl rfl) (Zak GC hr rfl bC.mg bC.kp bC.bd .nil Zar (Zaa (pv 0) Zae))) <|
   Zab (ZcR (i:=2) rfl scSides.nd rfl rfl (ZdV rfl rfl rfl rfl) (Zbc (pv 1)) (Za4 (N:=["part","cells","xs","ys","zs","at"]) (sc:=Zad ZcZ) (own:=[("at",5)]) (by decide +kernel)) (fun s H Cc cl fp=>ZaS (i:=5) scSides.nd rfl (Or.inl rfl)) (fun s H Cc cl fp=>Zb7)
    (fun s H Cc cl fp=>Zak GX hr rfl bX.mg bX.kp bX.bd .nil Zar (Zaa (pv 0) (Zaa (pv 5) Zae)))) <|
   Zab (ZcR (i:=3) rfl scSides.nd rfl rfl (ZdV rfl rfl rfl rfl) (Zbc (pv 1)) (Za4 (N:=["part","cells","xs","ys","zs","at"]) (sc:=Zad ZcZ) (own:=[("at",5)]) (by decide +kernel)) (fun s H Cc cl fp=>ZaS (i:=5) scSides.nd rfl (Or.inl rfl)) (fun s H Cc cl fp=>Zb7)
    (fun s H Cc cl fp=>Zak GY hr rfl bY.mg bY.kp bY.bd .nil Zar (Zaa (pv 0) (Zaa (pv 5) Zae)))) <|
   Zab (ZcR (i:=4) rfl scSides.nd rfl rfl (ZdV rfl rfl rfl rfl) (Zbc (pv 1)) (Za4 (N:=["part","cells","xs","ys","zs","at"]) (sc:=Zad ZcZ) (own:=[("at",5)]) (by decide +kernel)) (fun s H Cc cl fp=>ZaS (i:=5) scSides.nd rfl (Or.inl rfl)) (fun s H Cc cl fp=>Zb7)
    (fun s H Cc cl fp=>Zak GZ hr rfl bZ.mg bZ.kp bZ.bd .nil Zar (Zaa (pv 0) (Zaa (pv 5) Zae)))) <|
   Zaf (Zav (ZbN (Zbl Zbg Zau (pv 2) (by rfl)) (ZbN (Zbl Zbg (ZaG Zbz (Zam (pv 0) rfl) Zau) (pv 2) (by rfl)) (ZbN (Zbl Zbg Zau (pv 3) (by rfl)) (ZbN (Zbl Zbg (ZaG Zbz (Zam (pv 0) rfl) Zau) (pv 3) (by rfl))
    (ZbN (Zbl Zbg Zau (pv 4) (by rfl)) (ZeA (Zbl Zbg (ZaG Zbz (Zam (pv 0) rfl) Zau) (pv 4) (by rfl))))))))),?_⟩
  have hcl:(Zal p).length<sizeLine:=Zev (m:=4608) (Nat.le_trans (ZeG p) ok.small) (by decide)
  have hil:(Zan (Zal p)).length=(Zal p).length:=by unfold Zan; rw [List.length_map]
  refine ⟨_,rfl,q,p,rfl,hp,ok,fun lc H1 s1 _ hc=>?_⟩
  have fin:∀ (g:Nat→Nat) (H:Hp) (Dk:Addr) (ys:List V),H Dk=some (.lst ys)→Paired (fun i y=>y=V.int ((g ((Zal p).getD i 0):Nat):Int)) ((List.range (Zan (Zal p)).length).filter fun _=>true) ys→H Dk=some (.lst (Zan ((Zal p).map g))):=fun g H Dk ys e h=>by
   rw [e,Zbv h,ZcY,hil]
   unfold Zan
   rw [List.map_map,← Zcl _ 0 (Zal p)]
   rfl
  refine ⟨_,rfl,lc,rfl,⟨_,SqL.of hc⟩,fun D2 hD2=>Zbo (K:=K) (a:=lc) (xs:=Zan (Zal p)) (fun _=>true) (fun _ i y=>y=V.int (((Zal p).getD i 0%p.w:Nat):Int)) hD2 (SqL.of hc) (by rw [hil]; exact hcl) Zdd ?_ ?_⟩
  ·rintro i x H' Y N hx hS _ hY _
   obtain ⟨n,hn,rfl⟩:=getElem?_intsN hx
   refine ⟨rfl,_,rfl,_,rfl,q,p,n,rfl,hp.same (s1.trans hS),ok,hY rfl _ _ (Same.refl _) ?_⟩
   rw [List.getD_eq_getElem?_getD,hn]
   rfl
  intro H2 ys2 hS2 hys2 hpr2
  have hx2:=fin (fun n=>n%p.w) H2 D2 ys2 hys2 hpr2
  refine ⟨_,rfl,lc,rfl,⟨_,SqL.of (hS2 _ _ hc)⟩,fun D3 hD3=>Zbo (K:=K) (a:=lc) (xs:=Zan (Zal p)) (fun _=>true) (fun _ i y=>y=V.int (((Zal p).getD i 0 / p.w%p.d:Nat):Int)) hD3 (SqL.of (hS2 _ _ hc)) (by rw [hil]; exact hcl) Zdd ?_ ?_⟩
  ·rintro i x H' Y N hx hS _ hY _
   obtain ⟨n,hn,rfl⟩:=getElem?_intsN hx
   refine ⟨rfl,_,rfl,_,rfl,q,p,n,rfl,hp.same (s1.trans (hS2.trans hS)),ok,hY rfl _ _ (Same.refl _) ?_⟩
   rw [List.getD_eq_getElem?_getD,hn]
   rfl
  intro H3 ys3 hS3 hys3 hpr3
  have hx3:=fin (fun n=>n / p.w%p.d) H3 D3 ys3 hys3 hpr3
  refine ⟨_,rfl,lc,rfl,⟨_,SqL.of (hS3 _ _ (hS2 _ _ hc))⟩,fun D4 hD4=>Zbo (K:=K) (a:=lc) (xs:=Zan (Zal p)) (fun _=>true) (fun _ i y=>y=V.int (((Zal p).getD i 0 / (p.w*p.d):Nat):Int)) hD4 (SqL.of (hS3 _ _ (hS2 _ _ hc))) (by rw [hil]; exact hcl) Zdd ?_ ?_⟩
  ·rintro i x H' Y N hx hS _ hY _
   obtain ⟨n,hn,rfl⟩:=getElem?_intsN hx
   refine ⟨rfl,_,rfl,_,rfl,q,p,n,rfl,hp.same (s1.trans (hS2.trans (hS3.trans hS))),ok,hY rfl _ _ (Same.refl _) ?_⟩
   rw [List.getD_eq_getElem?_getD,hn]
   rfl
  intro H4 ys4 hS4 hys4 hpr4
  have hx4:=fin (fun n=>n / (p.w*p.d)) H4 D4 ys4 hys4 hpr4
  have sA:Same H H4:=s1.trans (hS2.trans (hS3.trans hS4))
  have k:=k H4 sA
  have q2:H4 D2=some (.lst (Zan (xsM p))):=hS4 _ _ (hS3 _ _ hx2)
  have q3:H4 D3=some (.lst (Zan (ysM p))):=hS4 _ _ hx3
  have q4:H4 D4=some (.lst (Zan (zsM p))):=hx4
  obtain ⟨dy,m1,m2,hq4,_,_⟩:=hp.same sA
  have sub1:∀ n:Nat,1≤n→((n:Int)-1)=((n-1:Nat):Int):=fun n h=>by lia
  unfold Zf1 at k
  refine ⟨_,rfl,D2,_,rfl,.inl (SqL.of q2),rfl,Zbw _,_,rfl,Zbn (fun h=>?_) (fun h=>?_)⟩
  ·have h:(xsM p).contains 0=true:=by
    rw [← Za2]
    exact h
   rw [h,Bool.true_and] at k
   refine ⟨_,rfl,q,D,dy,_,_,rfl,hq4,TP.cl,TP.nW,Zia _ _ _ _ _,_,_,rfl,rfl,_,rfl,D2,_,rfl,.inl (SqL.of q2),rfl,Zbw _,_,rfl,Zbn (fun h=>?_) (fun h=>?_)⟩
   ·have h:(xsM p).contains (p.w-1)=true:=by
     rw [← Za2,← sub1 p.w ok.w1]
     exact h
    rw [h,Bool.true_and] at k
    refine ⟨_,rfl,D3,_,rfl,.inl (SqL.of q3),rfl,Zbw _,_,rfl,Zbn (fun h=>?_) (fun h=>?_)⟩
    ·have h:(ysM p).contains 0=true:=by
      rw [← Za2]
      exact h
     rw [h,Bool.true_and] at k
     refine ⟨_,rfl,q,D,dy,_,_,rfl,hq4,TP.cl,TP.nD,Zkx _ _ _ _ _,_,_,rfl,rfl,_,rfl,D3,_,rfl,.inl (SqL.of q3),rfl,Zbw _,_,rfl,Zbn (fun h=>?_) (fun h=>?_)⟩
     ·have h:(ysM p).contains (p.d-1)=true:=by
       rw [← Za2,← sub1 p.d ok.d1]
       exact h
      rw [h,Bool.true_and] at k
      refine ⟨_,rfl,D4,_,rfl,.inl (SqL.of q4),rfl,Zbw _,_,rfl,Zbn (fun h=>?_) (fun h=>?_)⟩
      ·have h:(zsM p).contains 0=true:=by
        rw [← Za2]
        exact h
       rw [h,Bool.true_and] at k
       refine ⟨_,rfl,q,D,dy,_,_,rfl,hq4,TP.cl,TP.nH,ZoW _ _ _ _ _,_,_,rfl,rfl,_,rfl,D4,_,rfl,.inl (SqL.of q4),rfl,Zbw _,?_⟩
       rw [← Za2,← sub1 p.h ok.h1] at k
       exact k
      ·have h:(zsM p).contains 0=false:=by
        rw [← Za2]
        exact Bool.not_eq_true _ ▸ h
       rw [h,Bool.false_and] at k
       exact k
     ·have h:(ysM p).contains (p.d-1)=false:=by
       rw [← Za2,← sub1 p.d ok.d1]
       exact Bool.not_eq_true _ ▸ h
      rw [h,Bool.false_and] at k
      exact k
    ·have h:(ysM p).contains 0=false:=by
      rw [← Za2]
      exact Bool.not_eq_true _ ▸ h
     rw [h,Bool.false_and] at k
     exact k
   ·have h:(xsM p).contains (p.w-1)=false:=by
     rw [← Za2,← sub1 p.w ok.w1]
     exact Bool.not_eq_true _ ▸ h
    rw [h,Bool.false_and] at k
    exact k
  ·have h:(xsM p).contains 0=false:=by
    rw [← Za2]
    exact Bool.not_eq_true _ ▸ h
   rw [h,Bool.false_and] at k
   exact k
theorem scFree:FnScope ["part","no_cell","studded","tubed","layer","upper","lower"] ["part"] (Zad Zil):=⟨rfl,rfl,rfl,by decide +kernel,rfl,by decide +kernel,by decide +kernel⟩
theorem Zk5:Zaw (Str.ofString "s"++Str.ofString "b")=[115,98]:=by decide +kernel
theorem Zk6:Zaw (Str.ofString "t"++Str.ofString "b")=[116,98]:=by decide +kernel
theorem Zjw {α β:Type} {l:List α} {m:List β} {i:Nat} {a:α} {b:β} (h1:l[i]? = some a) (h2:m[i]? = some b):(a,b)∈l.zip m:=List.mem_of_getElem? (List.getElem?_zip_eq_some.mpr ⟨h1,h2⟩)
def Zc0 (q:Int×Int):Bool:=!(q.1 != 46&&([115,98]:List Int).contains q.2) && !(q.2 != 46&&([116,98]:List Int).contains q.1)
theorem ZmL {f C D fC:Addr} {fd fdC:FuncData} (F:Fun K "studs_and_tubes_are_free" "studs_and_tubes_are_free" Zil f fd) (T:TxtR K mg C) (TP:TxtP K mg D) (GC:FnOk P w K mg base CX0 1 fC fdC ["signs"] spCodes) (bC:Def K mg "codes" fC fdC ["signs"]):
    FnOk P w K mg base CX0 2 f fd ["part"] (Zl2 D):=by
  refine F.ok scFree (fun vs H Q E h=>?_) (fun cdv A outer s H vs Q E hr h=>?_)
  · obtain ⟨q,p,rfl,_⟩:=h
    rfl
  · obtain ⟨q,p,rfl,hp,ok,k⟩:=h
    obtain ⟨t0,g0⟩:=TP.c0
    obtain ⟨t2,g2⟩:=TP.c2
    obtain ⟨t3,g3⟩:=TP.c3
    obtain ⟨t4,g4⟩:=TP.c4
    refine ⟨_,Zab (Zat (i:=1) scFree.nd rfl (Or.inl rfl) (ZaH Zch (by rfl) T.ord (by decide +kernel) (Zaa (Zax (v:=.str ".") rfl g0 ⟨t0,rfl⟩) Zae))) <|
      Zab (Zat (i:=2) scFree.nd rfl (Or.inl rfl) (Zak GC hr rfl bC.mg bC.kp bC.bd .nil Zar (Zaa (ZaG Zbd (Zax (v:=.str "s") rfl g2 ⟨t2,rfl⟩) (Zax (v:=.str "b") rfl g4 ⟨t4,rfl⟩)) Zae))) <|
      Zab (Zat (i:=3) scFree.nd rfl (Or.inl rfl) (Zak GC hr rfl bC.mg bC.kp bC.bd .nil Zar (Zaa (ZaG Zbd (Zax (v:=.str "t") rfl g3 ⟨t3,rfl⟩) (Zax (v:=.str "b") rfl g4 ⟨t4,rfl⟩)) Zae))) <|
      Zab (Zat (i:=4) scFree.nd rfl (Or.inl rfl) (ZaG ZeB (Zam (pv 0) rfl) (Zam (pv 0) rfl))) <|
      Zab (ZbO PassesOwn.never rfl (ZlX rfl TP.zip (Zaa (Zhp ZiZ (Zam (pv 0) rfl) (ZiY (pv 4)) ZiX) (Zaa (Zam (pv 0) rfl) Zae))) (ZcB (K:=K) (i:=5) (j:=6) rfl rfl scFree.nd rfl rfl rfl rfl)
        (Zab (Za6 (ZfL (Zaz ZkD (pv 5) (pv 1) (ZaE _)) (ZdN (Zaz Zbg (pv 6) (pv 2) (by rfl)))).pt (Zaf (Zav ZcK)) ZaA)
        (Zaf (Za6 (ZfL (Zaz ZkD (pv 6) (pv 1) (ZaE _)) (ZdN (Zaz Zbg (pv 5) (pv 3) (by rfl)))).pt (Zaf (Zav ZcK)) ZaA)))) <|
      Zaf (Zav ZcK),?_⟩
    refine ⟨_,rfl,rfl,_,_,rfl,rfl,by decide +kernel,_,rfl,by decide +kernel,fun a1 ha1=>?_⟩
    rw [Zk5]
    have s1:Same H _:=Zai (o:=.lst (([115,98]:List Int).map V.int)) ha1
    refine ⟨_,_,rfl,rfl,by decide +kernel,_,rfl,by decide +kernel,fun a2 ha2=>?_⟩
    rw [Zk6]
    have s2:=s1.trans (Zai (o:=.lst (([116,98]:List Int).map V.int)) ha2)
    have n12:a1≠a2:=Zao Zac ha2
    have q1:(upd (upd H a1 (.lst (([115,98]:List Int).map V.int))) a2 (.lst (([116,98]:List Int).map V.int))) a1=some (.lst (([115,98]:List Int).map V.int)):=by rw [Zag n12]; exact Zac
    have q2:(upd (upd H a1 (.lst (([115,98]:List Int).map V.int))) a2 (.lst (([116,98]:List Int).map V.int))) a2=some (.lst (([116,98]:List Int).map V.int)):=Zac
    generalize (upd (upd H a1 (.lst (([115,98]:List Int).map V.int))) a2 (.lst (([116,98]:List Int).map V.int)))=H2 at *
    obtain ⟨dx,l1,l2,hq,h1,h2⟩:=hp.same s2
    have hw2:=ok.w2
    refine ⟨_,rfl,q,D,dx,_,_,rfl,hq,TP.cl,TP.nW,Zia _ _ _ _ _,_,rfl,q,D,dx,_,_,rfl,hq,TP.cl,TP.nD,Zkx _ _ _ _ _,_,_,rfl,rfl,.inl ⟨by lia,by lia⟩,?_⟩
    refine ⟨_,rfl,q,D,dx,_,_,rfl,hq,TP.cl,TP.nP,ZnS _ _ _ _ _,_,rfl,_,rfl,l2,_,rfl,SqL.of h2,fun a3 ha3=>?_⟩
    rw [← Int.natCast_mul,ZhA,← List.map_drop]
    have s3:=s2.trans (Zai (o:=.lst ((p.places.drop (p.w*p.d)).map V.int)) ha3)
    have s23:Same H2 (upd H2 a3 (.lst ((p.places.drop (p.w*p.d)).map V.int))):=Zai ha3
    have q3:(upd H2 a3 (.lst ((p.places.drop (p.w*p.d)).map V.int))) a3=_:=Zac
    have q1:=s23 _ _ q1
    have q2:=s23 _ _ q2
    have h2:=s23 _ _ h2
    have hq:=s23 _ _ hq
    generalize (upd H2 a3 (.lst ((p.places.drop (p.w*p.d)).map V.int)))=H3 at *
    refine ⟨_,rfl,q,D,dx,_,_,rfl,hq,TP.cl,TP.nP,ZnS _ _ _ _ _,a3,l2,_,_,rfl,SqL.of q3,SqL.of h2,Zjl (K:=K) (a:=a3) (b:=l2) (xs:=(p.places.drop (p.w*p.d)).map V.int) (ys:=p.places.map V.int)
      (fun i σ H4=>∃ v5 v6:Option V,σ=[some (.ref q),some (.int 46),some (.ref a1),some (.ref a2),some (.int ((p.w:Int)*(p.d:Int))),v5,v6]∧Same H3 H4∧∀ j,j<i→∀ u l,(p.places.drop (p.w*p.d))[j]? = some u→p.places[j]? = some l→Zc0 (u,l)=true) ?_ ?_ ?_ ?_⟩
    · exact ⟨none,none,rfl,Same.refl _,fun j hj=>absurd hj (Nat.not_lt_zero _)⟩
    · rintro i σ H4 _ _ ⟨v5,v6,_,hS,_⟩
      exact ⟨hS.seq (SqL.of q3),hS.seq (SqL.of h2)⟩
    · rintro i x y Tt σ H4 hx hy ⟨v5,v6,rfl,hS,hv⟩ hT
      obtain ⟨u,hu,rfl⟩:=getElem?_ints hx
      obtain ⟨l,hl,rfl⟩:=getElem?_ints hy
      have sT:Same H4 _:=Zai (o:=.tup [V.int u,V.int l]) hT
      have q1':=sT _ _ (hS _ _ q1)
      have q2':=sT _ _ (hS _ _ q2)
      have hfalse:Zc0 (u,l)=false→Zf0 p=false:=fun hb=>by
        unfold Zf0
        apply Bool.eq_false_iff.mpr
        intro ha
        have:=List.all_eq_true.mp ha (u,l) (Zjw hu hl)
        have this:Zc0 (u,l)=true:=this
        rw [hb] at this
        cases this
      have ZkV:Same H _:=s3.trans (hS.trans sT)
      refine ⟨Tt,_,rfl,SqT.of Zac,rfl,_,_,rfl,_,_,rfl,rfl,?_⟩
      generalize upd H4 Tt (.tup [V.int u,V.int l])=H5 at *
      refine ⟨_,rfl,_,rfl,rfl,_,rfl,Zbn (fun h=>⟨_,rfl,_,rfl,a1,_,rfl,.inl (SqL.of q1'),rfl,ZcX _,_,rfl,Zbn (fun h'=>?ret) (fun h'=>?n1)⟩) (fun h=>?n2)⟩
      case ret=>
        have e1:(u != 46)=true:=by
          have:¬ u=46:=by simpa [e46] using h
          simpa using this
        have e2:([115,98]:List Int).contains l=true:=by rw [← Zcj]; exact h'
        have hb:Zc0 (u,l)=false:=by unfold Zc0; dsimp only; rw [e1,e2]; rfl
        have k:=k _ ZkV
        rw [hfalse hb] at k
        exact k
      all_goals
        have hno:(u != 46&&([115,98]:List Int).contains l)=false:=by
          first
            | (have e1:u=46:=by simpa [e46] using h
               rw [e1]; rfl)
            | (have e2:([115,98]:List Int).contains l=false:=by rw [← Zcj]; exact Bool.not_eq_true _ ▸ h'
               rw [e2,Bool.and_false])
        refine ⟨_,rfl,_,rfl,rfl,_,rfl,Zbn (fun h=>⟨_,rfl,_,rfl,a2,_,rfl,.inl (SqL.of q2'),rfl,ZcX _,_,rfl,Zbn (fun h'=>?_) (fun h'=>?_)⟩) (fun h=>?_)⟩
        · have e1:(l != 46)=true:=by
            have:¬ l=46:=by simpa [e46] using h
            simpa using this
          have e2:([116,98]:List Int).contains u=true:=by rw [← Zcj]; exact h'
          have hb:Zc0 (u,l)=false:=by unfold Zc0; dsimp only; rw [e1,e2,hno]; rfl
          have k:=k _ ZkV
          rw [hfalse hb] at k
          exact k
        · have e2:([116,98]:List Int).contains u=false:=by rw [← Zcj]; exact Bool.not_eq_true _ ▸ h'
          refine ⟨_,_,rfl,hS.trans sT,fun j hj u' l' hu' hl'=>?_⟩
          rcases Nat.lt_succ_iff_lt_or_eq.mp hj with z | z
          · exact hv j z u' l' hu' hl'
          · subst z
            rw [hu] at hu'
            rw [hl] at hl'
            cases hu'
            cases hl'
            unfold Zc0
            dsimp only
            rw [hno,e2,Bool.and_false]
            rfl
        · have e1:l=46:=by simpa [e46] using h
          refine ⟨_,_,rfl,hS.trans sT,fun j hj u' l' hu' hl'=>?_⟩
          rcases Nat.lt_succ_iff_lt_or_eq.mp hj with z | z
          · exact hv j z u' l' hu' hl'
          · subst z
            rw [hu] at hu'
            rw [hl] at hl'
            cases hu'
            cases hl'
            unfold Zc0
            dsimp only
            rw [hno,e1]
            rfl
    · rintro i σ H4 hi ⟨v5,v6,rfl,hS,hv⟩
      have hall:Zf0 p=true:=by
        unfold Zf0
        refine List.all_eq_true.mpr fun ul hul=>?_
        obtain ⟨j,hj⟩:=List.mem_iff_getElem?.mp hul
        obtain ⟨g1,g2⟩:=List.getElem?_zip_eq_some.mp hj
        obtain ⟨z1,_⟩:=List.getElem?_eq_some_iff.mp g1
        obtain ⟨z2,_⟩:=List.getElem?_eq_some_iff.mp g2
        rw [List.length_map,List.length_map] at hi
        exact hv j (by lia) ul.1 ul.2 g1 g2
      have k:=k H4 (s3.trans hS)
      rw [hall] at k
      exact k
end
end Pr
namespace Pr
open PySem PySem.Spec PyProof.Rows L2 Pc
set_option maxHeartbeats 4000000
set_option maxRecDepth 100000
section
variable {P:Program} {w:World} {K:PySem.W.Frag} {mg:Str→Option Value} {base:Heap}
theorem Zn4 {n w:Nat} (h:0<n%w):1≤n:=by
 rcases Nat.eq_zero_or_pos n with e | e
 ·rw [e,Nat.zero_mod] at h; lia
 ·exact e
theorem Zn5 {n w d:Nat} (h:0<n / w%d):w≤n:=by
 apply Decidable.byContradiction
 intro z
 rw [Nat.div_eq_of_lt (by lia),Nat.zero_mod] at h
 lia
theorem Zn6 {n m:Nat} (h:0<n / m):m≤n:=by
 apply Decidable.byContradiction
 intro z
 rw [Nat.div_eq_of_lt (by lia)] at h
 lia
theorem ZcC (c:Prop) [Decidable c] (m:Nat):(if c then [m] else ([]:List Nat)).length≤1:=by
 by_cases h:c
 ·rw [if_pos h]; exact Nat.le_refl _
 ·rw [if_neg h]; exact Nat.zero_le _
theorem Zcs {a b:List Nat} {x y:Nat} (ha:a.length≤x) (hb:b.length≤y):(a++b).length≤x+y:=by rw [List.length_append]; lia
theorem scNear:FnScope ["part","at","layer","found"] ["part","at"] (Zad Zim):=⟨rfl,rfl,rfl,by decide +kernel,rfl,by decide +kernel,by decide +kernel⟩
theorem ZmM {f D fX fY fZ:Addr} {fd fdX fdY fdZ:FuncData} (F:Fun K "neighbours" "neighbours" Zim f fd) (TP:TxtP K mg D)
  (GX:FnOk P w K mg base CX0 1 fX fdX ["part","at"] (ZmH D)) (bX:Def K mg "x_of" fX fdX ["part","at"]) (GY:FnOk P w K mg base CX0 1 fY fdY ["part","at"] (ZmI D)) (bY:Def K mg "y_of" fY fdY ["part","at"]) (GZ:FnOk P w K mg base CX0 1 fZ fdZ ["part","at"] (ZmJ D)) (bZ:Def K mg "z_of" fZ fdZ ["part","at"]):
  FnOk P w K mg base CX0 2 f fd ["part","at"] (Zl3 D):=by
 refine F.ok scNear (fun vs H Q E h=>?_) (fun cdv A outer s H vs Q E hr h=>?_)
 ·obtain ⟨q,p,n,rfl,_⟩:=h
  rfl
 ·obtain ⟨q,p,n,rfl,hp,ok,hn,k⟩:=h
  obtain ⟨dx,l1,l2,hq,h1,h2⟩:=id hp
  refine ⟨_,Zab (Zat (i:=2) scNear.nd rfl (Or.inl rfl) (ZaG ZeB (Zam (pv 0) rfl) (Zam (pv 0) rfl))) <|
   Zab (Zat (i:=3) scNear.nd rfl (Or.inl rfl) (ZbA Zae)) <|
   Zab (Za6 (Zaz Zc9 (Zak GX (hr.mono (by decide)) rfl bX.mg bX.kp bX.bd .nil Zar (Zaa (pv 0) (Zaa (pv 1) Zae))) Zau (ZaE _)) (Zaf (ZaB (Zcv PySem.F.plainAttrs_list PySem.F.slot_list_append PySem.F.type_list_append ZaW (pv 3) (Zaa (ZaG Zbz (pv 1) Zau) Zae)))) ZaA) <|
   Zab (Za6 (Zaz ZfO (Zak GX (hr.mono (by decide)) rfl bX.mg bX.kp bX.bd .nil Zar (Zaa (pv 0) (Zaa (pv 1) Zae))) (ZaG Zbz (Zam (pv 0) rfl) Zau) (ZaE _)) (Zaf (ZaB (Zcv PySem.F.plainAttrs_list PySem.F.slot_list_append PySem.F.type_list_append ZaW (pv 3) (Zaa (ZaG ZbI (pv 1) Zau) Zae)))) ZaA) <|
   Zab (Za6 (Zaz Zc9 (Zak GY (hr.mono (by decide)) rfl bY.mg bY.kp bY.bd .nil Zar (Zaa (pv 0) (Zaa (pv 1) Zae))) Zau (ZaE _)) (Zaf (ZaB (Zcv PySem.F.plainAttrs_list PySem.F.slot_list_append PySem.F.type_list_append ZaW (pv 3) (Zaa (ZaG Zbz (pv 1) (Zam (pv 0) rfl)) Zae)))) ZaA) <|
   Zab (Za6 (Zaz ZfO (Zak GY (hr.mono (by decide)) rfl bY.mg bY.kp bY.bd .nil Zar (Zaa (pv 0) (Zaa (pv 1) Zae))) (ZaG Zbz (Zam (pv 0) rfl) Zau) (ZaE _)) (Zaf (ZaB (Zcv PySem.F.plainAttrs_list PySem.F.slot_list_append PySem.F.type_list_append ZaW (pv 3) (Zaa (ZaG ZbI (pv 1) (Zam (pv 0) rfl)) Zae)))) ZaA) <|
   Zab (Za6 (Zaz Zc9 (Zak GZ (hr.mono (by decide)) rfl bZ.mg bZ.kp bZ.bd .nil Zar (Zaa (pv 0) (Zaa (pv 1) Zae))) Zau (ZaE _)) (Zaf (ZaB (Zcv PySem.F.plainAttrs_list PySem.F.slot_list_append PySem.F.type_list_append ZaW (pv 3) (Zaa (ZaG Zbz (pv 1) (pv 2)) Zae)))) ZaA) <|
   Zab (Za6 (Zaz ZfO (Zak GZ (hr.mono (by decide)) rfl bZ.mg bZ.kp bZ.bd .nil Zar (Zaa (pv 0) (Zaa (pv 1) Zae))) (ZaG Zbz (Zam (pv 0) rfl) Zau) (ZaE _)) (Zaf (ZaB (Zcv PySem.F.plainAttrs_list PySem.F.slot_list_append PySem.F.type_list_append ZaW (pv 3) (Zaa (ZaG ZbI (pv 1) (pv 2)) Zae)))) ZaA) <|
   Zaf (Zav (pv 3)),?_⟩
  have hw2:=ok.w2
  refine ⟨_,rfl,q,D,dx,_,_,rfl,hq,TP.cl,TP.nW,Zia _ _ _ _ _,_,rfl,q,D,dx,_,_,rfl,hq,TP.cl,TP.nD,Zkx _ _ _ _ _,_,_,rfl,rfl,.inl ⟨by lia,by lia⟩,Nat.zero_le _,fun lf hf=>?_⟩
  have hS:Same H (upd H lf (.lst [])):=Zai hf
  have hl:(upd H lf (.lst [])) lf=some (.lst (Zan [])):=Zac
  have hlen0:([]:List Nat).length≤10:=by decide
  have hlen1:(if 0<n%p.w then [n-1] else []).length≤10:=Nat.le_trans (ZcC _ _) (by decide)
  have hlen2:((if 0<n%p.w then [n-1] else [])++(if n%p.w+1<p.w then [n+1] else [])).length≤10:=Nat.le_trans (Zcs (ZcC _ _) (ZcC _ _)) (by decide)
  have hlen3:(((if 0<n%p.w then [n-1] else [])++(if n%p.w+1<p.w then [n+1] else []))++(if 0<n / p.w%p.d then [n-p.w] else [])).length≤10:=Nat.le_trans (Zcs (Zcs (ZcC _ _) (ZcC _ _)) (ZcC _ _)) (by decide)
  have hlen4:((((if 0<n%p.w then [n-1] else [])++(if n%p.w+1<p.w then [n+1] else []))++(if 0<n / p.w%p.d then [n-p.w] else []))++(if n / p.w%p.d+1<p.d then [n+p.w] else [])).length≤10:=Nat.le_trans (Zcs (Zcs (Zcs (ZcC _ _) (ZcC _ _)) (ZcC _ _)) (ZcC _ _)) (by decide)
  have hlen5:(((((if 0<n%p.w then [n-1] else [])++(if n%p.w+1<p.w then [n+1] else []))++(if 0<n / p.w%p.d then [n-p.w] else []))++(if n / p.w%p.d+1<p.d then [n+p.w] else []))++(if 0<n / (p.w*p.d) then [n-p.w*p.d] else [])).length≤10:=Nat.le_trans (Zcs (Zcs (Zcs (Zcs (ZcC _ _) (ZcC _ _)) (ZcC _ _)) (ZcC _ _)) (ZcC _ _)) (by decide)
  generalize upd H lf (.lst [])=H1 at *
  dsimp only [ZdH,Zmd]
  refine ZeJ (fun σ H'=>σ=[some (.ref q),some (.int (n:Int)),some (.int ((p.w:Int)*(p.d:Int))),some (.ref lf)]∧Same H H'∧H' lf=some (.lst (Zan (if 0<n%p.w then [n-1] else [])))) (fun Dn hD=>?_) ?_
  ·refine ⟨_,rfl,_,rfl,q,p,n,rfl,hp.same hS,ok,_,_,rfl,rfl,_,rfl,Zbn (fun h=>?_) (fun h=>?_)⟩
   ·have hc:0<n%p.w:=by
     have:=of_decide_eq_true h
     lia
    refine ⟨_,rfl,.inl ⟨rfl,_,SqL.of hl⟩,_,rfl,_,_,rfl,rfl,lf,_,_,rfl,rfl,hl,?_,hD _ _ ⟨rfl,ZaO hS hf,?_⟩⟩
    ·exact Zev (m:=10) (by unfold Zan; rw [List.length_map]; exact hlen0) (by decide)
    ·have e:((n:Int)-1)=((n-1:Nat):Int):=by
      have:=Zn4 hc
      lia
     rw [Zac,if_pos hc]
     show some (HO.lst (Zan ([]:List Nat)++[V.int (((n:Int)-1))]))=_
     rw [e]
     unfold Zan
     simp
   ·have hc:¬ (0<n%p.w):=fun z=>h (decide_eq_true (by lia))
    refine hD _ _ ⟨rfl,hS,?_⟩
    rw [hl,if_neg hc]
    try simp
  rintro σ H2 ⟨rfl,hS,hl⟩
  dsimp only [ZdH,Zmd]
  refine ZeJ (fun σ H'=>σ=[some (.ref q),some (.int (n:Int)),some (.int ((p.w:Int)*(p.d:Int))),some (.ref lf)]∧Same H H'∧H' lf=some (.lst (Zan ((if 0<n%p.w then [n-1] else [])++(if n%p.w+1<p.w then [n+1] else []))))) (fun Dn hD=>?_) ?_
  ·refine ⟨_,rfl,_,rfl,q,p,n,rfl,hp.same hS,ok,_,rfl,q,D,dx,_,_,rfl,hS _ _ hq,TP.cl,TP.nW,Zia _ _ _ _ _,_,_,rfl,rfl,_,_,rfl,rfl,_,rfl,Zbn (fun h=>?_) (fun h=>?_)⟩
   ·have hc:n%p.w+1<p.w:=by
     have:=of_decide_eq_true h
     lia
    refine ⟨_,rfl,.inl ⟨rfl,_,SqL.of hl⟩,_,rfl,_,_,rfl,rfl,lf,_,_,rfl,rfl,hl,?_,hD _ _ ⟨rfl,ZaO hS hf,?_⟩⟩
    ·exact Zev (m:=10) (by unfold Zan; rw [List.length_map]; exact hlen1) (by decide)
    ·have e:((n:Int)+1)=((n+1:Nat):Int):=by
      lia
     rw [Zac,if_pos hc]
     show some (HO.lst (Zan (if 0<n%p.w then [n-1] else [])++[V.int (((n:Int)+1))]))=_
     rw [e]
     unfold Zan
     simp
   ·have hc:¬ (n%p.w+1<p.w):=fun z=>h (decide_eq_true (by lia))
    refine hD _ _ ⟨rfl,hS,?_⟩
    rw [hl,if_neg hc]
    try simp
  rintro σ H3 ⟨rfl,hS,hl⟩
  dsimp only [ZdH,Zmd]
  refine ZeJ (fun σ H'=>σ=[some (.ref q),some (.int (n:Int)),some (.int ((p.w:Int)*(p.d:Int))),some (.ref lf)]∧Same H H'∧H' lf=some (.lst (Zan (((if 0<n%p.w then [n-1] else [])++(if n%p.w+1<p.w then [n+1] else []))++(if 0<n / p.w%p.d then [n-p.w] else []))))) (fun Dn hD=>?_) ?_
  ·refine ⟨_,rfl,_,rfl,q,p,n,rfl,hp.same hS,ok,_,_,rfl,rfl,_,rfl,Zbn (fun h=>?_) (fun h=>?_)⟩
   ·have hc:0<n / p.w%p.d:=by
     have:=of_decide_eq_true h
     lia
    refine ⟨_,rfl,.inl ⟨rfl,_,SqL.of hl⟩,_,rfl,_,rfl,q,D,dx,_,_,rfl,hS _ _ hq,TP.cl,TP.nW,Zia _ _ _ _ _,_,_,rfl,rfl,lf,_,_,rfl,rfl,hl,?_,hD _ _ ⟨rfl,ZaO hS hf,?_⟩⟩
    ·exact Zev (m:=10) (by unfold Zan; rw [List.length_map]; exact hlen2) (by decide)
    ·have e:((n:Int)-(p.w:Int))=((n-p.w:Nat):Int):=by
      have:=Zn5 hc
      lia
     rw [Zac,if_pos hc]
     show some (HO.lst (Zan ((if 0<n%p.w then [n-1] else [])++(if n%p.w+1<p.w then [n+1] else []))++[V.int (((n:Int)-(p.w:Int)))]))=_
     rw [e]
     unfold Zan
     simp
   ·have hc:¬ (0<n / p.w%p.d):=fun z=>h (decide_eq_true (by lia))
    refine hD _ _ ⟨rfl,hS,?_⟩
    rw [hl,if_neg hc]
    try simp
  rintro σ H4 ⟨rfl,hS,hl⟩
  dsimp only [ZdH,Zmd]
  refine ZeJ (fun σ H'=>σ=[some (.ref q),some (.int (n:Int)),some (.int ((p.w:Int)*(p.d:Int))),some (.ref lf)]∧Same H H'∧H' lf=some (.lst (Zan ((((if 0<n%p.w then [n-1] else [])++(if n%p.w+1<p.w then [n+1] else []))++(if 0<n / p.w%p.d then [n-p.w] else []))++(if n / p.w%p.d+1<p.d then [n+p.w] else []))))) (fun Dn hD=>?_) ?_
  ·refine ⟨_,rfl,_,rfl,q,p,n,rfl,hp.same hS,ok,_,rfl,q,D,dx,_,_,rfl,hS _ _ hq,TP.cl,TP.nD,Zkx _ _ _ _ _,_,_,rfl,rfl,_,_,rfl,rfl,_,rfl,Zbn (fun h=>?_) (fun h=>?_)⟩
   ·have hc:n / p.w%p.d+1<p.d:=by
     have:=of_decide_eq_true h
     lia
    refine ⟨_,rfl,.inl ⟨rfl,_,SqL.of hl⟩,_,rfl,_,rfl,q,D,dx,_,_,rfl,hS _ _ hq,TP.cl,TP.nW,Zia _ _ _ _ _,_,_,rfl,rfl,lf,_,_,rfl,rfl,hl,?_,hD _ _ ⟨rfl,ZaO hS hf,?_⟩⟩
    ·exact Zev (m:=10) (by unfold Zan; rw [List.length_map]; exact hlen3) (by decide)
    ·have e:((n:Int)+(p.w:Int))=((n+p.w:Nat):Int):=by
      lia
     rw [Zac,if_pos hc]
     show some (HO.lst (Zan (((if 0<n%p.w then [n-1] else [])++(if n%p.w+1<p.w then [n+1] else []))++(if 0<n / p.w%p.d then [n-p.w] else []))++[V.int (((n:Int)+(p.w:Int)))]))=_
     rw [e]
     unfold Zan
     simp
   ·have hc:¬ (n / p.w%p.d+1<p.d):=fun z=>h (decide_eq_true (by lia))
    refine hD _ _ ⟨rfl,hS,?_⟩
    rw [hl,if_neg hc]
    try simp
  rintro σ H5 ⟨rfl,hS,hl⟩
  dsimp only [ZdH,Zmd]
  refine ZeJ (fun σ H'=>σ=[some (.ref q),some (.int (n:Int)),some (.int ((p.w:Int)*(p.d:Int))),some (.ref lf)]∧Same H H'∧H' lf=some (.lst (Zan (((((if 0<n%p.w then [n-1] else [])++(if n%p.w+1<p.w then [n+1] else []))++(if 0<n / p.w%p.d then [n-p.w] else []))++(if n / p.w%p.d+1<p.d then [n+p.w] else []))++(if 0<n / (p.w*p.d) then [n-p.w*p.d] else []))))) (fun Dn hD=>?_) ?_
  ·refine ⟨_,rfl,_,rfl,q,p,n,rfl,hp.same hS,ok,_,_,rfl,rfl,_,rfl,Zbn (fun h=>?_) (fun h=>?_)⟩
   ·have hc:0<n / (p.w*p.d):=by
     have:=of_decide_eq_true h
     lia
    refine ⟨_,rfl,.inl ⟨rfl,_,SqL.of hl⟩,_,rfl,_,rfl,_,_,rfl,rfl,lf,_,_,rfl,rfl,hl,?_,hD _ _ ⟨rfl,ZaO hS hf,?_⟩⟩
    ·exact Zev (m:=10) (by unfold Zan; rw [List.length_map]; exact hlen4) (by decide)
    ·have e:((n:Int)-(p.w:Int)*(p.d:Int))=((n-p.w*p.d:Nat):Int):=by
      have:=Zn6 hc
      rw [← Int.natCast_mul]
      lia
     rw [Zac,if_pos hc]
     show some (HO.lst (Zan ((((if 0<n%p.w then [n-1] else [])++(if n%p.w+1<p.w then [n+1] else []))++(if 0<n / p.w%p.d then [n-p.w] else []))++(if n / p.w%p.d+1<p.d then [n+p.w] else []))++[V.int (((n:Int)-(p.w:Int)*(p.d:Int)))]))=_
     rw [e]
     unfold Zan
     simp
   ·have hc:¬ (0<n / (p.w*p.d)):=fun z=>h (decide_eq_true (by lia))
    refine hD _ _ ⟨rfl,hS,?_⟩
    rw [hl,if_neg hc]
    try simp
  rintro σ H6 ⟨rfl,hS,hl⟩
  dsimp only [ZdH,Zmd]
  refine ZeJ (fun σ H'=>σ=[some (.ref q),some (.int (n:Int)),some (.int ((p.w:Int)*(p.d:Int))),some (.ref lf)]∧Same H H'∧H' lf=some (.lst (Zan ((((((if 0<n%p.w then [n-1] else [])++(if n%p.w+1<p.w then [n+1] else []))++(if 0<n / p.w%p.d then [n-p.w] else []))++(if n / p.w%p.d+1<p.d then [n+p.w] else []))++(if 0<n / (p.w*p.d) then [n-p.w*p.d] else []))++(if n / (p.w*p.d)+1<p.h then [n+p.w*p.d] else []))))) (fun Dn hD=>?_) ?_
  ·refine ⟨_,rfl,_,rfl,q,p,n,rfl,hp.same hS,ok,_,rfl,q,D,dx,_,_,rfl,hS _ _ hq,TP.cl,TP.nH,ZoW _ _ _ _ _,_,_,rfl,rfl,_,_,rfl,rfl,_,rfl,Zbn (fun h=>?_) (fun h=>?_)⟩
   ·have hc:n / (p.w*p.d)+1<p.h:=by
     have:=of_decide_eq_true h
     lia
    refine ⟨_,rfl,.inl ⟨rfl,_,SqL.of hl⟩,_,rfl,_,rfl,_,_,rfl,rfl,lf,_,_,rfl,rfl,hl,?_,hD _ _ ⟨rfl,ZaO hS hf,?_⟩⟩
    ·exact Zev (m:=10) (by unfold Zan; rw [List.length_map]; exact hlen5) (by decide)
    ·have e:((n:Int)+(p.w:Int)*(p.d:Int))=((n+p.w*p.d:Nat):Int):=by
      rw [← Int.natCast_mul]
      lia
     rw [Zac,if_pos hc]
     show some (HO.lst (Zan (((((if 0<n%p.w then [n-1] else [])++(if n%p.w+1<p.w then [n+1] else []))++(if 0<n / p.w%p.d then [n-p.w] else []))++(if n / p.w%p.d+1<p.d then [n+p.w] else []))++(if 0<n / (p.w*p.d) then [n-p.w*p.d] else []))++[V.int (((n:Int)+(p.w:Int)*(p.d:Int)))]))=_
     rw [e]
     unfold Zan
     simp
   ·have hc:¬ (n / (p.w*p.d)+1<p.h):=fun z=>h (decide_eq_true (by lia))
    refine hD _ _ ⟨rfl,hS,?_⟩
    rw [hl,if_neg hc]
    try simp
  rintro σ H7 ⟨rfl,hS,hl⟩
  exact ⟨_,rfl,k lf _ hS hf hl⟩
end
end Pr
namespace Pr
open PySem PySem.Spec PyProof.Rows L2 Pc
set_option maxHeartbeats 4000000
set_option maxRecDepth 100000
section
variable {P:Program} {w:World} {K:PySem.W.Frag} {mg:Str→Option Value} {base:Heap}
theorem scHang:FnScope ["part","cells","left","waiting","at","near"] ["part"] (Zad Zg3):=⟨rfl,rfl,rfl,by decide +kernel,rfl,by decide +kernel,by decide +kernel⟩
def gT:Nat→V:=fun _=>.bl true
theorem Zgb (p:PartM):(Zal p).Nodup:=by
 unfold Zal
 exact List.Pairwise.filter _ List.nodup_range
theorem ZmN {f C D fC fN:Addr} {fd fdC fdN:FuncData} (F:Fun K "hangs_together" "hangs_together" Zg3 f fd) (T:TxtR K mg C) (TP:TxtP K mg D) (GC:FnOk P w K mg base CX0 1 fC fdC ["part"] (Zg2 D)) (bC:Def K mg "cells_of" fC fdC ["part"])
  (GN:FnOk P w K mg base CX0 2 fN fdN ["part","at"] (Zl3 D)) (bN:Def K mg "neighbours" fN fdN ["part","at"]):FnOk P w K mg base CX0 3 f fd ["part"] (Zl4 D):=by
 refine F.ok scHang (fun vs H Q E h=>?_) (fun cdv A outer s H vs Q E hr h=>?_)
 ·obtain ⟨q,p,rfl,_⟩:=h
  rfl
 ·obtain ⟨q,p,rfl,hp,ok,k⟩:=h
  have hu:=ZgV hr
  refine ⟨_,Zab (Zat (i:=1) scHang.nd rfl (Or.inl rfl) (Zak GC (hr.mono (by decide)) rfl bC.mg bC.kp bC.bd .nil Zar (Zaa (pv 0) Zae))) <|
   Zab (Za6 (Zaz Zew (ZaH ZaC (by rfl) T.len PySem.boot_len (Zaa (pv 1) Zae)) Zau (ZaE _)) (Zaf (Zav ZcK)) ZaA) <|
   Zab (Zat (i:=2) scHang.nd rfl (Or.inl rfl) (ZiW (Zh6 rfl) (by rfl) TP.dict (by decide +kernel) (Zaa (ZfW rfl scHang.nd (Zbc (pv 1)) (Za4 (N:=["part","cells","left","waiting","at","near"]) (sc:=Zad Zg3) (own:=[("at",4)]) (by decide +kernel)) (fun s H Cc cl fp=>ZaS (i:=4) scHang.nd rfl (Or.inl rfl)) (fun s H Cc cl fp=>Zb7)
    (fun s H Cc cl fp=>ZeD (Zaa (pv 4) (Zaa ZcK Zae)))) Zae))) <|
   Zab (ZaB (Zht (pv 2) (ZbB Zbq (pv 1) Zau (fun _ _=>rfl)) ⟨rfl,rfl,rfl,rfl⟩)) <|
   Zab (Zat (i:=3) scHang.nd rfl (Or.inl rfl) (ZbA (Zaa (ZbB Zbq (pv 1) Zau (fun _ _=>rfl)) Zae))) <|
   Zab (Zcg PassesOwn.never (Zaz Zc9 (ZaH ZaC (by rfl) T.len PySem.boot_len (Zaa (pv 3) Zae)) Zau (ZaE _))
    (Zab (Zat (i:=4) scHang.nd rfl (Or.inl rfl) (Zi0 PySem.F.plainAttrs_list PySem.F.slot_list_pop PySem.F.type_list_pop ZlS (pv 3)))
    (Zaf (ZbO PassesOwn.never rfl (Zbc (Zak GN hr rfl bN.mg bN.kp bN.bd .nil Zar (Zaa (pv 0) (Zaa (pv 4) Zae)))) (ZaS (i:=5) scHang.nd rfl (Or.inl rfl))
     (Zaf (Za6 (ZfK (ZlU hu (pv 5) (pv 2))) (Zab (ZaB (Zht (pv 2) (pv 5) ⟨rfl,rfl,rfl,rfl⟩)) (Zaf (ZaB (Zcv PySem.F.plainAttrs_list PySem.F.slot_list_append PySem.F.type_list_append ZaW (pv 3) (Zaa (pv 5) Zae))))) ZaA)))))) <|
   Zaf (Zav (Zbl Zew (ZaH Zjf (by rfl) T.len PySem.boot_len (Zaa (pv 2) Zae)) Zau (ZaE _))),?_⟩
  have hcl:(Zal p).length≤4608:=Nat.le_trans (ZeG p) ok.small
  have hil:(Zan (Zal p)).length=(Zal p).length:=by unfold Zan; rw [List.length_map]
  refine ⟨_,rfl,q,p,rfl,hp,ok,fun lc H1 s1 _ hc=>?_⟩
  refine ⟨_,rfl,lc,_,rfl,.inl (SqL.of hc),rfl,_,rfl,Zbn (fun h=>?_) (fun h=>?_)⟩
  ·have h0:(Zal p).length=0:=by
    have:((Zan (Zal p)).length:Int)=0:=by simpa using h
    rw [hil] at this
    lia
   refine k false H1 s1 ?_
   have e:Zal p=[]:=List.length_eq_zero_iff.mp h0
   unfold Zd3
   rw [e]
   simp
  ·obtain ⟨c,r,ecr⟩:∃ c r,Zal p=c::r:=by
    cases e:Zal p with
    | nil=>exact absurd (by rw [e]; rfl) h
    | cons c r=>exact ⟨c,r,rfl⟩
   refine ⟨_,rfl,lc,rfl,⟨_,SqL.of hc⟩,fun D2 hD2=>Zbo (K:=K) (a:=lc) (xs:=Zan (Zal p)) (fun _=>true) (fun H i y=>∃ t,y=V.ref t∧H t=some (.tup [V.int (((Zal p).getD i 0:Nat):Int),.bl true])) hD2 (SqL.of hc) (Zev (m:=4608) (by rw [hil]; exact hcl) (by decide)) ?_ ?_ ?_⟩
   ·rintro Ha Hb i y ⟨ys,hys⟩ hK ⟨t,rfl,ht⟩
    exact ⟨t,rfl,hK _ _ ht (ZaF ht hys (by intro z; cases z))⟩
   ·rintro i x H' Y N hx hS _ hY _
    obtain ⟨n,hn,rfl⟩:=getElem?_intsN hx
    refine ⟨rfl,_,rfl,(by show 2≤sizeLine; decide),fun t ht=>hY rfl _ _ (Zai ht) ⟨t,rfl,?_⟩⟩
    rw [Zac,List.getD_eq_getElem?_getD,hn]
    rfl
   intro H2 ys hS2 hys hpr
   rw [ZcY,hil] at hpr
   obtain ⟨qs,rfl,hqs⟩:=ZbD hpr
   refine ⟨D2,qs,dOf gT (Zal p),rfl,SqL.of hys,?_,fun ld hld=>?_⟩
   ·have e:dOf gT (Zal p)=(List.range (Zal p).length).map fun i=>((Sum.inl (((Zal p).getD i 0:Nat):Int):Key),V.bl true):=(Zcl (fun n:Nat=>((Sum.inl (n:Int):Key),V.bl true)) 0 (Zal p)).symm
    rw [e]
    exact ZbY (R':=fun (p:Addr) (kv:Key×V)=>SqT K H2 p [kV kv.1,kv.2]) (f:=fun i=>((Sum.inl (((Zal p).getD i 0:Nat):Int):Key),V.bl true)) (fun a b h=>SqT.of h) hqs
   rw [show ZbJ [] (dOf gT (Zal p))=dOf gT (Zal p) from (Zf6 gT (Zal p) [] (by rw [List.nil_append]; exact Zgb p))]
   have sH2:Same H H2:=s1.trans hS2
   have fld:H ld=none:=sH2.free hld
   have hc2:(upd H2 ld (.dK (dOf gT (Zal p)))) lc=some (.lst (Zan (Zal p))):=by rw [Zag (Zao (hS2 _ _ hc) hld)]; exact hS2 _ _ hc
   have at0:atI (Zan (Zal p)) (((0:Nat):Int))=some (V.int (c:Int)):=Za7 (by rw [ecr]; rfl)
   have hcm:c∈Zal p:=by rw [ecr]; exact List.mem_cons_self
   refine ⟨_,rfl,ld,rfl,.inl ⟨_,.inl Zac⟩,_,rfl,lc,_,_,_,rfl,rfl,SqL.of hc2,at0,_,Sum.inl (c:Int),V.bl true,Zac,rfl,(by rw [Zbs,if_pos hcm]; rfl),?_⟩
   rw [Zf5,Zfk]
   have hc3:(upd H2 ld (.dK (dOf gT ((Zal p).filter fun z=>decide (z≠c))))) lc=some (.lst (Zan (Zal p))):=by rw [Zag (Zao (hS2 _ _ hc) hld)]; exact hS2 _ _ hc
   refine ⟨_,rfl,lc,_,_,_,rfl,rfl,SqL.of hc3,at0,(by show 1≤sizeLine; decide),fun lw hlw=>?_⟩
   generalize hL0:(Zal p).filter (fun z=>decide (z≠c))=L0 at *
   have sA:Same H (upd (upd H2 ld (.dK (dOf gT L0))) lw (.lst [V.int (c:Int)])):=(ZaO sH2 fld).trans (Zai hlw)
   have flw:H lw=none:=(ZaO sH2 fld).free hlw
   have nld:ld≠lw:=Zao Zac hlw
   have hA1:(upd (upd H2 ld (.dK (dOf gT L0))) lw (.lst [V.int (c:Int)])) ld=some (.dK (dOf gT L0)):=by rw [Zag nld]; exact Zac
   have hA2:(upd (upd H2 ld (.dK (dOf gT L0))) lw (.lst [V.int (c:Int)])) lw=some (.lst (Zan [c])):=Zac
   generalize upd (upd H2 ld (.dK (dOf gT L0))) lw (.lst [V.int (c:Int)])=H3 at *
   have hD0:Dfs p c L0 [c]:=by
    subst hL0
    refine ⟨(Zgb p).sublist List.filter_sublist,fun x hx=>(List.mem_filter.mp hx).1,hcm,fun z=>?_,fun x hx hn=>?_,fun x hx=>?_⟩
    ·have:=(List.mem_filter.mp z).2
     simp at this
    ·by_cases e:x=c
     ·rw [e]; exact .here
     ·exact absurd (List.mem_filter.mpr ⟨hx,by simpa using e⟩) hn
    ·rw [List.mem_singleton.mp hx]
     refine ⟨hcm,fun z=>?_⟩
     have:=(List.mem_filter.mp z).2
     simp at this
   have hDn0:Done p L0 [c] []:=by
    subst hL0
    intro x hx hn hw _
    by_cases e:x=c
    ·exact absurd (by rw [e]; exact List.mem_singleton_self _) hw
    ·exact absurd (List.mem_filter.mpr ⟨hx,by simpa using e⟩) hn
   have hlen0:2*L0.length+[c].length≤10000:=by
    have:L0.length≤(Zal p).length:=by rw [← hL0]; exact List.length_filter_le _ _
    show 2*L0.length+1≤10000
    lia
   refine ZbP (fun σ H4=>∃ (v4 v5:Option V) (L:List Nat),σ=[some (.ref q),some (.ref lc),some (.ref ld),some (.ref lw),v4,v5]∧Same H H4∧H4 ld=some (.dK (dOf gT L))∧(L=[]↔Zd3 p)) (fun Dw hDw=>?_) ?_
   ·refine ⟨fun m σ H4=>∃ (v4 v5:Option V) (L W:List Nat),σ=[some (.ref q),some (.ref lc),some (.ref ld),some (.ref lw),v4,v5]∧Same H H4∧H4 ld=some (.dK (dOf gT L))∧H4 lw=some (.lst (Zan W))∧Dfs p c L W∧Done p L W []∧2*L.length+W.length≤10000∧m=2*L.length+W.length,
     ⟨_,none,none,L0,[c],rfl,sA,hA1,hA2,hD0,hDn0,hlen0,rfl⟩,?_⟩
    rintro m σ H4 ⟨v4,v5,L,W,rfl,g1,g2,g3,g4,g5,g6,rfl⟩
    refine ⟨_,rfl,lw,_,rfl,.inl (SqL.of g3),_,_,rfl,rfl,_,rfl,Zbn (fun h=>?_) (fun h=>?_)⟩
    ·obtain ⟨W0,x,rfl⟩:∃ W0 x,W=W0++[x]:=by
      have hne:W≠[]:=fun z=>by
       rw [z] at h
       exact absurd (of_decide_eq_true h) (by simp [Zan])
      exact ⟨W.dropLast,W.getLast hne,(List.dropLast_concat_getLast hne).symm⟩
     have eW:Zan (W0++[x])=Zan W0++[V.int (x:Int)]:=by unfold Zan; rw [List.map_append]; rfl
     have hxw:=g4.wait x (by simp)
     have hlW:(W0++[x]).length=W0.length+1:=by rw [List.length_append]; rfl
     refine ⟨fun σ' H'=>∃ m',m'<2*L.length+(W0++[x]).length∧∃ (v4 v5:Option V) (L W:List Nat),σ'=[some (.ref q),some (.ref lc),some (.ref ld),some (.ref lw),v4,v5]∧Same H H'∧H' ld=some (.dK (dOf gT L))∧H' lw=some (.lst (Zan W))∧Dfs p c L W∧Done p L W []∧2*L.length+W.length≤10000∧m'=2*L.length+W.length,fun _ _ z=>z,?_⟩
     refine ⟨_,rfl,.inl ⟨rfl,_,SqL.of g3⟩,lw,_,V.int (x:Int),rfl,rfl,g3,?_,?_⟩
     ·rw [eW,List.length_append]
      show (Zan W0++[V.int (x:Int)])[(Zan W0).length+1-1]? = _
      rw [Nat.add_sub_cancel,List.getElem?_append_right (Nat.le_refl _),Nat.sub_self]
      rfl
     have ed:(Zan (W0++[x])).dropLast=Zan W0:=by rw [eW,List.dropLast_concat]
     rw [ed]
     have g1':Same H (upd H4 lw (.lst (Zan W0))):=ZaO g1 flw
     have nld2:ld≠lw:=ZaF g2 g3 (by intro z; cases z)
     have g2':(upd H4 lw (.lst (Zan W0))) ld=some (.dK (dOf gT L)):=by rw [Zag nld2]; exact g2
     have g3':(upd H4 lw (.lst (Zan W0))) lw=some (.lst (Zan W0)):=Zac
     generalize upd H4 lw (.lst (Zan W0))=H5 at *
     refine ⟨_,rfl,_,rfl,q,p,x,rfl,hp.same g1',ok,Zca hxw.1,fun ln H6 sN fN hN=>?_⟩
     refine ⟨ln,rfl,⟨_,SqL.of hN⟩,ZcN (K:=K) (a:=ln) (xs:=Zan (Zd2 p x))
      (fun i σ H7=>∃ (v5:Option V) (L' W':List Nat),σ=[some (.ref q),some (.ref lc),some (.ref ld),some (.ref lw),some (.int (x:Int)),v5]∧Same H H7∧H7 ln=some (.lst (Zan (Zd2 p x)))∧H7 ld=some (.dK (dOf gT L'))∧H7 lw=some (.lst (Zan W')) ∧
       Dfs p c L' W'∧Done p L' W' [x]∧x∉L'∧(∀ j,j<i→∀ y,(Zd2 p x)[j]? = some y→y∉L')∧2*L'.length+W'.length≤2*L.length+W0.length) ?_ ?_ ?_ ?_⟩
     ·refine ⟨_,L,W0,rfl,g1'.trans sN,hN,sN _ _ g2',sN _ _ g3',⟨g4.nd,g4.sub,g4.cin,g4.cout,g4.reach,fun z hz=>g4.wait z (List.mem_append_left _ hz)⟩,fun z hz hn hw ha=>g5 z hz hn (fun zz=>?_) (by simp),hxw.2,fun j hj=>absurd hj (Nat.not_lt_zero _),Nat.le_refl _⟩
      rcases List.mem_append.mp zz with e | e
      ·exact hw e
      ·exact ha e
     ·rintro i σ H7 _ ⟨v5,L',W',_,_,z,_⟩
      exact SqL.of z
     ·rintro i y σ H7 hi ⟨v5,L',W',rfl,a1,a2,a3,a4,a5,a6,a7,a8,a9⟩
      obtain ⟨n,hn,rfl⟩:=getElem?_intsN hi
      have hnm:n∈Zd2 p x:=List.mem_of_getElem? hn
      refine ⟨_,rfl,_,rfl,ld,_,rfl,DGet.k (k:=Sum.inl (n:Int)) a3,_,rfl,?_⟩
      rw [Zbs]
      by_cases hin:n∈L'
      ·rw [if_pos hin]
       refine Zh7 ?_
       refine ⟨_,rfl,ld,rfl,.inl ⟨_,.inl a3⟩,_,rfl,_,Sum.inl (n:Int),V.bl true,a3,rfl,(by rw [Zbs,if_pos hin]; rfl),?_⟩
       rw [Zf5]
       have nlw:lw≠ld:=ZaF a4 a3 (by intro z; cases z)
       have a4':(upd H7 ld (.dK (dOf gT (L'.filter fun z=>decide (z≠n))))) lw=some (.lst (Zan W')):=by rw [Zag nlw]; exact a4
       have hfl:=Zh9 a5.nd hin
       refine ⟨_,rfl,.inl ⟨rfl,_,SqL.of a4'⟩,_,rfl,lw,_,_,rfl,rfl,a4',?_,?_⟩
       ·unfold Zan
        rw [List.length_map]
        exact Zev (m:=10000) (by lia) (by decide)
       have nln:ln≠lw:=fun z=>by
        rw [z] at fN
        rw [g3'] at fN
        cases fN
       have nlnd:ln≠ld:=ZaF a2 a3 (by intro z; cases z)
       refine ⟨_,L'.filter (fun z=>decide (z≠n)),W'++[n],rfl,ZaO (ZaO a1 fld) flw,by rw [Zag nln,Zag nlnd]; exact a2,by rw [Zag nlw.symm]; exact Zac,?_,a5.move hxw.1 a7 hnm hin,a6.move,fun z=>a7 (List.mem_filter.mp z).1,fun j hj y hy z=>?_,?_⟩
       ·rw [Zac]
        unfold Zan
        rw [List.map_append]
        rfl
       ·rcases Nat.lt_succ_iff_lt_or_eq.mp hj with zz | zz
        ·exact a8 j zz y hy (List.mem_filter.mp z).1
        ·rw [zz,hn] at hy
         cases hy
         have:=(List.mem_filter.mp z).2
         simp at this
       ·rw [List.length_append]
        show 2*_+(W'.length+1)≤_
        lia
      ·rw [if_neg hin]
       refine Zjg ?_
       refine ⟨_,L',W',rfl,a1,a2,a3,a4,a5,a6,a7,fun j hj y hy=>?_,a9⟩
       rcases Nat.lt_succ_iff_lt_or_eq.mp hj with zz | zz
       ·exact a8 j zz y hy
       ·rw [zz,hn] at hy
        cases hy
        exact hin
     ·rintro σ H7 ⟨v5,L',W',rfl,a1,a2,a3,a4,a5,a6,a7,a8,a9⟩
      refine ⟨2*L'.length+W'.length,by lia,_,_,L',W',rfl,a1,a3,a4,a5,fun z hz hn hw _ y hy=>?_,by lia,rfl⟩
      by_cases e:z=x
      ·subst e
       obtain ⟨j,hj⟩:=List.mem_iff_getElem?.mp hy
       have hjl:j<(Zan (Zd2 p z)).length:=by
        unfold Zan
        rw [List.length_map]
        exact (List.getElem?_eq_some_iff.mp hj).1
       exact a8 j hjl y hj
      ·exact a6 z hz hn hw (by simpa using e) y hy
    ·have hW:W=[]:=by
      have:¬ (0:Int)<((Zan W).length:Nat):=fun z=>h (decide_eq_true z)
      unfold Zan at this
      rw [List.length_map] at this
      exact List.length_eq_zero_iff.mp (by lia)
     subst hW
     refine hDw _ _ ⟨v4,v5,L,rfl,g1,g2,?_⟩
     rw [Dfs.fin g4 g5]
     unfold Zd3
     rw [ecr]
   ·rintro σ H4 ⟨v4,v5,L,rfl,g1,g2,g3⟩
    refine ⟨_,rfl,ld,_,rfl,g2,rfl,k _ H4 g1 ?_⟩
    rw [← g3,ZgZ,decide_eq_true_eq]
    constructor
    ·intro z
     injection z with z
     exact List.length_eq_zero_iff.mp (by lia)
    ·intro z
     rw [z]
     rfl
end
end Pr
namespace Pr
open PySem PySem.Spec PyProof.Rows L2 Pc
set_option maxHeartbeats 4000000
set_option maxRecDepth 100000
abbrev Zdf:Stmt:=(top 31)
abbrev Zin:Stmt:=(top 32)
abbrev ZcD:Stmt:=(top 33)
abbrev Zdg:Stmt:=(top 35)
def ZhE (D:Addr):Sp:=fun vs H Q _=>∃ (q:Addr) (p:PartM),vs=[.ref q]∧PartAt D H q p∧PartOk p∧∀ (b:Bool) H',Same H H'→(b=true↔ZdB p)→Q (.bl b) H'
structure CatAt (D:Addr) (H:Hp) (l:Addr) (qs:List Addr) (ps:List PartM):Prop where
 lst:H l=some (.lst (qs.map V.ref))
 each:Paired (PartAt D H) qs ps
 ok:∀ p∈ps,PartOk p
 few:ps.length≤64
theorem CatAt.same {D:Addr} {H H':Hp} {l:Addr} {qs:List Addr} {ps:List PartM} (h:CatAt D H l qs ps) (s:Same H H'):CatAt D H' l qs ps:=
 ⟨s _ _ h.lst,ZaD (fun _ _ z=>z.same s) h.each,h.ok,h.few⟩
theorem CatAt.at_ {D:Addr} {H:Hp} {l:Addr} {qs:List Addr} {ps:List PartM} (h:CatAt D H l qs ps) {i:Nat} {y:V} (hy:(qs.map V.ref)[i]? = some y):∃ q,y=V.ref q∧qs[i]? = some q∧i<ps.length∧PartAt D H q (ps.getD i Zaj)∧PartOk (ps.getD i Zaj)∧ps[i]? = some (ps.getD i Zaj):=by
 rw [List.getElem?_map] at hy
 obtain ⟨q,h1,h2⟩:=Option.map_eq_some_iff.mp hy
 obtain ⟨p,h3,h4⟩:=Pc.paired_get h.each h1
 have e:ps.getD i Zaj=p:=by rw [List.getD_eq_getElem?_getD,h3]; rfl
 refine ⟨q,h2.symm,h1,(List.getElem?_eq_some_iff.mp h3).1,?_,?_,?_⟩
 ·rw [e]; exact h4
 ·rw [e]; exact h.ok p (List.mem_of_getElem? h3)
 ·rw [e]; exact h3
theorem CatAt.len {D:Addr} {H:Hp} {l:Addr} {qs:List Addr} {ps:List PartM} (h:CatAt D H l qs ps):qs.length=ps.length:=Paired.length h.each
def Zl5 (D:Addr):Sp:=fun vs H Q _=>∃ (l:Addr) (qs:List Addr) (ps:List PartM),vs=[.ref l]∧CatAt D H l qs ps∧∀ H',Same H H'→Q (.bl (Zfr ps)) H'
def ZhF (D:Addr):Sp:=fun vs H Q _=>∃ (l:Addr) (qs:List Addr) (ps:List PartM),vs=[.ref l]∧CatAt D H l qs ps∧∀ (b:Bool) H',Same H H'→(b=true↔ZbK ps)→Q (.bl b) H'
def ZhG (D:Addr):Sp:=fun vs H Q _=>∃ (l:Addr) (qs:List Addr) (ps:List PartM),vs=[.ref l]∧CatAt D H l qs ps∧∀ (a:Addr) (H':Hp),Same H H'→H a=none→H' a=some (.lst (Zan (ZaX ps)))→Q (.ref a) H'
section
variable {P:Program} {w:World} {K:PySem.W.Frag} {mg:Str→Option Value} {base:Heap}
theorem Zk7:FnScope ["part"] ["part"] (Zad Zdf):=⟨rfl,rfl,rfl,by decide +kernel,rfl,by decide +kernel,by decide +kernel⟩
theorem Zjx {f D fF fS fH:Addr} {fd fdF fdS fdH:FuncData} (F:Fun K "is_right_part" "is_right_part" Zdf f fd) (GF:FnOk P w K mg base CX0 2 fF fdF ["part"] (Zl2 D)) (bF:Def K mg "studs_and_tubes_are_free" fF fdF ["part"])
  (GS:FnOk P w K mg base CX0 2 fS fdS ["part"] (Zjv D)) (bS:Def K mg "reaches_all_sides" fS fdS ["part"]) (GH:FnOk P w K mg base CX0 3 fH fdH ["part"] (Zl4 D)) (bH:Def K mg "hangs_together" fH fdH ["part"]):
  FnOk P w K mg base CX0 4 f fd ["part"] (ZhE D):=by
 refine F.ok Zk7 (fun vs H Q E h=>?_) (fun cdv A outer s H vs Q E hr h=>?_)
 ·obtain ⟨q,p,rfl,_⟩:=h
  rfl
 ·obtain ⟨q,p,rfl,hp,ok,k⟩:=h
  refine ⟨_,Zaf (Zav (ZbN (Zak GF (hr.mono (by decide)) rfl bF.mg bF.kp bF.bd .nil Zar (Zaa (pv 0) Zae)) (ZbN (Zak GS (hr.mono (by decide)) rfl bS.mg bS.kp bS.bd .nil Zar (Zaa (pv 0) Zae)) (ZeA (Zak GH hr rfl bH.mg bH.kp bH.bd .nil Zar (Zaa (pv 0) Zae)))))),?_⟩
  refine ⟨_,rfl,q,p,rfl,hp,ok,fun H1 s1=>⟨_,rfl,Zbn (fun h=>?_) (fun h=>?_)⟩⟩
  ·refine ⟨_,rfl,q,p,rfl,hp.same s1,ok,fun H2 s2=>⟨_,rfl,Zbn (fun h'=>?_) (fun h'=>?_)⟩⟩
   ·refine ⟨_,rfl,q,p,rfl,hp.same (s1.trans s2),ok,fun b H3 s3 hb=>k b H3 (s1.trans (s2.trans s3)) ?_⟩
    rw [hb]
    unfold ZdB
    exact ⟨fun z=>⟨h,h',z⟩,fun z=>z.2.2⟩
   ·refine k _ H2 (s1.trans s2) ⟨fun z=>(by cases z),fun z=>absurd z.2.1 h'⟩
  ·exact k _ H1 s1 ⟨fun z=>(by cases z),fun z=>absurd z.1 h⟩
theorem scRise:FnScope ["parts","before","after"] ["parts"] (Zad Zin):=⟨rfl,rfl,rfl,by decide +kernel,rfl,by decide +kernel,by decide +kernel⟩
theorem ZmO {f D:Addr} {fd:FuncData} (F:Fun K "names_rise" "names_rise" Zin f fd) (TP:TxtP K mg D):FnOk P w K mg base CX0 1 f fd ["parts"] (Zl5 D):=by
 refine F.ok scRise (fun vs H Q E h=>?_) (fun cdv A outer s H vs Q E hr h=>?_)
 ·obtain ⟨l,qs,ps,rfl,_⟩:=h
  rfl
 ·obtain ⟨l,qs,ps,rfl,hc,k⟩:=h
  have hu:=ZgV hr
  refine ⟨_,Zab (ZbO PassesOwn.never rfl (ZlX rfl TP.zip (Zaa (pv 0) (Zaa (Zhp ZiZ (pv 0) (ZiY Zau) ZiX) Zae))) (ZcB (K:=K) (i:=1) (j:=2) rfl rfl scRise.nd rfl rfl rfl rfl)
    (Zaf (Za6 (Zaz (Le.op_leL (Nat.lt_of_succ_lt hu)) (Zam (pv 2) rfl) (Zam (pv 1) rfl) (ZaE _)) (Zaf (Zav ZcK)) ZaA))) <|
   Zaf (Zav ZcK),?_⟩
  refine ⟨_,rfl,_,rfl,_,rfl,l,_,rfl,SqL.of hc.lst,fun a3 ha3=>?_⟩
  rw [show (1:Int)=((1:Nat):Int) from rfl,ZhA,← List.map_drop]
  have s3:Same H (upd H a3 (.lst ((qs.drop 1).map V.ref))):=Zai ha3
  have q3:(upd H a3 (.lst ((qs.drop 1).map V.ref))) a3=some (.lst ((qs.drop 1).map V.ref)):=Zac
  generalize (upd H a3 (.lst ((qs.drop 1).map V.ref)))=H3 at *
  have hc3:=hc.same s3
  refine ⟨l,a3,_,_,rfl,SqL.of hc3.lst,SqL.of q3,Zjl (K:=K) (a:=l) (b:=a3) (xs:=qs.map V.ref) (ys:=(qs.drop 1).map V.ref)
   (fun i σ H4=>∃ v1 v2:Option V,σ=[some (.ref l),v1,v2]∧Same H3 H4∧∀ j,j<i→∀ u v,ps[j]? = some u→ps[j+1]? = some v→Le.lexLe v.name u.name=false) ?_ ?_ ?_ ?_⟩
  ·exact ⟨none,none,rfl,Same.refl _,fun j hj=>absurd hj (Nat.not_lt_zero _)⟩
  ·rintro i σ H4 _ _ ⟨v1,v2,_,hS,_⟩
   exact ⟨hS.seq (SqL.of hc3.lst),hS.seq (SqL.of q3)⟩
  ·rintro i x y Tt σ H4 hx hy ⟨v1,v2,rfl,hS,hv⟩ hT
   have sT:Same H3 (upd H4 Tt (.tup [x,y])):=hS.trans (Zai hT)
   have hc4:=hc3.same sT
   obtain ⟨q1,rfl,_,_,hp1,_,e1⟩:=hc4.at_ hx
   have hy':(qs.map V.ref)[i+1]? = some y:=by
    rw [List.map_drop,List.getElem?_drop] at hy
    rw [Nat.add_comm]
    exact hy
   obtain ⟨q2,rfl,_,_,hp2,_,e2⟩:=hc4.at_ hy'
   obtain ⟨dx,l1,l2,a1,a2,a3'⟩:=hp1
   obtain ⟨dy,m1,m2,b1,b2,b3⟩:=hp2
   refine ⟨Tt,_,rfl,SqT.of Zac,rfl,_,_,rfl,_,_,rfl,rfl,?_⟩
   refine ⟨_,rfl,q2,D,dy,_,_,rfl,b1,TP.cl,TP.nN,ZoV _ _ _ _ _,_,rfl,q1,D,dx,_,_,rfl,a1,TP.cl,TP.nN,ZoV _ _ _ _ _,m1,l1,_,_,rfl,rfl,SqL.of b2,SqL.of a2,_,rfl,Zbn (fun h=>?_) (fun h=>?_)⟩
   ·have hno:Zfr ps=false:=by
     unfold Zfr
     apply Bool.eq_false_iff.mpr
     intro ha
     have:=List.all_eq_true.mp ha (ps.getD i Zaj,ps.getD (i+1) Zaj) (Zjw e1 (by rw [List.getElem?_drop,Nat.add_comm]; exact e2))
     dsimp only at this
     rw [h] at this
     cases this
    have k:=k _ (s3.trans sT)
    rw [hno] at k
    exact k
   ·refine ⟨_,_,rfl,sT,fun j hj u v hu' hv'=>?_⟩
    rcases Nat.lt_succ_iff_lt_or_eq.mp hj with z | z
    ·exact hv j z u v hu' hv'
    ·subst z
     rw [e1] at hu'
     rw [e2] at hv'
     cases hu'
     cases hv'
     exact Bool.not_eq_true _ ▸ h
  ·rintro i σ H4 hi ⟨v1,v2,rfl,hS,hv⟩
   have hall:Zfr ps=true:=by
    unfold Zfr
    refine List.all_eq_true.mpr fun ul hul=>?_
    obtain ⟨j,hj⟩:=List.mem_iff_getElem?.mp hul
    obtain ⟨g1,g2⟩:=List.getElem?_zip_eq_some.mp hj
    rw [List.getElem?_drop,Nat.add_comm] at g2
    obtain ⟨z1,_⟩:=List.getElem?_eq_some_iff.mp g1
    obtain ⟨z2,_⟩:=List.getElem?_eq_some_iff.mp g2
    have hl:=hc.len
    rw [List.length_map,List.length_map,List.length_drop,hl] at hi
    rw [hv j (by lia) ul.1 ul.2 g1 g2]
    rfl
   have k:=k H4 (s3.trans hS)
   rw [hall] at k
   exact k
theorem scRightC:FnScope ["parts","part"] ["parts"] (Zad ZcD):=⟨rfl,rfl,rfl,by decide +kernel,rfl,by decide +kernel,by decide +kernel⟩
theorem Zjy {f D fR fP:Addr} {fd fdR fdP:FuncData} (F:Fun K "is_right_catalogue" "is_right_catalogue" ZcD f fd) (TP:TxtP K mg D) (GR:FnOk P w K mg base CX0 1 fR fdR ["parts"] (Zl5 D)) (bR:Def K mg "names_rise" fR fdR ["parts"])
  (GP:FnOk P w K mg base CX0 4 fP fdP ["part"] (ZhE D)) (bP:Def K mg "is_right_part" fP fdP ["part"]):FnOk P w K mg base CX0 5 f fd ["parts"] (ZhF D):=by
 refine F.ok scRightC (fun vs H Q E h=>?_) (fun cdv A outer s H vs Q E hr h=>?_)
 ·obtain ⟨l,qs,ps,rfl,_⟩:=h
  rfl
 ·obtain ⟨l,qs,ps,rfl,hc,k⟩:=h
  refine ⟨_,Zaf (Zav (ZbN (Zak GR (hr.mono (by decide)) rfl bR.mg bR.kp bR.bd .nil Zar (Zaa (pv 0) Zae)) (ZeA (ZaH (ZnD rfl) (by rfl) TP.all (by decide +kernel) (Zaa (ZfW rfl scRightC.nd (Zbc (pv 0)) (Za4 (N:=["parts","part"]) (sc:=Zad ZcD) (own:=[("part",1)]) (by decide +kernel)) (fun s H Cc cl fp=>ZaS (i:=1) scRightC.nd rfl (Or.inl rfl)) (fun s H Cc cl fp=>Zb7)
   (fun s H Cc cl fp=>Zak GP hr rfl bP.mg bP.kp bP.bd .nil Zar (Zaa (pv 1) Zae))) Zae))))),?_⟩
  refine ⟨_,rfl,l,qs,ps,rfl,hc,fun H1 s1=>⟨_,rfl,Zbn (fun h=>?_) (fun h=>?_)⟩⟩
  ·have hc1:=hc.same s1
   refine ⟨_,rfl,l,rfl,⟨_,SqL.of hc1.lst⟩,fun D2 hD2=>Zbo (K:=K) (a:=l) (xs:=qs.map V.ref) (fun _=>true) (fun _ i y=>∃ b:Bool,y=V.bl b∧(b=true↔ZdB (ps.getD i Zaj))) hD2 (SqL.of hc1.lst) (Zev (m:=64) (by rw [List.length_map,hc.len]; exact hc.few) (by decide)) (fun _ _ _ _ _ _ z=>z) ?_ ?_⟩
   ·rintro i x H' Y N hx hS _ hY _
    obtain ⟨q,rfl,_,_,hp,ok,_⟩:=(hc1.same hS).at_ hx
    exact ⟨rfl,_,rfl,q,_,rfl,hp,ok,fun b H4 s4 hb=>hY rfl _ _ s4 ⟨b,rfl,hb⟩⟩
   intro H2 ys hS2 hys hpr
   rw [ZcY,List.length_map,hc.len] at hpr
   obtain ⟨bs,rfl,hbs⟩:∃ bs:List Bool,ys=bs.map V.bl∧Paired (fun i b=>(b=true↔ZdB (ps.getD i Zaj))) (List.range ps.length) bs:=by
    clear hys
    generalize List.range ps.length=rs at hpr
    induction hpr with
    | nil=>exact ⟨[],rfl,.nil⟩
    | cons h r ih=>
     obtain ⟨b,rfl,hb⟩:=h
     obtain ⟨bs,rfl,hbs⟩:=ih
     exact ⟨b::bs,rfl,.cons hb hbs⟩
   refine ⟨D2,bs,rfl,SqL.of hys,k _ H2 (s1.trans hS2) ?_⟩
   unfold ZbK
   rw [List.all_eq_true]
   constructor
   ·intro z
    refine ⟨h,fun p hp=>?_⟩
    obtain ⟨i,hi⟩:=List.mem_iff_getElem?.mp hp
    have hlt:=(List.getElem?_eq_some_iff.mp hi).1
    obtain ⟨b,hb1,hb2⟩:=Pc.paired_get hbs (i:=i) (a:=i) (by rw [List.getElem?_range hlt])
    have e:ps.getD i Zaj=p:=by rw [List.getD_eq_getElem?_getD,hi]; rfl
    rw [e] at hb2
    exact hb2.mp (z b (List.mem_of_getElem? hb1))
   ·rintro ⟨_,z⟩ b hb
    obtain ⟨i,hi⟩:=List.mem_iff_getElem?.mp hb
    have hlen:=Paired.length hbs
    have hlt:=(List.getElem?_eq_some_iff.mp hi).1
    rw [← hlen,List.length_range] at hlt
    obtain ⟨b',hb1,hb2⟩:=Pc.paired_get hbs (i:=i) (a:=i) (by rw [List.getElem?_range hlt])
    rw [hi] at hb1
    cases hb1
    refine hb2.mpr (z _ ?_)
    rw [List.getD_eq_getElem?_getD,List.getElem?_eq_getElem hlt]
    exact List.getElem_mem hlt
  ·exact k _ H1 s1 ⟨fun z=>(by cases z),fun z=>absurd z.1 h⟩
theorem Zg4 (ps:List PartM) (i:Nat) (a b:Nat):∀ (n j:Nat),j≤n→j<i→Zcq (ps.getD j Zaj)=true→(ps.getD j Zaj).w=a→(ps.getD j Zaj).d=b→∃ m,m<i∧ZaK ps m=true∧(ps.getD m Zaj).w=a∧(ps.getD m Zaj).d=b:=by
 intro n
 induction n with
 | zero=>
  intro j hj hi h1 h2 h3
  have:j=0:=by lia
  subst this
  refine ⟨0,hi,?_,h2,h3⟩
  unfold ZaK
  rw [h1]
  rfl
 | succ n ih=>
  intro j hj hi h1 h2 h3
  by_cases hall:(List.range j).all (fun m=>!(Zcq (ps.getD m Zaj)&&((ps.getD m Zaj).w==(ps.getD j Zaj).w&&(ps.getD m Zaj).d==(ps.getD j Zaj).d)))=true
  ·refine ⟨j,hi,?_,h2,h3⟩
   unfold ZaK
   rw [h1,hall]
   rfl
  ·rw [Bool.not_eq_true,List.all_eq_false] at hall
   obtain ⟨m,hm,hq⟩:=hall
   rw [List.mem_range] at hm
   have hq:(Zcq (ps.getD m Zaj)&&((ps.getD m Zaj).w==(ps.getD j Zaj).w&&(ps.getD m Zaj).d==(ps.getD j Zaj).d))=true:=by simpa using hq
   obtain ⟨q1,q2⟩:=Bool.and_eq_true_iff.mp hq
   obtain ⟨q3,q4⟩:=Bool.and_eq_true_iff.mp q2
   have q3:(ps.getD m Zaj).w=(ps.getD j Zaj).w:=by simpa using q3
   have q4:(ps.getD m Zaj).d=(ps.getD j Zaj).d:=by simpa using q4
   exact ih m (by lia) (by lia) q1 (q3.trans h2) (q4.trans h3)
def szK (ps:List PartM) (j:Nat):List Key:=[Sum.inl ((ps.getD j Zaj).w:Int),Sum.inl ((ps.getD j Zaj).d:Int)]
def ZbR (ps:List PartM) (L:List Nat):List (List Key×V):=L.map fun j=>(szK ps j,V.bl true)
theorem szK_inj {ps:List PartM} {i j:Nat}:szK ps i=szK ps j↔(ps.getD i Zaj).w=(ps.getD j Zaj).w∧(ps.getD i Zaj).d=(ps.getD j Zaj).d:=by
 unfold szK
 constructor
 ·intro h
  injection h with h1 h2
  injection h2 with h2 _
  exact ⟨inl_inj.mp h1,inl_inj.mp h2⟩
 ·rintro ⟨h1,h2⟩
  rw [h1,h2]
theorem Zgc (ps:List PartM) (i:Nat):∀ (L:List Nat),(Zeu (ZbR ps L) (szK ps i)).isSome=L.any fun j=>decide (szK ps j=szK ps i)
 | []=>rfl
 | a::L=>by
  rw [List.any_cons]
  by_cases h:szK ps a=szK ps i
  ·have e:Zeu (ZbR ps (a::L)) (szK ps i)=some (V.bl true):=ZcS h
   rw [e,decide_eq_true h]
   rfl
  ·have e:Zeu (ZbR ps (a::L)) (szK ps i)=Zeu (ZbR ps L) (szK ps i):=ZcT h
   rw [e,decide_eq_false h,Bool.false_or,Zgc ps i L]
theorem Zjz (ps:List PartM) {i:Nat} {L:List Nat} (h:(L.any fun j=>decide (szK ps j=szK ps i))=false):ZdW (ZbR ps L) (szK ps i) (V.bl true)=ZbR ps (L++[i]):=by
 unfold ZdW
 rw [if_neg]
 ·unfold ZbR
  rw [List.map_append]
  rfl
 ·unfold ZbR
  rw [List.any_map]
  intro z
  have z:(L.any fun j=>decide (szK ps j=szK ps i))=true:=z
  rw [h] at z
  cases z
theorem Zio (ps:List PartM) (i:Nat):ZaK ps i=(Zcq (ps.getD i Zaj) && !(((List.range i).filter (ZaK ps)).any fun j=>decide (szK ps j=szK ps i))):=by
 have e:ZaK ps i=(Zcq (ps.getD i Zaj)&&(List.range i).all fun j=>!(Zcq (ps.getD j Zaj)&&((ps.getD j Zaj).w==(ps.getD i Zaj).w&&(ps.getD j Zaj).d==(ps.getD i Zaj).d))):=rfl
 rw [e]
 congr 1
 apply Bool.eq_iff_iff.mpr
 rw [List.all_eq_true,Bool.not_eq_true',List.any_eq_false]
 constructor
 ·intro h j hj hk
  obtain ⟨h1,h2⟩:=List.mem_filter.mp hj
  have:=h j h1
  obtain ⟨h3,h4⟩:=szK_inj.mp (of_decide_eq_true hk)
  unfold ZaK at h2
  have hf:=(Bool.and_eq_true_iff.mp h2).1
  rw [hf,h3,h4] at this
  simp at this
 ·intro h j hj
  rw [List.mem_range] at hj
  apply Decidable.byContradiction
  intro z
  have z:(Zcq (ps.getD j Zaj)&&((ps.getD j Zaj).w==(ps.getD i Zaj).w&&(ps.getD j Zaj).d==(ps.getD i Zaj).d))=true:=by simpa using z
  obtain ⟨q1,q2⟩:=Bool.and_eq_true_iff.mp z
  obtain ⟨q3,q4⟩:=Bool.and_eq_true_iff.mp q2
  obtain ⟨m,m1,m2,m3,m4⟩:=Zg4 ps i _ _ j j (Nat.le_refl _) hj q1 (by simpa using q3) (by simpa using q4)
  exact h m (List.mem_filter.mpr ⟨List.mem_range.mpr m1,m2⟩) (decide_eq_true (szK_inj.mpr ⟨m3,m4⟩))
theorem scPlates:FnScope ["parts","taken","numbers","number","part","size"] ["parts"] (Zad Zdg):=⟨rfl,rfl,rfl,by decide +kernel,rfl,by decide +kernel,by decide +kernel⟩
theorem ZjA {f D fF:Addr} {fd fdF:FuncData} (F:Fun K "plate_numbers" "plate_numbers" Zdg f fd) (TP:TxtP K mg D) (GF:FnOk P w K mg base CX0 1 fF fdF ["part"] (Zl1 D)) (bF:Def K mg "has_form_of_plate" fF fdF ["part"]):
  FnOk P w K mg base CX0 2 f fd ["parts"] (ZhG D):=by
 refine F.ok scPlates (fun vs H Q E h=>?_) (fun cdv A outer s H vs Q E hr h=>?_)
 ·obtain ⟨l,qs,ps,rfl,_⟩:=h
  rfl
 ·obtain ⟨l,qs,ps,rfl,hc,k⟩:=h
  have hu:=ZgV hr
  refine ⟨_,Zab (Zat (i:=1) scPlates.nd rfl (Or.inl rfl) ZkP) <|
   Zab (Zat (i:=2) scPlates.nd rfl (Or.inl rfl) (ZbA Zae)) <|
   Zab (ZbO PassesOwn.never rfl (Zjd rfl TP.enum (Zaa (pv 0) Zae)) (ZcB (K:=K) (i:=3) (j:=4) rfl rfl scPlates.nd rfl rfl rfl rfl)
    (Zab (Zat (i:=5) scPlates.nd rfl (Or.inl rfl) (ZeD (Zaa (Zam (pv 4) rfl) (Zaa (Zam (pv 4) rfl) Zae)))) <|
    (Zaf (Za6 (ZfL (Zcr (Zak GF hr (by rfl) bF.mg bF.kp bF.bd .nil Zar (Zaa (pv 4) Zae))) (ZdN (ZfK (ZdX hu (pv 5) (pv 1))))).pt
     (Zab (ZgU hu (pv 1) (pv 5) ZcK rfl) (Zaf (ZaB (Zcv PySem.F.plainAttrs_list PySem.F.slot_list_append PySem.F.type_list_append ZaW (pv 2) (Zaa (pv 3) Zae))))) ZaA)))) <|
   Zaf (Zav (pv 2)),?_⟩
  refine fun ld hld=>⟨Nat.zero_le _,fun ln hln=>?_⟩
  have s1:Same H (upd H ld (.dT [])):=Zai hld
  have fln:H ln=none:=s1.free hln
  have nld:ld≠ln:=Zao Zac hln
  have s2:Same H (upd (upd H ld (.dT [])) ln (.lst [])):=s1.trans (Zai hln)
  have g1:(upd (upd H ld (.dT [])) ln (.lst [])) ld=some (.dT (ZbR ps [])):=by rw [Zag nld]; exact Zac
  have g2:(upd (upd H ld (.dT [])) ln (.lst [])) ln=some (.lst (Zan [])):=Zac
  generalize (upd (upd H ld (.dT [])) ln (.lst []))=H2 at *
  refine ⟨_,rfl,l,_,rfl,SqL.of (hc.same s2).lst,ZkT (K:=K) (a:=l) (xs:=qs.map V.ref)
   (fun i σ H3=>∃ v3 v4 v5:Option V,σ=[some (.ref l),some (.ref ld),some (.ref ln),v3,v4,v5]∧Same H H3∧H3 ld=some (.dT (ZbR ps ((List.range i).filter (ZaK ps))))∧H3 ln=some (.lst (Zan ((List.range i).filter (ZaK ps))))) ?_ ?_ ?_ ?_⟩
  ·exact ⟨none,none,none,rfl,s2,g1,g2⟩
  ·rintro i σ H3 _ ⟨v3,v4,v5,_,hS,_⟩
   exact SqL.of (hc.same hS).lst
  ·rintro i x Tt σ H3 hx ⟨v3,v4,v5,rfl,hS,h1,h2⟩ hT
   have sT:Same H (upd H3 Tt (.tup [.int ((i:Nat):Int),x])):=hS.trans (Zai hT)
   have h1':(upd H3 Tt (.tup [.int ((i:Nat):Int),x])) ld=some (.dT (ZbR ps ((List.range i).filter (ZaK ps)))):=Zai hT _ _ h1
   have h2':(upd H3 Tt (.tup [.int ((i:Nat):Int),x])) ln=some (.lst (Zan ((List.range i).filter (ZaK ps)))):=Zai hT _ _ h2
   obtain ⟨q,rfl,_,hlt,hp,ok,_⟩:=(hc.same sT).at_ hx
   refine ⟨Tt,_,rfl,SqT.of Zac,rfl,_,_,rfl,_,_,rfl,rfl,?_⟩
   generalize (upd H3 Tt (.tup [.int ((i:Nat):Int),V.ref q]))=H4 at *
   obtain ⟨dx,l1,l2,a1,a2,a3⟩:=id hp
   refine ⟨_,rfl,q,D,dx,_,_,rfl,a1,TP.cl,TP.nW,Zia _ _ _ _ _,_,rfl,q,D,dx,_,_,rfl,a1,TP.cl,TP.nD,Zkx _ _ _ _ _,(by show 2≤sizeLine; decide),fun lt hlt2=>?_⟩
   have sU:Same H4 (upd H4 lt (.tup [V.int ((ps.getD i Zaj).w:Int),V.int ((ps.getD i Zaj).d:Int)])):=Zai hlt2
   have ht:(upd H4 lt (.tup [V.int ((ps.getD i Zaj).w:Int),V.int ((ps.getD i Zaj).d:Int)])) lt=some (.tup ((szK ps i).map kV)):=Zac
   have h1'':=sU _ _ h1'
   have h2'':=sU _ _ h2'
   have sV:=sT.trans sU
   have hp':=hp.same sU
   generalize (upd H4 lt (.tup [V.int ((ps.getD i Zaj).w:Int),V.int ((ps.getD i Zaj).d:Int)]))=H5 at *
   have hpl:=Zio ps i
   have hr1:(List.range (i+1)).filter (ZaK ps)=if ZaK ps i=true then (List.range i).filter (ZaK ps)++[i] else (List.range i).filter (ZaK ps):=by
    rw [List.range_succ,List.filter_append]
    by_cases hz:ZaK ps i=true
    ·rw [if_pos hz,List.filter_cons_of_pos hz]; rfl
    ·rw [if_neg hz,List.filter_cons_of_neg hz,List.filter_nil,List.append_nil]
   refine ⟨_,rfl,q,_,rfl,hp',ok,_,rfl,Zbn (fun hf=>?_) (fun hf=>?_)⟩
   ·refine ⟨_,rfl,_,rfl,ld,_,rfl,DGet.t (k:=szK ps i) h1'' ht,_,rfl,?_⟩
    rw [Zgc]
    rw [hf,Bool.true_and] at hpl
    by_cases hany:(((List.range i).filter (ZaK ps)).any fun j=>decide (szK ps j=szK ps i))=true
    ·rw [hany]
     rw [hany] at hpl
     refine Zjg ?_
     refine ⟨_,_,_,rfl,sV,?_,?_⟩
     ·rw [hr1,if_neg (by rw [hpl]; simp)]; exact h1''
     ·rw [hr1,if_neg (by rw [hpl]; simp)]; exact h2''
    ·rw [Bool.not_eq_true] at hany
     rw [hany]
     rw [hany] at hpl
     refine Zh7 ?_
     have nL:((List.range i).filter (ZaK ps)).length≤64:=Nat.le_trans (List.length_filter_le _ _) (by rw [List.length_range]; have:=hc.few; lia)
     refine ⟨_,rfl,_,rfl,ld,_,rfl,DPut.t (k:=szK ps i) h1'' ht (Zev (m:=64) (by unfold ZbR; rw [List.length_map]; exact nL) (by decide)),?_⟩
     rw [Zjz ps hany]
     have n1:ln≠ld:=ZaF h2'' h1'' (by intro z; cases z)
     have h3:(upd H5 ld (.dT (ZbR ps ((List.range i).filter (ZaK ps)++[i])))) ln=some (.lst (Zan ((List.range i).filter (ZaK ps)))):=by rw [Zag n1]; exact h2''
     refine ⟨_,rfl,.inl ⟨rfl,_,SqL.of h3⟩,_,rfl,ln,_,_,rfl,rfl,h3,Zev (m:=64) (by unfold Zan; rw [List.length_map]; exact nL) (by decide),?_⟩
     refine ⟨_,_,_,rfl,ZaO (ZaO sV hld) fln,?_,?_⟩
     ·rw [Zag n1.symm,Zac,hr1,if_pos (by rw [hpl]; rfl)]
     ·rw [Zac,hr1,if_pos (by rw [hpl]; rfl)]
      unfold Zan
      rw [List.map_append]
      rfl
   ·have hno:¬ ZaK ps i=true:=fun z=>by
     rw [hpl] at z
     exact hf (Bool.and_eq_true_iff.mp z).1
    refine ⟨_,_,_,rfl,sV,?_,?_⟩
    ·rw [hr1,if_neg hno]; exact h1''
    ·rw [hr1,if_neg hno]; exact h2''
  ·rintro σ H3 ⟨v3,v4,v5,rfl,hS,h1,h2⟩
   rw [List.length_map,hc.len] at h2
   exact ⟨_,rfl,k ln H3 hS fln h2⟩
end
end Pr
namespace Sm
open Pc Br
set_option maxHeartbeats 1000000
abbrev Res (α:Type):=Except Nat (α×(Nat×Bytes))
theorem ZaV {α β:Type} (x:Rd α) (f:α→Rd β) (s:Nat×Bytes):(x >>= f) s=match x s with
  | .ok (a,s')=>f a s'
  | .error e=>.error e:=by
 have e:(x >>= f) s=Except.bind (x s) (fun p=>f p.1 p.2):=rfl
 rw [e]
 cases x s with
 | error e=>rfl
 | ok p=>rfl
theorem Zbt (s:Nat×Bytes):peek s = .ok (s.2.head?,s):=rfl
theorem ZhH (s:Nat×Bytes):skip s = .ok ((),(s.1+1,s.2.drop 1)):=rfl
def byte (i:Int):UInt8:=UInt8.ofNat i.toNat
def InB (ns:List Int):Prop:=∀ x∈ns,0≤x∧x≤255
theorem byte_nat {i:Int} (h0:0≤i) (h1:i≤255):(byte i).toNat=i.toNat:=by
 unfold byte
 simp [UInt8.toNat_ofNat']
 lia
theorem byte_eq {i:Int} (h0:0≤i) (h1:i≤255) (c:UInt8):(byte i=c)↔i=(c.toNat:Int):=by
 constructor
 ·intro h
  have:=byte_nat h0 h1
  rw [h] at this
  lia
 ·intro h
  apply UInt8.toNat_inj.mp
  rw [byte_nat h0 h1]
  lia
theorem Zbi {ns:List Int} {n:Nat} (h:n<ns.length):(ns.map byte).drop n=byte (ns.getD n 0)::(ns.map byte).drop (n+1):=by
 have h':n<(ns.map byte).length:=by rw [List.length_map]; exact h
 rw [List.drop_eq_getElem_cons h',List.getElem_map,List.getD_eq_getElem?_getD,List.getElem?_eq_getElem h]
 rfl
theorem Zbj {ns:List Int} {n:Nat} (h:¬ n<ns.length):(ns.map byte).drop n=[]:=by
 rw [List.drop_eq_nil_iff,List.length_map]
 lia
theorem Zfx {ns:List Int} (hb:InB ns) {n:Nat} (h:n<ns.length):0≤ns.getD n 0∧ns.getD n 0≤255:=by
 rw [List.getD_eq_getElem?_getD,List.getElem?_eq_getElem h]
 exact hb _ (List.getElem_mem h)
def Sim {α:Type} (ns:List Int) (st':S) (res:Res α) (P:α→Prop):Prop:=match res with
 | .ok (a,s)=>st'.stuck=false∧s=(st'.pos,(ns.map byte).drop st'.pos)∧P a
 | .error i=>st'=⟨i,true⟩
structure Does {α:Type} (ns:List Int) (r:Rd α) (st st':S) (P:α→Prop):Prop where
 stay:st.stuck=true→st'=st
 go:st.stuck=false→Sim ns st' (r (st.pos,(ns.map byte).drop st.pos)) P
theorem Does.pure {α:Type} {ns:List Int} {st:S} {a:α} {P:α→Prop} (h:P a):Does ns (Pure.pure a) st st P:=⟨fun _=>rfl,fun hs=>⟨hs,rfl,h⟩⟩
theorem Does.bind {α β:Type} {ns:List Int} {r:Rd α} {f:α→Rd β} {st st1 st2:S} {P:α→Prop} {Q:β→Prop} (h1:Does ns r st st1 P) (hs:st1.stuck=true→st2=st1) (h2:∀ a,P a→Does ns (f a) st1 st2 Q):Does ns (r >>= f) st st2 Q:=by
 refine ⟨fun h=>?_,fun h=>?_⟩
 ·have e:=h1.stay h
  have e2:st1.stuck=true:=by rw [e]; exact h
  rw [hs e2,e]
 ·have g:=h1.go h
  rw [ZaV]
  cases e:r (st.pos,(ns.map byte).drop st.pos) with
  | error i=>
   rw [e] at g
   have g':st1=⟨i,true⟩:=g
   show st2=⟨i,true⟩
   rw [hs (by rw [g']),g']
  | ok p=>
   obtain ⟨a,s⟩:=p
   rw [e] at g
   obtain ⟨g1,g2,g3⟩:=g
   subst g2
   exact (h2 a g3).go g1
theorem Does.mono {α:Type} {ns:List Int} {r:Rd α} {st st':S} {P Q:α→Prop} (h:Does ns r st st' P) (k:∀ a,P a→Q a):Does ns r st st' Q:=by
 refine ⟨h.stay,fun hs=>?_⟩
 have g:=h.go hs
 cases e:r (st.pos,(ns.map byte).drop st.pos) with
 | error i=>
  rw [e] at g
  exact g
 | ok p=>
  rw [e] at g
  exact ⟨g.1,g.2.1,k _ g.2.2⟩
def one {α:Type} (ok:UInt8→Bool) (g:UInt8→α):Nat×Bytes→Res α:=fun s=>match s.2 with
 | []=>.error s.1
 | c::t=>if ok c=true then .ok (g c,(s.1+1,t)) else .error s.1
theorem ZhI {α:Type} {ns:List Int} (hb:InB ns) {r:Rd α} {ws:List Int} {ok:UInt8→Bool} {g:UInt8→α} (hr:∀ s,r s=one ok g s) (hok:∀ i,0≤i→i≤255→ok (byte i)=ws.contains i) (st:S):
  Does ns r st (tk ns ws st).2 (fun a=>a=g (byte (tk ns ws st).1)∧(tk ns ws st).1∈ws∧0≤(tk ns ws st).1∧(tk ns ws st).1≤255):=by
 refine ⟨fun h=>?_,fun h=>?_⟩
 ·have e:see ns ws st=false:=by unfold see has; rw [h]; rfl
  unfold tk
  rw [e]
  obtain ⟨p,q⟩:=st
  have h':q=true:=h
  subst h'
  rfl
 ·rw [hr]
  by_cases hl:st.pos<ns.length
  ·obtain ⟨b0,b1⟩:=Zfx hb hl
   have e:see ns ws st=ws.contains (ns.getD st.pos 0):=by
    unfold see has
    rw [h,decide_eq_true hl]
    simp
   unfold one
   dsimp only
   rw [Zbi hl]
   dsimp only
   rw [hok _ b0 b1]
   unfold tk
   rw [e]
   by_cases hc:ws.contains (ns.getD st.pos 0)=true
   ·rw [if_pos hc,if_pos hc]
    exact ⟨h,rfl,rfl,by simpa using hc,b0,b1⟩
   ·rw [if_neg hc,if_neg hc]
    rfl
  ·have e:see ns ws st=false:=by
    unfold see has
    rw [decide_eq_false hl]
    simp
   unfold one
   dsimp only
   rw [Zbj hl]
   unfold tk
   rw [e]
   rfl
theorem Zk8 (c:UInt8) (s:Nat×Bytes):byte_ c s=one (fun b=>b==c) (fun _=>()) s:=by
 obtain ⟨n,t⟩:=s
 unfold byte_ one
 rw [ZaV,Zbt]
 cases t with
 | nil=>rfl
 | cons b t=>
  dsimp only [List.head?_cons]
  by_cases h:b=c
  ·subst h
   rw [if_pos rfl,if_pos (by simp)]
   rfl
  ·rw [if_neg (by simpa using h),if_neg (by simpa using h)]
   rfl
theorem ZbS {ns:List Int} (hb:InB ns) (c:Int) (h0:0≤c) (h1:c≤255) (st:S):Does ns (byte_ (byte c)) st (tk ns [c] st).2 (fun _=>True):=by
 refine (ZhI hb (Zk8 (byte c)) (ws:=[c]) (fun i i0 i1=>?_) st).mono fun _ _=>trivial
 have e:(byte i=byte c)↔i=c:=by
  rw [byte_eq i0 i1,byte_nat h0 h1]
  lia
 by_cases h:i=c
 ·subst h
  simp
 ·have:¬ byte i=byte c:=fun q=>h (e.mp q)
  simp [this,h]
theorem Zg5 {ns ws:List Int} {st:S} (h:st.stuck=true):(tk ns ws st).2=st:=by
 have e:see ns ws st=false:=by unfold see has; rw [h]; rfl
 unfold tk
 rw [e]
 obtain ⟨p,q⟩:=st
 have h':q=true:=h
 subst h'
 rfl
theorem Zbb {ns:List Int}:∀ {cs:List Int} {st:S},st.stuck=true→tks ns cs st=st
 | [],_,_=>rfl
 | c::r,st,h=>by
  show tks ns r (tk ns [c] st).2=st
  rw [Zg5 h,Zbb h]
theorem Zdh {ns:List Int} (hb:InB ns):∀ (cs:List Int) (st:S),InB cs→Does ns (bytes_ (cs.map byte)) st (tks ns cs st) (fun _=>True)
 | [],st,_=>Does.pure trivial
 | c::r,st,h=>by
  have hc:=h c List.mem_cons_self
  show Does ns (byte_ (byte c) >>= fun _=>bytes_ (r.map byte)) st (tks ns r (tk ns [c] st).2) _
  exact (ZbS hb c hc.1 hc.2 st).bind (fun q=>Zbb q) fun _ _=>Zdh hb r _ fun x hx=>h x (List.mem_cons_of_mem _ hx)
theorem Zo5 {hi n:Nat}:leadsTo 1 hi n=decide (n≠0∧n≤hi):=by
 unfold leadsTo
 by_cases h:n=0
 ·rw [if_pos h]
  simp [h]
 ·rw [if_neg h]
  by_cases h2:n≤hi
  ·rw [decide_eq_true ⟨h,h2⟩]
   refine List.any_eq_true.mpr ⟨0,by simp,?_⟩
   simp
   lia
  ·rw [decide_eq_false (fun q=>h2 q.2)]
   refine List.any_eq_false.mpr fun k _=>?_
   have:n≤n*10^k:=Nat.le_mul_of_pos_right n (Nat.pow_pos (by decide))
   simp
   lia
def ZiI (v:Nat):Option Nat:=if v=0 then none else some v
theorem Zdi {i:Int} (h0:0≤i) (h1:i≤255):isDigit (byte i)=digs.contains i:=by
 have k:=(by decide +kernel:∀ n:Fin 256,isDigit (byte (Int.ofNat n.val))=digs.contains (Int.ofNat n.val)) ⟨i.toNat,by lia⟩
 rwa [show Int.ofNat i.toNat=i from Int.toNat_of_nonneg h0] at k
theorem Zdj {hi f v n:Nat} {t:Bytes} (hv:v≤hi):digits 1 hi (f+1) (ZiI v) (n,t)=match t with
  | []=>if v=0 then .error n else .ok (v,(n,t))
  | c::t'=>if isDigit c=true∧10*v+(c.toNat-48)≠0∧10*v+(c.toNat-48)≤hi then digits 1 hi f (some (10*v+(c.toNat-48))) (n+1,t') else if v=0 then .error n else .ok (v,(n,t)):=by
 have hgd:(ZiI v).getD 0=v:=by
  unfold ZiI
  by_cases h:v=0
  ·rw [if_pos h,h]; rfl
  ·rw [if_neg h]; rfl
 have hn0:¬ ZiI v=some 0:=by
  unfold ZiI
  by_cases h:v=0
  ·rw [if_pos h]; simp
  ·rw [if_neg h]; simpa using h
 have hend:∀ s:Nat×Bytes,(match ZiI v with
   | some n=>if 1≤n∧n≤hi then (Pure.pure n:Rd Nat) else stray
   | Option.none=>stray) s=if v=0 then .error s.1 else .ok (v,s):=by
  intro s
  unfold ZiI
  by_cases h:v=0
  ·rw [if_pos h,if_pos h]
   rfl
  ·rw [if_neg h,if_neg h]
   show (if 1≤v∧v≤hi then (Pure.pure v:Rd Nat) else stray) s=_
   rw [if_pos ⟨by lia,hv⟩]
   rfl
 conv=>lhs; unfold digits
 rw [ZaV,Zbt]
 dsimp only
 cases t with
 | nil=>exact hend _
 | cons c t'=>
  dsimp only [List.head?_cons,Option.bind_some]
  rw [hgd,Zo5]
  by_cases hd:isDigit c=true
  ·have hd':¬ (isDigit c=false∨ZiI v=some 0):=by
    rintro (q | q)
    ·rw [hd] at q; cases q
    ·exact hn0 q
   rw [if_neg hd']
   by_cases hc:10*v+(c.toNat-48)≠0∧10*v+(c.toNat-48)≤hi
   ·rw [if_pos (decide_eq_true hc),if_pos ⟨hd,hc⟩]
    rfl
   ·rw [if_neg (fun q=>hc (of_decide_eq_true q)),if_neg (fun q=>hc q.2)]
    exact hend _
  ·rw [if_pos (.inl (by simpa using hd)),if_neg (fun q=>hd q.1)]
   exact hend _
theorem Zip {ns:List Int} (hb:InB ns) {hi:Nat} (hhi:hi≤9999):∀ (k f v n:Nat),ns.length-n≤k→v≤hi→(f=20∧v=0∨f<20∧10^(19-f)≤v) →
  ∃ v' n':Nat,Zb8 ns hi false k v n=((v':Int),n')∧v'≤hi∧digits 1 hi f (ZiI v) (n,(ns.map byte).drop n)=if v'=0 then .error n' else .ok (v',(n',(ns.map byte).drop n')):=by
 intro k
 induction k with
 | zero=>
  intro f v n hk hv hf
  obtain ⟨f',rfl⟩:∃ f',f=f'+1:=by
   cases f with
   | zero=>
    rcases hf with ⟨q,_⟩ | ⟨_,q⟩
    ·cases q
    ·have:(10:Nat)^19=10000000000000000000:=by decide
     rw [this] at q
     lia
   | succ f=>exact ⟨f,rfl⟩
  refine ⟨v,n,rfl,hv,?_⟩
  rw [Zdj hv,Zbj (by lia)]
 | succ k ih=>
  intro f v n hk hv hf
  obtain ⟨f',rfl⟩:∃ f',f=f'+1:=by
   cases f with
   | zero=>
    rcases hf with ⟨q,_⟩ | ⟨_,q⟩
    ·cases q
    ·have:(10:Nat)^19=10000000000000000000:=by decide
     rw [this] at q
     lia
   | succ f=>exact ⟨f,rfl⟩
  unfold Zb8
  by_cases hl:n<ns.length
  ·obtain ⟨b0,b1⟩:=Zfx hb hl
   have e:see ns digs ⟨n,false⟩=digs.contains (ns.getD n 0):=by
    unfold see has
    rw [decide_eq_true (show (S.mk n false).pos<ns.length from hl)]
    simp
   rw [Zdj hv,Zbi hl,e]
   dsimp only
   rw [Zdi b0 b1,byte_nat b0 b1]
   by_cases hd:digs.contains (ns.getD n 0)=true
   ·have h48:48≤ns.getD n 0∧ns.getD n 0≤57:=by
     have hm:ns.getD n 0∈digs:=by simpa using hd
     unfold digs at hm
     simp only [List.mem_cons,List.not_mem_nil,or_false] at hm
     omega
    rw [if_pos hd]
    have ev:10*(v:Int)+ns.getD n 0-48=((10*v+((ns.getD n 0).toNat-48):Nat):Int):=by lia
    by_cases hc:10*v+((ns.getD n 0).toNat-48)≠0∧10*v+((ns.getD n 0).toNat-48)≤hi
    ·rw [if_neg (by rw [ev]; lia),if_pos ⟨hd,hc⟩,ev]
     have eo:some (10*v+((ns.getD n 0).toNat-48))=ZiI (10*v+((ns.getD n 0).toNat-48)):=by
      unfold ZiI
      rw [if_neg hc.1]
     rw [eo]
     refine ih f' _ (n+1) (by lia) hc.2 (.inr ?_)
     rcases hf with ⟨q,q2⟩ | ⟨q,q2⟩
     ·refine ⟨by lia,?_⟩
      have:19-f'=0:=by lia
      rw [this]
      have:=hc.1
      lia
     ·refine ⟨by lia,?_⟩
      have:19-f'=(19-(f'+1))+1:=by lia
      rw [this,Nat.pow_succ]
      lia
    ·rw [if_pos (by rw [ev]; lia),if_neg (fun q=>hc q.2)]
     exact ⟨v,n,rfl,hv,by rw [Zbi hl]⟩
   ·rw [if_neg hd,if_neg (fun q=>hd q.1)]
    exact ⟨v,n,rfl,hv,by rw [Zbi hl]⟩
  ·have e:see ns digs ⟨n,false⟩=false:=by
    unfold see has
    rw [decide_eq_false (show¬(S.mk n false).pos<ns.length from hl)]
    simp
   rw [e,if_neg (by simp),Zdj hv,Zbj hl]
   exact ⟨v,n,rfl,hv,by rw [Zbj hl]⟩
theorem Zg6 (ns:List Int) (g:Int):∀ (k:Nat) (v:Int) (n:Nat),Zb8 ns g true k v n=(v,n)
 | 0,_,_=>rfl
 | k+1,v,n=>by
  unfold Zb8
  have e:see ns digs ⟨n,true⟩=false:=rfl
  rw [e,if_neg (by simp)]
theorem ZcE {ns:List Int} {g:Int} {st:S} (h:st.stuck=true):(nm ns g st).2=st:=by
 unfold nm
 rw [h,Zg6]
 obtain ⟨p,q⟩:=st
 have h':q=true:=h
 subst h'
 rfl
theorem Zfy {ns:List Int} (hb:InB ns) {hi:Nat} (hhi:hi≤9999) (st:S):Does ns (num 1 hi) st (nm ns hi st).2 (fun a=>(nm ns hi st).1=(a:Int)∧1≤a∧a≤hi):=by
 refine ⟨ZcE,fun h=>?_⟩
 obtain ⟨v,n,e1,e2,e3⟩:=Zip hb hhi (ns.length-st.pos) 20 0 st.pos (Nat.le_refl _) (Nat.zero_le _) (.inl ⟨rfl,rfl⟩)
 have en:nm ns hi st=((v:Int),⟨n,decide (v=0)⟩):=by
  unfold nm
  rw [h]
  have e1':Zb8 ns hi false (ns.length-st.pos) 0 st.pos=((v:Int),n):=e1
  rw [e1']
  dsimp only
  rw [Bool.false_or,decide_eq_decide.mpr (show ((v:Int)=0)↔v=0 by lia)]
 rw [en]
 show Sim ns _ (digits 1 hi 20 (ZiI 0) _) _
 rw [e3]
 by_cases hv:v=0
 ·rw [if_pos hv,decide_eq_true hv]
  rfl
 ·rw [if_neg hv,decide_eq_false hv]
  exact ⟨rfl,rfl,rfl,by lia,e2⟩
def ZbH {β:Type} (f:S→β×S):Nat→S→List β×S
 | 0,st=>([],st)
 | k+1,st=>let t:=f st
  let r:=ZbH f k t.2
  (t.1::r.1,r.2)
theorem Zc1 {β:Type} {f:S→β×S} (hf:∀ st,st.stuck=true→(f st).2=st):∀ (k:Nat) {st:S},st.stuck=true→(ZbH f k st).2=st
 | 0,_,_=>rfl
 | k+1,st,h=>by
  show (ZbH f k (f st).2).2=st
  rw [hf st h,Zc1 hf k h]
theorem Zdk {α β:Type} {ns:List Int} {r:Rd α} {f:S→β×S} {g:β→α} {P:β→Prop} (hf:∀ st,Does ns r st (f st).2 (fun a=>a=g (f st).1∧P (f st).1)):∀ (k:Nat) (st:S),Does ns (times k r) st (ZbH f k st).2 (fun l=>l=(ZbH f k st).1.map g∧∀ b∈(ZbH f k st).1,P b)
 | 0,st=>Does.pure ⟨rfl,fun b hb=>absurd hb (by simp [ZbH])⟩
 | k+1,st=>by
  show Does ns (r >>= fun x=>times k r >>= fun l=>Pure.pure (x::l)) st (ZbH f k (f st).2).2 _
  refine (hf st).bind (fun q=>Zc1 (fun s hs=>(hf s).stay hs) k q) fun a ha=>?_
  refine (Zdk hf k (f st).2).bind (fun _=>rfl) fun l hl=>Does.pure ⟨?_,fun b hb=>?_⟩
  ·show a::l=g (f st).1::(ZbH f k (f st).2).1.map g
   rw [ha.1,hl.1]
  ·rcases List.mem_cons.mp hb with e | e
   ·rw [e]
    exact ha.2
   ·exact hl.2 b e
theorem Zeb {β:Type} (f:S→β×S):∀ (k:Nat) (st:S),ZbH f (k+1) st=((ZbH f k st).1++[(f (ZbH f k st).2).1],(f (ZbH f k st).2).2)
 | 0,st=>rfl
 | k+1,st=>by
  show ((f st).1::(ZbH f (k+1) (f st).2).1,(ZbH f (k+1) (f st).2).2)=_
  rw [Zeb f k (f st).2]
  rfl
theorem Zdl (ns ws:List Int):∀ (k:Nat) (st:S),cells ns ws k st=ZbH (tk ns ws) k st
 | 0,_=>rfl
 | k+1,st=>by
  rw [Zeb,← Zdl ns ws k st]
  rfl
theorem Zec (ns ws:List Int) (w:Nat):∀ (k:Nat) (st:S),Zb9 ns ws w k st=((ZbH (fun s=>((cells ns ws w s).1,tks ns [10] (cells ns ws w s).2)) k st).1.flatten,(ZbH (fun s=>((cells ns ws w s).1,tks ns [10] (cells ns ws w s).2)) k st).2)
 | 0,_=>rfl
 | k+1,st=>by
  rw [Zeb,List.flatten_append]
  show ((Zb9 ns ws w k st).1++(cells ns ws w (Zb9 ns ws w k st).2).1,tks ns [10] (cells ns ws w (Zb9 ns ws w k st).2).2)=_
  rw [Zec ns ws w k st]
  simp
theorem Zgd {α:Type} {ns:List Int} (hb:InB ns) {r:Rd α} {ws:List Int} {ok:UInt8→Bool} {g:UInt8→α} (hr:∀ s,r s=one ok g s) (hok:∀ i,0≤i→i≤255→ok (byte i)=ws.contains i) (w k:Nat) (st:S):
  Does ns (times k (times w r >>= fun l=>byte_ 10 >>= fun _=>Pure.pure l)) st (Zb9 ns ws w k st).2 (fun l=>l.flatten=(Zb9 ns ws w k st).1.map (fun i=>g (byte i))∧∀ i∈(Zb9 ns ws w k st).1,i∈ws∧0≤i∧i≤255):=by
 rw [Zec]
 have h1:∀ st,Does ns (times w r >>= fun l=>byte_ 10 >>= fun _=>Pure.pure l) st (tks ns [10] (cells ns ws w st).2) (fun l=>l=(cells ns ws w st).1.map (fun i=>g (byte i))∧∀ i∈(cells ns ws w st).1,i∈ws∧0≤i∧i≤255):=fun st=>by
  have h:=Zdk (g:=fun i=>g (byte i)) (P:=fun i=>i∈ws∧0≤i∧i≤255) (fun st=>ZhI hb hr hok st) w st
  rw [← Zdl] at h
  refine h.bind (fun q=>Zbb q) fun l hl=>?_
  exact (ZbS hb 10 (by decide) (by decide) _).bind (fun _=>rfl) fun _ _=>Does.pure hl
 refine (Zdk (g:=fun l:List Int=>l.map (fun i=>g (byte i))) (P:=fun l:List Int=>∀ i∈l,i∈ws∧0≤i∧i≤255) (f:=fun s=>((cells ns ws w s).1,tks ns [10] (cells ns ws w s).2)) (fun st=>h1 st) k st).mono fun l hl=>⟨?_,?_⟩
 ·rw [hl.1,List.map_flatten]
 ·intro i hi
  obtain ⟨l',h1,h2⟩:=List.mem_flatten.mp hi
  exact hl.2 l' h1 i h2
theorem Zge {ns ws:List Int} {w k:Nat} {st:S} (h:st.stuck=true):(Zb9 ns ws w k st).2=st:=by
 rw [Zec]
 refine Zc1 (fun s hs=>?_) k h
 show tks ns [10] (cells ns ws w s).2=s
 rw [Zdl,Zc1 (fun s hs=>Zg5 hs) w hs,Zbb hs]
theorem ZbZ {ns:List Int} {st:S} (h:st.stuck=true):fin ns st=st:=by
 unfold fin has
 rw [h]
 rfl
theorem Zfz {α:Type} {ns:List Int} (a:α) (st:S):Does ns (peek >>= fun e=>if e.isSome=true then stray else Pure.pure a) st (fin ns st) (fun b=>b=a):=by
 refine ⟨ZbZ,fun h=>?_⟩
 rw [ZaV,Zbt]
 dsimp only
 unfold fin has
 rw [h]
 by_cases hl:st.pos<ns.length
 ·rw [Zbi hl,decide_eq_true hl]
  rfl
 ·rw [Zbj hl,decide_eq_false hl]
  exact ⟨h,by rw [if_neg (by simp),Zbj hl],rfl⟩
end Sm
namespace Sm
open Pc Br
open PySem (Paired)
set_option maxHeartbeats 1000000
theorem ZeN {i:Int} (h0:0≤i) (h1:i≤255):isLow (byte i)=lets.contains i:=by
 have k:=(by decide +kernel:∀ n:Fin 256,isLow (byte (Int.ofNat n.val))=lets.contains (Int.ofNat n.val)) ⟨i.toNat,by lia⟩
 rwa [show Int.ofNat i.toNat=i from Int.toNat_of_nonneg h0] at k
theorem ZjB {i:Int} (h0:0≤i) (h1:i≤255):(isLow (byte i)||isDigit (byte i))=(lets++digs).contains i:=by
 rw [ZeN h0 h1,Zdi h0 h1]
 simp
theorem Zb0 {ns:List Int} {k:Nat} {st:S} (h:st.stuck=true):ZaI ns k st=([],st):=by
 cases k with
 | zero=>rfl
 | succ k=>
  have e:see ns (lets++digs) st=false:=by unfold see has; rw [h]; rfl
  unfold ZaI
  rw [e,if_neg (by simp)]
theorem Zl6 {ns ws:List Int} {st:S} (h:see ns ws st=true):tk ns ws st=(ns.getD st.pos 0,⟨st.pos+1,st.stuck⟩):=by unfold tk; rw [if_pos h]
theorem ZeO {ns:List Int} (hb:InB ns):∀ (k:Nat) (st:S),Does ns (while_ (fun c=>isLow c||isDigit c) k) st (ZaI ns k st).2 (fun a=>a=(ZaI ns k st).1.map byte∧(ZaI ns k st).1.length≤k∧∀ i∈(ZaI ns k st).1,i∈lets++digs)
 | 0,st=>Does.pure ⟨rfl,Nat.le_refl _,fun i hi=>absurd hi (by simp [ZaI])⟩
 | k+1,st=>by
  refine ⟨fun h=>by rw [Zb0 h],fun h=>?_⟩
  show Sim ns _ ((peek >>= fun c=>match c with
   | some c=>if (isLow c||isDigit c)=true then (do skip; let r ← while_ (fun c=>isLow c||isDigit c) k; return c::r) else return []
   | Option.none=>return []) _) _
  rw [ZaV,Zbt]
  dsimp only
  by_cases hl:st.pos<ns.length
  ·obtain ⟨b0,b1⟩:=Zfx hb hl
   have e:see ns (lets++digs) st=(lets++digs).contains (ns.getD st.pos 0):=by
    unfold see has
    rw [h,decide_eq_true hl]
    simp
   rw [Zbi hl]
   dsimp only [List.head?_cons]
   rw [ZjB b0 b1]
   by_cases hc:(lets++digs).contains (ns.getD st.pos 0)=true
   ·have hs:see ns (lets++digs) st=true:=by rw [e]; exact hc
    rw [if_pos hc]
    have e2:ZaI ns (k+1) st=(ns.getD st.pos 0::(ZaI ns k ⟨st.pos+1,st.stuck⟩).1,(ZaI ns k ⟨st.pos+1,st.stuck⟩).2):=by
     show (if see ns (lets++digs) st=true then _ else _)=_
     rw [if_pos hs,Zl6 hs]
    rw [e2]
    have ih:=ZeO hb k ⟨st.pos+1,st.stuck⟩
    have ih2:Does ns (while_ (fun c=>isLow c||isDigit c) k >>= fun r=>Pure.pure (byte (ns.getD st.pos 0)::r)) ⟨st.pos+1,st.stuck⟩ (ZaI ns k ⟨st.pos+1,st.stuck⟩).2 (fun a=>a=(ns.getD st.pos 0::(ZaI ns k ⟨st.pos+1,st.stuck⟩).1).map byte∧(ns.getD st.pos 0::(ZaI ns k ⟨st.pos+1,st.stuck⟩).1).length≤k+1∧∀ i∈(ns.getD st.pos 0::(ZaI ns k ⟨st.pos+1,st.stuck⟩).1),i∈lets++digs):=by
     refine ih.bind (fun _=>rfl) fun l hl=>Does.pure ⟨by rw [hl.1]; rfl,Nat.succ_le_succ hl.2.1,fun i hi=>?_⟩
     rcases List.mem_cons.mp hi with q | q
     ·rw [q]
      simpa using hc
     ·exact hl.2.2 i q
    exact ih2.go h
   ·have hs:see ns (lets++digs) st=false:=by rw [e]; simpa using hc
    have e2:ZaI ns (k+1) st=([],st):=by
     show (if see ns (lets++digs) st=true then _ else _)=_
     rw [if_neg (by rw [hs]; simp)]
    rw [if_neg hc,e2]
    exact ⟨h,by rw [Zbi hl],rfl,Nat.zero_le _,fun i hi=>absurd hi (by simp)⟩
  ·have hs:see ns (lets++digs) st=false:=by
    unfold see has
    rw [decide_eq_false hl]
    simp
   have e2:ZaI ns (k+1) st=([],st):=by
    show (if see ns (lets++digs) st=true then _ else _)=_
    rw [if_neg (by rw [hs]; simp)]
   rw [Zbj hl,e2]
   exact ⟨h,by rw [Zbj hl],rfl,Nat.zero_le _,fun i hi=>absurd hi (by simp)⟩
theorem ZeP {ns:List Int} {k:Nat} {st:S} (h:st.stuck=true):(Za8 ns k st).2=st:=by
 unfold Za8
 rw [Zg5 h,Zb0 h]
theorem ZeQ {ns:List Int} (hb:InB ns) (k:Nat) (st:S):Does ns (peek >>= fun c=>match c with
      | some c=>if isLow c=true then (skip >>= fun _=>while_ (fun c=>isLow c||isDigit c) k >>= fun r=>Pure.pure (c::r)) else stray
      | Option.none=>stray) st (Za8 ns (k+1) st).2 (fun a=>a=(Za8 ns (k+1) st).1.map byte∧(Za8 ns (k+1) st).1.length≤k+1∧(∀ i∈(Za8 ns (k+1) st).1,i∈lets++digs)∧∃ a r,(Za8 ns (k+1) st).1=a::r∧a∈lets):=by
  refine ⟨ZeP,fun h=>?_⟩
  rw [ZaV,Zbt]
  dsimp only
  by_cases hl:st.pos<ns.length
  · obtain ⟨b0,b1⟩:=Zfx hb hl
    have e:see ns lets st=lets.contains (ns.getD st.pos 0):=by
      unfold see has
      rw [h,decide_eq_true hl]
      simp
    rw [Zbi hl]
    dsimp only [List.head?_cons]
    rw [ZeN b0 b1]
    by_cases hc:lets.contains (ns.getD st.pos 0)=true
    · have hs:see ns lets st=true:=by rw [e]; exact hc
      rw [if_pos hc]
      have e2:Za8 ns (k+1) st=(ns.getD st.pos 0::(ZaI ns k ⟨st.pos+1,st.stuck⟩).1,(ZaI ns k ⟨st.pos+1,st.stuck⟩).2):=by
        unfold Za8
        rw [Zl6 hs]
        rfl
      rw [e2]
      have ih2:Does ns (while_ (fun c=>isLow c||isDigit c) k >>= fun r=>Pure.pure (byte (ns.getD st.pos 0)::r)) ⟨st.pos+1,st.stuck⟩ (ZaI ns k ⟨st.pos+1,st.stuck⟩).2 (fun a=>a=(ns.getD st.pos 0::(ZaI ns k ⟨st.pos+1,st.stuck⟩).1).map byte∧(ns.getD st.pos 0::(ZaI ns k ⟨st.pos+1,st.stuck⟩).1).length≤k+1∧(∀ i∈(ns.getD st.pos 0::(ZaI ns k ⟨st.pos+1,st.stuck⟩).1),i∈lets++digs)∧∃ a r,(ns.getD st.pos 0::(ZaI ns k ⟨st.pos+1,st.stuck⟩).1)=a::r∧a∈lets):=by
        refine (ZeO hb k ⟨st.pos+1,st.stuck⟩).bind (fun _=>rfl) fun l hl=>Does.pure ⟨by rw [hl.1]; rfl,Nat.succ_le_succ hl.2.1,fun i hi=>?_,_,_,rfl,by simpa using hc⟩
        rcases List.mem_cons.mp hi with q | q
        · rw [q]
          exact List.mem_append_left _ (by simpa using hc)
        · exact hl.2.2 i q
      exact ih2.go h
    · have hs:see ns lets st=false:=by rw [e]; simpa using hc
      rw [if_neg hc]
      have e2:(Za8 ns (k+1) st).2=⟨st.pos,true⟩:=by
        have e3:tk ns lets st=(0,⟨st.pos,true⟩):=by unfold tk; rw [if_neg (by rw [hs]; simp)]
        unfold Za8
        rw [e3]
        exact congrArg Prod.snd (Zb0 rfl)
      exact e2
  · have hs:see ns lets st=false:=by
      unfold see has
      rw [decide_eq_false hl]
      simp
    rw [Zbj hl]
    have e2:(Za8 ns (k+1) st).2=⟨st.pos,true⟩:=by
      have e3:tk ns lets st=(0,⟨st.pos,true⟩):=by unfold tk; rw [if_neg (by rw [hs]; simp)]
      unfold Za8
      rw [e3]
      exact congrArg Prod.snd (Zb0 rfl)
    exact e2
def ZjC (c:UInt8):Place:=(placeOf c).getD .none
theorem ZjD (s:Nat×Bytes):place_ s=one (fun c=>(placeOf c).isSome) ZjC s:=by
 obtain ⟨n,t⟩:=s
 unfold place_ one
 rw [ZaV,Zbt]
 cases t with
 | nil=>rfl
 | cons c t=>
  dsimp only [List.head?_cons,Option.bind_some]
  unfold ZjC
  rcases Option.eq_none_or_eq_some (placeOf c) with e | ⟨p,e⟩
  ·simp only [e]
   rfl
  ·simp only [e]
   rfl
theorem Zk9 (i:Int) (h0:0≤i) (h1:i≤255):((fun c=>(placeOf c).isSome):UInt8→Bool) (byte i)=psigns.contains i:=by
 dsimp only
 unfold placeOf
 have e:=fun c=>byte_eq h0 h1 c
 simp only [e]
 unfold psigns
 by_cases a:i=46
 ·subst a; decide
 ·by_cases b:i=35
  ·subst b; decide
  ·by_cases c:i=115
   ·subst c; decide
   ·by_cases d:i=116
    ·subst d; decide
    ·by_cases f:i=98
     ·subst f; decide
     ·rw [if_neg (by simpa using a),if_neg (by simpa using b),if_neg (by simpa using c),if_neg (by simpa using d),if_neg (by simpa using f)]
      simp [a,b,c,d,f]
structure PartIs (p:PartM) (P:Part):Prop where
 name:P.name=p.name.map byte
 nameIn:∀ i∈p.name,i∈lets++digs
 wide:P.wide=p.w
 deep:P.deep=p.d
 high:P.high=p.h
 w1:1≤p.w
 w2:p.w≤16
 d1:1≤p.d
 d2:p.d≤16
 h1:1≤p.h
 h2:p.h≤18
 places:P.places=p.places.map (fun i=>ZjC (byte i))
 each:∀ i∈p.places,i∈psigns
 len:p.places.length=p.d*p.h*p.w
 nlen:p.name.length≤8
 nfst:∃ a r,p.name=a::r∧a∈lets
theorem ZmP:part_=(bytes_ (ascii "part ") >>= fun _=>name_ >>= fun n=>(byte_ 32 >>= fun _=>num 1 16) >>= fun w=>(byte_ 32 >>= fun _=>num 1 16) >>= fun d=>(byte_ 32 >>= fun _=>num 1 18) >>= fun h=>(byte_ 32 >>= fun _=>num 1 9999) >>= fun g=>
  byte_ 10 >>= fun _=>times (d*h) (times w place_ >>= fun l=>byte_ 10 >>= fun _=>Pure.pure l) >>= fun l=>Pure.pure ⟨n,w,d,h,g,l.flatten⟩):=rfl
theorem Ziq:ascii "part "=([112,97,114,116,32]:List Int).map byte:=by decide +kernel
theorem Zbu {ns:List Int} (hb:InB ns) {hi:Nat} (hhi:hi≤9999) (st:S):Does ns (byte_ 32 >>= fun _=>num 1 hi) st (nm ns hi (tks ns [32] st)).2 (fun a=>(nm ns hi (tks ns [32] st)).1=(a:Int)∧1≤a∧a≤hi):=
 (ZbS hb 32 (by decide) (by decide) _).bind (fun q=>ZcE q) fun _ _=>Zfy hb hhi _
theorem Zcm {ns:List Int} {g:Int} {st:S} (h:st.stuck=true):(nm ns g (tks ns [32] st)).2=st:=by
 rw [Zbb h,ZcE h]
theorem Zgf {ns:List Int} (hb:InB ns) (st:S):Does ns part_ st (ZaU ns st).2 (PartIs (ZaU ns st).1):=by
 rw [ZmP]
 have ef:ZaU ns st=ZaU ns st:=rfl
 conv at ef=>rhs; unfold ZaU
 dsimp only at ef
 generalize hS1:tks ns [112,97,114,116,32] st=S1 at ef
 generalize hN:Za8 ns 8 S1=N at ef
 generalize hW:nm ns 16 (tks ns [32] N.2)=W at ef
 generalize hD:nm ns 16 (tks ns [32] W.2)=Dd at ef
 generalize hH:nm ns 18 (tks ns [32] Dd.2)=Hh at ef
 generalize hG:nm ns 9999 (tks ns [32] Hh.2)=G at ef
 rw [ef]
 dsimp only
 have r0:∀ {s:S},s.stuck=true→(Zb9 ns psigns W.1.toNat (Dd.1.toNat*Hh.1.toNat) s).2=s:=fun h=>Zge h
 have r1:G.2.stuck=true→(Zb9 ns psigns W.1.toNat (Dd.1.toNat*Hh.1.toNat) (tks ns [10] G.2)).2=G.2:=fun h=>by rw [r0 (by rw [Zbb h]; exact h),Zbb h]
 have g2:Hh.2.stuck=true→G.2=Hh.2:=fun h=>by rw [← hG]; exact Zcm h
 have r2:Hh.2.stuck=true→(Zb9 ns psigns W.1.toNat (Dd.1.toNat*Hh.1.toNat) (tks ns [10] G.2)).2=Hh.2:=fun h=>by rw [r1 (by rw [g2 h]; exact h),g2 h]
 have g3:Dd.2.stuck=true→Hh.2=Dd.2:=fun h=>by rw [← hH]; exact Zcm h
 have r3:Dd.2.stuck=true→(Zb9 ns psigns W.1.toNat (Dd.1.toNat*Hh.1.toNat) (tks ns [10] G.2)).2=Dd.2:=fun h=>by rw [r2 (by rw [g3 h]; exact h),g3 h]
 have g4:W.2.stuck=true→Dd.2=W.2:=fun h=>by rw [← hD]; exact Zcm h
 have r4:W.2.stuck=true→(Zb9 ns psigns W.1.toNat (Dd.1.toNat*Hh.1.toNat) (tks ns [10] G.2)).2=W.2:=fun h=>by rw [r3 (by rw [g4 h]; exact h),g4 h]
 have g5:N.2.stuck=true→W.2=N.2:=fun h=>by rw [← hW]; exact Zcm h
 have r5:N.2.stuck=true→(Zb9 ns psigns W.1.toNat (Dd.1.toNat*Hh.1.toNat) (tks ns [10] G.2)).2=N.2:=fun h=>by rw [r4 (by rw [g5 h]; exact h),g5 h]
 have g6:S1.stuck=true→N.2=S1:=fun h=>by rw [← hN]; exact ZeP h
 have r6:S1.stuck=true→(Zb9 ns psigns W.1.toNat (Dd.1.toNat*Hh.1.toNat) (tks ns [10] G.2)).2=S1:=fun h=>by rw [r5 (by rw [g6 h]; exact h),g6 h]
 rw [Ziq]
 have h0:=Zdh hb [112,97,114,116,32] st (by unfold InB; decide)
 rw [hS1] at h0
 refine h0.bind r6 fun _ _=>?_
 have h1:Does ns name_ S1 N.2 (fun a=>a=N.1.map byte∧N.1.length≤8∧(∀ i∈N.1,i∈lets++digs)∧∃ a r,N.1=a::r∧a∈lets):=by
  rw [← hN]
  exact ZeQ hb 7 S1
 refine h1.bind r5 fun n hn=>?_
 have h2:=Zbu hb (hi:=16) (by decide) N.2
 rw [show ((16:Nat):Int)=16 from rfl,hW] at h2
 refine h2.bind r4 fun w hw=>?_
 have h3:=Zbu hb (hi:=16) (by decide) W.2
 rw [show ((16:Nat):Int)=16 from rfl,hD] at h3
 refine h3.bind r3 fun d hd=>?_
 have h4:=Zbu hb (hi:=18) (by decide) Dd.2
 rw [show ((18:Nat):Int)=18 from rfl,hH] at h4
 refine h4.bind r2 fun h hh=>?_
 have h5:=Zbu hb (hi:=9999) (by decide) Hh.2
 rw [show ((9999:Nat):Int)=9999 from rfl,hG] at h5
 refine h5.bind r1 fun g _=>?_
 refine (ZbS hb 10 (by decide) (by decide) _).bind (fun q=>r0 q) fun _ _=>?_
 have ew:W.1.toNat=w:=by rw [hw.1,Int.toNat_natCast]
 have ed:Dd.1.toNat=d:=by rw [hd.1,Int.toNat_natCast]
 have eh:Hh.1.toNat=h:=by rw [hh.1,Int.toNat_natCast]
 rw [ew,ed,eh]
 refine (Zgd hb ZjD Zk9 w (d*h) _).bind (fun _=>rfl) fun l hl=>Does.pure ?_
 exact ⟨hn.1,hn.2.2.1,rfl,rfl,rfl,hw.2.1,hw.2.2,hd.2.1,hd.2.2,hh.2.1,hh.2.2,hl.1,fun i hi=>(hl.2 i hi).1,ZdI _ _ _ _ _,hn.2.1,hn.2.2.2⟩
theorem Zdm {ns:List Int} {k:Nat} {st:S} (h:st.stuck=true):Za1 ns k st=([],st):=by
 cases k with
 | zero=>rfl
 | succ k=>
  have e:has ns st=false:=by unfold has; rw [h]; rfl
  unfold Za1
  rw [e,if_neg (by simp)]
theorem ZeR {ns:List Int} (hb:InB ns):∀ (k:Nat) (st:S),Does ns (toEnd part_ k) st (fin ns (Za1 ns k st).2) (fun l=>Paired PartIs (Za1 ns k st).1 l)
 | 0,st=>by
  have h:=Zfz (ns:=ns) ([]:List Part) st
  exact h.mono fun l hl=>by rw [hl]; exact .nil
 | k+1,st=>by
  refine ⟨fun h=>by rw [Zdm h,ZbZ h],fun h=>?_⟩
  show Sim ns _ ((peek >>= fun c=>if c.isSome=true then (part_ >>= fun x=>toEnd part_ k >>= fun l=>Pure.pure (x::l)) else Pure.pure []) _) _
  rw [ZaV,Zbt]
  dsimp only
  by_cases hl:st.pos<ns.length
  ·have hs:has ns st=true:=by unfold has; rw [h,decide_eq_true hl]; rfl
   have e2:Za1 ns (k+1) st=((ZaU ns st).1::(Za1 ns k (ZaU ns st).2).1,(Za1 ns k (ZaU ns st).2).2):=by
    show (if has ns st=true then _ else _)=_
    rw [if_pos hs]
   rw [e2]
   have h1:Does ns (part_ >>= fun x=>toEnd part_ k >>= fun l=>Pure.pure (x::l)) st (fin ns (Za1 ns k (ZaU ns st).2).2) (fun l=>Paired PartIs ((ZaU ns st).1::(Za1 ns k (ZaU ns st).2).1) l):=by
    refine (Zgf hb st).bind (fun q=>by rw [Zdm q,ZbZ q]) fun x hx=>?_
    exact (ZeR hb k _).bind (fun _=>rfl) fun l hl=>Does.pure (.cons hx hl)
   have h2:=h1.go h
   rw [Zbi hl] at h2 ⊢
   exact h2
  ·have hs:has ns st=false:=by unfold has; rw [decide_eq_false hl]; simp
   have e2:Za1 ns (k+1) st=([],st):=by
    show (if has ns st=true then _ else _)=_
    rw [if_neg (by rw [hs]; simp)]
   have e3:fin ns st=st:=by unfold fin; rw [if_neg (by rw [hs]; simp)]
   rw [Zbj hl,e2,e3]
   exact ⟨h,by rw [Zbj hl],.nil⟩
theorem readC_is {ns:List Int} (hb:InB ns):(∃ c,readC (ns.map byte) = .ok c∧(Zbk ns ⟨0,false⟩).2.stuck=false∧Paired PartIs (Zbk ns ⟨0,false⟩).1 c)∨(∃ i,readC (ns.map byte) = .error i∧(Zbk ns ⟨0,false⟩).2=⟨i,true⟩):=by
 have h1:Does ns (part_ >>= fun p=>toEnd part_ 63 >>= fun l=>Pure.pure (p::l)) ⟨0,false⟩ (Zbk ns ⟨0,false⟩).2 (fun c=>Paired PartIs (Zbk ns ⟨0,false⟩).1 c):=by
  refine (Zgf hb _).bind (fun q=>?_) fun x hx=>?_
  ·show fin ns (Za1 ns 63 (ZaU ns ⟨0,false⟩).2).2=_
   rw [Zdm q,ZbZ q]
  ·exact (ZeR hb 63 _).bind (fun _=>rfl) fun l hl=>Does.pure (.cons hx hl)
 have h:=h1.go rfl
 show (∃ c,readAll (part_ >>= fun p=>toEnd part_ 63 >>= fun l=>Pure.pure (p::l)) (ns.map byte)=_∧_)∨(∃ i,readAll (part_ >>= fun p=>toEnd part_ 63 >>= fun l=>Pure.pure (p::l)) (ns.map byte)=_∧_)
 unfold readAll
 generalize hr:(part_ >>= fun p=>toEnd part_ 63 >>= fun l=>Pure.pure (p::l):Rd Catalogue)=r at h ⊢
 have h':Sim ns (Zbk ns ⟨0,false⟩).2 (r (0,ns.map byte)) (fun c=>Paired PartIs (Zbk ns ⟨0,false⟩).1 c):=h
 show (∃ F,(r (0,ns.map byte)).map _=_∧_)∨(∃ i,(r (0,ns.map byte)).map _=_∧_)
 cases e:r (0,ns.map byte) with
 | error i=>
  rw [e] at h'
  exact .inr ⟨i,rfl,h'⟩
 | ok p=>
  rw [e] at h'
  exact .inl ⟨p.1,rfl,h'.1,h'.2.2⟩
end Sm
namespace Cm
open Pc Br Sm
open PySem (Paired)
set_option maxHeartbeats 1000000
set_option linter.all false
theorem ZfA {α:Type} (f:Nat→α) (a b:Nat):(List.range (a+b)).map f=(List.range a).map f++(List.range b).map fun i=>f (a+i):=by
 rw [List.range_add,List.map_append,List.map_map]
 rfl
theorem Zdn {α:Type} (g:Nat→Nat→α) {b:Nat} (hb:0<b):∀ (a:Nat),((List.range a).flatMap fun z=>(List.range b).map (g z))=(List.range (a*b)).map fun i=>g (i / b) (i%b)
 | 0=>by rw [Nat.zero_mul]; rfl
 | a+1=>by
  rw [List.range_succ,List.flatMap_append,Zdn g hb a,Nat.succ_mul,ZfA]
  congr 1
  show (List.range b).map (g a)++[]=_
  rw [List.append_nil]
  refine List.map_congr_left fun i hi=>?_
  rw [List.mem_range] at hi
  rw [Nat.mul_comm a b,Nat.mul_add_div hb,Nat.mul_add_mod,Nat.div_eq_of_lt hi,Nat.mod_eq_of_lt hi]
  rfl
def crd (p:PartM) (i:Nat):Nat×Nat×Nat:=(i%p.w,i / p.w%p.d,i / (p.w*p.d))
def idx (p:PartM) (x y z:Nat):Nat:=(z*p.d+y)*p.w+x
theorem Zg7 {p:PartM} (ok:PartOk p) {x y z:Nat} (hx:x<p.w) (hy:y<p.d):crd p (idx p x y z)=(x,y,z):=by
 have hw:=ok.w1
 have hd:=ok.d1
 have e1:idx p x y z=p.w*(z*p.d+y)+x:=by unfold idx; rw [Nat.mul_comm]
 have e2:idx p x y z / p.w=z*p.d+y:=by rw [e1,Nat.mul_add_div (by lia),Nat.div_eq_of_lt hx]; rfl
 unfold crd
 rw [← Nat.div_div_eq_div_mul,e2]
 rw [show idx p x y z%p.w=x by rw [e1,Nat.mul_add_mod,Nat.mod_eq_of_lt hx]]
 rw [Nat.mul_comm z p.d,Nat.mul_add_mod,Nat.mod_eq_of_lt hy,Nat.mul_add_div (by lia),Nat.div_eq_of_lt hy]
 rfl
theorem ZcF {p:PartM} (i:Nat):idx p (i%p.w) (i / p.w%p.d) (i / (p.w*p.d))=i:=by
 unfold idx
 have e1:i / (p.w*p.d)*p.d+i / p.w%p.d=i / p.w:=by
  rw [← Nat.div_div_eq_div_mul,Nat.mul_comm]
  exact Nat.div_add_mod _ _
 rw [e1,Nat.mul_comm]
 exact Nat.div_add_mod _ _
theorem Zg8 {p:PartM} {i j:Nat} (h:crd p i=crd p j):i=j:=by
 unfold crd at h
 injection h with h1 h2
 injection h2 with h2 h3
 rw [← ZcF (p:=p) i,← ZcF (p:=p) j,h1,h2,h3]
theorem ZjE {p:PartM} (ok:PartOk p):p.places.length=p.h*(p.d*p.w):=by
 rw [ok.len,Nat.mul_comm p.d p.h,Nat.mul_assoc]
theorem ZdC {p:PartM} (ok:PartOk p) {i:Nat} (h:i<p.places.length):i%p.w<p.w∧i / p.w%p.d<p.d∧i / (p.w*p.d)<p.h:=by
 refine ⟨Nat.mod_lt _ ok.w1,Nat.mod_lt _ ok.d1,?_⟩
 rw [Nat.div_lt_iff_lt_mul (Nat.mul_pos ok.w1 ok.d1),Nat.mul_comm p.w p.d]
 rw [ZjE ok] at h
 exact h
theorem Zn7 {p:PartM} (ok:PartOk p) {x y z:Nat} (hx:x<p.w) (hy:y<p.d):idx p x y z<p.places.length↔z<p.h:=by
 have e:=Zg7 ok (z:=z) hx hy
 rw [ZjE ok,Nat.mul_comm p.d p.w,← Nat.div_lt_iff_lt_mul (Nat.mul_pos ok.w1 ok.d1)]
 have:idx p x y z / (p.w*p.d)=z:=by
  have:=congrArg (fun t=>t.2.2) e
  exact this
 rw [this]
theorem PartIs.ok {p:PartM} {P:Part} (h:PartIs p P):PartOk p:=⟨h.w1,h.w2,h.d1,h.d2,h.h1,h.h2,h.len⟩
def plc (p:PartM) (i:Nat):Place:=ZjC (byte (p.places.getD i 46))
theorem ZhJ {p:PartM} {i:Nat} (h:¬ i<p.places.length):plc p i = .none:=by
 unfold plc
 rw [List.getD_eq_getElem?_getD,List.getElem?_eq_none (by lia)]
 decide
theorem ZjF {p:PartM} {P:Part} (h:PartIs p P) (i:Nat):P.places.getD i .none=plc p i:=by
 unfold plc
 rw [h.places,List.getD_eq_getElem?_getD,List.getElem?_map,List.getD_eq_getElem?_getD]
 cases p.places[i]? with
 | none=>decide
 | some c=>rfl
theorem ZhK {p:PartM} {P:Part} (h:PartIs p P) {i:Nat}:p.places.getD i 46∈psigns:=by
 rw [List.getD_eq_getElem?_getD]
 cases e:p.places[i]? with
 | none=>decide
 | some c=>exact h.each c (List.mem_of_getElem? e)
theorem Zgg {c:Int} (h:c∈psigns):(ZjC (byte c)).isCell=(c != 46):=by
 unfold psigns at h
 simp only [List.mem_cons,List.not_mem_nil,or_false] at h
 rcases h with rfl | rfl | rfl | rfl | rfl<;>decide
theorem ZjG {c:Int} (h:c∈psigns):(ZjC (byte c)).stud=([115,98]:List Int).contains c:=by
 unfold psigns at h
 simp only [List.mem_cons,List.not_mem_nil,or_false] at h
 rcases h with rfl | rfl | rfl | rfl | rfl<;>decide
theorem ZjH {c:Int} (h:c∈psigns):(ZjC (byte c)).tube=([116,98]:List Int).contains c:=by
 unfold psigns at h
 simp only [List.mem_cons,List.not_mem_nil,or_false] at h
 rcases h with rfl | rfl | rfl | rfl | rfl<;>decide
theorem Zgh {c:Int} (h:c∈psigns):(ZjC (byte c)==Place.cell true true)=(98==c):=by
 unfold psigns at h
 simp only [List.mem_cons,List.not_mem_nil,or_false] at h
 rcases h with rfl | rfl | rfl | rfl | rfl<;>decide
theorem Zla {p:PartM} {P:Part} (h:PartIs p P):P.spots=(List.range p.places.length).map (crd p):=by
 have ok:=PartIs.ok h
 unfold Part.spots
 rw [h.high,h.deep,h.wide]
 have e1:∀ z:Nat,((List.range p.d).flatMap fun (y:Nat)=>(List.range p.w).map fun (x:Nat)=>(x,y,z))=(List.range (p.d*p.w)).map fun i=>(i%p.w,i / p.w,z):=fun z=>Zdn (fun y x=>(x,y,z)) ok.w1 p.d
 have e2:((List.range p.h).flatMap fun (z:Nat)=>(List.range p.d).flatMap fun (y:Nat)=>(List.range p.w).map fun (x:Nat)=>(x,y,z))=(List.range p.h).flatMap fun z=>(List.range (p.d*p.w)).map ((fun z i=>(i%p.w,i / p.w,z)) z):=by
  congr 1
  funext z
  exact e1 z
 rw [e2,Zdn _ (Nat.mul_pos ok.d1 ok.w1),ZjE ok]
 refine List.map_congr_left fun i _=>?_
 unfold crd
 rw [Nat.mod_mul_left_mod,Nat.mod_mul_left_div_self,Nat.mul_comm p.w p.d]
theorem ZjI {α β:Type} (g:Nat→α) (d:β):∀ (l:List β),((List.range l.length).map g).zip l=(List.range l.length).map fun i=>(g i,l.getD i d):=by
 intro l
 apply List.ext_getElem
 ·simp
 ·intro i h1 h2
  have hi:i<l.length:=by simpa using h2
  rw [List.getElem_zip,List.getElem_map,List.getElem_map,List.getElem_range,List.getD_eq_getElem?_getD,List.getElem?_eq_getElem hi]
  rfl
theorem ZeS {p:PartM} {P:Part} (h:PartIs p P):P.places.length=p.places.length:=by rw [h.places,List.length_map]
theorem Zg9 {p:PartM} {P:Part} (h:PartIs p P) (f:Place→Bool):P.such f=((List.range p.places.length).filter fun i=>f (plc p i)).map (crd p):=by
 unfold Part.such
 rw [Zla h,← ZeS h,ZjI (crd p) Place.none,List.filter_map,List.map_map,ZeS h]
 have:((fun (s:(Nat×Nat×Nat)×Place)=>f s.2)∘fun i=>(crd p i,P.places.getD i Place.none))=fun i=>f (plc p i):=by
  funext i
  show f (P.places.getD i Place.none)=_
  rw [ZjF h]
 rw [this]
 rfl
theorem ZfB {p:PartM} {P:Part} (h:PartIs p P):P.cells=(Zal p).map (crd p):=by
 unfold Part.cells Zal
 rw [Zg9 h]
 congr 1
 refine List.filter_congr fun i _=>?_
 unfold plc
 exact Zgg (ZhK h)
theorem Zbe {α:Type} (l:List Nat) (g:Nat→α) (f:α→Nat) (q:α→Bool) (k:Nat) (hq:∀ n∈l,q (g n)=(f (g n)==k)):(l.map g).any q=(l.map fun n=>f (g n)).contains k:=by
 rw [List.contains_eq_any_beq,List.any_map,List.any_map]
 apply Bool.eq_iff_iff.mpr
 rw [List.any_eq_true,List.any_eq_true]
 constructor
 ·rintro ⟨n,hn,e⟩
  refine ⟨n,hn,?_⟩
  have:=hq n hn
  have e':q (g n)=true:=e
  rw [e'] at this
  have:f (g n)=k:=by simpa using this.symm
  show (k==f (g n))=true
  simp [this]
 ·rintro ⟨n,hn,e⟩
  refine ⟨n,hn,?_⟩
  show q (g n)=true
  rw [hq n hn]
  have:k=f (g n):=by simpa using e
  simp [← this]
theorem Zlb {p:PartM} {P:Part} (h:PartIs p P):P.tight=Zf1 p:=by
 have ok:=PartIs.ok h
 unfold Part.tight Zf1 xsM ysM zsM
 dsimp only
 rw [ZfB h,h.wide,h.deep,h.high]
 have hw:=ok.w1
 have hd:=ok.d1
 have hh:=ok.h1
 rw [Zbe (Zal p) (crd p) (fun s=>s.1) _ 0 (fun n _=>rfl),Zbe (Zal p) (crd p) (fun s=>s.1) _ (p.w-1) (fun n _=>?_),
  Zbe (Zal p) (crd p) (fun s=>s.2.1) _ 0 (fun n _=>rfl),Zbe (Zal p) (crd p) (fun s=>s.2.1) _ (p.d-1) (fun n _=>?_),
  Zbe (Zal p) (crd p) (fun s=>s.2.2) _ 0 (fun n _=>rfl),Zbe (Zal p) (crd p) (fun s=>s.2.2) _ (p.h-1) (fun n _=>?_)]
 ·rfl
 ·apply Bool.eq_iff_iff.mpr
  simp only [beq_iff_eq]
  lia
 ·apply Bool.eq_iff_iff.mpr
  simp only [beq_iff_eq]
  lia
 ·apply Bool.eq_iff_iff.mpr
  simp only [beq_iff_eq]
  lia
theorem ZhL {p:PartM} {P:Part} (h:PartIs p P) {x y z:Nat} (hx:x<p.w) (hy:y<p.d):P.at_ x y z=plc p (idx p x y z):=by
 have ok:=PartIs.ok h
 unfold Part.at_
 rw [h.wide,h.deep,h.high]
 by_cases hz:z<p.h
 ·rw [if_pos ⟨hx,hy,hz⟩,ZjF h]
  rfl
 ·rw [if_neg (fun q=>hz q.2.2),ZhJ (fun q=>hz ((Zn7 ok hx hy).mp q))]
theorem Zed {p:PartM} (x y z:Nat):idx p x y (z+1)=idx p x y z+p.w*p.d:=by
 unfold idx
 rw [Nat.succ_mul,show z*p.d+p.d+y=z*p.d+y+p.d by lia,Nat.add_mul,Nat.mul_comm p.w p.d]
 lia
theorem Zn8 {p:PartM} (i:Nat):idx p (i%p.w) (i / p.w%p.d) (i / (p.w*p.d)+1)=i+p.w*p.d:=by rw [Zed,ZcF]
def Zlc (p:PartM):Prop:=(∀ i,i<p.places.length→(plc p i).stud=true→(plc p (i+p.w*p.d)).isCell=false)∧(∀ i,i+p.w*p.d<p.places.length→(plc p (i+p.w*p.d)).tube=true→(plc p i).isCell=false)
theorem ZjJ {p:PartM} {P:Part} (h:PartIs p P):P.studsOk=true∧P.tubesOk=true↔Zlc p:=by
 have ok:=PartIs.ok h
 unfold Part.studsOk Part.tubesOk Part.studs Part.tubes Zlc
 rw [Zg9 h,Zg9 h,List.all_map,List.all_map,List.all_eq_true,List.all_eq_true]
 refine and_congr ⟨fun q i hi hs=>?_,fun q i hi=>?_⟩ ⟨fun q i hi hs=>?_,fun q i hi=>?_⟩
 ·have:=q i (List.mem_filter.mpr ⟨List.mem_range.mpr hi,hs⟩)
  have this:(!(P.at_ (i%p.w) (i / p.w%p.d) (i / (p.w*p.d)+1)).isCell)=true:=this
  rw [ZhL h (ZdC ok hi).1 (ZdC ok hi).2.1,Zn8] at this
  simpa using this
 ·obtain ⟨h1,h2⟩:=List.mem_filter.mp hi
  rw [List.mem_range] at h1
  show (!(P.at_ (i%p.w) (i / p.w%p.d) (i / (p.w*p.d)+1)).isCell)=true
  rw [ZhL h (ZdC ok h1).1 (ZdC ok h1).2.1,Zn8,q i h1 h2]
  rfl
 ·have:=q (i+p.w*p.d) (List.mem_filter.mpr ⟨List.mem_range.mpr hi,hs⟩)
  have this:((i+p.w*p.d) / (p.w*p.d)==0 || !(P.at_ ((i+p.w*p.d)%p.w) ((i+p.w*p.d) / p.w%p.d) ((i+p.w*p.d) / (p.w*p.d)-1)).isCell)=true:=this
  have hpos:0<p.w*p.d:=Nat.mul_pos ok.w1 ok.d1
  have e1:(i+p.w*p.d) / (p.w*p.d)=i / (p.w*p.d)+1:=Nat.add_div_right _ hpos
  have e2:=ZdC ok hi
  rw [ZhL h e2.1 e2.2.1,e1,Nat.add_sub_cancel] at this
  have e3:idx p ((i+p.w*p.d)%p.w) ((i+p.w*p.d) / p.w%p.d) (i / (p.w*p.d))=i:=by
   have:=ZcF (p:=p) (i+p.w*p.d)
   rw [e1,Zed] at this
   lia
  rw [e3] at this
  simpa using this
 ·obtain ⟨h1,h2⟩:=List.mem_filter.mp hi
  rw [List.mem_range] at h1
  show (i / (p.w*p.d)==0 || !(P.at_ (i%p.w) (i / p.w%p.d) (i / (p.w*p.d)-1)).isCell)=true
  by_cases e:i / (p.w*p.d)=0
  ·rw [e]; rfl
  ·have hpos:0<p.w*p.d:=Nat.mul_pos ok.w1 ok.d1
   have e2:=ZdC ok h1
   rw [ZhL h e2.1 e2.2.1]
   obtain ⟨m,hm⟩:=Nat.exists_eq_add_one_of_ne_zero e
   have e3:=ZcF (p:=p) i
   rw [hm,Zed] at e3
   rw [hm,Nat.add_sub_cancel]
   have:=q (idx p (i%p.w) (i / p.w%p.d) m) (by rw [e3]; exact h1) (by rw [e3]; exact h2)
   rw [this]
   simp
theorem ZmQ {p:PartM} {P:Part} (h:PartIs p P):Zf0 p=true↔Zlc p:=by
 unfold Zf0 Zlc
 rw [List.all_eq_true]
 have hst:∀ i,(plc p i).stud=([115,98]:List Int).contains (p.places.getD i 46):=fun i=>ZjG (ZhK h)
 have htu:∀ i,(plc p i).tube=([116,98]:List Int).contains (p.places.getD i 46):=fun i=>ZjH (ZhK h)
 have hce:∀ i,(plc p i).isCell=(p.places.getD i 46 != 46):=fun i=>Zgg (ZhK h)
 have hg:∀ i (hi:i<p.places.length),p.places.getD i 46=p.places[i]:=fun i hi=>by rw [List.getD_eq_getElem?_getD,List.getElem?_eq_getElem hi]; rfl
 have hz:∀ q,q∈(p.places.drop (p.w*p.d)).zip p.places↔∃ i,i+p.w*p.d<p.places.length∧q=(p.places.getD (i+p.w*p.d) 46,p.places.getD i 46):=fun q=>by
  rw [List.mem_iff_getElem?]
  constructor
  ·rintro ⟨i,hi⟩
   obtain ⟨h1,h2⟩:=List.getElem?_zip_eq_some.mp hi
   rw [List.getElem?_drop] at h1
   obtain ⟨h3,h4⟩:=List.getElem?_eq_some_iff.mp h1
   obtain ⟨h5,h6⟩:=List.getElem?_eq_some_iff.mp h2
   refine ⟨i,by lia,?_⟩
   rw [hg i h5,hg (i+p.w*p.d) (by lia)]
   obtain ⟨a,b⟩:=q
   dsimp only at h4 h6
   rw [← h4,← h6]
   congr 2
   lia
  ·rintro ⟨i,hi,rfl⟩
   refine ⟨i,List.getElem?_zip_eq_some.mpr ⟨?_,?_⟩⟩
   ·rw [List.getElem?_drop,Nat.add_comm,List.getElem?_eq_getElem hi,hg _ hi]
   ·rw [List.getElem?_eq_getElem (by lia),hg i (by lia)]
 constructor
 ·intro q
  refine ⟨fun i hi hs=>?_,fun i hi hs=>?_⟩
  ·by_cases h2:i+p.w*p.d<p.places.length
   ·have:=q _ ((hz _).mpr ⟨i,h2,rfl⟩)
    have:=(Bool.and_eq_true_iff.mp this).1
    dsimp only at this
    rw [← hst i,hs,Bool.and_true] at this
    rw [hce]
    simpa using this
   ·rw [ZhJ h2]
    rfl
  ·have:=q _ ((hz _).mpr ⟨i,hi,rfl⟩)
   have:=(Bool.and_eq_true_iff.mp this).2
   dsimp only at this
   rw [← htu,hs,Bool.and_true] at this
   rw [hce]
   simpa using this
 ·rintro ⟨q1,q2⟩ x hx
  obtain ⟨i,hi,rfl⟩:=(hz x).mp hx
  have a1:=q1 i (by lia)
  have a2:=q2 i hi
  rw [hst,hce] at a1
  rw [htu,hce] at a2
  dsimp only
  generalize p.places.getD (i+p.w*p.d) 46=u at *
  generalize p.places.getD i 46=v at *
  cases e1:([115,98]:List Int).contains v<;>cases e2:([116,98]:List Int).contains u<;>simp_all
end Cm
namespace Cm
open Pc Br Sm
open PySem (Paired)
set_option maxHeartbeats 1000000
set_option linter.all false
abbrev Sp3:=Nat×Nat×Nat
inductive RB (cs:List Sp3) (c:Sp3):Sp3→Prop
 | here:RB cs c c
 | step {x y:Sp3}:RB cs c x→beside y x=true→y∈cs→RB cs c y
theorem Zee (cs:List Sp3) (c:Sp3):∀ (n:Nat) (l rest:List Sp3),(∀ x∈l,RB cs c x)→(∀ x∈rest,x∈cs)→apartFrom n l rest=[]→∀ x∈rest,RB cs c x
 | 0,l,rest,_,_,h,x,hx=>by
  have h:rest=[]:=h
  rw [h] at hx; cases hx
 | n+1,l,rest,hl,hr,h,x,hx=>by
  have h:(if (rest.partition fun c=>l.any (beside c)).1=[] then rest else apartFrom n (rest.partition fun c=>l.any (beside c)).1 (rest.partition fun c=>l.any (beside c)).2)=[]:=h
  rw [List.partition_eq_filter_filter] at h
  dsimp only at h
  by_cases e:rest.filter (fun c=>l.any (beside c))=[]
  ·rw [if_pos e] at h
   rw [h] at hx; cases hx
  ·rw [if_neg e] at h
   have h1:∀ y∈rest.filter (fun c=>l.any (beside c)),RB cs c y:=fun y hy=>by
    obtain ⟨a,b⟩:=List.mem_filter.mp hy
    obtain ⟨z,hz,hb⟩:=List.any_eq_true.mp b
    exact .step (hl z hz) hb (hr y a)
   by_cases hp:l.any (beside x)=true
   ·exact h1 x (List.mem_filter.mpr ⟨hx,hp⟩)
   ·refine Zee cs c n _ _ h1 (fun y hy=>hr y (List.mem_filter.mp hy).1) h x (List.mem_filter.mpr ⟨hx,?_⟩)
    simpa using hp
theorem ZdD:∀ (n:Nat) (l rest:List Sp3),rest.length≤n→(∀ x∈apartFrom n l rest,x∈rest)∧∀ x∈apartFrom n l rest,∀ y,(y∈l∨(y∈rest∧y∉apartFrom n l rest))→beside x y=false
 | 0,l,rest,h=>by
  have:rest=[]:=List.length_eq_zero_iff.mp (by lia)
  subst this
  exact ⟨fun x hx=>hx,fun x hx=>by cases hx⟩
 | n+1,l,rest,h=>by
  have e:apartFrom (n+1) l rest=if (rest.filter fun c=>l.any (beside c))=[] then rest else apartFrom n (rest.filter fun c=>l.any (beside c)) (rest.filter fun c=>!(l.any (beside c))):=by
   show (if (rest.partition fun c=>l.any (beside c)).1=[] then rest else apartFrom n (rest.partition fun c=>l.any (beside c)).1 (rest.partition fun c=>l.any (beside c)).2)=_
   rw [List.partition_eq_filter_filter]
   rfl
  rw [e]
  by_cases e2:(rest.filter fun c=>l.any (beside c))=[]
  ·rw [if_pos e2]
   refine ⟨fun x hx=>hx,fun x hx y hy=>?_⟩
   rcases hy with hy | ⟨h1,h2⟩
   ·have:=List.filter_eq_nil_iff.mp e2 x hx
    rw [List.any_eq_true] at this
    apply Bool.eq_false_iff.mpr
    intro q
    exact this ⟨y,hy,q⟩
   ·exact absurd h1 h2
  ·rw [if_neg e2]
   have hlen:(rest.filter fun c=>!(l.any (beside c))).length≤n:=by
    obtain ⟨a,ha⟩:=List.exists_mem_of_ne_nil _ e2
    obtain ⟨h1,h2⟩:=List.mem_filter.mp ha
    have:(rest.filter fun c=>!(l.any (beside c))).length<rest.length:=by
     apply Decidable.byContradiction
     intro q
     have hle:=List.length_filter_le (fun c=>!(l.any (beside c))) rest
     have hs:(rest.filter fun c=>!(l.any (beside c)))=rest:=List.Sublist.eq_of_length List.filter_sublist (by lia)
     rw [← hs] at h1
     have:=(List.mem_filter.mp h1).2
     rw [h2] at this
     cases this
    lia
   obtain ⟨c1,c2⟩:=ZdD n (rest.filter fun c=>l.any (beside c)) _ hlen
   refine ⟨fun x hx=>(List.mem_filter.mp (c1 x hx)).1,fun x hx y hy=>?_⟩
   rcases hy with hy | ⟨h1,h2⟩
   ·have:=(List.mem_filter.mp (c1 x hx)).2
    apply Bool.eq_false_iff.mpr
    intro q
    have:l.any (beside x)=false:=by simpa using this
    rw [List.any_eq_true.mpr ⟨y,hy,q⟩] at this
    cases this
   ·refine c2 x hx y ?_
    by_cases q:l.any (beside y)=true
    ·exact .inl (List.mem_filter.mpr ⟨h1,q⟩)
    ·exact .inr ⟨List.mem_filter.mpr ⟨h1,by simpa using q⟩,h2⟩
theorem Zld (P:Part) (hn:P.cells.Nodup):P.whole=true↔match P.cells with
  | []=>False
  | c::_=>∀ x∈P.cells,RB P.cells c x:=by
 unfold Part.whole
 cases e:P.cells with
 | nil=>simp
 | cons c r=>
  dsimp only
  rw [List.isEmpty_iff]
  rw [e] at hn
  have hc:c∉r:=(List.nodup_cons.mp hn).1
  constructor
  ·intro h x hx
   rcases List.mem_cons.mp hx with q | q
   ·rw [q]; exact .here
   ·exact Zee (c::r) c r.length [c] r (fun y hy=>by rw [List.mem_singleton.mp hy]; exact .here) (fun y hy=>List.mem_cons_of_mem _ hy) h x q
  ·intro h
   obtain ⟨c1,c2⟩:=ZdD r.length [c] r (Nat.le_refl _)
   have out:∀ x,RB (c::r) c x→x∈c::r∧x∉apartFrom r.length [c] r:=by
    intro x hx
    induction hx with
    | here=>exact ⟨List.mem_cons_self,fun q=>hc (c1 c q)⟩
    | @step x y _ hb hy ih=>
     refine ⟨hy,fun q=>?_⟩
     have:=c2 y q x (by
      rcases List.mem_cons.mp ih.1 with z | z
      ·exact .inl (by rw [z]; exact List.mem_singleton_self _)
      ·exact .inr ⟨z,ih.2⟩)
     rw [this] at hb
     cases hb
   cases e2:apartFrom r.length [c] r with
   | nil=>rfl
   | cons a t=>
    have ha:a∈apartFrom r.length [c] r:=by rw [e2]; exact List.mem_cons_self
    exact absurd ha (out a (h a (List.mem_cons_of_mem _ (c1 a ha)))).2
theorem Zle {p:PartM} (x y z:Nat):idx p (x+1) y z=idx p x y z+1:=rfl
theorem Zlf {p:PartM} (x y z:Nat):idx p x (y+1) z=idx p x y z+p.w:=by
 unfold idx
 rw [show z*p.d+(y+1)=z*p.d+y+1 by lia,Nat.succ_mul]
 lia
theorem ZjK {p:PartM} (ok:PartOk p) {i j:Nat} (hi:i<p.places.length) (hj:j<p.places.length):j∈Zd2 p i↔beside (crd p j) (crd p i)=true:=by
 obtain ⟨a1,a2,a3⟩:=ZdC ok hi
 obtain ⟨b1,b2,b3⟩:=ZdC ok hj
 have ei:=ZcF (p:=p) i
 have ej:=ZcF (p:=p) j
 unfold Zd2 beside crd
 dsimp only
 generalize i%p.w=x at *
 generalize i / p.w%p.d=y at *
 generalize i / (p.w*p.d)=z at *
 generalize j%p.w=x' at *
 generalize j / p.w%p.d=y' at *
 generalize j / (p.w*p.d)=z' at *
 rw [beq_iff_eq]
 simp only [List.mem_append]
 have m:∀ (q:Prop) [Decidable q] (k:Nat),j∈(if q then [k] else [])↔q∧j=k:=fun q _ k=>by
  by_cases hq:q
  ·rw [if_pos hq]; simp [hq]
  ·rw [if_neg hq]; simp [hq]
 simp only [m]
 have hidx:∀ u v t,u<p.w→v<p.d→(j=idx p u v t↔x'=u∧y'=v∧z'=t):=fun u v t hu hv=>by
  constructor
  ·intro e
   have h1:=Zg7 ok (z:=z') b1 b2
   rw [ej,e,Zg7 ok hu hv] at h1
   injection h1 with h1 h2
   injection h2 with h2 h3
   exact ⟨h1.symm,h2.symm,h3.symm⟩
  ·rintro ⟨rfl,rfl,rfl⟩
   exact ej.symm
 constructor
 ·rintro (((((⟨q,e⟩ | ⟨q,e⟩) | ⟨q,e⟩) | ⟨q,e⟩) | ⟨q,e⟩) | ⟨q,e⟩)
  ·obtain ⟨x,rfl⟩:∃ m,x=m+1:=⟨x-1,by lia⟩
   rw [Zle] at ei
   obtain ⟨e1,e2,e3⟩:=(hidx x y z (by lia) a2).mp (by lia)
   lia
  ·have e4:=Zle (p:=p) x y z
   obtain ⟨e1,e2,e3⟩:=(hidx (x+1) y z (by lia) a2).mp (by lia)
   lia
  ·obtain ⟨y,rfl⟩:∃ m,y=m+1:=⟨y-1,by lia⟩
   rw [Zlf] at ei
   obtain ⟨e1,e2,e3⟩:=(hidx x y z a1 (by lia)).mp (by lia)
   lia
  ·have e4:=Zlf (p:=p) x y z
   obtain ⟨e1,e2,e3⟩:=(hidx x (y+1) z a1 (by lia)).mp (by lia)
   lia
  ·obtain ⟨z,rfl⟩:∃ m,z=m+1:=⟨z-1,by lia⟩
   rw [Zed] at ei
   obtain ⟨e1,e2,e3⟩:=(hidx x y z a1 a2).mp (by lia)
   lia
  ·have e4:=Zed (p:=p) x y z
   obtain ⟨e1,e2,e3⟩:=(hidx x y (z+1) a1 a2).mp (by lia)
   lia
 ·intro q
  have cases6:(x'+1=x∧y'=y∧z'=z)∨(x'=x+1∧y'=y∧z'=z)∨(x'=x∧y'+1=y∧z'=z)∨(x'=x∧y'=y+1∧z'=z)∨(x'=x∧y'=y∧z'+1=z)∨(x'=x∧y'=y∧z'=z+1):=by
   have z0:∀ u v:Nat,u-v+(v-u)=0→u=v:=fun u v h=>by lia
   have z1:∀ u v:Nat,u-v+(v-u)=1→u+1=v∨u=v+1:=fun u v h=>by lia
   have hx0:=z0 x' x
   have hx1:=z1 x' x
   have hy0:=z0 y' y
   have hy1:=z1 y' y
   have hz0:=z0 z' z
   have hz1:=z1 z' z
   generalize x'-x+(x-x')=a at *
   generalize y'-y+(y-y')=b at *
   generalize z'-z+(z-z')=c at *
   have:(a=1∧b=0∧c=0)∨(a=0∧b=1∧c=0)∨(a=0∧b=0∧c=1):=by clear hx0 hx1 hy0 hy1 hz0 hz1; lia
   rcases this with ⟨h1,h2,h3⟩ | ⟨h1,h2,h3⟩ | ⟨h1,h2,h3⟩
   ·rcases hx1 h1 with e | e
    ·exact .inl ⟨e,hy0 h2,hz0 h3⟩
    ·exact .inr (.inl ⟨e,hy0 h2,hz0 h3⟩)
   ·rcases hy1 h2 with e | e
    ·exact .inr (.inr (.inl ⟨hx0 h1,e,hz0 h3⟩))
    ·exact .inr (.inr (.inr (.inl ⟨hx0 h1,e,hz0 h3⟩)))
   ·rcases hz1 h3 with e | e
    ·exact .inr (.inr (.inr (.inr (.inl ⟨hx0 h1,hy0 h2,e⟩))))
    ·exact .inr (.inr (.inr (.inr (.inr ⟨hx0 h1,hy0 h2,e⟩))))
  rcases cases6 with ⟨rfl,rfl,rfl⟩ | ⟨rfl,rfl,rfl⟩ | ⟨rfl,rfl,rfl⟩ | ⟨rfl,rfl,rfl⟩ | ⟨rfl,rfl,rfl⟩ | ⟨rfl,rfl,rfl⟩
  ·rw [Zle] at ei
   exact .inl (.inl (.inl (.inl (.inl ⟨by lia,by lia⟩))))
  ·rw [Zle] at ej
   exact .inl (.inl (.inl (.inl (.inr ⟨by lia,by lia⟩))))
  ·rw [Zlf] at ei
   exact .inl (.inl (.inl (.inr ⟨by lia,by lia⟩)))
  ·rw [Zlf] at ej
   exact .inl (.inl (.inr ⟨by lia,by lia⟩))
  ·rw [Zed] at ei
   exact .inl (.inr ⟨by lia,by lia⟩)
  ·rw [Zed] at ej
   exact .inr ⟨by lia,by lia⟩
theorem Zgi (p:PartM):(Zal p).Nodup:=by
 unfold Zal
 exact List.Pairwise.filter _ List.nodup_range
theorem Zha {p:PartM} {P:Part} (h:PartIs p P):P.cells.Nodup:=by
 rw [ZfB h]
 unfold List.Nodup
 rw [List.pairwise_map]
 exact List.Pairwise.imp (fun {a b} n e=>n (Zg8 e)) (Zgi p)
theorem Zlg {p:PartM} {P:Part} (h:PartIs p P):P.whole=true↔Zd3 p:=by
 have ok:=PartIs.ok h
 rw [Zld P (Zha h),ZfB h]
 unfold Zd3
 cases e:Zal p with
 | nil=>exact Iff.rfl
 | cons c r=>
  rw [List.map_cons]
  dsimp only
  have hmem:∀ x:Nat,crd p x∈(Zal p).map (crd p)↔x∈Zal p:=fun x=>by
   rw [List.mem_map]
   exact ⟨fun ⟨y,hy,e⟩=>Zg8 e ▸ hy,fun hx=>⟨x,hx,rfl⟩⟩
  have hcs:crd p c::r.map (crd p)=(Zal p).map (crd p):=by rw [e]; rfl
  rw [hcs,← e]
  have hc:c∈Zal p:=by rw [e]; exact List.mem_cons_self
  have to:∀ s,RB ((Zal p).map (crd p)) (crd p c) s→∃ x,s=crd p x∧x∈Zal p∧Reach p c x:=by
   intro s hs
   induction hs with
   | here=>exact ⟨c,rfl,hc,.here⟩
   | @step x y _ hb hy ih=>
    obtain ⟨n,rfl,hn,hr⟩:=ih
    obtain ⟨m,hm,rfl⟩:=List.mem_map.mp hy
    exact ⟨m,rfl,hm,.step hr ((ZjK ok (Zca hn) (Zca hm)).mpr hb) hm⟩
  have back:∀ x,Reach p c x→x∈Zal p∧RB ((Zal p).map (crd p)) (crd p c) (crd p x):=by
   intro x hx
   induction hx with
   | here=>exact ⟨hc,.here⟩
   | @step x y _ hy hm ih=>exact ⟨hm,.step ih.2 ((ZjK ok (Zca ih.1) (Zca hm)).mp hy) ((hmem y).mpr hm)⟩
  constructor
  ·intro q x hx
   obtain ⟨y,h1,h2,h3⟩:=to _ (q (crd p x) ((hmem x).mpr hx))
   rw [Zg8 h1]
   exact h3
  ·intro q s hs
   obtain ⟨x,hx,rfl⟩:=List.mem_map.mp hs
   exact (back x (q x hx)).2
theorem Zgj:∀ {a b:List Int},InB a→InB b→before (a.map byte) (b.map byte) = !Le.lexLe b a
 | [],[],_,_=>rfl
 | [],_::_,_,_=>rfl
 | _::_,[],_,_=>rfl
 | x::a,y::b,ha,hb=>by
  have hx:=ha x List.mem_cons_self
  have hy:=hb y List.mem_cons_self
  have ih:=Zgj (a:=a) (b:=b) (fun z hz=>ha z (List.mem_cons_of_mem _ hz)) (fun z hz=>hb z (List.mem_cons_of_mem _ hz))
  show (decide ((byte x).toNat<(byte y).toNat)||(byte x==byte y&&before (a.map byte) (b.map byte))) = !(if y=x then Le.lexLe b a else decide (y≤x))
  rw [ih,byte_nat hx.1 hx.2,byte_nat hy.1 hy.2]
  by_cases e:y=x
  ·subst e
   rw [if_pos rfl]
   simp
  ·rw [if_neg e]
   have:¬ byte x=byte y:=fun q=>e (by
    have:=congrArg UInt8.toNat q
    rw [byte_nat hx.1 hx.2,byte_nat hy.1 hy.2] at this
    lia)
   rw [beq_eq_false_iff_ne.mpr this,Bool.false_and,Bool.or_false,← decide_not]
   exact decide_eq_decide.mpr (by lia)
theorem ZjL {p:PartM} {P:Part} (h:PartIs p P):InB p.name:=fun x hx=>(by decide +kernel:∀ y∈lets++digs,0≤y∧y≤255) x (h.nameIn x hx)
theorem ZhM {p:PartM} {P:Part} (h:PartIs p P) (last:Option Bytes):P.wrong last=Option.none↔ZdB p∧∀ n,last=some n→before n P.name=true:=by
 have h1:=ZjJ h
 have h2:=ZmQ h
 have h3:=Zlb h
 have h4:=Zlg h
 unfold Part.wrong ZdB
 rw [h2,← h1,← h3,← h4]
 cases P.studsOk<;>cases P.tubesOk<;>cases P.tight<;>cases P.whole<;>simp<;>cases last<;>simp
theorem ZjM (p q:PartM) (r:List PartM):Zfr (p::q::r)=(!Le.lexLe q.name p.name&&Zfr (q::r)):=rfl
theorem ZdE:∀ {ps:List PartM} {c:Catalogue} (i:Nat) (p:PartM) (P:Part),PartIs p P→Paired PartIs ps c→(wrongFrom i (some P.name) c=Option.none↔Zfr (p::ps)=true∧∀ q∈ps,ZdB q)
 | _,_,i,p,P,hp,.nil=>by
  refine ⟨fun _=>⟨rfl,fun q hq=>by cases hq⟩,fun _=>rfl⟩
 | _,_,i,p,P,hp,.cons (a:=q) (b:=Q) (l₁:=ps) (l₂:=c) hq r=>by
  have ih:=ZdE (i+1) q Q hq r
  have hw:=ZhM hq (some P.name)
  have hb:before P.name Q.name = !Le.lexLe q.name p.name:=by
   rw [hp.name,hq.name]
   exact Zgj (ZjL hp) (ZjL hq)
  rw [ZjM]
  show (match Q.wrong (some P.name) with | some k=>some (k,i) | Option.none=>wrongFrom (i+1) (some Q.name) c)=Option.none↔_
  cases e:Q.wrong (some P.name) with
  | some k=>
   dsimp only
   constructor
   ·intro z; cases z
   ·rintro ⟨z1,z2⟩
    have:Q.wrong (some P.name)=Option.none:=hw.mpr ⟨z2 q List.mem_cons_self,fun n hn=>by injection hn with hn; rw [← hn,hb]; exact (Bool.and_eq_true_iff.mp z1).1⟩
    rw [e] at this
    cases this
  | none=>
   dsimp only
   obtain ⟨g1,g2⟩:=hw.mp e
   have g3:=g2 _ rfl
   rw [hb] at g3
   rw [ih,g3,Bool.true_and]
   constructor
   ·rintro ⟨z1,z2⟩
    refine ⟨z1,fun x hx=>?_⟩
    rcases List.mem_cons.mp hx with z | z
    ·rw [z]; exact g1
    ·exact z2 x z
   ·rintro ⟨z1,z2⟩
    exact ⟨z1,fun x hx=>z2 x (List.mem_cons_of_mem _ hx)⟩
theorem catWrong_is {ps:List PartM} {c:Catalogue} (h:Paired PartIs ps c):Br.wrong c=Option.none↔ZbK ps:=by
 cases h with
 | nil=>exact ⟨fun _=>⟨rfl,fun q hq=>by cases hq⟩,fun _=>rfl⟩
 | @cons p P ps c hp r=>
  have ih:=ZdE 1 p P hp r
  have hw:=ZhM hp Option.none
  unfold ZbK
  show (match P.wrong Option.none with | some k=>some (k,0) | Option.none=>wrongFrom 1 (some P.name) c)=Option.none↔_
  cases e:P.wrong Option.none with
  | some k=>
   dsimp only
   constructor
   ·intro z; cases z
   ·rintro ⟨z1,z2⟩
    have:P.wrong Option.none=Option.none:=hw.mpr ⟨z2 p List.mem_cons_self,fun n hn=>by cases hn⟩
    rw [e] at this
    cases this
  | none=>
   dsimp only
   obtain ⟨g1,g2⟩:=hw.mp e
   rw [ih]
   constructor
   ·rintro ⟨z1,z2⟩
    refine ⟨z1,fun x hx=>?_⟩
    rcases List.mem_cons.mp hx with z | z
    ·rw [z]; exact g1
    ·exact z2 x z
   ·rintro ⟨z1,z2⟩
    exact ⟨z1,fun x hx=>z2 x (List.mem_cons_of_mem _ hx)⟩
theorem ZjN {p:PartM} {P:Part} (h:PartIs p P):P.flat=Zcq p:=by
 unfold Part.flat Zcq
 rw [h.high,h.wide,h.deep,h.places,List.all_map]
 have e:(p.places.all ((fun (q:Place)=>q == .cell true true)∘fun i=>ZjC (byte i)))=decide (p.places.count 98=p.places.length):=by
  apply Bool.eq_iff_iff.mpr
  rw [List.all_eq_true,decide_eq_true_eq,List.count_eq_length]
  constructor
  ·intro q b hb
   have:=q b hb
   have this:(ZjC (byte b)==Place.cell true true)=true:=this
   rw [Zgh (h.each b hb)] at this
   simpa using this
  ·intro q b hb
   show (ZjC (byte b)==Place.cell true true)=true
   rw [Zgh (h.each b hb)]
   simpa using q b hb
 rw [e]
 congr 1
theorem ZeT {α β:Type} {R:α→β→Prop}:∀ {l:List α} {m:List β},Paired R l m→l.length=m.length
 | _,_,.nil=>rfl
 | _,_,.cons _ r=>by rw [List.length_cons,List.length_cons,ZeT r]
theorem paired_getD {α β:Type} {R:α→β→Prop} {a0:α} {b0:β}:∀ {l:List α} {m:List β} {i:Nat},Paired R l m→i<l.length→R (l.getD i a0) (m.getD i b0)
 | _,_,_,.nil,h=>by cases h
 | _,_,0,.cons x r,h=>x
 | _,_,i+1,.cons x r,h=>by
  show R (List.getD _ i a0) (List.getD _ i b0)
  exact paired_getD r (by simpa using h)
theorem plates_is {ps:List PartM} {c:Catalogue} (h:Paired PartIs ps c):Br.plates c=ZaX ps:=by
 unfold Br.plates ZaX
 rw [← ZeT h]
 refine List.filter_congr fun i hi=>?_
 rw [List.mem_range] at hi
 have g:∀ {j},j<ps.length→PartIs (ps.getD j Zaj) (c.getD j nothing):=fun hj=>paired_getD h hj
 unfold ZaK
 rw [ZjN (g hi)]
 congr 1
 apply Bool.eq_iff_iff.mpr
 rw [List.all_eq_true,List.all_eq_true]
 have each:∀ j∈List.range i,(!((c.getD j nothing).flat&&((c.getD j nothing).wide==(c.getD i nothing).wide&&(c.getD j nothing).deep==(c.getD i nothing).deep)))=(!(Zcq (ps.getD j Zaj)&&((ps.getD j Zaj).w==(ps.getD i Zaj).w&&(ps.getD j Zaj).d==(ps.getD i Zaj).d))):=fun j hj=>by
  rw [List.mem_range] at hj
  have gj:=g (show j<ps.length by lia)
  rw [ZjN gj,gj.wide,gj.deep,(g hi).wide,(g hi).deep]
 constructor
 ·intro q j hj
  rw [← each j hj]; exact q j hj
 ·intro q j hj
  rw [each j hj]; exact q j hj
end Cm
namespace Sm
open Pc Br
set_option maxHeartbeats 1000000
def colOf (c:UInt8):Option Nat:=if c=46 then none else some (c.toNat-48)
theorem Zir (s:Nat×Bytes):colour_ s=one (fun c=>c==46||isDigit c) colOf s:=by
 obtain ⟨n,t⟩:=s
 unfold colour_ one
 rw [ZaV,Zbt]
 cases t with
 | nil=>rfl
 | cons c t=>
  dsimp only [List.head?_cons]
  unfold colOf
  by_cases h:c=46
  ·rw [if_pos h,if_pos (by simp [h]),if_pos h]
   rfl
  ·rw [if_neg h,if_neg h]
   by_cases hd:isDigit c=true
   ·rw [if_pos hd,if_pos (by simp [hd])]
    rfl
   ·rw [if_neg hd,if_neg (by simp [hd,h])]
    rfl
theorem ZjO (i:Int) (h0:0≤i) (h1:i≤255):((fun c=>c==46||isDigit c):UInt8→Bool) (byte i)=(digs++[46]).contains i:=by
 dsimp only
 rw [Zdi h0 h1]
 have e:(byte i==46)=decide (i=46):=by
  have:=byte_eq h0 h1 46
  by_cases h:i=46
  ·rw [decide_eq_true h]
   simpa using this.mpr h
  ·rw [decide_eq_false h]
   have:¬ byte i=46:=fun q=>h (this.mp q)
   simpa using this
 rw [e]
 unfold digs
 simp [Bool.or_comm]
 by_cases h:i=46<;>simp [h]
theorem Zlh (t:Bytes):readF t=readAll (bytes_ (ascii "field ") >>= fun _=>num 1 WIDE >>= fun w=>(byte_ 32 >>= fun _=>num 1 DEEP) >>= fun d=>byte_ 10 >>= fun _=>times d (times w colour_ >>= fun l=>byte_ 10 >>= fun _=>pure l) >>= fun l=>
  peek >>= fun e=>if e.isSome=true then stray else pure (⟨w,d,l.flatten⟩:Field)) t:=rfl
theorem Zhb:ascii "field "=([102,105,101,108,100,32]:List Int).map byte:=by decide +kernel
structure FieldIs (f:FieldM) (F:Field):Prop where
 wide:f.wide=(F.wide:Int)
 deep:f.deep=(F.deep:Int)
 w1:1≤F.wide
 w2:F.wide≤6
 d1:1≤F.deep
 d2:F.deep≤12
 places:F.places=f.places.map (fun i=>colOf (byte i))
 each:∀ i∈f.places,i∈digs++[46]∧0≤i∧i≤255
 len:f.places.length=F.deep*F.wide
theorem Zis {ns:List Int} (hb:InB ns) (st:S):Does ns (bytes_ (ascii "field ") >>= fun _=>num 1 WIDE >>= fun w=>(byte_ 32 >>= fun _=>num 1 DEEP) >>= fun d=>byte_ 10 >>= fun _=>times d (times w colour_ >>= fun l=>byte_ 10 >>= fun _=>pure l) >>= fun l=>
  peek >>= fun e=>if e.isSome=true then stray else pure (⟨w,d,l.flatten⟩:Field)) st (Za0 ns st).st (FieldIs (Za0 ns st)):=by
 have hrest:∀ s,s.stuck=true→fin ns (Zb9 ns (digs++[46]) (nm ns 6 (tks ns [102,105,101,108,100,32] st)).1.toNat (nm ns 12 (tks ns [32] (nm ns 6 (tks ns [102,105,101,108,100,32] st)).2)).1.toNat s).2=s:=fun s hs=>by
  rw [Zge hs,ZbZ hs]
 show Does ns _ st (fin ns (Zb9 ns (digs++[46]) (nm ns 6 (tks ns [102,105,101,108,100,32] st)).1.toNat (nm ns 12 (tks ns [32] (nm ns 6 (tks ns [102,105,101,108,100,32] st)).2)).1.toNat (tks ns [10] (nm ns 12 (tks ns [32] (nm ns 6 (tks ns [102,105,101,108,100,32] st)).2)).2)).2) _
 rw [Zhb]
 refine (Zdh hb _ st (by unfold InB; decide)).bind (fun q=>?_) fun _ _=>?_
 ·have e1:=ZcE (ns:=ns) (g:=6) q
  have e2:tks ns [32] (tks ns [102,105,101,108,100,32] st)=_:=Zbb q
  have e3:=ZcE (ns:=ns) (g:=12) q
  have e4:tks ns [10] (tks ns [102,105,101,108,100,32] st)=_:=Zbb q
  have e5:tks ns [10] (nm ns 12 (tks ns [32] (nm ns 6 (tks ns [102,105,101,108,100,32] st)).2)).2=tks ns [102,105,101,108,100,32] st:=by rw [e1,e2,e3,e4]
  rw [e5]
  exact hrest _ q
 refine (Zfy hb (hi:=6) (by decide) _).bind (fun q=>?_) fun w hw=>?_
 ·have q':(nm ns 6 (tks ns [102,105,101,108,100,32] st)).2.stuck=true:=q
  have e2:tks ns [32] (nm ns 6 (tks ns [102,105,101,108,100,32] st)).2=_:=Zbb q'
  have e3:=ZcE (ns:=ns) (g:=12) q'
  have e4:tks ns [10] (nm ns 6 (tks ns [102,105,101,108,100,32] st)).2=_:=Zbb q'
  have e5:tks ns [10] (nm ns 12 (tks ns [32] (nm ns 6 (tks ns [102,105,101,108,100,32] st)).2)).2=(nm ns 6 (tks ns [102,105,101,108,100,32] st)).2:=by rw [e2,e3,e4]
  rw [e5]
  exact hrest _ q'
 obtain ⟨hw1,hw2,hw3⟩:=hw
 have hw1:(nm ns 6 (tks ns [102,105,101,108,100,32] st)).1=(w:Int):=hw1
 have h32:Does ns (byte_ 32 >>= fun _=>num 1 DEEP) (nm ns 6 (tks ns [102,105,101,108,100,32] st)).2 (nm ns 12 (tks ns [32] (nm ns 6 (tks ns [102,105,101,108,100,32] st)).2)).2 (fun a=>(nm ns 12 (tks ns [32] (nm ns 6 (tks ns [102,105,101,108,100,32] st)).2)).1=(a:Int)∧1≤a∧a≤12):=by
  refine (ZbS hb 32 (by decide) (by decide) _).bind (fun q=>ZcE q) fun _ _=>?_
  exact Zfy hb (hi:=12) (by decide) _
 refine h32.bind (fun q=>?_) fun d hd=>?_
 ·have e4:tks ns [10] (nm ns 12 (tks ns [32] (nm ns 6 (tks ns [102,105,101,108,100,32] st)).2)).2=_:=Zbb q
  rw [e4]
  exact hrest _ q
 obtain ⟨hd1,hd2,hd3⟩:=hd
 refine (ZbS hb 10 (by decide) (by decide) _).bind (fun q=>hrest _ q) fun _ _=>?_
 rw [hw1,hd1,Int.toNat_natCast,Int.toNat_natCast]
 refine (Zgd hb Zir ZjO w d _).bind (fun q=>ZbZ q) fun l hl=>?_
 refine (Zfz _ _).mono fun F hF=>?_
 subst hF
 have ef:Za0 ns st=⟨(w:Int),(d:Int),(Zb9 ns (digs++[46]) w d (tks ns [10] (nm ns 12 (tks ns [32] (nm ns 6 (tks ns [102,105,101,108,100,32] st)).2)).2)).1,fin ns (Zb9 ns (digs++[46]) w d (tks ns [10] (nm ns 12 (tks ns [32] (nm ns 6 (tks ns [102,105,101,108,100,32] st)).2)).2)).2⟩:=by
  unfold Za0
  dsimp only
  rw [hw1,hd1,Int.toNat_natCast,Int.toNat_natCast]
 rw [ef]
 exact ⟨rfl,rfl,hw2,hw3,hd2,hd3,hl.1,hl.2,ZdI _ _ _ _ _⟩
theorem readF_is {ns:List Int} (hb:InB ns):(∃ F,readF (ns.map byte) = .ok F∧(Za0 ns ⟨0,false⟩).st.stuck=false∧FieldIs (Za0 ns ⟨0,false⟩) F)∨(∃ i,readF (ns.map byte) = .error i∧(Za0 ns ⟨0,false⟩).st=⟨i,true⟩):=by
 have h:=(Zis hb ⟨0,false⟩).go rfl
 rw [Zlh]
 unfold readAll
 generalize hr:(bytes_ (ascii "field ") >>= fun _=>num 1 WIDE >>= fun w=>(byte_ 32 >>= fun _=>num 1 DEEP) >>= fun d=>byte_ 10 >>= fun _=>times d (times w colour_ >>= fun l=>byte_ 10 >>= fun _=>pure l) >>= fun l=>
  peek >>= fun e=>if e.isSome=true then stray else pure (⟨w,d,l.flatten⟩:Field):Rd Field)=r at h ⊢
 have h':Sim ns (Za0 ns ⟨0,false⟩).st (r (0,ns.map byte)) (FieldIs (Za0 ns ⟨0,false⟩)):=h
 show (∃ F,(r (0,ns.map byte)).map _=_∧_)∨(∃ i,(r (0,ns.map byte)).map _=_∧_)
 cases e:r (0,ns.map byte) with
 | error i=>
  rw [e] at h'
  exact .inr ⟨i,rfl,h'⟩
 | ok p=>
  rw [e] at h'
  exact .inl ⟨p.1,rfl,h'.1,h'.2.2⟩
end Sm
namespace Pc
def nz (ns:List Int) (g:Int) (st:S):Int×S:=if see ns [48] st=true then (0,(tk ns [48] st).2) else nm ns g st
def Zn9 (ps:List PartM) (name:List Int):Option Nat:=ps.findIdx? fun p=>p.name==name
def Zli (ns:List Int) (ps:List PartM) (st:S):Nat×S:=match Zn9 ps (Za8 ns 8 st).1 with
 | some i=>(i,(Za8 ns 8 st).2)
 | none=>(0,⟨(Za8 ns 8 st).2.pos,true⟩)
def ZmR (ns:List Int) (ps:List PartM) (st:S):Br.Line×S:=
 let p:=Zli ns ps (tks ns [112,117,116,32] st)
 let k:=nz ns 255 (tks ns [32] p.2)
 let x:=nz ns 63 (tks ns [32] k.2)
 let y:=nz ns 63 (tks ns [32] x.2)
 let z:=nz ns 95 (tks ns [32] y.2)
 let r:=nz ns 3 (tks ns [32] z.2)
 (⟨p.1,k.1.toNat,x.1.toNat,y.1.toNat,z.1.toNat,r.1.toNat⟩,tks ns [10] r.2)
def Zhc (ns:List Int) (ps:List PartM):Nat→S→List Br.Line×S
 | 0,st=>([],st)
 | k+1,st=>if has ns st=true then ((ZmR ns ps st).1::(Zhc ns ps k (ZmR ns ps st).2).1,(Zhc ns ps k (ZmR ns ps st).2).2) else ([],st)
def Zoa (ns:List Int) (ps:List PartM) (st:S):List Br.Line×S:=
 let n:=Za8 ns 16 (tks ns [98,117,105,108,100,32] st)
 let r:=Zhc ns ps 256 (tks ns [10] n.2)
 (r.1,fin ns r.2)
def Zb1 (ns:List Int):Bool:=!(fin ns (Za8 ns 16 ⟨0,false⟩).2).stuck
end Pc
namespace Sm
open Pc Br
open PySem (Paired)
set_option maxHeartbeats 1000000
set_option linter.all false
def ZmS {α:Type} (ns:List Int) (st':S) (res:Res α) (P:α→Prop):Prop:=match res with
 | .ok (a,s)=>st'.stuck=false∧s=(st'.pos,(ns.map byte).drop st'.pos)∧P a
 | .error _=>st'.stuck=true
structure DoesW {α:Type} (ns:List Int) (r:Rd α) (st st':S) (P:α→Prop):Prop where
 stay:st.stuck=true→st'.stuck=true
 go:st.stuck=false→ZmS ns st' (r (st.pos,(ns.map byte).drop st.pos)) P
theorem Does.w {α:Type} {ns:List Int} {r:Rd α} {st st':S} {P:α→Prop} (h:Does ns r st st' P):DoesW ns r st st' P:=by
 refine ⟨fun q=>by rw [h.stay q]; exact q,fun q=>?_⟩
 have:=h.go q
 unfold Sim at this
 unfold ZmS
 cases e:r (st.pos,(ns.map byte).drop st.pos) with
 | error i=>
  rw [e] at this
  dsimp only at this ⊢
  rw [this]
 | ok p=>
  rw [e] at this
  exact this
theorem DoesW.pure {α:Type} {ns:List Int} {st:S} {a:α} {P:α→Prop} (h:P a):DoesW ns (Pure.pure a) st st P:=⟨fun q=>q,fun hs=>⟨hs,rfl,h⟩⟩
theorem DoesW.bind {α β:Type} {ns:List Int} {r:Rd α} {f:α→Rd β} {st st1 st':S} {P:α→Prop} {Q:β→Prop} (h1:DoesW ns r st st1 P) (hs:st1.stuck=true→st'.stuck=true) (h2:∀ a,P a→DoesW ns (f a) st1 st' Q):DoesW ns (r >>= f) st st' Q:=by
 refine ⟨fun q=>hs (h1.stay q),fun q=>?_⟩
 rw [ZaV]
 have:=h1.go q
 unfold ZmS at this
 cases e:r (st.pos,(ns.map byte).drop st.pos) with
 | error i=>
  rw [e] at this
  exact hs this
 | ok p=>
  rw [e] at this
  obtain ⟨a,s⟩:=p
  obtain ⟨g1,g2,g3⟩:=this
  dsimp only
  rw [g2]
  exact (h2 a g3).go g1
theorem DoesW.mono {α:Type} {ns:List Int} {r:Rd α} {st st':S} {P Q:α→Prop} (h:DoesW ns r st st' P) (f:∀ a,P a→Q a):DoesW ns r st st' Q:=by
 refine ⟨h.stay,fun q=>?_⟩
 have:=h.go q
 unfold ZmS at this ⊢
 cases e:r (st.pos,(ns.map byte).drop st.pos) with
 | error i=>rw [e] at this; exact this
 | ok p=>rw [e] at this; exact ⟨this.1,this.2.1,f _ this.2.2⟩
end Sm
namespace Sm
open Pc Br
open PySem (Paired)
set_option maxHeartbeats 1000000
set_option linter.all false
def ZfC (c:UInt8):Bool:=isLow c||isDigit c
def Zob (c:UInt8):Res Bytes→Res Bytes
 | .ok (r,s)=>.ok (c::r,s)
 | .error e=>.error e
theorem ZjP (f:Nat) (k:Nat) (t:Bytes):while_ ZfC (f+1) (k,t)=match t with
  | []=>.ok ([],(k,t))
  | c::t'=>if ZfC c=true then Zob c (while_ ZfC f (k+1,t')) else .ok ([],(k,t)):=by
 cases t with
 | nil=>rfl
 | cons c t'=>
  have e:while_ ZfC (f+1) (k,c::t')=(if ZfC c=true then (skip >>= fun _=>while_ ZfC f >>= fun r=>Pure.pure (c::r):Rd Bytes) else Pure.pure []) (k,c::t'):=rfl
  rw [e]
  dsimp only
  by_cases h:ZfC c=true
  ·rw [if_pos h,if_pos h,ZaV,ZhH]
   show ((while_ ZfC f >>= fun r=>Pure.pure (c::r)):Rd Bytes) (k+1,t')=_
   rw [ZaV]
   cases while_ ZfC f (k+1,t')<;>rfl
  ·rw [if_neg h,if_neg h]
   rfl
def ZjQ (k:Nat):Rd Bytes:=peek >>= fun c=>match c with
      | some c=>if isLow c=true then (skip >>= fun _=>while_ (fun c=>isLow c||isDigit c) k >>= fun r=>Pure.pure (c::r)) else stray
      | Option.none=>stray
theorem ZjR (f k:Nat) (t:Bytes):ZjQ f (k,t)=match t with
  | []=>.error k
  | c::t'=>if isLow c=true then Zob c (while_ ZfC f (k+1,t')) else .error k:=by
 cases t with
 | nil=>rfl
 | cons c t'=>
  have e:ZjQ f (k,c::t')=(if isLow c=true then (skip >>= fun _=>while_ ZfC f >>= fun r=>Pure.pure (c::r):Rd Bytes) else stray) (k,c::t'):=rfl
  rw [e]
  dsimp only
  by_cases h:isLow c=true
  ·rw [if_pos h,if_pos h,ZaV,ZhH]
   show ((while_ ZfC f >>= fun r=>Pure.pure (c::r)):Rd Bytes) (k+1,t')=_
   rw [ZaV]
   cases while_ ZfC f (k+1,t')<;>rfl
  ·rw [if_neg h,if_neg h]
   rfl
theorem Zo6 {l:List Int} (h:∀ i∈l,i∈lets++digs):InB l:=fun x hx=>(by decide +kernel:∀ y∈lets++digs,0≤y∧y≤255) x (h x hx)
end Sm
namespace Sm
open Pc Br
open PySem (Paired)
set_option maxHeartbeats 1000000
set_option linter.all false
theorem Zgk:∀ (f k:Nat) (t:Bytes),∃ a s,while_ ZfC f (k,t) = .ok (a,s)∧(s.2=[]↔t.length≤f∧t.all ZfC=true)
 | 0,k,t=>⟨[],(k,t),rfl,by cases t<;>simp⟩
 | f+1,k,t=>by
  rw [ZjP]
  cases t with
  | nil=>exact ⟨[],_,rfl,by simp⟩
  | cons c t=>
   dsimp only
   by_cases h:ZfC c=true
   ·rw [if_pos h]
    obtain ⟨a,s,e,hs⟩:=Zgk f (k+1) t
    rw [e]
    refine ⟨c::a,s,rfl,?_⟩
    rw [hs,List.all_cons,h,Bool.true_and,List.length_cons]
    constructor<;>rintro ⟨q1,q2⟩<;>exact ⟨by lia,q2⟩
   ·rw [if_neg h]
    refine ⟨[],_,rfl,?_⟩
    rw [Bool.not_eq_true] at h
    rw [List.all_cons,h]
    simp
theorem nameOk_is {ns:List Int} (hb:InB ns):longName (ns.map byte)=Zb1 ns:=by
 have hN:Does ns (ZjQ 15) ⟨0,false⟩ (Za8 ns 16 ⟨0,false⟩).2 (fun _=>True):=(ZeQ hb 15 ⟨0,false⟩).mono fun _ _=>trivial
 have h2:Does ns (ZjQ 15 >>= fun _=>peek >>= fun e=>if e.isSome=true then stray else Pure.pure ()) ⟨0,false⟩ (fin ns (Za8 ns 16 ⟨0,false⟩).2) (fun _=>True):=
  hN.bind (fun q=>ZbZ q) fun _ _=>(Zfz () _).mono fun _ _=>trivial
 have h:=h2.w.go rfl
 have h':ZmS ns (fin ns (Za8 ns 16 ⟨0,false⟩).2) ((ZjQ 15 >>= fun _=>peek >>= fun e=>if e.isSome=true then stray else Pure.pure ()) (0,ns.map byte)) (fun _=>True):=h
 unfold Zb1
 generalize fin ns (Za8 ns 16 ⟨0,false⟩).2=st at h'
 rw [ZaV,ZjR] at h'
 unfold longName
 cases hm:ns.map byte with
 | nil=>
  rw [hm] at h'
  have h':st.stuck=true:=h'
  rw [h']
  rfl
 | cons c t=>
  rw [hm] at h'
  dsimp only at h' ⊢
  by_cases hc:isLow c=true
  ·rw [if_pos hc] at h'
   obtain ⟨a,s,e,hs⟩:=Zgk 15 1 t
   rw [show (0+1,t)=(1,t) from rfl,e] at h'
   have h':ZmS ns st ((peek >>= fun e=>if e.isSome=true then stray else Pure.pure ():Rd Unit) s) (fun _=>True):=h'
   rw [ZaV,Zbt] at h'
   dsimp only at h'
   have hld:ZfC c=true:=by unfold ZfC; rw [hc]; rfl
   have goal:(decide ((c::t).length≤16)&&(c::t).all fun (a:UInt8)=>isLow a||isDigit a)=decide (s.2=[]):=by
    show (decide ((c::t).length≤16)&&(c::t).all ZfC)=_
    rw [List.all_cons,hld,Bool.true_and,List.length_cons]
    apply Bool.eq_iff_iff.mpr
    rw [Bool.and_eq_true_iff,decide_eq_true_eq,decide_eq_true_eq,hs]
    constructor<;>rintro ⟨q1,q2⟩<;>exact ⟨by lia,q2⟩
   rw [hc,goal,Bool.true_and]
   cases hs2:s.2 with
   | nil=>
    rw [hs2] at h'
    have h':ZmS ns st (.ok ((),s)) (fun _=>True):=h'
    rw [h'.1]
    rfl
   | cons d u=>
    rw [hs2] at h'
    have h':st.stuck=true:=h'
    rw [h']
    rfl
  ·rw [if_neg hc] at h'
   have h':st.stuck=true:=h'
   rw [Bool.not_eq_true] at hc
   rw [h',hc]
   rfl
end Sm
namespace Pc
def CatNo (ns:List Int) (z:Int):Prop:=(1048576<ns.length∧z = -2)∨(¬ 1048576<ns.length∧(Zbk ns ⟨0,false⟩).2.stuck=true∧z = -6)∨(¬ 1048576<ns.length∧(Zbk ns ⟨0,false⟩).2.stuck=false∧¬ ZbK (Zbk ns ⟨0,false⟩).1∧z = -8)
def ZhN (ns:List Int):Prop:=¬ 1048576<ns.length∧(Zbk ns ⟨0,false⟩).2.stuck=false∧ZbK (Zbk ns ⟨0,false⟩).1
theorem CatNo.neg {ns:List Int} {z:Int} (h:CatNo ns z):z<0:=by
 rcases h with ⟨_,e⟩ | ⟨_,_,e⟩ | ⟨_,_,_,e⟩<;>lia
def GivNo (c f:List Int) (z:Int):Prop:=(16384<f.length∧z = -2)∨(¬ 16384<f.length∧CatNo c z)∨(¬ 16384<f.length∧ZhN c∧(Za0 f ⟨0,false⟩).st.stuck=true∧z = -10)
def ZeU (c f:List Int):Prop:=¬ 16384<f.length∧ZhN c∧(Za0 f ⟨0,false⟩).st.stuck=false
theorem GivNo.neg {c f:List Int} {z:Int} (h:GivNo c f z):z<0:=by
 rcases h with ⟨_,e⟩ | ⟨_,e⟩ | ⟨_,_,_,e⟩
 ·lia
 ·exact e.neg
 ·lia
def BldNo (c f b:List Int) (z:Int):Prop:=(16384<b.length∧z = -2)∨(¬ 16384<b.length∧GivNo c f z)∨(¬ 16384<b.length∧ZeU c f∧(Zoa b (Zbk c ⟨0,false⟩).1 ⟨0,false⟩).2.stuck=true∧z = -5)
theorem BldNo.neg {c f b:List Int} {z:Int} (h:BldNo c f b z):z<0:=by
 rcases h with ⟨_,e⟩ | ⟨_,e⟩ | ⟨_,_,_,e⟩
 ·lia
 ·exact e.neg
 ·lia
end Pc
namespace Sm
open Pc Br
open PySem (Paired)
set_option maxHeartbeats 1000000
set_option linter.all false
theorem Zef {ns:List Int} (hb:InB ns) (h:ZhN ns):∃ c,readC (ns.map byte) = .ok c∧Br.wrong c=Option.none∧Paired PartIs (Zbk ns ⟨0,false⟩).1 c:=by
 rcases readC_is hb with ⟨c,h1,h2,h3⟩ | ⟨i,h1,h2⟩
 ·exact ⟨c,h1,(Cm.catWrong_is h3).mpr h.2.2,h3⟩
 ·have:=h.2.1
  rw [h2] at this
  cases this
theorem Zlj {ns:List Int} (hb:InB ns) {z:Int} (h:CatNo ns z) (hl:¬ 1048576<ns.length) (f:Catalogue→BrE.Answer):BrE.ofCatalogue (ns.map byte) f=BrE.no z.natAbs:=by
 unfold BrE.ofCatalogue
 rcases h with ⟨e,_⟩ | ⟨_,h2,rfl⟩ | ⟨_,h2,h3,rfl⟩
 ·exact absurd e hl
 ·rcases readC_is hb with ⟨c,g1,g2,_⟩ | ⟨i,g1,_⟩
  ·rw [g2] at h2; cases h2
  ·rw [g1]; rfl
 ·rcases readC_is hb with ⟨c,g1,g2,g3⟩ | ⟨i,g1,g2⟩
  ·rw [g1]
   dsimp only
   have:(Br.wrong c).isSome=true:=by
    cases e:Br.wrong c with
    | none=>exact absurd ((Cm.catWrong_is g3).mp e) h3
    | some k=>rfl
   rw [if_pos this]
   rfl
  ·rw [g2] at h2; cases h2
theorem Zgl {ns:List Int} {c:Catalogue} (h1:readC (ns.map byte) = .ok c) (h2:Br.wrong c=Option.none) (f:Catalogue→BrE.Answer):BrE.ofCatalogue (ns.map byte) f=f c:=by
 unfold BrE.ofCatalogue
 rw [h1]
 dsimp only
 rw [h2,if_neg (by simp)]
theorem Zlk {z:Int} (h:z<0):CoversNeutral.shown (BrE.no z.natAbs)=[z]:=by
 show [-(z.natAbs:Int)]=[z]
 congr 1
 lia
theorem ZjS {ns:List Int} {z:Int} (h:CatNo ns z) (hl:1048576<ns.length):z = -2:=by
 rcases h with ⟨_,e⟩ | ⟨e,_⟩ | ⟨e,_⟩
 ·exact e
 ·exact absurd hl e
 ·exact absurd hl e
theorem Zll {c f:List Int} (hc:InB c) (hf:InB f) {z:Int} (h:GivNo c f z) (g:Catalogue→Field→BrE.Answer):BrE.ofTwo (c.map byte) (f.map byte) g=BrE.no z.natAbs:=by
 unfold BrE.ofTwo
 rw [List.length_map,List.length_map]
 rcases h with ⟨e,rfl⟩ | ⟨e,h⟩ | ⟨e,h,h2,rfl⟩
 ·rw [if_pos (.inr e)]; rfl
 ·by_cases hl:1048576<c.length
  ·rw [if_pos (.inl hl),ZjS h hl]; rfl
  ·rw [if_neg (by rintro (q | q); exact hl q; exact e q)]
   unfold BrE.ofField
   exact Zlj hc h hl _
 ·rw [if_neg (by rintro (q | q); exact h.1 q; exact e q)]
  obtain ⟨k,k1,k2,k3⟩:=Zef hc h
  unfold BrE.ofField
  rw [Zgl k1 k2]
  rcases readF_is hf with ⟨F,g1,g2,g3⟩ | ⟨i,g1,g2⟩
  ·rw [g2] at h2; cases h2
  ·rw [g1]; rfl
theorem ZjT {c f:List Int} (hc:InB c) (hf:InB f) (h:ZeU c f):∃ (k:Catalogue) (F:Field),Paired PartIs (Zbk c ⟨0,false⟩).1 k∧FieldIs (Za0 f ⟨0,false⟩) F∧Br.wrong k=Option.none∧∀ g,BrE.ofTwo (c.map byte) (f.map byte) g=g k F:=by
 obtain ⟨k,k1,k2,k3⟩:=Zef hc h.2.1
 rcases readF_is hf with ⟨F,g1,g2,g3⟩ | ⟨i,g1,g2⟩
 ·refine ⟨k,F,k3,g3,k2,fun g=>?_⟩
  unfold BrE.ofTwo
  rw [List.length_map,List.length_map,if_neg (by rintro (q | q); exact h.2.1.1 q; exact h.1 q)]
  unfold BrE.ofField
  rw [Zgl k1 k2,g1]
 ·have:=h.2.2
  rw [g2] at this
  cases this
end Sm
namespace Pr
open PySem PySem.Spec PyProof.Rows L2 Pc
set_option maxHeartbeats 4000000
set_option maxRecDepth 100000
abbrev ZeV:Stmt:=(Zbh (top 70) 0)
abbrev Zcn:Stmt:=(top 71)
abbrev Zdo:Stmt:=(top 72)
def gvF (a b c d:V):List (Str×V):=[("refusal",a),("parts",b),("field",c),("lines",d)]
theorem Zpr:¬ (("refusal":Str)="parts"):=by decide +kernel
theorem Zps:¬ (("refusal":Str)="field"):=by decide +kernel
theorem g_rl:¬ (("refusal":Str)="lines"):=by decide +kernel
theorem Zpt:¬ (("parts":Str)="field"):=by decide +kernel
theorem g_pl:¬ (("parts":Str)="lines"):=by decide +kernel
theorem g_fl:¬ (("field":Str)="lines"):=by decide +kernel
theorem ZjU (a b c d:V):(gvF a b c d).lookup ("refusal":Str)=some a:=by unfold gvF; rw [Zah,if_pos rfl]
theorem ZmT (a b c d:V):(gvF a b c d).lookup ("parts":Str)=some b:=by unfold gvF; rw [Zah,if_neg (fun e=>Zpr e.symm),Zah,if_pos rfl]
theorem Zo7 (a b c d:V):(gvF a b c d).lookup ("field":Str)=some c:=by unfold gvF; rw [Zah,if_neg (fun e=>Zps e.symm),Zah,if_neg (fun e=>Zpt e.symm),Zah,if_pos rfl]
theorem ZmU (a b c d:V):ZaR "lines" d (ZaR "field" c (ZaR "parts" b (ZaR "refusal" a [])))=gvF a b c d:=by
 have e0:ZaR ("refusal":Str) a []=[(("refusal":Str),a)]:=rfl
 have e1:ZaR ("parts":Str) b []=[(("parts":Str),b)]:=rfl
 have e2:ZaR ("field":Str) c []=[(("field":Str),c)]:=rfl
 have e3:ZaR ("lines":Str) d []=[(("lines":Str),d)]:=rfl
 rw [e0,ZbQ _ _ _ _ Zpr,e1,ZbQ _ _ _ _ Zps,ZbQ _ _ _ _ Zpt,e2,ZbQ _ _ _ _ g_rl,ZbQ _ _ _ _ g_pl,ZbQ _ _ _ _ g_fl,e3]
 rfl
def GvAt (G:Addr) (H:Hp) (g:Addr) (a b c d:V):Prop:=∃ dx,H g=some (.ins G dx (gvF a b c d))
theorem GvAt.same {G:Addr} {H H':Hp} {g:Addr} {a b c d:V} (h:GvAt G H g a b c d) (s:Same H H'):GvAt G H' g a b c d:=let ⟨dx,e⟩:=h; ⟨dx,s _ _ e⟩
structure TxtG (K:PySem.W.Frag) (mg:Str→Option Value) (C:Addr):Prop where
 cl:Cls K C
 nR:NoAttr K C "refusal"
 nP:NoAttr K C "parts"
 nF:NoAttr K C "field"
 nL:NoAttr K C "lines"
 mgC:mg "Given"=some (.ref C)
 lc:∃ t,mg "LONGEST_CATALOGUE"=some (.int 1048576 t)
 tl:∃ t,mg "TOO_LONG"=some (.int (-2) t)
 nc:∃ t,mg "NO_CATALOGUE"=some (.int (-6) t)
 cn:∃ t,mg "CATALOGUE_NOT_RIGHT"=some (.int (-8) t)
theorem Zgm (ns:List Int):∀ (k:Nat) (st:S),(Za1 ns k st).1.length≤k
 | 0,_=>Nat.le_refl _
 | k+1,st=>by
  unfold Za1
  by_cases h:has ns st=true
  ·rw [if_pos h]
   have:=Zgm ns k (ZaU ns st).2
   show _+1≤k+1
   lia
  ·rw [if_neg h]
   exact Nat.zero_le _
theorem Zlm (ns:List Int) (st:S):(Zbk ns st).1.length≤64:=by
 have:=Zgm ns 63 (ZaU ns st).2
 show (Za1 ns 63 (ZaU ns st).2).1.length+1≤64
 lia
theorem Zeg {α β:Type} {R:α→β→Prop} {Pp:α→Prop} (h:∀ a b,R a b→Pp a):∀ {l:List α} {m:List β},Paired R l m→∀ a∈l,Pp a
 | _,_,.nil,a,ha=>by cases ha
 | _,_,.cons x r,a,ha=>by
  rcases List.mem_cons.mp ha with e | e
  ·rw [e]; exact h _ _ x
  ·exact Zeg h r a e
theorem ZmV {ns:List Int} (hb:Sm.InB ns) (h:(Zbk ns ⟨0,false⟩).2.stuck=false):∀ p∈(Zbk ns ⟨0,false⟩).1,PartOk p:=by
 rcases Sm.readC_is hb with ⟨c,_,_,hp⟩ | ⟨i,_,e⟩
 ·exact Zeg (fun a b z=>Cm.PartIs.ok z) hp
 ·rw [e] at h; cases h
theorem Zeh {p:Addr} {H H1 H2:Hp} (s:Same H H1) (k:Keep p H1 H2) (h:H p=none):Same H H2:=fun b o e=>k b o (s b o e) (fun z=>by rw [z,h] at e; cases e)
def ZfD (G:Addr):Sp:=fun vs H Q _=>∃ (g dx:Addr) (a b c d:V),vs=[.ref g,a,b,c,d]∧H g=some (.ins G dx [])∧∀ H',GvAt G H' g a b c d→Keep g H H'→Q .non H'
def Zei (G:Addr):Sp:=fun vs H Q _=>∃ z:Int,vs=[.int z]∧∀ g H',Same H H'→GvAt G H' g (.int z) .non .non .non→Q (.ref g) H'
def ZhO (K:PySem.W.Frag) (D G:Addr):Sp:=fun vs H Q _=>∃ (a:Addr) (ns:List Int),vs=[.ref a]∧SqL K H a (ns.map V.int)∧Sm.InB ns ∧
 (∀ (g:Addr) (z:Int) H',Same H H'→CatNo ns z→GvAt G H' g (.int z) .non .non .non→Q (.ref g) H') ∧
 (∀ (g l:Addr) (qs:List Addr) H',Same H H'→ZhN ns→CatAt D H' l qs (Zbk ns ⟨0,false⟩).1→GvAt G H' g (.int 0) (.ref l) .non .non→Q (.ref g) H')
section
variable {P:Program} {w:World} {K:PySem.W.Frag} {mg:Str→Option Value} {base:Heap}
theorem ZmW:FnScope ["self","refusal","parts","field","lines"] ["self","refusal","parts","field","lines"] (Zad ZeV):=⟨rfl,rfl,rfl,by decide +kernel,rfl,by decide +kernel,by decide +kernel⟩
theorem Zln {f G:Addr} {fd:FuncData} (F:Fun K "__init__" "Given.__init__" ZeV f fd) (T:TxtG K mg G):FnOk P w K mg base CX0 1 f fd ["self","refusal","parts","field","lines"] (ZfD G):=by
 refine F.ok ZmW (fun vs H Q E h=>?_) (fun cdv A outer s H vs Q E hr h=>?_)
 ·obtain ⟨g,dx,a,b,c,d,rfl,_⟩:=h
  rfl
 ·obtain ⟨g,dx,a,b,c,d,rfl,hg,k⟩:=h
  refine ⟨_,Zab (ZaQ (pv 0) (pv 1) rfl) (Zab (ZaQ (pv 0) (pv 2) rfl) (Zab (ZaQ (pv 0) (pv 3) rfl) (Zaf (ZaQ (pv 0) (pv 4) rfl)))),?_⟩
  refine ⟨_,rfl,_,rfl,g,G,dx,[],rfl,hg,T.cl,T.nR,(by show 0<1000; decide),_,rfl,_,rfl,g,G,dx,_,rfl,Zac,T.cl,T.nP,(by show 1<1000; decide),_,rfl,_,rfl,g,G,dx,_,rfl,Zac,T.cl,T.nF,?_,_,rfl,_,rfl,g,G,dx,_,rfl,Zac,T.cl,T.nL,?_,?_⟩
  ·exact Nat.lt_of_le_of_lt (Zas _ _ _) (by show 2<1000; decide)
  ·exact Nat.lt_of_le_of_lt (Zas _ _ _) (Nat.lt_of_le_of_lt (Nat.succ_le_succ (Zas _ _ _)) (by show 3<1000; decide))
  ·exact k _ ⟨dx,Eq.trans Zac (congrArg (fun q=>some (HO.ins G dx q)) (ZmU a b c d))⟩ fun b o e hb=>by rw [Zag hb,Zag hb,Zag hb,Zag hb]; exact e
theorem ZjV:FnScope ["refusal"] ["refusal"] (Zad Zcn):=⟨rfl,rfl,rfl,by decide +kernel,rfl,by decide +kernel,by decide +kernel⟩
theorem Zit {f G fI:Addr} {fd fdI:FuncData} (F:Fun K "refused" "refused" Zcn f fd) (T:TxtG K mg G) (MG:Mk K G fI) (GI:FnOk P w K mg base CX0 1 fI fdI ["self","refusal","parts","field","lines"] (ZfD G)) (bI:Binds K fdI ["self","refusal","parts","field","lines"] []):
  FnOk P w K mg base CX0 3 f fd ["refusal"] (Zei G):=by
 refine F.ok ZjV (fun vs H Q E h=>?_) (fun cdv A outer s H vs Q E hr h=>?_)
 ·obtain ⟨z,rfl,_⟩:=h
  rfl
 ·obtain ⟨z,rfl,k⟩:=h
  refine ⟨_,Zaf (Zav (ZbM MG GI hr rfl T.mgC bI .nil Zar (Zaa (pv 0) (Zaa ZcL (Zaa ZcL (Zaa ZcL Zae)))))),?_⟩
  refine ⟨_,rfl,fun g dx hg hdx hne=>⟨g,dx,_,_,_,_,rfl,Zac,fun H1 h1 k1=>⟨rfl,?_⟩⟩⟩
  exact k g H1 (Same.made hg hdx k1) h1
theorem scReadRC:FnScope ["c","reader","parts"] ["c"] (Zad Zdo):=⟨rfl,rfl,rfl,by decide +kernel,rfl,by decide +kernel,by decide +kernel⟩
theorem ZjW {f C D G fI fJ fR fC fX:Addr} {fd fdI fdJ fdR fdC fdX:FuncData} (F:Fun K "read_right_catalogue" "read_right_catalogue" Zdo f fd) (T:TxtR K mg C) (TG:TxtG K mg G) (MC:Mk K C fI) (GI:FnOk P w K mg base CX0 1 fI fdI ["self","text"] (ZhB C)) (bI:Binds K fdI ["self","text"] [])
  (MG:Mk K G fJ) (GJ:FnOk P w K mg base CX0 1 fJ fdJ ["self","refusal","parts","field","lines"] (ZfD G)) (bJ:Binds K fdJ ["self","refusal","parts","field","lines"] []) (GR:FnOk P w K mg base CX0 3 fR fdR ["refusal"] (Zei G)) (bR:Def K mg "refused" fR fdR ["refusal"])
  (GC:FnOk P w K mg base CX0 7 fC fdC ["reader"] (ZnY K C D)) (bC:Def K mg "read_catalogue" fC fdC ["reader"]) (GX:FnOk P w K mg base CX0 5 fX fdX ["parts"] (ZhF D)) (bX:Def K mg "is_right_catalogue" fX fdX ["parts"]):
  FnOk P w K mg base CX0 8 f fd ["c"] (ZhO K D G):=by
 refine F.ok scReadRC (fun vs H Q E h=>?_) (fun cdv A outer s H vs Q E hr h=>?_)
 ·obtain ⟨a,ns,rfl,_⟩:=h
  rfl
 ·obtain ⟨a,ns,rfl,ht,hb,kn,ky⟩:=h
  obtain ⟨t1,g1⟩:=TG.lc
  obtain ⟨t2,g2⟩:=TG.tl
  obtain ⟨t3,g3⟩:=TG.nc
  obtain ⟨t4,g4⟩:=TG.cn
  have hr2:=hr.mono (j:=3) (by decide)
  refine ⟨_,Zab (Za6 (Zaz Zc9 (ZaH ZaC (by rfl) T.len PySem.boot_len (Zaa (pv 0) Zae)) (Zax (v:=.int 1048576) rfl g1 ⟨t1,rfl⟩) (ZaE _)) (Zaf (Zav (Zak GR hr2 rfl bR.mg bR.kp bR.bd .nil Zar (Zaa (Zax (v:=.int (-2)) rfl g2 ⟨t2,rfl⟩) Zae)))) ZaA) <|
   Zab (Zat (i:=1) scReadRC.nd rfl (Or.inl rfl) (ZbM MC GI (hr.mono (by decide)) rfl T.mgC bI .nil Zar (Zaa (pv 0) Zae))) <|
   Zab (Zat (i:=2) scReadRC.nd rfl (Or.inl rfl) (Zak GC hr rfl bC.mg bC.kp bC.bd .nil Zar (Zaa (pv 1) Zae))) <|
   Zab (Za6 (Zcr (Zam (pv 1) rfl)) (Zaf (Zav (Zak GR hr2 rfl bR.mg bR.kp bR.bd .nil Zar (Zaa (Zax (v:=.int (-6)) rfl g3 ⟨t3,rfl⟩) Zae)))) ZaA) <|
   Zab (Za6 (ZiM (Zcr (Zak GX (hr.mono (by decide)) (by rfl) bX.mg bX.kp bX.bd .nil Zar (Zaa (pv 2) Zae)))) (Zaf (Zav (Zak GR hr2 rfl bR.mg bR.kp bR.bd .nil Zar (Zaa (Zax (v:=.int (-8)) rfl g4 ⟨t4,rfl⟩) Zae)))) ZaA) <|
   Zaf (Zav (ZbM MG GJ (hr.mono (by decide)) rfl TG.mgC bJ .nil Zar (Zaa Zau (Zaa (pv 2) (Zaa ZcL (Zaa ZcL Zae)))))),?_⟩
  refine ⟨_,rfl,a,_,rfl,.inl ht,_,_,rfl,rfl,_,rfl,Zbn (fun h=>?_) (fun h=>?_)⟩
  ·have h':1048576<ns.length:=by
    have h2:=of_decide_eq_true h
    rw [List.length_map] at h2
    lia
   exact ⟨-2,rfl,fun g H' s' hg=>kn g (-2) H' s' (.inl ⟨h',rfl⟩) hg⟩
  ·have h':¬ 1048576<ns.length:=by
    intro h2
    refine h (decide_eq_true ?_)
    rw [List.length_map]
    lia
   refine ⟨_,rfl,fun p dx hp hdx hne=>⟨p,dx,a,rfl,Zac,fun H1 h1 k1=>⟨rfl,?_⟩⟩⟩
   have s1:Same H H1:=Same.made hp hdx k1
   refine ⟨_,rfl,p,a,ns,_,rfl,⟨h1,s1.seq ht⟩,fun l qs H2 h2 h3 h4 k2=>?_⟩
   have s2:Same H H2:=Zeh s1 k2 hp
   obtain ⟨dz,h5⟩:=h4
   refine ⟨_,rfl,p,C,dz,_,_,rfl,h5,T.cl,T.nStuck,ZcW _ _,_,rfl,Zbn (fun hs=>?_) (fun hs=>?_)⟩
   ·exact ⟨-6,rfl,fun g H' s' hg=>kn g (-6) H' (s2.trans s') (.inr (.inl ⟨h',hs,rfl⟩)) hg⟩
   ·have hs':(Zbk ns ⟨0,false⟩).2.stuck=false:=by simpa using hs
    have hc:CatAt D H2 l qs (Zbk ns ⟨0,false⟩).1:=⟨h2,h3,ZmV hb hs',Zlm _ _⟩
    refine ⟨_,rfl,l,qs,_,rfl,hc,fun b H3 s3 hbb=>⟨_,rfl,Zbn (fun hx=>?_) (fun hx=>?_)⟩⟩
    ·have hx':¬ ZbK (Zbk ns ⟨0,false⟩).1:=fun z=>by
      rw [hbb.mpr z] at hx
      cases hx
     exact ⟨-8,rfl,fun g H' s' hg=>kn g (-8) H' (s2.trans (s3.trans s')) (.inr (.inr ⟨h',hs',hx',rfl⟩)) hg⟩
    ·have hx':ZbK (Zbk ns ⟨0,false⟩).1:=hbb.mp (by simpa using hx)
     refine ⟨_,rfl,fun g dg hg hdg hne=>⟨g,dg,_,_,_,_,rfl,Zac,fun H4 h4 k4=>⟨rfl,?_⟩⟩⟩
     have s4:Same H3 H4:=Same.made hg hdg k4
     exact ky g l qs H4 (s2.trans (s3.trans s4)) ⟨h',hs',hx'⟩ (hc.same (s3.trans s4)) h4
end
end Pr
namespace Bm
set_option maxHeartbeats 400000
theorem Zbr (a i:Nat):(a / 2).testBit i=a.testBit (i+1):=(Nat.testBit_succ a i).symm
theorem Zlo:∀ (n a b:Nat),a≤n→(∀ i,a.testBit i=true→b.testBit i=false)→∀ i,(a+b).testBit i=(a.testBit i||b.testBit i):=by
 intro n
 induction n with
 | zero=>
  intro a b ha _ i
  have:a=0:=by lia
  subst this
  simp
 | succ n ih=>
  intro a b ha hd i
  by_cases h0:a=0
  ·subst h0
   simp
  have d0:=hd 0
  rw [Nat.testBit_zero,Nat.testBit_zero] at d0
  simp only [decide_eq_true_eq,decide_eq_false_iff_not] at d0
  have hh:(a+b) / 2=a / 2+b / 2:=by lia
  cases i with
  | zero=>
   rw [Nat.testBit_zero,Nat.testBit_zero,Nat.testBit_zero]
   by_cases p:a%2=1
   ·have:=d0 p
    rw [decide_eq_true p,decide_eq_true (by lia)]
    rfl
   ·rw [decide_eq_false p,Bool.false_or]
    exact decide_eq_decide.mpr (by lia)
  | succ i=>
   rw [← Zbr,← Zbr,← Zbr,hh]
   refine ih (a / 2) (b / 2) (by lia) (fun j hj=>?_) i
   rw [Zbr] at hj ⊢
   exact hd _ hj
theorem ZfE {a b:Nat} (h:∀ i,a.testBit i=true→b.testBit i=false) (i:Nat):(a+b).testBit i=(a.testBit i||b.testBit i):=Zlo a a b (Nat.le_refl _) h i
theorem sub_bits {b s:Nat} (h:s&&&b=s) (i:Nat):(b-s).testBit i=(b.testBit i && !s.testBit i):=by
 have hs:∀ i,s.testBit i=true→b.testBit i=true:=fun i hi=>by
  have:(s&&&b).testBit i=s.testBit i:=by rw [h]
  rw [Nat.testBit_and,hi] at this
  simpa using this
 have hx:∀ i,(b^^^s).testBit i=(b.testBit i && !s.testBit i):=fun i=>by
  rw [Nat.testBit_xor]
  have:=hs i
  cases e:s.testBit i<;>cases e2:b.testBit i<;>simp_all
 have hsum:(b^^^s)+s=b:=by
  apply Nat.eq_of_testBit_eq
  intro j
  rw [ZfE (fun k hk=>?_),hx]
  ·have:=hs j
   cases e:s.testBit j<;>cases e2:b.testBit j<;>simp_all
  ·rw [hx] at hk
   cases e:s.testBit k<;>simp_all
 have:b-s=b^^^s:=by lia
 rw [this,hx]
theorem and_sub {b s:Nat}:s&&&b=s↔∀ i,s.testBit i=true→b.testBit i=true:=by
 constructor
 ·intro h i hi
  have:(s&&&b).testBit i=s.testBit i:=by rw [h]
  rw [Nat.testBit_and,hi] at this
  simpa using this
 ·intro h
  apply Nat.eq_of_testBit_eq
  intro i
  rw [Nat.testBit_and]
  have:=h i
  cases e:s.testBit i<;>simp_all
theorem and_le {b s:Nat} (h:s&&&b=s):s≤b:=by
 rw [← h]
 exact Nat.and_le_right
def bits:List Nat→Nat
 | []=>0
 | a::l=>2^a+bits l
theorem Zc2:∀ {l:List Nat},l.Nodup→∀ i,(bits l).testBit i=decide (i∈l)
 | [],_,i=>by simp [bits]
 | a::l,h,i=>by
  have h1:=List.nodup_cons.mp h
  show (2^a+bits l).testBit i=_
  rw [ZfE (fun j hj=>?_),Nat.testBit_two_pow,Zc2 h1.2]
  ·rw [← Bool.decide_or]
   exact decide_eq_decide.mpr ⟨fun q=>by rcases q with q | q; exact q ▸ List.mem_cons_self; exact List.mem_cons_of_mem _ q,fun q=>by rcases List.mem_cons.mp q with q | q; exact .inl q.symm; exact .inr q⟩
  ·rw [Nat.testBit_two_pow] at hj
   have:a=j:=by simpa using hj
   subst this
   rw [Zc2 h1.2]
   simpa using h1.1
theorem bits_append:∀ (l m:List Nat),bits (l++m)=bits l+bits m
 | [],m=>by simp [bits]
 | a::l,m=>by
  show 2^a+bits (l++m)=2^a+bits l+bits m
  rw [bits_append l m]
  lia
theorem Zlp {l:List Nat} (h:l≠[]):0<bits l:=by
 cases l with
 | nil=>exact absurd rfl h
 | cons a l=>
  show 0<2^a+bits l
  have:=Nat.two_pow_pos a
  lia
def ZjX:Nat→Nat→Nat
 | 0,_=>0
 | f+1,b=>if b%2=1 then 0 else ZjX f (b / 2)+1
def low (b:Nat):Nat:=ZjX b b
theorem ZeW:∀ (f b:Nat),0<b→b≤f→b.testBit (ZjX f b)=true∧∀ i,i<ZjX f b→b.testBit i=false:=by
 intro f
 induction f with
 | zero=>
  intro b h1 h2
  lia
 | succ f ih=>
  intro b h1 h2
  unfold ZjX
  by_cases p:b%2=1
  ·rw [if_pos p]
   refine ⟨by rw [Nat.testBit_zero]; exact decide_eq_true p,fun i hi=>by lia⟩
  ·rw [if_neg p]
   obtain ⟨h3,h4⟩:=ih (b / 2) (by lia) (by lia)
   refine ⟨by rw [← Zbr]; exact h3,fun i hi=>?_⟩
   cases i with
   | zero=>rw [Nat.testBit_zero]; exact decide_eq_false p
   | succ i=>
    rw [← Zbr]
    exact h4 i (by lia)
theorem low_test {b:Nat} (h:0<b):b.testBit (low b)=true:=(ZeW b b h (Nat.le_refl _)).1
theorem low_min {b i:Nat} (h:0<b) (hi:i<low b):b.testBit i=false:=(ZeW b b h (Nat.le_refl _)).2 i hi
theorem Zl7 {b k:Nat} (h1:b.testBit k=true) (h2:∀ i,i<k→b.testBit i=false):low b=k:=by
 have hb:0<b:=by
  rcases Nat.eq_zero_or_pos b with e | e
  ·subst e; simp at h1
  ·exact e
 rcases Nat.lt_trichotomy (low b) k with h | h | h
 ·have:=h2 _ h
  rw [low_test hb] at this
  cases this
 ·exact h
 ·have:=low_min hb h
  rw [h1] at this
  cases this
theorem Zlq:∀ (k b:Nat),b.testBit k=true→(∀ i,i<k→b.testBit i=false)→∀ i,(b^^^(b-1)).testBit i=decide (i<k+1):=by
 intro k
 induction k with
 | zero=>
  intro b h _ i
  rw [Nat.testBit_zero] at h
  have h':b%2=1:=by simpa using h
  rw [Nat.testBit_xor]
  cases i with
  | zero=>
   rw [Nat.testBit_zero,Nat.testBit_zero,decide_eq_true h',decide_eq_false (by lia)]
   rfl
  | succ i=>
   rw [← Zbr,← Zbr]
   have:(b-1) / 2=b / 2:=by lia
   rw [this]
   simp
 | succ k ih=>
  intro b h1 h2 i
  have h0:=h2 0 (by lia)
  rw [Nat.testBit_zero] at h0
  have h':¬ b%2=1:=by simpa using h0
  have hb:0<b:=by
   rcases Nat.eq_zero_or_pos b with e | e
   ·subst e; simp at h1
   ·exact e
  cases i with
  | zero=>
   rw [Nat.testBit_xor,Nat.testBit_zero,Nat.testBit_zero,decide_eq_false h',decide_eq_true (by lia)]
   simp
  | succ i=>
   have hk:=ih (b / 2) (by rw [Zbr]; exact h1) (fun j hj=>by rw [Zbr]; exact h2 _ (by lia)) i
   rw [Nat.testBit_xor] at hk ⊢
   rw [← Zbr b,← Zbr (b-1)]
   have:(b-1) / 2=b / 2-1:=by lia
   rw [this,hk]
   exact decide_eq_decide.mpr (by lia)
theorem ZmX {b:Nat} (h:0<b):b^^^(b-1)=2^(low b+1)-1:=by
 apply Nat.eq_of_testBit_eq
 intro i
 rw [Zlq (low b) b (low_test h) (fun i hi=>low_min h hi),Nat.testBit_two_pow_sub_one]
end Bm
namespace Dp
open Br Bm
set_option maxHeartbeats 1000000
theorem Zdp {t m x y:Nat} (h:y≤x):(t+m*5^x) / 5^y=t / 5^y+m*5^(x-y):=by
 have e:m*5^x=m*5^(x-y)*5^y:=by rw [Nat.mul_assoc,← Nat.pow_add,Nat.sub_add_cancel h]
 rw [e,Nat.add_mul_div_right _ _ (Nat.pow_pos (by decide))]
theorem ZdK {t x y:Nat} (h:x<y):t / 5^y=t / 5^x / 5 / 5^(y-x-1):=by
 rw [Nat.div_div_eq_div_mul,Nat.div_div_eq_div_mul,← Nat.pow_succ',← Nat.pow_add]
 congr 2
 lia
theorem Zhd {s x a y:Nat} (h0:digit s x=0) (ha:a≤4) (h:x<y):(s+a*5^x) / 5^y=s / 5^y:=by
 rw [ZdK h,ZdK h,Zdp (Nat.le_refl x),Nat.sub_self]
 unfold digit at h0
 have:(s / 5^x+a*5^0) / 5=s / 5^x / 5:=by
  rw [Nat.pow_zero,Nat.mul_one]
  lia
 rw [this]
theorem Zgn {s x a:Nat} (h0:digit s x=0) (ha:a≤4) (y:Nat):digit (s+a*5^x) y=if y=x then a else digit s y:=by
 rcases Nat.lt_trichotomy y x with h | h | h
 ·rw [if_neg (by lia)]
  unfold digit
  rw [Zdp (Nat.le_of_lt h)]
  obtain ⟨m,hm⟩:∃ m,x-y=m+1:=⟨x-y-1,by lia⟩
  rw [hm,Nat.pow_succ,← Nat.mul_assoc]
  lia
 ·subst h
  rw [if_pos rfl]
  unfold digit at h0 ⊢
  rw [Zdp (Nat.le_refl y),Nat.sub_self,Nat.pow_zero,Nat.mul_one]
  lia
 ·rw [if_neg (by lia)]
  unfold digit
  rw [Zhd h0 ha h]
theorem Zej {s x:Nat} (h0:0<digit s x):5^x≤s:=by
 unfold digit at h0
 apply Decidable.byContradiction
 intro h
 rw [Nat.div_eq_of_lt (by lia)] at h0
 simp at h0
theorem Zgo {s x:Nat} (h0:0<digit s x) (y:Nat):digit (s-5^x) y=if y=x then digit s x-1 else digit s y:=by
 have hle:=Zej h0
 generalize ht:s-5^x=t
 have hs:s=t+1*5^x:=by lia
 have hd:digit s x=(t / 5^x+1)%5:=by
  unfold digit
  rw [hs,Zdp (Nat.le_refl x),Nat.sub_self]
 rcases Nat.lt_trichotomy y x with h | h | h
 ·rw [if_neg (by lia),hs]
  unfold digit
  rw [Zdp (Nat.le_of_lt h)]
  obtain ⟨m,hm⟩:∃ m,x-y=m+1:=⟨x-y-1,by lia⟩
  rw [hm,Nat.pow_succ,Nat.one_mul]
  lia
 ·subst h
  rw [if_pos rfl,hd]
  rw [hd] at h0
  unfold digit
  lia
 ·rw [if_neg (by lia),hs]
  unfold digit
  rw [ZdK h,ZdK h (t:=t+_),Zdp (Nat.le_refl x),Nat.sub_self]
  rw [hd] at h0
  have:(t / 5^x+1*5^0) / 5=t / 5^x / 5:=by
   rw [Nat.pow_zero]
   lia
  rw [this]
theorem Zct:∀ {w s:Nat},s<5^w→(∀ x,x<w→digit s x=0)→s=0
 | 0,s,h,_=>by simp at h; exact h
 | w+1,s,h,hd=>by
  refine Zct (w:=w) ?_ fun x hx=>hd x (by lia)
  have h1:=hd w (by lia)
  unfold digit at h1
  have h2:s / 5^w<5:=by
   rw [Nat.div_lt_iff_lt_mul (Nat.pow_pos (by decide))]
   rw [Nat.pow_succ] at h
   lia
  have h3:s / 5^w=0:=by
   generalize s / 5^w=q at h1 h2
   lia
  rcases Nat.div_eq_zero_iff.mp h3 with e | e
  ·have:=Nat.pow_pos (n:=w) (show 0<5 by decide)
   lia
  ·exact e
def Ziu (s x d:Nat) (m:Nat):Nat:=s+(d-1)*5^x+((List.range m).map fun (i:Nat)=>d*5^(x+i+1)).sum
theorem Zgp (s x d m:Nat):Ziu s x d (m+1)=Ziu s x d m+d*5^(x+m+1):=by
 unfold Ziu
 rw [List.range_succ,List.map_append,List.sum_append]
 simp [Nat.add_assoc]
theorem Zdq {s x d:Nat} (hd:d≤4):∀ (m:Nat),(∀ i,i≤m→digit s (x+i)=0)→∀ y,digit (Ziu s x d m) y=if y=x then d-1 else if x<y∧y≤x+m then d else digit s y
 | 0,h,y=>by
  have:Ziu s x d 0=s+(d-1)*5^x:=by simp [Ziu]
  rw [this,Zgn (show digit s x=0 from h 0 (Nat.le_refl _)) (by lia)]
  by_cases e:y=x
  ·rw [if_pos e,if_pos e]
  ·rw [if_neg e,if_neg e,if_neg (by lia)]
 | m+1,h,y=>by
  have ih:=Zdq hd m (fun i hi=>h i (by lia))
  rw [Zgp,Zgn _ hd,ih]
  ·by_cases e:y=x+m+1
   ·rw [if_pos e,if_neg (by lia),if_pos (by lia)]
   ·rw [if_neg e]
    by_cases e2:y=x
    ·rw [if_pos e2,if_pos e2]
    ·rw [if_neg e2,if_neg e2]
     by_cases e3:x<y∧y≤x+m
     ·rw [if_pos e3,if_pos (by lia)]
     ·rw [if_neg e3,if_neg (by lia)]
  ·rw [ih,if_neg (by lia),if_neg (by lia)]
   exact h (m+1) (Nat.le_refl _)
theorem lt_of_quo {s w:Nat}:s<5^w↔s / 5^w=0:=by
 have hp:=Nat.pow_pos (n:=w) (show 0<5 by decide)
 rw [Nat.div_eq_zero_iff]
 lia
theorem ZjY {s x d w:Nat} (hd:d≤4) (hs:s<5^w):∀ (m:Nat),x+m<w→(∀ i,i≤m→digit s (x+i)=0)→Ziu s x d m<5^w
 | 0,h1,h=>by
  have:Ziu s x d 0=s+(d-1)*5^x:=by simp [Ziu]
  rw [this,lt_of_quo,Zhd (show digit s x=0 from h 0 (Nat.le_refl _)) (by lia) (by lia)]
  exact lt_of_quo.mp hs
 | m+1,h1,h=>by
  have ih:=ZjY hd hs m (by lia) (fun i hi=>h i (by lia))
  have hdg:=Zdq hd m (fun i hi=>h i (by lia)) (s:=s) (x:=x)
  rw [Zgp,lt_of_quo,Zhd _ hd (by lia)]
  ·exact lt_of_quo.mp ih
  ·rw [hdg,if_neg (by lia),if_neg (by lia)]
   exact h (m+1) (Nat.le_refl _)
structure FOk (F:Field):Prop where
 w1:1≤F.wide
 w6:F.wide≤6
 d1:1≤F.deep
 d12:F.deep≤12
 len:F.places.length=F.deep*F.wide
abbrev Sizes:=List (Nat×Nat×Nat)
def SOk (zs:Sizes):Prop:=∀ p∈zs,1≤p.2.1∧1≤p.2.2∧p.2.2≤4
def col (F:Field) (k:Nat):Option Nat:=F.places.getD k Option.none
def area (F:Field):Nat:=F.deep*F.wide
def rectL (W x y w d:Nat):List Nat:=(List.range d).flatMap fun (j:Nat)=>(List.range w).map fun (i:Nat)=>W*(y+j)+(x+i)
def shape (F:Field) (x y w d:Nat) (c:Option Nat):Nat:=if F.wide<x+w∨F.deep<y+d then 0 else if (rectL F.wide x y w d).all (fun k=>col F k==c)=true then bits (rectL F.wide x y w d) else 0
def shapesAt (zs:Sizes) (F:Field) (k:Nat):List (Nat×Nat):=if (col F k).isNone=true then [] else (zs.map fun p=>(p.1,shape F (k%F.wide) (k / F.wide) p.2.1 p.2.2 (col F k))).filter fun q=>decide (0<q.2)
def steps (zs:Sizes) (F:Field) (B:Nat):List (Nat×Nat):=if B=0 then [] else ((shapesAt zs F (low B)).filter fun q=>q.2&&&B==q.2).map fun q=>(q.1,B-q.2)
theorem ZdL {W x y w d:Nat} (hx:x+w≤W) {p:Nat}:p∈rectL W x y w d↔x≤p%W∧p%W<x+w∧y≤p / W∧p / W<y+d:=by
 unfold rectL
 rw [List.mem_flatMap]
 constructor
 ·rintro ⟨j,hj,h⟩
  obtain ⟨i,hi,rfl⟩:=List.mem_map.mp h
  rw [List.mem_range] at hj hi
  have hW:0<W:=by lia
  rw [Nat.mul_add_mod,Nat.mod_eq_of_lt (by lia),Nat.mul_add_div hW,Nat.div_eq_of_lt (by lia)]
  lia
 ·rintro ⟨h1,h2,h3,h4⟩
  refine ⟨p / W-y,List.mem_range.mpr (by lia),List.mem_map.mpr ⟨p%W-x,List.mem_range.mpr (by lia),?_⟩⟩
  have e1:y+(p / W-y)=p / W:=by lia
  have e2:x+(p%W-x)=p%W:=by lia
  rw [e1,e2]
  exact Nat.div_add_mod p W
theorem Ziv {W x y w d:Nat} (hx:x+w≤W):(rectL W x y w d).Nodup:=by
 unfold rectL
 induction d with
 | zero=>simp
 | succ d ih=>
  rw [List.range_succ,List.flatMap_append]
  refine List.nodup_append.mpr ⟨ih,?_,?_⟩
  ·simp only [List.flatMap_cons,List.flatMap_nil,List.append_nil]
   unfold List.Nodup
   rw [List.pairwise_map]
   refine List.Pairwise.imp (fun {a b} h e=>h ?_) List.nodup_range
   lia
  ·intro a ha b hb e
   subst e
   have h1:=(ZdL hx (y:=y) (d:=d)).mp (show a∈rectL W x y w d from ha)
   simp only [List.flatMap_cons,List.flatMap_nil,List.append_nil] at hb
   obtain ⟨i,hi,rfl⟩:=List.mem_map.mp hb
   rw [List.mem_range] at hi
   have hW:0<W:=by lia
   rw [Nat.mul_add_mod,Nat.mod_eq_of_lt (by lia),Nat.mul_add_div hW,Nat.div_eq_of_lt (by lia)] at h1
   lia
theorem ZmY {W x y w d:Nat} (hw:1≤w) (hd:1≤d):rectL W x y w d≠[]:=by
 have:W*(y+0)+(x+0)∈rectL W x y w d:=by
  unfold rectL
  exact List.mem_flatMap.mpr ⟨0,List.mem_range.mpr (by lia),List.mem_map.mpr ⟨0,List.mem_range.mpr (by lia),rfl⟩⟩
 intro e
 rw [e] at this
 cases this
theorem ZbT {F:Field} {x y w d:Nat} {c:Option Nat} (hw:1≤w) (hd:1≤d):0<shape F x y w d c↔x+w≤F.wide∧y+d≤F.deep∧∀ p∈rectL F.wide x y w d,col F p=c:=by
 unfold shape
 by_cases h:F.wide<x+w∨F.deep<y+d
 ·rw [if_pos h]
  constructor
  ·intro q; lia
  ·intro q; lia
 ·rw [if_neg h]
  by_cases h2:(rectL F.wide x y w d).all (fun k=>col F k==c)=true
  ·rw [if_pos h2]
   refine ⟨fun _=>⟨by lia,by lia,fun p hp=>?_⟩,fun _=>Zlp (ZmY hw hd)⟩
   have:=List.all_eq_true.mp h2 p hp
   simpa using this
  ·rw [if_neg h2]
   constructor
   ·intro q; lia
   ·rintro ⟨_,_,q⟩
    exact absurd (List.all_eq_true.mpr fun p hp=>by simpa using q p hp) h2
theorem Zdr {F:Field} {x y w d:Nat} {c:Option Nat} (h:0<shape F x y w d c) (p:Nat):(shape F x y w d c).testBit p=decide (x≤p%F.wide∧p%F.wide<x+w∧y≤p / F.wide∧p / F.wide<y+d):=by
 unfold shape at h ⊢
 by_cases h1:F.wide<x+w∨F.deep<y+d
 ·rw [if_pos h1] at h; lia
 ·rw [if_neg h1] at h ⊢
  by_cases h2:(rectL F.wide x y w d).all (fun k=>col F k==c)=true
  ·rw [if_pos h2] at h ⊢
   rw [Zc2 (Ziv (by lia))]
   exact decide_eq_decide.mpr (ZdL (by lia))
  ·rw [if_neg h2] at h; lia
theorem steps_lt {zs:Sizes} {F:Field} {B:Nat} {q:Nat×Nat} (h:q∈steps zs F B):q.2<B:=by
 unfold steps at h
 by_cases hB:B=0
 ·rw [if_pos hB] at h; cases h
 ·rw [if_neg hB] at h
  obtain ⟨a,ha,rfl⟩:=List.mem_map.mp h
  obtain ⟨h1,h2⟩:=List.mem_filter.mp ha
  have h3:0<a.2:=by
   unfold shapesAt at h1
   split at h1
   ·cases h1
   ·have:=(List.mem_filter.mp h1).2
    simpa using this
  show B-a.2<B
  lia
theorem ZjZ {F:Field} {x y:Nat} (hx:x<F.wide) (hy:y<F.deep):F.at_ x y=col F (F.wide*y+x):=by
 unfold Field.at_ col
 rw [if_pos ⟨hx,hy⟩,Nat.mul_comm]
theorem ZmZ {F:Field} {x y:Nat} (h:¬ (x<F.wide∧y<F.deep)):F.at_ x y=Option.none:=by
 unfold Field.at_
 rw [if_neg h]
theorem Zoc {F:Field} (hf:FOk F) {k:Nat} (h:k<area F):k / F.wide<F.deep:=by
 rw [Nat.div_lt_iff_lt_mul (by have:=hf.w1; lia)]
 exact h
theorem Zov {F:Field} (hf:FOk F) {k:Nat} (h:k<area F):F.at_ (k%F.wide) (k / F.wide)=col F k:=by
 rw [ZjZ (Nat.mod_lt _ (by have:=hf.w1; lia)) (Zoc hf h),Nat.div_add_mod]
theorem fits {F:Field} (hf:FOk F) {k:Nat} (hk:k<area F) (hc:(col F k).isSome=true) {p:Nat×Nat×Nat} (hw:1≤p.2.1) (hd:1≤p.2.2):
  ((List.range p.2.1).all fun (i:Nat)=>(List.range p.2.2).all fun (j:Nat)=>F.at_ (k%F.wide+i) (k / F.wide+j)==F.at_ (k%F.wide) (k / F.wide))=decide (0<shape F (k%F.wide) (k / F.wide) p.2.1 p.2.2 (col F k)):=by
 rw [Zov hf hk]
 generalize k%F.wide=x
 generalize k / F.wide=y
 obtain ⟨c,hc⟩:=Option.isSome_iff_exists.mp hc
 rw [hc]
 by_cases h:0<shape F x y p.2.1 p.2.2 (some c)
 ·rw [decide_eq_true h]
  obtain ⟨h1,h2,h3⟩:=(ZbT hw hd).mp h
  refine List.all_eq_true.mpr fun i hi=>List.all_eq_true.mpr fun j hj=>?_
  rw [List.mem_range] at hi hj
  rw [ZjZ (by lia) (by lia),h3]
  ·simp
  ·unfold rectL
   exact List.mem_flatMap.mpr ⟨j,List.mem_range.mpr hj,List.mem_map.mpr ⟨i,List.mem_range.mpr hi,rfl⟩⟩
 ·rw [decide_eq_false h]
  apply Bool.eq_false_iff.mpr
  intro q
  apply h
  have q':∀ i,i<p.2.1→∀ j,j<p.2.2→F.at_ (x+i) (y+j)=some c:=fun i hi j hj=>by
   have:=List.all_eq_true.mp (List.all_eq_true.mp q i (List.mem_range.mpr hi)) j (List.mem_range.mpr hj)
   simpa using this
  have hin:∀ i,i<p.2.1→∀ j,j<p.2.2→x+i<F.wide∧y+j<F.deep:=fun i hi j hj=>by
   apply Decidable.byContradiction
   intro z
   have:=q' i hi j hj
   rw [ZmZ z] at this
   cases this
  have hc1:=hin (p.2.1-1) (by lia) (p.2.2-1) (by lia)
  refine (ZbT hw hd).mpr ⟨by lia,by lia,fun r hr=>?_⟩
  unfold rectL at hr
  obtain ⟨j,hj,hr⟩:=List.mem_flatMap.mp hr
  obtain ⟨i,hi,rfl⟩:=List.mem_map.mp hr
  rw [List.mem_range] at hi hj
  have hb:=hin i hi j hj
  rw [← ZjZ hb.1 hb.2]
  exact q' i hi j hj
end Dp
namespace Dp
open Br Bm
set_option maxHeartbeats 1000000
set_option linter.all false
abbrev Aft (y x d py px:Nat):Prop:=y+d<py∨(y+d=py∧x≤px)
def Zek (F:Field) (k s p:Nat):Bool:=(col F p).isSome&&decide (Aft (k / F.wide) (k%F.wide) (digit s (p%F.wide)) (p / F.wide) (p%F.wide))
def bare (F:Field) (k s:Nat):Nat:=bits ((List.range (area F)).filter (Zek F k s))
theorem ZaZ (F:Field) (k s p:Nat):(bare F k s).testBit p=(decide (p<area F)&&Zek F k s p):=by
 unfold bare
 rw [Zc2 (List.Pairwise.filter _ List.nodup_range)]
 by_cases h:p<area F<;>simp [h]
structure Inv (F:Field) (k s:Nat):Prop where
 lt:s<5^F.wide
 cov:∀ p,Aft (k / F.wide) (k%F.wide) 0 (p / F.wide) (p%F.wide)→¬ Aft (k / F.wide) (k%F.wide) (digit s (p%F.wide)) (p / F.wide) (p%F.wide)→p<area F∧(col F p).isSome=true
theorem next (F:Field) (hf:FOk F) (k:Nat):(k%F.wide+1<F.wide∧(k+1) / F.wide=k / F.wide∧(k+1)%F.wide=k%F.wide+1)∨(k%F.wide+1=F.wide∧(k+1) / F.wide=k / F.wide+1∧(k+1)%F.wide=0):=by
 have hw:=hf.w1
 have hm:=Nat.mod_lt k (show 0<F.wide by lia)
 have e:=Nat.div_add_mod k F.wide
 by_cases h:k%F.wide+1<F.wide
 ·refine .inl ⟨h,?_,?_⟩
  ·have:k+1=F.wide*(k / F.wide)+(k%F.wide+1):=by lia
   rw [this,Nat.mul_add_div (by lia),Nat.div_eq_of_lt h,Nat.add_zero]
  ·have:k+1=F.wide*(k / F.wide)+(k%F.wide+1):=by lia
   rw [this,Nat.mul_add_mod,Nat.mod_eq_of_lt h]
 ·have h2:k%F.wide+1=F.wide:=by lia
  have:k+1=F.wide*(k / F.wide+1):=by rw [Nat.mul_add,Nat.mul_one]; lia
  refine .inr ⟨h2,?_,?_⟩
  ·rw [this,Nat.mul_div_cancel_left _ (by lia)]
  ·rw [this]
   exact Nat.mul_mod_right _ _
theorem Ziw (F:Field) {p k:Nat} (h1:p / F.wide=k / F.wide) (h2:p%F.wide=k%F.wide):p=k:=by
 rw [← Nat.div_add_mod p F.wide,← Nat.div_add_mod k F.wide,h1,h2]
theorem Zj0 {F:Field} (hf:FOk F) {k s:Nat} (I:Inv F k s) (hk:k<area F) (hc:(col F k).isSome=false):digit s (k%F.wide)=0∧bare F (k+1) s=bare F k s∧Inv F (k+1) s:=by
 have h0:digit s (k%F.wide)=0:=by
  apply Decidable.byContradiction
  intro h
  have:=(I.cov k (.inr ⟨by lia,Nat.le_refl _⟩) (by rintro (q | q)<;>lia)).2
  rw [hc] at this
  cases this
 have hW:=hf.w1
 refine ⟨h0,?_,I.lt,fun p h1 h2=>?_⟩
 ·apply Nat.eq_of_testBit_eq
  intro p
  rw [ZaZ,ZaZ]
  congr 1
  unfold Zek
  by_cases hp:(col F p).isSome=true
  ·rw [hp,Bool.true_and,Bool.true_and]
   have hpx:=Nat.mod_lt p (show 0<F.wide by lia)
   have hne:¬ (p / F.wide=k / F.wide∧p%F.wide=k%F.wide):=fun q=>by
    rw [Ziw F q.1 q.2,hc] at hp; cases hp
   refine decide_eq_decide.mpr ?_
   by_cases ex:p%F.wide=k%F.wide
   ·rw [ex,h0]
    rcases next F hf k with ⟨a,b,c⟩ | ⟨a,b,c⟩
    ·rw [b,c]; constructor<;>rintro (q | q)<;>lia
    ·rw [b,c]; constructor<;>rintro (q | q)<;>lia
   ·rcases next F hf k with ⟨a,b,c⟩ | ⟨a,b,c⟩
    ·rw [b,c]; constructor<;>rintro (q | q)<;>lia
    ·rw [b,c]; constructor<;>rintro (q | q)<;>lia
  ·rw [Bool.not_eq_true] at hp
   rw [hp]
   simp
 ·have hpx:=Nat.mod_lt p (show 0<F.wide by lia)
  refine I.cov p ?_ ?_
  ·rcases next F hf k with ⟨a,b,c⟩ | ⟨a,b,c⟩
   ·rw [b,c] at h1; rcases h1 with q | q<;>lia
   ·rw [b,c] at h1; rcases h1 with q | q<;>lia
  ·by_cases ex:p%F.wide=k%F.wide
   ·rw [ex,h0] at h2 ⊢
    rw [ex] at h1
    rcases next F hf k with ⟨a,b,c⟩ | ⟨a,b,c⟩
    ·rw [b,c] at h1 h2; lia
    ·rw [b,c] at h1 h2; lia
   ·rcases next F hf k with ⟨a,b,c⟩ | ⟨a,b,c⟩
    ·rw [b,c] at h2; lia
    ·rw [b,c] at h2; lia
theorem Zlr {F:Field} (hf:FOk F) {k s:Nat} (I:Inv F k s) (hd:0<digit s (k%F.wide)):bare F (k+1) (s-5^(k%F.wide))=bare F k s∧Inv F (k+1) (s-5^(k%F.wide)):=by
 have hW:=hf.w1
 refine ⟨?_,?_,fun p h1 h2=>?_⟩
 ·apply Nat.eq_of_testBit_eq
  intro p
  rw [ZaZ,ZaZ]
  congr 1
  unfold Zek
  congr 1
  have hpx:=Nat.mod_lt p (show 0<F.wide by lia)
  refine decide_eq_decide.mpr ?_
  rw [Zgo hd]
  by_cases ex:p%F.wide=k%F.wide
  ·rw [if_pos ex,ex]
   rcases next F hf k with ⟨a,b,c⟩ | ⟨a,b,c⟩
   ·rw [b,c]; constructor<;>rintro (q | q)<;>lia
   ·rw [b,c]; constructor<;>rintro (q | q)<;>lia
  ·rw [if_neg ex]
   rcases next F hf k with ⟨a,b,c⟩ | ⟨a,b,c⟩
   ·rw [b,c]; constructor<;>rintro (q | q)<;>lia
   ·rw [b,c]; constructor<;>rintro (q | q)<;>lia
 ·exact Nat.lt_of_le_of_lt (Nat.sub_le _ _) I.lt
 ·have hpx:=Nat.mod_lt p (show 0<F.wide by lia)
  rw [Zgo hd] at h2
  refine I.cov p ?_ ?_
  ·rcases next F hf k with ⟨a,b,c⟩ | ⟨a,b,c⟩
   ·rw [b,c] at h1; rcases h1 with q | q<;>lia
   ·rw [b,c] at h1; rcases h1 with q | q<;>lia
  ·by_cases ex:p%F.wide=k%F.wide
   ·rw [if_pos ex] at h2
    rw [ex] at h1 h2 ⊢
    rcases next F hf k with ⟨a,b,c⟩ | ⟨a,b,c⟩
    ·rw [b,c] at h1 h2; lia
    ·rw [b,c] at h1 h2; lia
   ·rw [if_neg ex] at h2
    rcases next F hf k with ⟨a,b,c⟩ | ⟨a,b,c⟩
    ·rw [b,c] at h2; lia
    ·rw [b,c] at h2; lia
theorem Zls {F:Field} {k s:Nat} (hk:k<area F) (hc:(col F k).isSome=true) (h0:digit s (k%F.wide)=0):low (bare F k s)=k∧0<bare F k s:=by
 have h1:(bare F k s).testBit k=true:=by
  rw [ZaZ,decide_eq_true hk,Bool.true_and]
  unfold Zek
  rw [hc,h0,decide_eq_true (.inr ⟨rfl,Nat.le_refl _⟩)]
  rfl
 refine ⟨Zl7 h1 fun p hp=>?_,?_⟩
 ·rw [ZaZ]
  unfold Zek
  have:¬ Aft (k / F.wide) (k%F.wide) (digit s (p%F.wide)) (p / F.wide) (p%F.wide):=by
   intro q
   have e1:=Nat.div_add_mod p F.wide
   have e2:=Nat.div_add_mod k F.wide
   rcases q with q | q
   ·have:F.wide*(k / F.wide+1)≤F.wide*(p / F.wide):=Nat.mul_le_mul_left _ (by lia)
    rw [Nat.mul_add] at this
    have:F.wide=0∨k%F.wide<F.wide:=by
     rcases Nat.eq_zero_or_pos F.wide with z | z
     ·exact .inl z
     ·exact .inr (Nat.mod_lt _ z)
    rcases this with z | z
    ·rw [z] at q
     simp at q
    ·lia
   ·have:F.wide*(k / F.wide)≤F.wide*(p / F.wide):=Nat.mul_le_mul_left _ (by lia)
    lia
  rw [decide_eq_false this]
  simp
 ·rcases Nat.eq_zero_or_pos (bare F k s) with e | e
  ·rw [e] at h1; simp at h1
  ·exact e
theorem Zlt {F:Field} (hf:FOk F) {k s:Nat} (I:Inv F k s) (hk:k<area F) (hc:(col F k).isSome=true) (h0:digit s (k%F.wide)=0) {w d:Nat} (hw:1≤w) (hd:1≤d) (hd4:d≤4)
  (hfit:0<shape F (k%F.wide) (k / F.wide) w d (col F k)):
  ((List.range w).all (fun (i:Nat)=>digit s (k%F.wide+i)==0)=true↔shape F (k%F.wide) (k / F.wide) w d (col F k)&&&bare F k s=shape F (k%F.wide) (k / F.wide) w d (col F k)) ∧
  ((List.range w).all (fun (i:Nat)=>digit s (k%F.wide+i)==0)=true→bare F (k+1) (Ziu s (k%F.wide) d (w-1))=bare F k s-shape F (k%F.wide) (k / F.wide) w d (col F k)∧Inv F (k+1) (Ziu s (k%F.wide) d (w-1))):=by
 have hW:=hf.w1
 have htest:=Zdr hfit
 obtain ⟨b1,b2,b3⟩:=(ZbT hw hd).mp hfit
 have hall:(List.range w).all (fun (i:Nat)=>digit s (k%F.wide+i)==0)=true↔∀ i,i<w→digit s (k%F.wide+i)=0:=by
  rw [List.all_eq_true]
  constructor
  ·intro h i hi
   simpa using h i (List.mem_range.mpr hi)
  ·intro h i hi
   simpa using h i (List.mem_range.mp hi)
 have hin:∀ p,k%F.wide≤p%F.wide∧p%F.wide<k%F.wide+w∧k / F.wide≤p / F.wide∧p / F.wide<k / F.wide+d→p<area F∧col F p=col F k:=fun p hp=>by
  refine ⟨?_,b3 p ((ZdL b1).mpr hp)⟩
  have:p / F.wide<F.deep:=by lia
  rw [Nat.div_lt_iff_lt_mul (by lia)] at this
  exact this
 have hiff:(∀ i,i<w→digit s (k%F.wide+i)=0)↔shape F (k%F.wide) (k / F.wide) w d (col F k)&&&bare F k s=shape F (k%F.wide) (k / F.wide) w d (col F k):=by
  rw [and_sub]
  constructor
  ·intro h p hp
   rw [htest] at hp
   have hp:=of_decide_eq_true hp
   obtain ⟨h1,h2⟩:=hin p hp
   rw [ZaZ,decide_eq_true h1,Bool.true_and]
   unfold Zek
   rw [h2,hc,Bool.true_and]
   have e:digit s (p%F.wide)=0:=by
    have:=h (p%F.wide-k%F.wide) (by lia)
    rw [show k%F.wide+(p%F.wide-k%F.wide)=p%F.wide by lia] at this
    exact this
   rw [e]
   refine decide_eq_true ?_
   show k / F.wide+0<p / F.wide∨_
   lia
  ·intro h i hi
   have em:(F.wide*(k / F.wide)+(k%F.wide+i))%F.wide=k%F.wide+i:=by rw [Nat.mul_add_mod,Nat.mod_eq_of_lt (by lia)]
   have ed:(F.wide*(k / F.wide)+(k%F.wide+i)) / F.wide=k / F.wide:=by rw [Nat.mul_add_div (by lia),Nat.div_eq_of_lt (a:=k%F.wide+i) (by lia)]; rfl
   have:=h (F.wide*(k / F.wide)+(k%F.wide+i)) (by
    rw [htest,em,ed]
    exact decide_eq_true (by lia))
   rw [ZaZ] at this
   have:=(Bool.and_eq_true_iff.mp this).2
   unfold Zek at this
   have:=of_decide_eq_true (Bool.and_eq_true_iff.mp this).2
   rw [em,ed] at this
   rcases this with q | q<;>lia
 refine ⟨by rw [hall]; exact hiff,fun h=>?_⟩
 have hz:=hall.mp h
 have hsub:=hiff.mp hz
 have hz2:∀ i,i≤w-1→digit s (k%F.wide+i)=0:=fun i hi=>hz i (by lia)
 have hdg:=Zdq hd4 (w-1) hz2
 refine ⟨?_,ZjY hd4 I.lt (w-1) (by lia) hz2,fun p h1 h2=>?_⟩
 ·apply Nat.eq_of_testBit_eq
  intro p
  rw [sub_bits hsub,ZaZ,ZaZ,htest]
  by_cases hp:p<area F
  ·rw [decide_eq_true hp,Bool.true_and,Bool.true_and]
   unfold Zek
   by_cases hcp:(col F p).isSome=true
   ·rw [hcp,Bool.true_and,Bool.true_and,← decide_not,← Bool.decide_and]
    have hpx:=Nat.mod_lt p (show 0<F.wide by lia)
    refine decide_eq_decide.mpr ?_
    rw [hdg]
    by_cases e1:p%F.wide=k%F.wide
    ·rw [if_pos e1,e1,h0]
     rcases next F hf k with ⟨a,b,c⟩ | ⟨a,b,c⟩
     ·rw [b,c]; constructor
      ·rintro (q | q)<;>constructor<;>lia
      ·rintro ⟨q1,q2⟩; lia
     ·rw [b,c]; constructor
      ·rintro (q | q)<;>constructor<;>lia
      ·rintro ⟨q1,q2⟩; lia
    ·rw [if_neg e1]
     by_cases e2:k%F.wide<p%F.wide∧p%F.wide≤k%F.wide+(w-1)
     ·have e3:digit s (p%F.wide)=0:=by
       have:=hz (p%F.wide-k%F.wide) (by lia)
       rw [show k%F.wide+(p%F.wide-k%F.wide)=p%F.wide by lia] at this
       exact this
      rw [if_pos e2,e3]
      rcases next F hf k with ⟨a,b,c⟩ | ⟨a,b,c⟩
      ·rw [b,c]; constructor
       ·rintro (q | q)<;>constructor<;>lia
       ·rintro ⟨q1,q2⟩; lia
      ·rw [b,c]; constructor
       ·rintro (q | q)<;>constructor<;>lia
       ·rintro ⟨q1,q2⟩; lia
     ·rw [if_neg e2]
      rcases next F hf k with ⟨a,b,c⟩ | ⟨a,b,c⟩
      ·rw [b,c]; constructor
       ·rintro (q | q)<;>constructor<;>lia
       ·rintro ⟨q1,q2⟩; lia
      ·rw [b,c]; constructor
       ·rintro (q | q)<;>constructor<;>lia
       ·rintro ⟨q1,q2⟩; lia
   ·rw [Bool.not_eq_true] at hcp
    rw [hcp]
    simp
  ·rw [decide_eq_false hp]
   simp
 ·have hpx:=Nat.mod_lt p (show 0<F.wide by lia)
  rw [hdg] at h2
  by_cases e1:p%F.wide=k%F.wide
  ·rw [if_pos e1] at h2
   have:=hin p (by
    rcases next F hf k with ⟨a,b,c⟩ | ⟨a,b,c⟩
    ·rw [b,c] at h1 h2; lia
    ·rw [b,c] at h1 h2; lia)
   exact ⟨this.1,by rw [this.2]; exact hc⟩
  ·rw [if_neg e1] at h2
   by_cases e2:k%F.wide<p%F.wide∧p%F.wide≤k%F.wide+(w-1)
   ·rw [if_pos e2] at h2
    have:=hin p (by
     rcases next F hf k with ⟨a,b,c⟩ | ⟨a,b,c⟩
     ·rw [b,c] at h1 h2; lia
     ·rw [b,c] at h1 h2; lia)
    exact ⟨this.1,by rw [this.2]; exact hc⟩
   ·rw [if_neg e2] at h2
    refine I.cov p ?_ ?_
    ·rcases next F hf k with ⟨a,b,c⟩ | ⟨a,b,c⟩
     ·rw [b,c] at h1; rcases h1 with q | q<;>lia
     ·rw [b,c] at h1; rcases h1 with q | q<;>lia
    ·rcases next F hf k with ⟨a,b,c⟩ | ⟨a,b,c⟩
     ·rw [b,c] at h2; lia
     ·rw [b,c] at h2; lia
theorem Zc3 {F:Field} (hf:FOk F) {s:Nat} (I:Inv F (area F) s):s=0∧bare F (area F) s=0:=by
 have hW:=hf.w1
 have e1:area F / F.wide=F.deep:=Nat.mul_div_cancel _ (by lia)
 have e2:area F%F.wide=0:=Nat.mul_mod_left _ _
 have hz:s=0:=Zct I.lt fun x hx=>by
  apply Decidable.byContradiction
  intro h
  have em:(F.wide*F.deep+x)%F.wide=x:=by rw [Nat.mul_add_mod,Nat.mod_eq_of_lt hx]
  have ed:(F.wide*F.deep+x) / F.wide=F.deep:=by rw [Nat.mul_add_div (by lia),Nat.div_eq_of_lt hx]; rfl
  have:=(I.cov (F.wide*F.deep+x) (by rw [e1,e2,em,ed]; lia) (by rw [e1,e2,em,ed]; lia)).1
  unfold area at this
  rw [Nat.mul_comm] at this
  lia
 refine ⟨hz,?_⟩
 apply Nat.eq_of_testBit_eq
 intro p
 rw [ZaZ,Nat.zero_testBit]
 by_cases hp:p<area F
 ·have:p / F.wide<F.deep:=by
   rw [Nat.div_lt_iff_lt_mul (by lia)]
   exact hp
  unfold Zek
  rw [e1,decide_eq_false (p:=Aft _ _ _ _ _) (by rintro (q | q)<;>lia)]
  simp
 ·rw [decide_eq_false hp]
  rfl
end Dp
namespace Dp
open Br Bm
set_option maxHeartbeats 1000000
set_option linter.all false
def T (zs:Sizes) (F:Field) (k:Nat):Turn:=turnAt zs F (k%F.wide) (k / F.wide)
theorem Zm0 {zs:Sizes} {F:Field} (hf:FOk F) {k:Nat} (hk:k<area F):(T zs F k).coloured=(col F k).isSome:=by
 show (F.at_ _ _).isSome=_
 rw [Zov hf hk]
def Zod (F:Field) (k:Nat) (p:Nat×Nat×Nat):Bool:=(List.range p.2.1).all fun (i:Nat)=>(List.range p.2.2).all fun (j:Nat)=>F.at_ (k%F.wide+i) (k / F.wide+j)==F.at_ (k%F.wide) (k / F.wide)
def Zoe (F:Field) (k s:Nat) (p:Nat×Nat×Nat):Option (Option Nat×Nat):=if (List.range p.2.1).all (fun (i:Nat)=>digit s (k%F.wide+i)==0)=true then some (some p.1,Ziu s (k%F.wide) p.2.2 (p.2.1-1)) else Option.none
def shP (F:Field) (k:Nat) (p:Nat×Nat×Nat):Nat×Nat:=(p.1,shape F (k%F.wide) (k / F.wide) p.2.1 p.2.2 (col F k))
theorem ZhP {F:Field} (hf:FOk F) {k s:Nat} (I:Inv F k s) (hk:k<area F) (hc:(col F k).isSome=true) (h0:digit s (k%F.wide)=0):∀ (zs:Sizes),SOk zs →
  (((zs.filter (Zod F k)).filterMap (Zoe F k s)).map fun z=>(z.1,bare F (k+1) z.2)) =
  (((((zs.map (shP F k)).filter fun q=>decide (0<q.2)).filter fun q=>q.2&&&bare F k s==q.2).map fun q=>(q.1,bare F k s-q.2)).map fun q=>(some q.1,q.2)) ∧
  ∀ z∈(zs.filter (Zod F k)).filterMap (Zoe F k s),Inv F (k+1) z.2
 | [],_=>⟨rfl,fun z hz=>by cases hz⟩
 | p::zs,h=>by
  have ih:=ZhP hf I hk hc h0 zs fun q hq=>h q (List.mem_cons_of_mem _ hq)
  obtain ⟨hw,hd,hd4⟩:=h p List.mem_cons_self
  have e:Zod F k p=decide (0<shape F (k%F.wide) (k / F.wide) p.2.1 p.2.2 (col F k)):=fits hf hk hc hw hd
  by_cases hfit:0<shape F (k%F.wide) (k / F.wide) p.2.1 p.2.2 (col F k)
  ·have e':=e.trans (decide_eq_true hfit)
   obtain ⟨c1,c2⟩:=Zlt hf I hk hc h0 hw hd hd4 hfit
   rw [List.filter_cons_of_pos e',List.map_cons,List.filter_cons_of_pos (a:=shP F k p) (decide_eq_true hfit)]
   by_cases hz:(List.range p.2.1).all (fun (i:Nat)=>digit s (k%F.wide+i)==0)=true
   ·have hs:=c1.mp hz
    obtain ⟨c3,c4⟩:=c2 hz
    have ep:Zoe F k s p=some (some p.1,Ziu s (k%F.wide) p.2.2 (p.2.1-1)):=if_pos hz
    rw [List.filterMap_cons_some ep,List.filter_cons_of_pos (a:=shP F k p) (by show (shape F _ _ _ _ _&&&_==shape F _ _ _ _ _)=true; simpa using hs)]
    refine ⟨?_,fun z hz=>?_⟩
    ·rw [List.map_cons,List.map_cons,List.map_cons,ih.1,c3]
     rfl
    ·rcases List.mem_cons.mp hz with q | q
     ·rw [q]; exact c4
     ·exact ih.2 z q
   ·have hs:=fun q=>hz (c1.mpr q)
    have ep:Zoe F k s p=Option.none:=if_neg hz
    rw [List.filterMap_cons_none ep,List.filter_cons_of_neg (a:=shP F k p) (by show¬(shape F _ _ _ _ _&&&_==shape F _ _ _ _ _)=true; simpa using hs)]
    exact ih
  ·have e':=e.trans (decide_eq_false hfit)
   rw [List.filter_cons_of_neg (by rw [e']; simp),List.map_cons,List.filter_cons_of_neg (a:=shP F k p) (by show¬decide (0<shape F _ _ _ _ _)=true; simpa using hfit)]
   exact ih
structure Ch (zs:Sizes) (F:Field) (k s:Nat):Prop where
 inv:∀ z∈(T zs F k).choices s,Inv F (k+1) z.2
 put:(col F k).isSome=true→digit s (k%F.wide)=0→((T zs F k).choices s).map (fun z=>(z.1,bare F (k+1) z.2))=(steps zs F (bare F k s)).map (fun q=>(some q.1,q.2))∧low (bare F k s)=k∧0<bare F k s
 pass:¬ ((col F k).isSome=true∧digit s (k%F.wide)=0)→∃ s',(T zs F k).choices s=[(Option.none,s')]∧bare F (k+1) s'=bare F k s
theorem Zbm {zs:Sizes} (hz:SOk zs) {F:Field} (hf:FOk F) {k s:Nat} (I:Inv F k s) (hk:k<area F):Ch zs F k s:=by
 by_cases hc:(col F k).isSome=true
 ·by_cases h0:digit s (k%F.wide)=0
  ·have e:(T zs F k).choices s=(zs.filter (Zod F k)).filterMap (Zoe F k s):=by
    unfold Turn.choices
    rw [Zm0 hf hk,hc,if_neg (by simp)]
    rw [if_neg (show¬0<digit s (T zs F k).x by show¬0<digit s (k%F.wide); lia)]
    have:(T zs F k).fit=zs.filter (Zod F k):=by
     show (if (F.at_ (k%F.wide) (k / F.wide)).isNone=true then [] else _)=_
     rw [if_neg]
     ·rfl
     rw [Zov hf hk]
     intro q
     rw [Option.isNone_iff_eq_none] at q
     rw [q] at hc
     cases hc
    rw [this]
    rfl
   obtain ⟨h1,h2⟩:=ZhP hf I hk hc h0 zs hz
   obtain ⟨h3,h4⟩:=Zls hk hc h0
   rw [← e] at h1 h2
   refine ⟨h2,fun _ _=>⟨?_,h3,h4⟩,fun q=>absurd ⟨hc,h0⟩ q⟩
   rw [h1]
   unfold steps shapesAt
   rw [if_neg (by lia),h3,if_neg]
   ·rfl
   intro q
   rw [Option.isNone_iff_eq_none] at q
   rw [q] at hc
   cases hc
  ·obtain ⟨h1,h2⟩:=Zlr hf I (k:=k) (s:=s) (by lia)
   have e:(T zs F k).choices s=[(Option.none,s-5^(k%F.wide))]:=by
    unfold Turn.choices
    rw [Zm0 hf hk,hc,if_neg (by simp),if_pos (show 0<digit s (T zs F k).x by show 0<digit s (k%F.wide); lia)]
    rfl
   refine ⟨fun z hz=>?_,fun _ q=>absurd q h0,fun _=>⟨_,e,h1⟩⟩
   rw [e] at hz
   rw [List.mem_singleton.mp hz]
   exact h2
 ·rw [Bool.not_eq_true] at hc
  obtain ⟨h1,h2,h3⟩:=Zj0 hf I hk hc
  have e:(T zs F k).choices s=[(Option.none,s)]:=by
   unfold Turn.choices
   rw [Zm0 hf hk,hc,if_pos rfl,if_pos (show digit s (T zs F k).x=0 from h1)]
  refine ⟨fun z hz=>?_,fun q=>(by rw [hc] at q; cases q),fun _=>⟨_,e,h2⟩⟩
  rw [e] at hz
  rw [List.mem_singleton.mp hz]
  exact h3
def Zky (g:Nat→Nat×Option Nat) (v:Nat×Option Nat) (q:Nat×Nat):Nat×Option Nat:=(v.1+(g q.2).1,lessOf v.2 ((g q.2).2.map fun n=>n+1))
def wfF (zs:Sizes) (F:Field):Nat→Nat→Nat×Option Nat
 | 0,_=>(0,Option.none)
 | f+1,B=>if B=0 then (1,some 0) else (steps zs F B).foldl (Zky (wfF zs F f)) (0,Option.none)
def wf (zs:Sizes) (F:Field) (B:Nat):Nat×Option Nat:=wfF zs F (B+1) B
theorem Zb2 {α β:Type} {f g:β→α→β}:∀ {l:List α} {b:β},(∀ b a,a∈l→f b a=g b a)→l.foldl f b=l.foldl g b
 | [],_,_=>rfl
 | a::l,b,h=>by
  rw [List.foldl_cons,List.foldl_cons,h b a List.mem_cons_self]
  exact Zb2 fun b x hx=>h b x (List.mem_cons_of_mem _ hx)
theorem Zof (zs:Sizes) (F:Field):∀ (n B f g:Nat),B≤n→B<f→B<g→wfF zs F f B=wfF zs F g B:=by
 intro n
 induction n with
 | zero=>
  intro B f g h1 h2 h3
  obtain ⟨f,rfl⟩:∃ f',f=f'+1:=⟨f-1,by lia⟩
  obtain ⟨g,rfl⟩:∃ f',g=f'+1:=⟨g-1,by lia⟩
  unfold wfF
  rw [if_pos (by lia),if_pos (by lia)]
 | succ n ih=>
  intro B f g h1 h2 h3
  obtain ⟨f,rfl⟩:∃ f',f=f'+1:=⟨f-1,by lia⟩
  obtain ⟨g,rfl⟩:∃ f',g=f'+1:=⟨g-1,by lia⟩
  unfold wfF
  by_cases hB:B=0
  ·rw [if_pos hB,if_pos hB]
  ·rw [if_neg hB,if_neg hB]
   refine Zb2 fun b a ha=>?_
   have:=steps_lt ha
   unfold Zky
   rw [ih a.2 f g (by lia) (by lia) (by lia)]
theorem Zj1 (zs:Sizes) (F:Field):wf zs F 0=(1,some 0):=rfl
theorem Zm1 (zs:Sizes) (F:Field) {B:Nat} (hB:B≠0):wf zs F B=(steps zs F B).foldl (Zky (wf zs F)) (0,Option.none):=by
 show (if B=0 then _ else _)=_
 rw [if_neg hB]
 refine Zb2 fun b a ha=>?_
 have:=steps_lt ha
 unfold Zky wf
 rw [Zof zs F a.2 a.2 B (a.2+1) (Nat.le_refl _) (by lia) (by lia)]
theorem ZfF {α:Type} (a:Array α) (i j:Nat) (v d:α):(a.setIfInBounds i v).getD j d=if i=j∧i<a.size then v else a.getD j d:=by
 rw [Array.getD_eq_getD_getElem?,Array.getElem?_setIfInBounds,Array.getD_eq_getD_getElem?]
 by_cases h:i=j
 ·subst h
  by_cases h2:i<a.size
  ·simp [h2]
  ·simp [h2]
 ·simp [h]
theorem Zj2 {α:Type} (n j:Nat) (d:α):(Array.replicate n d).getD j d=d:=by
 rw [Array.getD_eq_getD_getElem?,Array.getElem?_replicate]
 split<;>rfl
theorem Zgq {α β:Type} (f:Array β→α→Array β) (hf:∀ m a,(f m a).size=m.size):∀ (l:List α) (m:Array β),(l.foldl f m).size=m.size
 | [],_=>rfl
 | a::l,m=>by
  rw [List.foldl_cons,Zgq f hf l,hf]
theorem Zgr:∀ (g:List (Option Nat×Nat)) (m:Array Bool) (i:Nat),i<m.size→((g.foldl (fun (m:Array Bool) (x:Option Nat×Nat)=>m.setIfInBounds x.2 true) m).getD i false=true↔m.getD i false=true∨∃ x∈g,x.2=i)
 | [],m,i,h=>by simp
 | x::g,m,i,h=>by
  rw [List.foldl_cons,Zgr g _ i (by simpa using h),ZfF]
  constructor
  ·rintro (q | ⟨y,hy,e⟩)
   ·by_cases e:x.2=i∧x.2<m.size
    ·exact .inr ⟨x,List.mem_cons_self,e.1⟩
    ·rw [if_neg e] at q
     exact .inl q
   ·exact .inr ⟨y,List.mem_cons_of_mem _ hy,e⟩
  ·rintro (q | ⟨y,hy,e⟩)
   ·left
    by_cases e:x.2=i∧x.2<m.size
    ·rw [if_pos e]
    ·rw [if_neg e]; exact q
   ·rcases List.mem_cons.mp hy with z | z
    ·subst z
     left
     rw [if_pos ⟨e,by lia⟩]
    ·exact .inr ⟨y,z,e⟩
theorem Zds (go:Nat→List (Option Nat×Nat)):∀ (l:List Nat) (m:Array Bool) (i:Nat),i<m.size→((l.foldl (fun (m:Array Bool) (s:Nat)=>(go s).foldl (fun (m:Array Bool) (x:Option Nat×Nat)=>m.setIfInBounds x.2 true) m) m).getD i false=true↔m.getD i false=true∨∃ s∈l,∃ x∈go s,x.2=i)
 | [],m,i,h=>by simp
 | s::l,m,i,h=>by
  rw [List.foldl_cons,Zds go l _ i (by rw [Zgq _ (fun m a=>by simp)]; exact h),Zgr _ _ _ h]
  constructor
  ·rintro ((q | q) | ⟨t,ht,q⟩)
   ·exact .inl q
   ·exact .inr ⟨s,List.mem_cons_self,q⟩
   ·exact .inr ⟨t,List.mem_cons_of_mem _ ht,q⟩
  ·rintro (q | ⟨t,ht,q⟩)
   ·exact .inl (.inl q)
   ·rcases List.mem_cons.mp ht with z | z
    ·subst z
     exact .inl (.inr q)
    ·exact .inr ⟨t,z,q⟩
theorem mem_reached {f:Field} {go:Nat→List (Option Nat×Nat)} {l:List Nat} {i:Nat}:i∈reachedBy f go l↔i<5^f.wide∧∃ s∈l,∃ x∈go s,x.2=i:=by
 unfold reachedBy
 rw [List.mem_filter,List.mem_range]
 constructor
 ·rintro ⟨h1,h2⟩
  refine ⟨h1,?_⟩
  rcases (Zds go l _ i (by simpa using h1)).mp h2 with q | q
  ·rw [Zj2] at q; cases q
  ·exact q
 ·rintro ⟨h1,h2⟩
  exact ⟨h1,(Zds go l _ i (by simpa using h1)).mpr (.inr h2)⟩
theorem ZeX (val:Nat→Nat×Option Nat):∀ (l:List Nat) (u:Table) (i:Nat),i<u.size→(l.foldl (fun (u:Table) (s:Nat)=>u.setIfInBounds s (val s)) u).getD i (0,Option.none)=if i∈l then val i else u.getD i (0,Option.none)
 | [],u,i,h=>by simp
 | s::l,u,i,h=>by
  rw [List.foldl_cons,ZeX val l _ i (by simpa using h),ZfF]
  by_cases h1:i∈l
  ·rw [if_pos h1,if_pos (List.mem_cons_of_mem _ h1)]
  ·rw [if_neg h1]
   by_cases h2:s=i
   ·subst h2
    rw [if_pos ⟨rfl,h⟩,if_pos List.mem_cons_self]
   ·rw [if_neg (fun q=>h2 q.1),if_neg]
    intro q
    rcases List.mem_cons.mp q with z | z
    ·exact h2 z.symm
    ·exact h1 z
theorem Zix {f:Field} {go:Nat→List (Option Nat×Nat)} {l:List Nat} {t:Table} {s:Nat} (h1:s∈l) (h2:s<5^f.wide):(tableOf f go l t).of s=(go s).foldl (fun (v:Nat×Option Nat) (x:Option Nat×Nat)=>(v.1+(t.of x.2).1,lessOf v.2 ((t.of x.2).2.map fun (n:Nat)=>n+cost x.1))) (0,Option.none):=by
 unfold tableOf Table.of
 rw [ZeX _ l _ s (by simpa using h2),if_pos h1]
def Za3 (zs:Sizes) (F:Field) (k:Nat):Nat→List Turn
 | 0=>[]
 | j+1=>T zs F k::Za3 zs F (k+1) j
def Zlu (zs:Sizes) (F:Field) (k:Nat) (l:List Nat) (t:Table):Prop:=∀ s∈l,t.of s=wf zs F (bare F k s)
theorem Zhe (a:Option Nat):lessOf Option.none a=a:=by cases a<;>rfl
theorem Zm2 {zs:Sizes} (hz:SOk zs) {F:Field} (hf:FOk F) {k s:Nat} (I:Inv F k s) (hk:k<area F) {u:Table} {l':List Nat} (hu:Zlu zs F (k+1) l' u) (hl:∀ z∈(T zs F k).choices s,z.2∈l'):
  ((T zs F k).choices s).foldl (fun (v:Nat×Option Nat) (x:Option Nat×Nat)=>(v.1+(u.of x.2).1,lessOf v.2 ((u.of x.2).2.map fun (n:Nat)=>n+cost x.1))) (0,Option.none)=wf zs F (bare F k s):=by
 have C:=Zbm hz hf I hk
 have e:((T zs F k).choices s).foldl (fun (v:Nat×Option Nat) (x:Option Nat×Nat)=>(v.1+(u.of x.2).1,lessOf v.2 ((u.of x.2).2.map fun (n:Nat)=>n+cost x.1))) (0,Option.none) =
   (((T zs F k).choices s).map fun z=>(z.1,bare F (k+1) z.2)).foldl (fun (v:Nat×Option Nat) (x:Option Nat×Nat)=>(v.1+(wf zs F x.2).1,lessOf v.2 ((wf zs F x.2).2.map fun (n:Nat)=>n+cost x.1))) (0,Option.none):=by
  rw [List.foldl_map]
  refine Zb2 fun b a ha=>?_
  rw [hu a.2 (hl a ha)]
 rw [e]
 by_cases h:(col F k).isSome=true∧digit s (k%F.wide)=0
 ·obtain ⟨h1,h2,h3⟩:=C.put h.1 h.2
  rw [h1,List.foldl_map,Zm1 zs F (by lia)]
  rfl
 ·obtain ⟨s',h1,h2⟩:=C.pass h
  rw [h1,List.map_cons,List.map_nil,List.foldl_cons,List.foldl_nil,h2,Zhe]
  show (0+(wf zs F (bare F k s)).1,(wf zs F (bare F k s)).2.map fun n=>n+0)=_
  rw [Nat.zero_add]
  have:(wf zs F (bare F k s)).2.map (fun n=>n+0)=(wf zs F (bare F k s)).2:=by
   cases (wf zs F (bare F k s)).2<;>rfl
  rw [this]
structure Li (F:Field) (k:Nat) (l:List Nat):Prop where
 inv:∀ s∈l,Inv F k s
theorem Li.next {zs:Sizes} (hz:SOk zs) {F:Field} (hf:FOk F) {k:Nat} (hk:k<area F) {l:List Nat} (h:Li F k l):Li F (k+1) (reachedBy F (T zs F k).choices l)∧∀ s∈l,∀ z∈(T zs F k).choices s,z.2∈reachedBy F (T zs F k).choices l:=by
 refine ⟨⟨fun s hs=>?_⟩,fun s hs z hzz=>?_⟩
 ·obtain ⟨_,t,ht,x,hx,rfl⟩:=mem_reached.mp hs
  exact (Zbm hz hf (h.inv t ht) hk).inv x hx
 ·have I:=(Zbm hz hf (h.inv s hs) hk).inv z hzz
  exact mem_reached.mpr ⟨I.lt,s,hs,z,hzz,rfl⟩
inductive Tabs (zs:Sizes) (F:Field):Nat→List Nat→List Table→Prop
 | fin {l:List Nat} {t:Table}:Li F (area F) l→Zlu zs F (area F) l t→Tabs zs F (area F) l [t]
 | cons {k:Nat} {l l':List Nat} {t u:Table} {r:List Table}:k<area F→Li F k l→Zlu zs F k l t→(∀ s∈l,∀ z∈(T zs F k).choices s,z.2∈l')→Tabs zs F (k+1) l' (u::r)→Tabs zs F k l (t::u::r)
theorem Tabs.head {zs:Sizes} {F:Field} {k:Nat} {l:List Nat} {t:Table} {r:List Table} (h:Tabs zs F k l (t::r)):Zlu zs F k l t:=by
 cases h with
 | fin _ a=>exact a
 | cons _ _ a _ _=>exact a
theorem Tabs.li {zs:Sizes} {F:Field} {k:Nat} {l:List Nat} {r:List Table} (h:Tabs zs F k l r):Li F k l:=by
 cases h with
 | fin a _=>exact a
 | cons _ a _ _ _=>exact a
theorem Zgs {zs:Sizes} (hz:SOk zs) {F:Field} (hf:FOk F):∀ (j k:Nat) (l:List Nat),k+j=area F→Li F k l→∃ t r,tablesFrom F (Za3 zs F k j) l=t::r∧Tabs zs F k l (t::r)
 | 0,k,l,h,hl=>by
  have:k=area F:=by lia
  subst this
  refine ⟨_,[],rfl,.fin hl fun s hs=>?_⟩
  obtain ⟨e1,e2⟩:=Zc3 hf (hl.inv s hs)
  rw [e2,e1]
  unfold Table.of
  rw [ZfF,if_pos ⟨rfl,by simpa using Nat.pow_pos (by decide)⟩]
  rfl
 | j+1,k,l,h,hl=>by
  have hk:k<area F:=by lia
  obtain ⟨n1,n2⟩:=hl.next hz hf hk
  obtain ⟨u,r,e,ht⟩:=Zgs hz hf j (k+1) _ (by lia) n1
  have e2:tablesFrom F (Za3 zs F k (j+1)) l=tableOf F (T zs F k).choices l u::u::r:=by
   show (match tablesFrom F (Za3 zs F (k+1) j) (reachedBy F (T zs F k).choices l) with
    | t::_=>tableOf F (T zs F k).choices l t::tablesFrom F (Za3 zs F (k+1) j) (reachedBy F (T zs F k).choices l)
    | []=>[])=_
   rw [e]
  refine ⟨_,_,e2,.cons hk hl (fun s hs=>?_) n2 ht⟩
  have I:=hl.inv s hs
  rw [Zix hs I.lt]
  exact Zm2 hz hf I hk ht.head fun z hzz=>n2 s hs z hzz
end Dp
namespace Dp
open Br Bm
set_option maxHeartbeats 1000000
set_option linter.all false
def lineAt (F:Field) (B p:Nat):Line:=⟨p,(col F (low B)).getD 0,low B%F.wide,low B / F.wide,0,0⟩
def few (zs:Sizes) (F:Field) (B:Nat):Option Nat:=(wf zs F B).2
def ZfI (zs:Sizes) (F:Field) (B:Nat):Nat:=(wf zs F B).1
def isFew (zs:Sizes) (F:Field) (B:Nat) (q:Nat×Nat):Bool:=((few zs F q.2).map fun n=>n+1)==few zs F B
def firstM (zs:Sizes) (F:Field):Nat→Nat→List Line
 | 0,_=>[]
 | f+1,B=>match (steps zs F B).find? (isFew zs F B) with
  | some q=>lineAt F B q.1::firstM zs F f q.2
  | Option.none=>[]
def ZcG (zs:Sizes) (F:Field):List (Nat×Nat)→Nat→Option ((Nat×Nat)×Nat)
 | [],_=>Option.none
 | x::r,i=>if i<ZfI zs F x.2 then some (x,i) else ZcG zs F r (i-ZfI zs F x.2)
def Zog (zs:Sizes) (F:Field):Nat→Nat→Nat→List Line
 | 0,_,_=>[]
 | f+1,B,i=>match ZcG zs F (steps zs F B) i with
  | some x=>lineAt F B x.1.1::Zog zs F f x.1.2 x.2
  | Option.none=>[]
def ZeY (l:List Nat) (q:Nat×Nat):Bool:=some q.1==l.head?
def Zoh (zs:Sizes) (F:Field):Nat→Nat→List Nat→Nat
 | 0,_,_=>0
 | f+1,B,l=>match (steps zs F B).find? (ZeY l) with
  | some q=>(((steps zs F B).takeWhile fun y=>!ZeY l y).map fun y=>ZfI zs F y.2).sum+Zoh zs F f q.2 (l.drop 1)
  | Option.none=>0
theorem firstM_zero (zs:Sizes) (F:Field) (f:Nat):firstM zs F f 0=[]:=by cases f<;>rfl
theorem Zj3 (zs:Sizes) (F:Field) (f i:Nat):Zog zs F f 0 i=[]:=by cases f<;>rfl
theorem Zj4 (zs:Sizes) (F:Field) (f:Nat) (l:List Nat):Zoh zs F f 0 l=0:=by cases f<;>rfl
theorem firstM_eq (zs:Sizes) (F:Field):∀ (n B f g:Nat),B≤n→B≤f→B≤g→firstM zs F f B=firstM zs F g B:=by
 intro n
 induction n with
 | zero=>
  intro B f g h1 _ _
  have:B=0:=by lia
  subst this
  rw [firstM_zero,firstM_zero]
 | succ n ih=>
  intro B f g h1 h2 h3
  by_cases hB:B=0
  ·subst hB
   rw [firstM_zero,firstM_zero]
  obtain ⟨f,rfl⟩:∃ f',f=f'+1:=⟨f-1,by lia⟩
  obtain ⟨g,rfl⟩:∃ f',g=f'+1:=⟨g-1,by lia⟩
  unfold firstM
  split
  ·rename_i q hq
   have:=steps_lt (List.mem_of_find?_eq_some hq)
   rw [ih q.2 f g (by lia) (by lia) (by lia)]
  ·rfl
theorem Zel {zs:Sizes} {F:Field}:∀ {l:List (Nat×Nat)} {i:Nat} {x:(Nat×Nat)×Nat},ZcG zs F l i=some x→x.1∈l∧x.2<ZfI zs F x.1.2
 | [],_,_,h=>by cases h
 | y::l,i,x,h=>by
  unfold ZcG at h
  by_cases e:i<ZfI zs F y.2
  ·rw [if_pos e] at h
   cases h
   exact ⟨List.mem_cons_self,e⟩
  ·rw [if_neg e] at h
   obtain ⟨h1,h2⟩:=Zel h
   exact ⟨List.mem_cons_of_mem _ h1,h2⟩
theorem Zc4 {α β:Type} (f:α→β) (p:β→Bool):∀ (l:List α),(l.map f).find? p=(l.find? (p∘f)).map f
 | []=>rfl
 | a::l=>by
  rw [List.map_cons,List.find?_cons,List.find?_cons]
  show (match p (f a) with | true=>_ | false=>_)=Option.map f (match p (f a) with | true=>_ | false=>_)
  cases p (f a)
  ·exact Zc4 f p l
  ·rfl
theorem ZeZ {α:Type} {p q:α→Bool}:∀ {l:List α},(∀ a∈l,p a=q a)→l.find? p=l.find? q
 | [],_=>rfl
 | a::l,h=>by
  rw [List.find?_cons,List.find?_cons,h a List.mem_cons_self,ZeZ fun x hx=>h x (List.mem_cons_of_mem _ hx)]
theorem Ze0 {zs:Sizes} {F:Field} (hf:FOk F) {k B p:Nat} (hk:k<area F) (h:low B=k):putAt F (T zs F k) (some p)=[lineAt F B p]:=by
 show [(⟨p,(F.at_ (k%F.wide) (k / F.wide)).getD 0,k%F.wide,k / F.wide,0,0⟩:Line)]=_
 rw [Zov hf hk]
 unfold lineAt
 rw [h]
theorem Zlv {zs:Sizes} (hz:SOk zs) {F:Field} (hf:FOk F) {P:Plan} (hP:P.field=F):∀ (j k:Nat) (l:List Nat) (r:List Table) (s f:Nat),k+j=area F→Tabs zs F k l r→s∈l→bare F k s≤f→P.firstFrom (Za3 zs F k j) r s=firstM zs F f (bare F k s):=by
 intro j
 induction j with
 | zero=>
  intro k l r s f h ht hs hf2
  have:k=area F:=by lia
  subst this
  rw [(Zc3 hf (ht.li.inv s hs)).2,firstM_zero]
  rfl
 | succ j ih=>
  intro k l r s f h ht hs hf2
  have hk:k<area F:=by lia
  cases ht with
  | fin a b=>lia
  | @cons _ _ l' t u r' _ hl htt hn hr=>
   have I:=hl.inv s hs
   have C:=Zbm hz hf I hk
   show (match ((T zs F k).choices s).find? fun (x:Option Nat×Nat)=>((u.of x.2).2.map fun (n:Nat)=>n+cost x.1)==(t.of s).2 with
    | some x=>putAt P.field (T zs F k) x.1++P.firstFrom (Za3 zs F (k+1) j) (u::r') x.2
    | Option.none=>[])=_
   rw [htt s hs,hP]
   by_cases hc:(col F k).isSome=true∧digit s (k%F.wide)=0
   ·obtain ⟨h1,h2,h3⟩:=C.put hc.1 hc.2
    obtain ⟨f,rfl⟩:∃ f',f=f'+1:=⟨f-1,by lia⟩
    have hm:=congrArg (List.find? fun (x:Option Nat×Nat)=>((few zs F x.2).map fun (n:Nat)=>n+cost x.1)==few zs F (bare F k s)) h1
    rw [Zc4,Zc4] at hm
    have e1:((T zs F k).choices s).find? (fun (x:Option Nat×Nat)=>((u.of x.2).2.map fun (n:Nat)=>n+cost x.1)==(wf zs F (bare F k s)).2) =
      ((T zs F k).choices s).find? ((fun (x:Option Nat×Nat)=>((few zs F x.2).map fun (n:Nat)=>n+cost x.1)==few zs F (bare F k s))∘fun z=>(z.1,bare F (k+1) z.2)):=by
     refine ZeZ fun a ha=>?_
     rw [hr.head a.2 (hn s hs a ha)]
     rfl
    have e2:(steps zs F (bare F k s)).find? ((fun (x:Option Nat×Nat)=>((few zs F x.2).map fun (n:Nat)=>n+cost x.1)==few zs F (bare F k s))∘fun q=>(some q.1,q.2))=(steps zs F (bare F k s)).find? (isFew zs F (bare F k s)):=rfl
    rw [← e1,e2] at hm
    unfold firstM
    cases hq:(steps zs F (bare F k s)).find? (isFew zs F (bare F k s)) with
    | none=>
     rw [hq] at hm
     rw [Option.map_eq_none_iff.mp hm]
    | some q=>
     rw [hq] at hm
     obtain ⟨x,hx,e⟩:=Option.map_eq_some_iff.mp hm
     rw [hx]
     injection e with e3 e4
     have hxm:=List.mem_of_find?_eq_some hx
     have hlt:=steps_lt (List.mem_of_find?_eq_some hq)
     dsimp only
     rw [e3,Ze0 hf hk h2,ih (k+1) l' _ x.2 f (by lia) hr (hn s hs x hxm) (by rw [e4]; lia),e4]
     rfl
   ·obtain ⟨s',h1,h2⟩:=C.pass hc
    have hs':=hn s hs (Option.none,s') (by rw [h1]; exact List.mem_cons_self)
    rw [h1,List.find?_cons]
    have:(((u.of s').2.map fun (n:Nat)=>n+cost Option.none)==(wf zs F (bare F k s)).2)=true:=by
     rw [hr.head s' hs',h2]
     show ((wf zs F (bare F k s)).2.map (fun n=>n+0)==(wf zs F (bare F k s)).2)=true
     have:(wf zs F (bare F k s)).2.map (fun n=>n+0)=(wf zs F (bare F k s)).2:=by cases (wf zs F (bare F k s)).2<;>rfl
     rw [this]
     simp
    rw [this]
    show []++P.firstFrom (Za3 zs F (k+1) j) (u::r') s'=_
    rw [List.nil_append,ih (k+1) l' _ s' f (by lia) hr hs' (by rw [h2]; exact hf2),h2]
theorem Ze1 {zs:Sizes} {F:Field} {u:Table} {b:Nat→Nat}:∀ {g:List (Option Nat×Nat)} {st:List (Nat×Nat)} {i:Nat},g.map (fun z=>(z.1,b z.2))=st.map (fun q=>(some q.1,q.2))→(∀ z∈g,(u.of z.2).1=ZfI zs F (b z.2)) →
  (chosen u g i=Option.none∧ZcG zs F st i=Option.none)∨∃ x q i',chosen u g i=some (x,i')∧ZcG zs F st i=some (q,i')∧x∈g∧x.1=some q.1∧b x.2=q.2
 | [],[],i,_,_=>.inl ⟨rfl,rfl⟩
 | [],_::_,_,h,_=>by cases h
 | _::_,[],_,h,_=>by cases h
 | z::g,q::st,i,h,hu=>by
  rw [List.map_cons,List.map_cons] at h
  injection h with h1 h2
  injection h1 with h3 h4
  have e:=hu z List.mem_cons_self
  rw [h4] at e
  unfold chosen ZcG
  dsimp only
  rw [e]
  by_cases hi:i<ZfI zs F q.2
  ·rw [if_pos hi,if_pos hi]
   exact .inr ⟨z,q,i,rfl,rfl,List.mem_cons_self,h3,h4⟩
  ·rw [if_neg hi,if_neg hi]
   rcases Ze1 (i:=i-ZfI zs F q.2) h2 (fun y hy=>hu y (List.mem_cons_of_mem _ hy)) with c | ⟨x,q',i',c1,c2,c3,c4⟩
   ·exact .inl c
   ·exact .inr ⟨x,q',i',c1,c2,List.mem_cons_of_mem _ c3,c4⟩
theorem Zoi {zs:Sizes} (hz:SOk zs) {F:Field} (hf:FOk F) {P:Plan} (hP:P.field=F):∀ (j k:Nat) (l:List Nat) (r:List Table) (s f i:Nat),k+j=area F→Tabs zs F k l r→s∈l→bare F k s≤f→i<ZfI zs F (bare F k s)→P.nthFrom (Za3 zs F k j) r s i=Zog zs F f (bare F k s) i:=by
 intro j
 induction j with
 | zero=>
  intro k l r s f i h ht hs hf2 _
  have:k=area F:=by lia
  subst this
  rw [(Zc3 hf (ht.li.inv s hs)).2,Zj3]
  rfl
 | succ j ih=>
  intro k l r s f i h ht hs hf2 hi
  have hk:k<area F:=by lia
  cases ht with
  | fin a b=>lia
  | @cons _ _ l' t u r' _ hl htt hn hr=>
   have I:=hl.inv s hs
   have C:=Zbm hz hf I hk
   show (match chosen u ((T zs F k).choices s) i with
    | some x=>putAt P.field (T zs F k) x.1.1++P.nthFrom (Za3 zs F (k+1) j) (u::r') x.1.2 x.2
    | Option.none=>[])=_
   rw [hP]
   by_cases hc:(col F k).isSome=true∧digit s (k%F.wide)=0
   ·obtain ⟨h1,h2,h3⟩:=C.put hc.1 hc.2
    obtain ⟨f,rfl⟩:∃ f',f=f'+1:=⟨f-1,by lia⟩
    unfold Zog
    rcases Ze1 (zs:=zs) (F:=F) (u:=u) (b:=fun s=>bare F (k+1) s) (i:=i) h1 (fun z hzz=>by rw [hr.head z.2 (hn s hs z hzz)]; rfl) with ⟨c1,c2⟩ | ⟨x,q,i',c1,c2,c3,c4,c5⟩
    ·rw [c1,c2]
    ·rw [c1,c2]
     have c5:bare F (k+1) x.2=q.2:=c5
     obtain ⟨hm1,hm2⟩:=Zel c2
     have hlt:=steps_lt hm1
     dsimp only at hm1 hm2 hlt ⊢
     rw [c4,Ze0 hf hk h2,ih (k+1) l' _ x.2 f i' (by lia) hr (hn s hs x c3) (by rw [c5]; lia) (by rw [c5]; exact hm2),c5]
     rfl
   ·obtain ⟨s',h1,h2⟩:=C.pass hc
    have hs':=hn s hs (Option.none,s') (by rw [h1]; exact List.mem_cons_self)
    have e:chosen u [(Option.none,s')] i=some ((Option.none,s'),i):=by
     unfold chosen
     rw [hr.head s' hs',h2]
     exact if_pos hi
    rw [h1,e]
    show []++P.nthFrom (Za3 zs F (k+1) j) (u::r') s' i=_
    rw [List.nil_append,ih (k+1) l' _ s' f i (by lia) hr hs' (by rw [h2]; exact hf2) (by rw [h2]; exact hi),h2]
theorem ZfG {α β:Type} (f:α→β) (p:β→Bool):∀ (l:List α),(l.map f).takeWhile p=(l.takeWhile (p∘f)).map f
 | []=>rfl
 | a::l=>by
  rw [List.map_cons,List.takeWhile_cons,List.takeWhile_cons]
  show (if p (f a)=true then _ else _)=List.map f (if p (f a)=true then _ else _)
  by_cases h:p (f a)=true
  ·rw [if_pos h,if_pos h,List.map_cons,ZfG f p l]
  ·rw [if_neg h,if_neg h]
   rfl
def Zcc (l:List Nat) (x:Option Nat×Nat):Bool:=match x.1 with
 | some k=>some k==l.head?
 | Option.none=>true
theorem Ziy {α β:Type} {f g:α→β} {l:List α} (h:∀ a∈l,f a=g a):l.map f=l.map g:=List.map_congr_left h
theorem Zj5 {zs:Sizes} (hz:SOk zs) {F:Field} (hf:FOk F) {P:Plan}:∀ (j k:Nat) (l:List Nat) (r:List Table) (s f:Nat) (ps:List Nat),k+j=area F→Tabs zs F k l r→s∈l→bare F k s≤f→P.numberFrom (Za3 zs F k j) r s ps=Zoh zs F f (bare F k s) ps:=by
 intro j
 induction j with
 | zero=>
  intro k l r s f ps h ht hs hf2
  have:k=area F:=by lia
  subst this
  rw [(Zc3 hf (ht.li.inv s hs)).2,Zj4]
  rfl
 | succ j ih=>
  intro k l r s f ps h ht hs hf2
  have hk:k<area F:=by lia
  cases ht with
  | fin a b=>lia
  | @cons _ _ l' t u r' _ hl htt hn hr=>
   have I:=hl.inv s hs
   have C:=Zbm hz hf I hk
   show (match ((T zs F k).choices s).find? (Zcc ps) with
    | some x=>((((T zs F k).choices s).takeWhile fun (y:Option Nat×Nat)=>!Zcc ps y).map fun (y:Option Nat×Nat)=>(u.of y.2).1).sum+P.numberFrom (Za3 zs F (k+1) j) (u::r') x.2 (if x.1.isSome=true then ps.drop 1 else ps)
    | Option.none=>0)=_
   by_cases hc:(col F k).isSome=true∧digit s (k%F.wide)=0
   ·obtain ⟨h1,h2,h3⟩:=C.put hc.1 hc.2
    obtain ⟨f,rfl⟩:∃ f',f=f'+1:=⟨f-1,by lia⟩
    have hm:=congrArg (List.find? (Zcc ps)) h1
    rw [Zc4,Zc4] at hm
    have e1:((T zs F k).choices s).find? (Zcc ps∘fun z=>(z.1,bare F (k+1) z.2))=((T zs F k).choices s).find? (Zcc ps):=rfl
    have e2:(steps zs F (bare F k s)).find? (Zcc ps∘fun q=>(some q.1,q.2))=(steps zs F (bare F k s)).find? (ZeY ps):=rfl
    rw [e1,e2] at hm
    have ht:=congrArg (List.takeWhile fun y=>!Zcc ps y) h1
    rw [ZfG,ZfG] at ht
    have e3:((T zs F k).choices s).takeWhile ((fun y=>!Zcc ps y)∘fun z=>(z.1,bare F (k+1) z.2))=((T zs F k).choices s).takeWhile (fun y=>!Zcc ps y):=rfl
    have e4:(steps zs F (bare F k s)).takeWhile ((fun y=>!Zcc ps y)∘fun q=>(some q.1,q.2))=(steps zs F (bare F k s)).takeWhile (fun y=>!ZeY ps y):=rfl
    rw [e3,e4] at ht
    have e5:(((T zs F k).choices s).takeWhile (fun y=>!Zcc ps y)).map (fun (y:Option Nat×Nat)=>(u.of y.2).1)=((steps zs F (bare F k s)).takeWhile (fun y=>!ZeY ps y)).map fun y=>ZfI zs F y.2:=by
     have:=congrArg (List.map fun (y:Option Nat×Nat)=>ZfI zs F y.2) ht
     rw [List.map_map,List.map_map] at this
     refine Eq.trans (Ziy fun a ha=>?_) this
     have hmem:a∈(T zs F k).choices s:=(List.takeWhile_sublist _).subset ha
     rw [hr.head a.2 (hn s hs a hmem)]
     rfl
    unfold Zoh
    cases hq:(steps zs F (bare F k s)).find? (ZeY ps) with
    | none=>
     rw [hq] at hm
     rw [Option.map_eq_none_iff.mp hm]
    | some q=>
     rw [hq] at hm
     obtain ⟨x,hx,e⟩:=Option.map_eq_some_iff.mp hm
     rw [hx]
     injection e with e6 e7
     have hxm:=List.mem_of_find?_eq_some hx
     have hlt:=steps_lt (List.mem_of_find?_eq_some hq)
     dsimp only
     rw [e5,e6,if_pos (show (some q.1).isSome=true from rfl),ih (k+1) l' _ x.2 f _ (by lia) hr (hn s hs x hxm) (by rw [e7]; lia),e7]
   ·obtain ⟨s',h1,h2⟩:=C.pass hc
    have hs':=hn s hs (Option.none,s') (by rw [h1]; exact List.mem_cons_self)
    rw [h1]
    show 0+P.numberFrom (Za3 zs F (k+1) j) (u::r') s' ps=_
    rw [Nat.zero_add,ih (k+1) l' _ s' f ps (by lia) hr hs' (by rw [h2]; exact hf2),h2]
theorem Zgt (zs:Sizes) (F:Field) (hf:FOk F) (y:Nat):∀ (m x:Nat),x+m=F.wide→((List.range' x m).map fun (x:Nat)=>turnAt zs F x y)=Za3 zs F (F.wide*y+x) m
 | 0,_,_=>rfl
 | m+1,x,h=>by
  rw [List.range'_succ,List.map_cons,Zgt zs F hf y m (x+1) (by lia)]
  show _=T zs F (F.wide*y+x)::_
  unfold T
  rw [Nat.mul_add_mod,Nat.mod_eq_of_lt (by lia),Nat.mul_add_div (by have:=hf.w1; lia),Nat.div_eq_of_lt (a:=x) (by lia)]
  rfl
theorem Zc5 (zs:Sizes) (F:Field):∀ (a k b:Nat),Za3 zs F k a++Za3 zs F (k+a) b=Za3 zs F k (a+b)
 | 0,k,b=>by rw [Nat.zero_add]; rfl
 | a+1,k,b=>by
  have e:a+1+b=a+b+1:=by lia
  rw [e]
  show T zs F k::(Za3 zs F (k+1) a++Za3 zs F (k+(a+1)) b)=T zs F k::Za3 zs F (k+1) (a+b)
  have:k+(a+1)=k+1+a:=by lia
  rw [this,Zc5 zs F a (k+1) b]
theorem Zem (zs:Sizes) (F:Field) (hf:FOk F):∀ (d:Nat),((List.range d).flatMap fun (y:Nat)=>(List.range F.wide).map fun (x:Nat)=>turnAt zs F x y)=Za3 zs F 0 (d*F.wide)
 | 0=>by rw [Nat.zero_mul]; rfl
 | d+1=>by
  rw [List.range_succ,List.flatMap_append,Zem zs F hf d,Nat.succ_mul,← Zc5]
  congr 1
  show ((List.range F.wide).map fun (x:Nat)=>turnAt zs F x d)++[]=_
  rw [List.append_nil,List.range_eq_range',Zgt zs F hf d F.wide 0 (by lia)]
  congr 1
  rw [Nat.mul_comm,Nat.zero_add,Nat.add_zero]
def coloured (F:Field):Nat:=bits ((List.range (area F)).filter fun p=>(col F p).isSome)
theorem Za5 {F:Field} (hf:FOk F):bare F 0 0=coloured F:=by
 unfold bare coloured
 congr 1
 refine List.filter_congr fun p _=>?_
 unfold Zek
 have:digit 0 (p%F.wide)=0:=by unfold digit; simp
 rw [this,Nat.zero_div,Nat.zero_mod,decide_eq_true (show Aft 0 0 0 (p / F.wide) (p%F.wide) by rcases Nat.eq_zero_or_pos (p / F.wide) with e | e; exact .inr ⟨e.symm,Nat.zero_le _⟩; exact .inl e),Bool.and_true]
theorem ZcO {F:Field} (hf:FOk F):Inv F 0 0:=by
 refine ⟨Nat.pow_pos (by decide),fun p h1 h2=>?_⟩
 exfalso
 have:digit 0 (p%F.wide)=0:=by unfold digit; simp
 rw [this] at h2
 exact h2 h1
def sizesOf (c:Catalogue):Sizes:=(plates c).map fun (k:Nat)=>(k,(c.getD k nothing).wide,(c.getD k nothing).deep)
structure PlanOk (c:Catalogue) (F:Field):Prop where
 count:(plan c F).count=ZfI (sizesOf c) F (coloured F)
 fewest:(plan c F).fewest=few (sizesOf c) F (coloured F)
 first:(plan c F).firstFrom (plan c F).turns (plan c F).tables 0=firstM (sizesOf c) F (coloured F) (coloured F)
 nth:∀ i,i<ZfI (sizesOf c) F (coloured F)→(plan c F).nthFrom (plan c F).turns (plan c F).tables 0 i=Zog (sizesOf c) F (coloured F) (coloured F) i
 number:∀ ps,(plan c F).numberFrom (plan c F).turns (plan c F).tables 0 ps=Zoh (sizesOf c) F (coloured F) (coloured F) ps
theorem plan_ok {c:Catalogue} {F:Field} (hf:FOk F) (hz:SOk (sizesOf c)):PlanOk c F:=by
 have e1:(plan c F).turns=Za3 (sizesOf c) F 0 (area F):=Zem (sizesOf c) F hf F.deep
 have li:Li F 0 [0]:=⟨fun s hs=>by rw [List.mem_singleton.mp hs]; exact ZcO hf⟩
 obtain ⟨t,r,e2,ht⟩:=Zgs hz hf (area F) 0 [0] (by lia) li
 have e3:(plan c F).tables=t::r:=by
  show tablesFrom F ((List.range F.deep).flatMap fun (y:Nat)=>(List.range F.wide).map fun (x:Nat)=>turnAt (sizesOf c) F x y) [0]=_
  rw [Zem (sizesOf c) F hf F.deep]
  exact e2
 have h0:t.of 0=wf (sizesOf c) F (coloured F):=by
  rw [ht.head 0 (by simp),Za5 hf]
 have eF:(plan c F).field=F:=rfl
 refine ⟨?_,?_,?_,fun i hi=>?_,fun ps=>?_⟩
 ·unfold Plan.count
  rw [e3]
  show (t.of 0).1=_
  rw [h0]
  rfl
 ·unfold Plan.fewest
  rw [e3]
  show (t.of 0).2=_
  rw [h0]
  rfl
 ·rw [e1,e3,Zlv hz hf eF (area F) 0 [0] _ 0 (coloured F) (by lia) ht (by simp) (by rw [Za5 hf]; exact Nat.le_refl _),Za5 hf]
 ·rw [e1,e3,Zoi hz hf eF (area F) 0 [0] _ 0 (coloured F) i (by lia) ht (by simp) (by rw [Za5 hf]; exact Nat.le_refl _) (by rw [Za5 hf]; exact hi),Za5 hf]
 ·rw [e1,e3,Zj5 hz hf (area F) 0 [0] _ 0 (coloured F) ps (by lia) ht (by simp) (by rw [Za5 hf]; exact Nat.le_refl _),Za5 hf]
theorem Ze2 (g:Nat→Nat×Option Nat):∀ (l:List (Nat×Nat)) (v:Nat×Option Nat),(v.1=0↔v.2=Option.none)→(∀ q∈l,((g q.2).1=0↔(g q.2).2=Option.none))→((l.foldl (Zky g) v).1=0↔(l.foldl (Zky g) v).2=Option.none)
 | [],v,h,_=>h
 | q::l,v,h,hl=>by
  rw [List.foldl_cons]
  refine Ze2 g l _ ?_ fun x hx=>hl x (List.mem_cons_of_mem _ hx)
  have hq:=hl q List.mem_cons_self
  unfold Zky
  dsimp only
  cases e1:v.2 with
  | none=>
   have:=h.mpr e1
   cases e2:(g q.2).2 with
   | none=>
    have:=hq.mpr e2
    simp [lessOf]
    lia
   | some n=>
    have:¬ (g q.2).1=0:=fun z=>by have:=hq.mp z; rw [e2] at this; cases this
    simp [lessOf]
    lia
  | some m=>
   have:¬ v.1=0:=fun z=>by have:=h.mp z; rw [e1] at this; cases this
   cases e2:(g q.2).2 with
   | none=>simp [lessOf]; lia
   | some n=>simp [lessOf]; lia
theorem ways_few (zs:Sizes) (F:Field):∀ (n B:Nat),B≤n→(ZfI zs F B=0↔few zs F B=Option.none):=by
 intro n
 induction n with
 | zero=>
  intro B h
  have:B=0:=by lia
  subst this
  unfold ZfI few
  rw [Zj1]
  simp
 | succ n ih=>
  intro B h
  by_cases hB:B=0
  ·subst hB
   unfold ZfI few
   rw [Zj1]
   simp
  unfold ZfI few
  rw [Zm1 zs F hB]
  refine Ze2 _ _ _ (by simp) fun q hq=>?_
  have:=steps_lt hq
  exact ih q.2 (by lia)
end Dp
namespace Dp
open Br Bm
set_option maxHeartbeats 1000000
set_option linter.all false
abbrev Dims:=Nat→Nat×Nat
def shL (F:Field) (wd:Dims) (l:Line):Nat:=shape F l.x l.y (wd l.part).1 (wd l.part).2 (some l.colour)
def Zen (pl:List Nat) (l:Line):Bool:=pl.contains l.part&&(l.z==0&&l.r==0)
def Zgu (l b:Line):Bool:=decide (b.y<l.y)||(l.y==b.y&&decide (b.x<l.x))
def nb (l:Line):Option Line→Bool
 | some b=>!Zgu l b
 | Option.none=>false
def Zcu (F:Field) (pl:List Nat) (wd:Dims) (prev:Option Line) (bare:Nat) (l:Line):Nat:=
 if Zen pl l=false then 1 else if nb l prev=true then 2 else if shL F wd l=0∨shL F wd l&&&bare≠shL F wd l then 3 else 0
def Zeo (F:Field) (pl:List Nat) (wd:Dims):Nat→Option Line→Nat→List Line→Option (Nat×Nat)
 | _,_,bare,[]=>if 0<bare then some (4,low bare) else Option.none
 | i,prev,bare,l::r=>if 0<Zcu F pl wd prev bare l then some (Zcu F pl wd prev bare l,i) else Zeo F pl wd (i+1) (some l) (bare-shL F wd l) r
structure DOk (c:Catalogue) (wd:Dims):Prop where
 eq:∀ i,wd i=((c.getD i nothing).wide,(c.getD i nothing).deep)
 pos:∀ i∈Br.plates c,1≤(wd i).1∧1≤(wd i).2∧(wd i).2≤4
theorem Ze3 {F:Field} {pl:List Nat} {wd:Dims} {prev:Option Line} {bare:Nat} {l:Line} (h:¬ 0<Zcu F pl wd prev bare l):Zen pl l=true∧(∀ b,prev=some b→Zgu l b=true)∧0<shL F wd l∧shL F wd l&&&bare=shL F wd l:=by
 unfold Zcu at h
 by_cases h1:Zen pl l=false
 ·rw [if_pos h1] at h; exact absurd (by decide) h
 ·rw [if_neg h1] at h
  rw [Bool.not_eq_false] at h1
  by_cases h3:nb l prev=true
  ·rw [if_pos h3] at h; exact absurd (by decide) h
  ·rw [if_neg h3] at h
   by_cases h5:shL F wd l=0∨shL F wd l&&&bare≠shL F wd l
   ·rw [if_pos h5] at h; exact absurd (by decide) h
   ·refine ⟨h1,fun b hb=>?_,?_,?_⟩
    ·subst hb
     have h3:¬ (!Zgu l b)=true:=h3
     simpa using h3
    ·rcases Nat.eq_zero_or_pos (shL F wd l) with e | e
     ·exact absurd (.inl e) h5
     ·exact e
    ·apply Decidable.byContradiction
     intro e
     exact h5 (.inr e)
theorem ZbF {α:Type} (p q:α→Bool):∀ (l:List α),(l.filter p).find? q=l.find? fun a=>p a&&q a
 | []=>rfl
 | a::l=>by
  rw [List.filter_cons,List.find?_cons]
  by_cases h:p a=true
  ·rw [if_pos h,List.find?_cons,h,Bool.true_and,ZbF p q l]
  ·rw [if_neg h,ZbF p q l]
   rw [Bool.not_eq_true] at h
   rw [h,Bool.false_and]
def crn (F:Field) (l:Line):Nat:=F.wide*l.y+l.x
theorem shape_corner {F:Field} (hf:FOk F) {wd:Dims} {l:Line} (h:0<shL F wd l) (w1:1≤(wd l.part).1) (d1:1≤(wd l.part).2):(shL F wd l).testBit (crn F l)=true∧crn F l<area F∧col F (crn F l)=some l.colour∧crn F l%F.wide=l.x∧crn F l / F.wide=l.y:=by
 have hW:=hf.w1
 obtain ⟨b1,b2,b3⟩:=(ZbT w1 d1).mp h
 unfold crn
 have em:(F.wide*l.y+l.x)%F.wide=l.x:=by rw [Nat.mul_add_mod,Nat.mod_eq_of_lt (by lia)]
 have ed:(F.wide*l.y+l.x) / F.wide=l.y:=by rw [Nat.mul_add_div (by lia),Nat.div_eq_of_lt (a:=l.x) (by lia)]; rfl
 refine ⟨?_,?_,?_,em,ed⟩
 ·unfold shL
  rw [Zdr h,em,ed]
  exact decide_eq_true (by lia)
 ·have:(F.wide*l.y+l.x) / F.wide<F.deep:=by lia
  rw [Nat.div_lt_iff_lt_mul (by lia)] at this
  exact this
 ·exact b3 _ ((ZdL b1).mpr (by rw [em,ed]; lia))
theorem ZhQ {F:Field} {wd:Dims} {l:Line} (h:0<shL F wd l) {p:Nat} (hp:(shL F wd l).testBit p=true):crn F l≤p:=by
 unfold shL at hp
 rw [Zdr h] at hp
 have hp:=of_decide_eq_true hp
 unfold crn
 have e:=Nat.div_add_mod p F.wide
 have:F.wide*l.y≤F.wide*(p / F.wide):=Nat.mul_le_mul_left _ (by lia)
 lia
theorem Zj6 {F:Field} {wd:Dims} {l b:Line} (h:Zgu l b=true) (hx:b.x<F.wide):crn F b<crn F l:=by
 unfold Zgu at h
 unfold crn
 rcases Bool.or_eq_true_iff.mp h with q | q
 ·have q:=of_decide_eq_true q
  have:F.wide*(b.y+1)≤F.wide*l.y:=Nat.mul_le_mul_left _ q
  rw [Nat.mul_add] at this
  lia
 ·obtain ⟨q1,q2⟩:=Bool.and_eq_true_iff.mp q
  have q1:l.y=b.y:=by simpa using q1
  have q2:=of_decide_eq_true q2
  rw [q1]
  lia
theorem ZdF {F:Field} (hf:FOk F) {c:Catalogue} {wd:Dims} (hd:DOk c wd):∀ (r:List Line) (i:Nat) (b:Line) (bare m:Nat),Zeo F (Br.plates c) wd i (some b) bare r=Option.none→b.x<F.wide→bare.testBit m=true→crn F b<m
 | [],i,b,bare,m,h,hx,hm=>by
  have h:(if 0<bare then some (4,low bare) else Option.none)=Option.none:=h
  by_cases q:0<bare
  ·rw [if_pos q] at h; cases h
  ·have:bare=0:=by lia
   rw [this] at hm
   simp at hm
 | l::r,i,b,bare,m,h,hx,hm=>by
  have h:(if 0<Zcu F (Br.plates c) wd (some b) bare l then some (Zcu F (Br.plates c) wd (some b) bare l,i) else Zeo F (Br.plates c) wd (i+1) (some l) (bare-shL F wd l) r)=Option.none:=h
  by_cases q:0<Zcu F (Br.plates c) wd (some b) bare l
  ·rw [if_pos q] at h; cases h
  ·rw [if_neg q] at h
   obtain ⟨g1,g2,g3,g4⟩:=Ze3 q
   have hpl:l.part∈Br.plates c:=by
    unfold Zen at g1
    have:=(Bool.and_eq_true_iff.mp g1).1
    simpa using this
   obtain ⟨w1,d1,_⟩:=hd.pos _ hpl
   have hlt:=Zj6 (F:=F) (wd:=wd) (g2 b rfl) hx
   obtain ⟨b1,b2,b3⟩:=(ZbT w1 d1).mp g3
   by_cases hc:(shL F wd l).testBit m=true
   ·have:=ZhQ g3 hc
    lia
   ·rw [Bool.not_eq_true] at hc
    have:=ZdF hf hd r (i+1) l (bare-shL F wd l) m h (by lia) (by rw [sub_bits g4,hm,hc]; rfl)
    lia
inductive Follows (zs:Sizes) (F:Field):Nat→List Line→Prop
 | nil:Follows zs F 0 []
 | cons {B:Nat} {l:Line} {r:List Line} {q:Nat×Nat}:0<B→q∈steps zs F B→q.1=l.part→Follows zs F q.2 r→Follows zs F B (l::r)
theorem Zm3 {F:Field} (hf:FOk F) {c:Catalogue} {wd:Dims} (hd:DOk c wd):∀ (r:List Line) (i:Nat) (prev:Option Line) (bare:Nat),Zeo F (Br.plates c) wd i prev bare r=Option.none→Follows ((Br.plates c).map fun k=>(k,wd k)) F bare r
 | [],i,prev,bare,h=>by
  have h:(if 0<bare then some (4,low bare) else Option.none)=Option.none:=h
  by_cases q:0<bare
  ·rw [if_pos q] at h; cases h
  ·have:bare=0:=by lia
   rw [this]
   exact .nil
 | l::r,i,prev,bare,h=>by
  have h:(if 0<Zcu F (Br.plates c) wd prev bare l then some (Zcu F (Br.plates c) wd prev bare l,i) else Zeo F (Br.plates c) wd (i+1) (some l) (bare-shL F wd l) r)=Option.none:=h
  by_cases q:0<Zcu F (Br.plates c) wd prev bare l
  ·rw [if_pos q] at h; cases h
  ·rw [if_neg q] at h
   obtain ⟨g1,g2,g3,g4⟩:=Ze3 q
   have hpl:l.part∈Br.plates c:=by
    unfold Zen at g1
    have:=(Bool.and_eq_true_iff.mp g1).1
    simpa using this
   obtain ⟨w1,d1,_⟩:=hd.pos _ hpl
   obtain ⟨c1,c2,c3,c4,c5⟩:=shape_corner hf g3 w1 d1
   obtain ⟨b1,b2,b3⟩:=(ZbT w1 d1).mp g3
   have hin:=(and_sub.mp g4) _ c1
   have hB:0<bare:=by
    rcases Nat.eq_zero_or_pos bare with z | z
    ·rw [z] at hin; simp at hin
    ·exact z
   have hlow:low bare=crn F l:=by
    refine Zl7 hin fun j hj=>?_
    apply Bool.eq_false_iff.mpr
    intro hb
    by_cases hc:(shL F wd l).testBit j=true
    ·have:=ZhQ g3 hc
     lia
    ·rw [Bool.not_eq_true] at hc
     have:=ZdF hf hd r (i+1) l (bare-shL F wd l) j h (by lia) (by rw [sub_bits g4,hb,hc]; rfl)
     lia
   refine .cons (q:=(l.part,bare-shL F wd l)) hB ?_ rfl (Zm3 hf hd r (i+1) (some l) _ h)
   unfold steps shapesAt
   rw [if_neg (by lia),hlow,c3,if_neg (by simp),c4,c5]
   refine List.mem_map.mpr ⟨(l.part,shL F wd l),List.mem_filter.mpr ⟨List.mem_filter.mpr ⟨?_,by simpa using g3⟩,by simpa using g4⟩,rfl⟩
   exact List.mem_map.mpr ⟨(l.part,wd l.part),List.mem_map.mpr ⟨l.part,hpl,rfl⟩,rfl⟩
def numL (zs:Sizes) (F:Field):Nat→List Line→Nat
 | _,[]=>0
 | B,l::r=>(((steps zs F B).filter fun y=>decide (y.1<l.part)).map fun y=>ZfI zs F y.2).sum+numL zs F (((steps zs F B).filter fun y=>decide (y.1=l.part)).head?.map (·.2) |>.getD 0) r
end Dp
namespace Ly
open PySem PySem.W PySem.Spec PyProof.Rows L2 Pc Bm
set_option linter.all false
theorem Zm4 (a b:Nat):(a^^^b)+2*(a&&&b)=a+b:=by
 have h1:(a&&&b)&&&a=a&&&b:=by
  apply Nat.eq_of_testBit_eq
  intro i
  rw [Nat.testBit_and,Nat.testBit_and]
  cases a.testBit i<;>cases b.testBit i<;>rfl
 have h2:(a&&&b)&&&b=a&&&b:=by
  apply Nat.eq_of_testBit_eq
  intro i
  rw [Nat.testBit_and,Nat.testBit_and]
  cases a.testBit i<;>cases b.testBit i<;>rfl
 have e:(a-(a&&&b))+(b-(a&&&b))=a^^^b:=by
  apply Nat.eq_of_testBit_eq
  intro i
  rw [ZfE (fun j hj=>?_),sub_bits h1,sub_bits h2,Nat.testBit_and,Nat.testBit_xor]
  ·cases a.testBit i<;>cases b.testBit i<;>rfl
  ·rw [sub_bits h1,Nat.testBit_and] at hj
   rw [sub_bits h2,Nat.testBit_and]
   revert hj
   cases a.testBit j<;>cases b.testBit j<;>simp
 have l1:=and_le h1
 have l2:=and_le h2
 lia
theorem Zoj (a b:Nat):Builtin.bitXor (a:Int) (b:Int)=((a^^^b:Nat):Int):=by
 rw [bitXor_and,bitAnd_pp (by lia) (by lia),Int.toNat_natCast,Int.toNat_natCast]
 have:=Zm4 a b
 lia
theorem Zl8 (a b:Nat):Builtin.bitAnd (a:Int) (b:Int)=((a&&&b:Nat):Int):=by
 rw [bitAnd_pp (by lia) (by lia),Int.toNat_natCast,Int.toNat_natCast]
theorem Zj7 (k:Nat):Builtin.Int.intBits ((2^(k+1)-1:Nat):Int)=k+1:=by
 have hp:=Nat.two_pow_pos (k+1)
 have h2:2^(k+1)=2*2^k:=by rw [Nat.pow_succ]; lia
 have hk:=Nat.two_pow_pos k
 unfold Builtin.Int.intBits
 have h0:¬ (((2^(k+1)-1:Nat):Int)==0)=true:=by
  rw [beq_iff_eq]
  lia
 rw [if_neg h0,Int.natAbs_natCast]
 congr 1
 have hne:2^(k+1)-1≠0:=by lia
 have a1:k≤(2^(k+1)-1).log2:=(Nat.le_log2 hne).mpr (by lia)
 have a2:(2^(k+1)-1).log2<k+1:=(Nat.log2_lt hne).mpr (by lia)
 lia
theorem least_is {B:Nat} (h:0<B):Builtin.Int.intBits (Builtin.bitXor (B:Int) ((B:Int)-1))=low B+1:=by
 have e:(B:Int)-1=((B-1:Nat):Int):=by lia
 rw [e,Zoj,ZmX h,Zj7]
theorem Zj8 {X:Cx}:MtR X "int.bit_length" (fun x xs H Q=>∃ i:Int,x = .int i∧xs=[]∧Q (.int ((Builtin.Int.intBits i:Nat):Int)) H):=by
 intro pins s σ H x xs v us Q I rx rxs h
 obtain ⟨i,rfl,rfl,q⟩:=h
 obtain ⟨t,rfl⟩:=rx
 cases rxs
 exact call_gives PySem.F.slot_int_bit_length (typeIs_int s i t) PySem.F.entry_int_bit_length (PySem.F.args_int_bit_length_1 _) (AutoIntG2.int_bit_length_int_0 i t) ⟨.int _,H,I.tok _,⟨_,rfl⟩,q⟩
def colV:Option Nat→V
 | none=>.non
 | some c=>.int (c:Int)
def FieldAt (D:Addr) (H:Hp) (q:Addr) (F:Br.Field):Prop:=∃ (dx l:Addr) (ps:List Int),H q=some (.ins D dx (fF (.int (F.wide:Int)) (.int (F.deep:Int)) (.ref l)))∧H l=some (.lst (ps.map V.int)) ∧
 Dp.FOk F∧F.places=ps.map (fun i=>Sm.colOf (Sm.byte i))∧∀ i∈ps,i∈digs++[46]∧0≤i∧i≤255
theorem FieldAt.same {D:Addr} {H H':Hp} {q:Addr} {F:Br.Field} (h:FieldAt D H q F) (s:Same H H'):FieldAt D H' q F:=
 let ⟨dx,l,ps,a,b,c⟩:=h
 ⟨dx,l,ps,s _ _ a,s _ _ b,c⟩
theorem FieldAt.ok {D:Addr} {H:Hp} {q:Addr} {F:Br.Field} (h:FieldAt D H q F):Dp.FOk F:=let ⟨_,_,_,_,_,c,_⟩:=h; c
theorem Zdt {F:Br.Field} (h:Dp.FOk F):Dp.area F≤72:=Nat.mul_le_mul h.d12 h.w6
theorem Zl9 {F:Br.Field} {ps:List Int} (h:F.places=ps.map (fun i=>Sm.colOf (Sm.byte i))) (he:∀ i∈ps,i∈digs++[46]∧0≤i∧i≤255) {k:Nat} {c:Int} (hk:ps[k]? = some c):(c=46∧Dp.col F k=none)∨(c≠46∧∃ n:Nat,n≤9∧Dp.col F k=some n∧c-48=(n:Int)):=by
 obtain ⟨h1,h2,h3⟩:=he c (List.mem_of_getElem? hk)
 have e:Dp.col F k=Sm.colOf (Sm.byte c):=by
  unfold Dp.col
  rw [h,List.getD_eq_getElem?_getD,List.getElem?_map,hk]
  rfl
 have hb:=Sm.byte_eq h2 h3 46
 by_cases hc:c=46
 ·refine .inl ⟨hc,?_⟩
  rw [e]
  unfold Sm.colOf
  rw [if_pos (hb.mpr hc)]
 ·refine .inr ⟨hc,c.toNat-48,?_,?_,?_⟩
  ·unfold digs at h1
   simp only [List.mem_append,List.mem_cons,List.not_mem_nil,or_false] at h1
   omega
  ·rw [e]
   unfold Sm.colOf
   rw [if_neg (fun q=>hc (hb.mp q)),Sm.byte_nat h2 h3]
  ·unfold digs at h1
   simp only [List.mem_append,List.mem_cons,List.not_mem_nil,or_false] at h1
   omega
def PairsAt (H:Hp) (l:Addr) (L:List (Nat×Nat)):Prop:=∃ ts:List Addr,H l=some (.lst (ts.map V.ref))∧Paired (fun t q=>H t=some (.tup [V.int (q.1:Int),V.int (q.2:Int)])) ts L
theorem PairsAt.same {H H':Hp} {l:Addr} {L:List (Nat×Nat)} (h:PairsAt H l L) (s:Same H H'):PairsAt H' l L:=
 let ⟨ts,a,b⟩:=h
 ⟨ts,s _ _ a,ZaD (fun _ _ z=>s _ _ z) b⟩
theorem Zcd {α:Type} (d:α) (g:α→Bool) (L:List α):L.filter g=((List.range L.length).filter fun i=>g (L.getD i d)).map fun i=>L.getD i d:=by
 have e:=Zcl (fun a:α=>a) d L
 rw [List.map_id'] at e
 conv=>lhs; rw [← e,List.filter_map]
 rfl
theorem Ze4 {α β:Type} {R:α→β→Prop} {f:Nat→α} {g:Nat→β}:∀ (idx:List Nat),(∀ i∈idx,R (f i) (g i))→Paired R (idx.map f) (idx.map g)
 | [],_=>.nil
 | a::r,h=>.cons (h a List.mem_cons_self) (Ze4 r fun i hi=>h i (List.mem_cons_of_mem _ hi))
theorem ZbG {α β:Type} {R:α→β→Prop} {a0:α} {b0:β} {l:List α} {m:List β} (h:Paired R l m) {i:Nat} (hi:i<m.length):R (l.getD i a0) (m.getD i b0):=by
 have hl:=Paired.length h
 have h1:l[i]? = some (l.getD i a0):=by rw [List.getD_eq_getElem?_getD,List.getElem?_eq_getElem (by lia)]; rfl
 obtain ⟨b,h2,h3⟩:=Pc.paired_get h h1
 have e:m.getD i b0=b:=by rw [List.getD_eq_getElem?_getD,h2]; rfl
 rw [e]
 exact h3
def szs (ps:List PartM) (pl:List Nat):Dp.Sizes:=pl.map fun n=>(n,(ps.getD n Zaj).w,(ps.getD n Zaj).d)
def yF (a b c d e:V):List (Str×V):=[("field",a),("parts",b),("plates",c),("coloured",d),("shapes",e)]
theorem y_fp:¬ (("field":Str)="parts"):=by decide +kernel
theorem Zpu:¬ (("field":Str)="plates"):=by decide +kernel
theorem Zpv:¬ (("field":Str)="coloured"):=by decide +kernel
theorem Zpw:¬ (("field":Str)="shapes"):=by decide +kernel
theorem Zpx:¬ (("parts":Str)="plates"):=by decide +kernel
theorem Zpy:¬ (("parts":Str)="coloured"):=by decide +kernel
theorem Zpz:¬ (("parts":Str)="shapes"):=by decide +kernel
theorem ZpA:¬ (("plates":Str)="coloured"):=by decide +kernel
theorem ZpB:¬ (("plates":Str)="shapes"):=by decide +kernel
theorem ZpC:¬ (("coloured":Str)="shapes"):=by decide +kernel
theorem ZpD (a b c d e:V):(yF a b c d e).lookup ("field":Str)=some a:=by unfold yF; rw [Zah,if_pos rfl]
theorem Zow (a b c d e:V):(yF a b c d e).lookup ("coloured":Str)=some d:=by unfold yF; rw [Zah,if_neg (fun z=>Zpv z.symm),Zah,if_neg (fun z=>Zpy z.symm),Zah,if_neg (fun z=>ZpA z.symm),Zah,if_pos rfl]
theorem yF_s (a b c d e:V):(yF a b c d e).lookup ("shapes":Str)=some e:=by unfold yF; rw [Zah,if_neg (fun z=>Zpw z.symm),Zah,if_neg (fun z=>Zpz z.symm),Zah,if_neg (fun z=>ZpB z.symm),Zah,if_neg (fun z=>ZpC z.symm),Zah,if_pos rfl]
def yF3 (a b c:V):List (Str×V):=[("field",a),("parts",b),("plates",c)]
theorem Zm5 (a b c:V):ZaR "plates" c (ZaR "parts" b (ZaR "field" a []))=yF3 a b c:=by
 have e0:ZaR ("field":Str) a []=[(("field":Str),a)]:=rfl
 have e1:ZaR ("parts":Str) b []=[(("parts":Str),b)]:=rfl
 have e2:ZaR ("plates":Str) c []=[(("plates":Str),c)]:=rfl
 rw [e0,ZbQ _ _ _ _ y_fp,e1,ZbQ _ _ _ _ Zpu,ZbQ _ _ _ _ Zpx,e2]
 rfl
def yF4 (a b c d:V):List (Str×V):=[("field",a),("parts",b),("plates",c),("coloured",d)]
theorem Zm6 (a b c d:V):ZaR "coloured" d (yF3 a b c)=yF4 a b c d:=by
 have e3:ZaR ("coloured":Str) d []=[(("coloured":Str),d)]:=rfl
 unfold yF3
 rw [ZbQ _ _ _ _ Zpv,ZbQ _ _ _ _ Zpy,ZbQ _ _ _ _ ZpA,e3]
 rfl
theorem Zo8 (a b c d:V):(yF4 a b c d).lookup ("plates":Str)=some c:=by unfold yF4; rw [Zah,if_neg (fun z=>Zpu z.symm),Zah,if_neg (fun z=>Zpx z.symm),Zah,if_pos rfl]
theorem Zok (a b c d e:V):ZaR "shapes" e (yF4 a b c d)=yF a b c d e:=by
 have e3:ZaR ("shapes":Str) e []=[(("shapes":Str),e)]:=rfl
 unfold yF4
 rw [ZbQ _ _ _ _ Zpw,ZbQ _ _ _ _ Zpz,ZbQ _ _ _ _ ZpB,ZbQ _ _ _ _ ZpC,e3]
 rfl
theorem Zj9 {X:Cx} {K:PySem.W.Frag} (h:X.K=K):IxR X (Zpg K):=h ▸ ZcP
theorem Zlw {X:Cx} {K:PySem.W.Frag} (h:X.K=K):IxR X (Zpf K):=h ▸ Zbq
def ZgG (ps:List PartM) (pl:List Nat) (F:Br.Field) (k c:Nat):List (Nat×Nat):=(szs ps pl).map fun p=>(p.1,Dp.shape F (k%F.wide) (k / F.wide) p.2.1 p.2.2 (some c))
theorem ZhR (ps:List PartM) (pl:List Nat) (F:Br.Field) (k c:Nat):(ZgG ps pl F k c).length=pl.length:=by unfold ZgG szs; rw [List.length_map,List.length_map]
theorem Zhf {ps:List PartM} {pl:List Nat} {F:Br.Field} {k c:Nat} (h:Dp.col F k=some c):Dp.shapesAt (szs ps pl) F k=(ZgG ps pl F k c).filter fun q=>decide (0<q.2):=by
 unfold Dp.shapesAt ZgG
 rw [if_neg (by rw [h]; simp),h]
theorem Ze5 {H:Hp} {a:Addr} {ts:List Addr} {L:List (Nat×Nat)} (g:Nat×Nat→Bool) (hp:Paired (fun t q=>H t=some (.tup [V.int (q.1:Int),V.int (q.2:Int)])) ts L) (ha:H a=some (.lst (((List.range L.length).filter fun i=>g (L.getD i (0,0))).map fun i=>V.ref (ts.getD i 0)))):PairsAt H a (L.filter g):=by
 refine ⟨((List.range L.length).filter fun i=>g (L.getD i (0,0))).map fun i=>ts.getD i 0,?_,?_⟩
 ·rw [ha,List.map_map]
  rfl
 ·rw [Zcd (0,0) g L]
  exact Ze4 _ fun i hi=>ZbG hp (List.mem_range.mp (List.mem_filter.mp hi).1)
theorem Zm7 {X:Cx} {K:PySem.W.Frag} {o:Expr} {to:TE} {f:Str} {pos:Pos} (hK:X.K=K) (ho:PE X o to) (hb:attributeBase o f X.env (eval o X.env)=eval o X.env):PE X (.Attribute o f pos) (Zpe K to f):=hK ▸ Zam ho hb
end Ly
namespace Dp
open Br Bm
set_option maxHeartbeats 1000000
set_option linter.all false
def Im (F:Field) (B:Nat):Prop:=∃ k s,k≤area F∧Inv F k s∧B=bare F k s
theorem im_start {F:Field} (hf:FOk F):Im F (coloured F):=⟨0,0,Nat.zero_le _,ZcO hf,(Za5 hf).symm⟩
theorem Zm8 {zs:Sizes} (hz:SOk zs) {F:Field} (hf:FOk F) {B:Nat} (h:Im F B) {q:Nat×Nat} (hq:q∈steps zs F B):Im F q.2:=by
 obtain ⟨k,s,hk,I,rfl⟩:=h
 have:∀ (j k s:Nat),k+j=area F→Inv F k s→q∈steps zs F (bare F k s)→Im F q.2:=by
  intro j
  induction j with
  | zero=>
   intro k s e I hq
   have:k=area F:=by lia
   subst this
   rw [(Zc3 hf I).2] at hq
   cases hq
  | succ j ih=>
   intro k s e I hq
   have hk:k<area F:=by lia
   have C:=Zbm hz hf I hk
   by_cases hc:(col F k).isSome=true∧digit s (k%F.wide)=0
   ·obtain ⟨h1,h2,h3⟩:=C.put hc.1 hc.2
    have hm:(some q.1,q.2)∈(steps zs F (bare F k s)).map (fun q=>(some q.1,q.2)):=List.mem_map.mpr ⟨q,hq,rfl⟩
    rw [← h1] at hm
    obtain ⟨z,hz1,hz2⟩:=List.mem_map.mp hm
    injection hz2 with _ hz3
    exact ⟨k+1,z.2,hk,C.inv z hz1,hz3.symm⟩
   ·obtain ⟨s',h1,h2⟩:=C.pass hc
    rw [← h2] at hq
    exact ih (k+1) s' (by lia) (C.inv (Option.none,s') (by rw [h1]; exact List.mem_cons_self)) hq
 exact this (area F-k) k s (by lia) I hq
theorem im_low {F:Field} {B:Nat} (h:Im F B) (hB:0<B):low B<area F:=by
 obtain ⟨k,s,hk,I,rfl⟩:=h
 have:=low_test hB
 rw [ZaZ] at this
 exact of_decide_eq_true (Bool.and_eq_true_iff.mp this).1
theorem ZhS {α:Type} [DecidableEq α]:∀ {l m:List α},l.Nodup→(∀ x∈l,x∈m)→l.length≤m.length
 | [],_,_,_=>Nat.zero_le _
 | a::l,m,h,hs=>by
  obtain ⟨h1,h2⟩:=List.nodup_cons.mp h
  have ha:=hs a List.mem_cons_self
  have:=ZhS (l:=l) (m:=m.erase a) h2 fun x hx=>(List.mem_erase_of_ne (fun e:x=a=>h1 (e ▸ hx))).mpr (hs x (List.mem_cons_of_mem _ hx))
  rw [List.length_erase_of_mem ha] at this
  have hp:0<m.length:=List.length_pos_of_mem ha
  show l.length+1≤m.length
  lia
def bound (F:Field):Nat:=(area F+1)*5^F.wide
theorem bound_le {F:Field} (hf:FOk F):bound F≤1140625:=by
 have h1:area F≤72:=Nat.mul_le_mul hf.d12 hf.w6
 have h2:5^F.wide≤5^6:=Nat.pow_le_pow_right (by decide) hf.w6
 have:(area F+1)*5^F.wide≤73*5^6:=Nat.mul_le_mul (by lia) h2
 exact this
theorem im_few {F:Field} {R:List Nat} (hn:R.Nodup) (h:∀ B∈R,Im F B):R.length≤bound F:=by
 have:R.length≤((List.range (area F+1)).flatMap fun k=>(List.range (5^F.wide)).map fun s=>bare F k s).length:=by
  refine ZhS hn fun B hB=>?_
  obtain ⟨k,s,hk,I,e⟩:=h B hB
  exact List.mem_flatMap.mpr ⟨k,List.mem_range.mpr (by lia),List.mem_map.mpr ⟨s,List.mem_range.mpr I.lt,e.symm⟩⟩
 refine Nat.le_trans this ?_
 rw [List.length_flatMap]
 unfold bound
 have:∀ (n:Nat),((List.range n).map fun k=>((List.range (5^F.wide)).map fun s=>bare F k s).length).sum=n*5^F.wide:=by
  intro n
  induction n with
  | zero=>simp
  | succ n ih=>
   rw [List.range_succ,List.map_append,List.sum_append,ih,Nat.succ_mul]
   simp
 rw [this]
 exact Nat.le_refl _
structure Rs (zs:Sizes) (F:Field) (R W:List Nat):Prop where
 nd:R.Nodup
 start:coloured F∈R
 im:∀ B∈R,Im F B
 wait:∀ B∈W,B∈R
def Cl (zs:Sizes) (F:Field) (R W A:List Nat):Prop:=∀ B∈R,B∉W→B∉A→∀ q∈steps zs F B,q.2∈R
theorem Rs.add {zs:Sizes} (hz:SOk zs) {F:Field} (hf:FOk F) {R W:List Nat} {x:Nat} {q:Nat×Nat} (h:Rs zs F R W) (hx:x∈R) (hq:q∈steps zs F x) (hn:q.2∉R):Rs zs F (R++[q.2]) (W++[q.2]):=by
 refine ⟨List.nodup_append.mpr ⟨h.nd,by simp,fun a ha b hb e=>?_⟩,List.mem_append_left _ h.start,fun B hB=>?_,fun B hB=>?_⟩
 ·rw [List.mem_singleton.mp hb] at e
  exact hn (e ▸ ha)
 ·rcases List.mem_append.mp hB with z | z
  ·exact h.im B z
  ·rw [List.mem_singleton.mp z]
   exact Zm8 hz hf (h.im x hx) hq
 ·rcases List.mem_append.mp hB with z | z
  ·exact List.mem_append_left _ (h.wait B z)
  ·exact List.mem_append_right _ z
theorem Cl.add {zs:Sizes} {F:Field} {R W A:List Nat} {y:Nat} (h:Cl zs F R W A):Cl zs F (R++[y]) (W++[y]) A:=by
 intro B hB hw ha q hq
 rcases List.mem_append.mp hB with z | z
 ·exact List.mem_append_left _ (h B z (fun g=>hw (List.mem_append_left _ g)) ha q hq)
 ·exact absurd (List.mem_append_right _ z) hw
structure Reached (zs:Sizes) (F:Field) (R:List Nat):Prop where
 lt:R.Pairwise (·<·)
 start:coloured F∈R
 im:∀ B∈R,Im F B
 cl:∀ B∈R,∀ q∈steps zs F B,q.2∈R
end Dp
namespace Dp
open Br Bm
set_option maxHeartbeats 1000000
set_option linter.all false
theorem few_zero (zs:Sizes) (F:Field):few zs F 0=some 0:=rfl
def leastO (l:List Nat):Option Nat:=l.foldl (fun v n=>lessOf v (some n)) Option.none
theorem ZhT (g:Nat→Nat×Option Nat):∀ (l:List (Nat×Nat)) (v:Nat×Option Nat),(l.foldl (Zky g) v).2=(l.filterMap fun q=>(g q.2).2.map fun n=>n+1).foldl (fun v n=>lessOf v (some n)) v.2
 | [],v=>rfl
 | q::l,v=>by
  rw [List.foldl_cons,ZhT g l]
  show _=(List.filterMap _ (q::l)).foldl _ _
  cases e:(g q.2).2 with
  | none=>
   rw [List.filterMap_cons_none (by rw [e]; rfl)]
   unfold Zky
   rw [e]
   cases v.2<;>rfl
  | some n=>
   rw [List.filterMap_cons_some (b:=n+1) (by rw [e]; rfl),List.foldl_cons]
   unfold Zky
   rw [e]
   rfl
theorem few_least (zs:Sizes) (F:Field) {B:Nat} (h:B≠0):few zs F B=leastO ((steps zs F B).filterMap fun q=>(few zs F q.2).map fun n=>n+1):=by
 unfold few
 rw [Zm1 zs F h,ZhT]
 rfl
theorem Ze6:∀ (l:List Nat) (m:Nat),∃ k,l.foldl (fun v n=>lessOf v (some n)) (some m)=some k∧(k=m∨k∈l)∧k≤m∧∀ n∈l,k≤n
 | [],m=>⟨m,rfl,.inl rfl,Nat.le_refl _,fun n hn=>by cases hn⟩
 | a::l,m=>by
  obtain ⟨k,h1,h2,h3,h4⟩:=Ze6 l (min m a)
  refine ⟨k,h1,?_,?_,fun n hn=>?_⟩
  ·rcases h2 with e | e
   ·rcases Nat.le_total m a with z | z
    ·left; rw [e]; exact Nat.min_eq_left z
    ·right; rw [e,Nat.min_eq_right z]; exact List.mem_cons_self
   ·exact .inr (List.mem_cons_of_mem _ e)
  ·exact Nat.le_trans h3 (Nat.min_le_left _ _)
  ·rcases List.mem_cons.mp hn with e | e
   ·rw [e]; exact Nat.le_trans h3 (Nat.min_le_right _ _)
   ·exact h4 n e
theorem least_is {l:List Nat} (h:l≠[]):∃ k,leastO l=some k∧k∈l∧∀ n∈l,k≤n:=by
 cases l with
 | nil=>exact absurd rfl h
 | cons a l=>
  obtain ⟨k,h1,h2,h3,h4⟩:=Ze6 l a
  refine ⟨k,h1,?_,fun n hn=>?_⟩
  ·rcases h2 with e | e
   ·rw [e]; exact List.mem_cons_self
   ·exact List.mem_cons_of_mem _ e
  ·rcases List.mem_cons.mp hn with e | e
   ·rw [e]; exact h3
   ·exact h4 n e
theorem lt_take {R:List Nat} (h:R.Pairwise (·<·)) {i B C:Nat} (hi:R[i]? = some B) (hC:C∈R) (hlt:C<B):C∈R.take i:=by
 obtain ⟨j,hj⟩:=List.mem_iff_getElem?.mp hC
 obtain ⟨hi1,hi2⟩:=List.getElem?_eq_some_iff.mp hi
 obtain ⟨hj1,hj2⟩:=List.getElem?_eq_some_iff.mp hj
 have hji:j<i:=by
  apply Decidable.byContradiction
  intro z
  rcases Nat.lt_or_ge i j with g | g
  ·have:=List.pairwise_iff_getElem.mp h i j hi1 hj1 g
   lia
  ·have:i=j:=by lia
   subst this
   lia
 have:(R.take i)[j]? = some C:=by rw [List.getElem?_take_of_lt hji]; exact hj
 exact List.mem_of_getElem? this
theorem not_take {R:List Nat} (h:R.Pairwise (·<·)) {i B:Nat} (hi:R[i]? = some B):B∉R.take i:=by
 intro z
 obtain ⟨j,hj⟩:=List.mem_iff_getElem?.mp z
 have hji:j<i:=by
  have:=(List.getElem?_eq_some_iff.mp hj).1
  rw [List.length_take] at this
  lia
 rw [List.getElem?_take_of_lt hji] at hj
 obtain ⟨hi1,hi2⟩:=List.getElem?_eq_some_iff.mp hi
 obtain ⟨hj1,hj2⟩:=List.getElem?_eq_some_iff.mp hj
 have:=List.pairwise_iff_getElem.mp h j i hj1 hi1 hji
 lia
theorem filterMap_filter {α:Type} (g:α→Option Nat):∀ (L:List α),L.filterMap g=(L.filter fun q=>(g q).isSome).map fun q=>(g q).getD 0
 | []=>rfl
 | a::L=>by
  cases e:g a with
  | none=>rw [List.filterMap_cons_none e,List.filter_cons_of_neg (by rw [e]; simp),filterMap_filter g L]
  | some n=>rw [List.filterMap_cons_some e,List.filter_cons_of_pos (by rw [e]; rfl),List.map_cons,e,filterMap_filter g L]; rfl
end Dp
namespace SortD
open PySem PySem.Spec PyProof.Rows L2
set_option linter.all false
section
variable {prog:Program} {w:World} {A:Around} {E:Value→Shared→Prop} {s:Shared} {K:Type} [DecidableEq K] {knd:PySem.KeyKind prog w K}
theorem Zgv {d:Addr} {kvs:List (K×Value)} {ep:Nat} {Q:List Value→Shared→Prop} (hh:A.handled=none) (hd:(d==sysModules)=false) (hm:s.heap.DictAt knd d kvs ep) (hn:kvs.length≤sizeLine)
  (hQ:∀ s' acc,(∀ b o,s.heap.get? b=some o→s'.heap.get? b=some o)→s.heap.objs.size≤s'.heap.objs.size→s'.gens=s.gens→s'.drawn=s.drawn→s'.os=s.os→s.toks≤s'.toks→ItemsOf (fun i v=>∃ k x,kvs[i]? = some (k,x)∧knd.is k v=true) acc kvs.length→Q acc.toList s'):
  wpAny (model prog w) A (collect (.ref d)) Q E s:=by
 have hT:s.TypeIs (.ref d) "dict":=hm.dictOf.typeIs
 have hlt:d<s.heap.objs.size:=by
  obtain ⟨o,es,ho,_⟩:=id hm
  exact Heap.lt_size ho
 have hSd:s.heap.objs.size≠d:=(Nat.ne_of_lt hlt).symm
 unfold collect
 refine wpAny_bind (wpAny_runValue (codeAny_builtin F.entry_proto_collect ?_))
 rw [Around.under_plainId F.plain_proto_collect _]
 show wpAny _ A.in1 (newList [] >>= fun l=>again (.builtin "list.__iadd__" ⟨[l,.ref d],[]⟩)) _ _ s
 refine wpAny_bind (wpAny_newObj_type ?_)
 refine wpAny_pure ⟨plainId_quiet F.plain_list_iadd _,codeAny_builtin F.entry_list_iadd ?_⟩
 rw [Around.under_plainId F.plain_list_iadd _]
 have hm₁:(s.heap.push { cls:=.type "list",data:=.seq ([]:List Value).toArray }).DictAt knd d kvs ep:=hm.at' fun o e=>Heap.get?_push_of_some _ e
 show wpAny _ A.in1 (Builtin.List.listExtendWith (.ref s.heap.objs.size) (.ref d) (.ref s.heap.objs.size)) _ _ _
 unfold Builtin.List.listExtendWith
 refine wpAny_bind (wpAny_typeOf (T:="dict") (show Shared.TypeIs { s with heap:=s.heap.push { cls:=.type "list",data:=.seq ([]:List Value).toArray } } (.ref d) "dict" from hm₁.dictOf.typeIs) ?_)
 have h1:Builtin.List.listSameRef (.ref s.heap.objs.size) (.ref d)=false:=by simp [Builtin.List.listSameRef,hSd]
 have h2:(Value.type "dict"==Value.type "list")=false:=by decide
 have h3:(Value.type "dict"==Value.type "tuple")=false:=by decide
 simp only [h1,h2,h3,Bool.or_false,Bool.false_eq_true,if_false]
 refine wpAny_bind (wpAny_pyIter_dict hd hm₁ ?_)
 have hsz:(s.heap.push { cls:=.type "list",data:=.seq ([]:List Value).toArray }).objs.size=s.heap.objs.size+1:=by simp [Heap.push]
 rw [hsz]
 generalize hH2:(s.heap.push { cls:=.type "list",data:=.seq ([]:List Value).toArray }).push { cls:=.type "dict_keyiterator",data:=.fields #[.ref d,.int 0 0,.int kvs.length 0,.int ep 0] }=H2
 have k2:∀ b o,s.heap.get? b=some o→H2.get? b=some o:=fun b o e=>by rw [← hH2]; exact Heap.get?_push_of_some _ (Heap.get?_push_of_some _ e)
 have hS2:H2.get? s.heap.objs.size=some { cls:=.type "list",data:=.seq ([]:List Value).toArray }:=by rw [← hH2]; exact Heap.get?_push_of_some _ (Heap.get?_push_size _ rfl)
 have hI2:H2.get? (s.heap.objs.size+1)=some { cls:=.type "dict_keyiterator",data:=.fields #[.ref d,.int 0 0,.int kvs.length 0,.int ep 0] }:=by rw [← hH2,← hsz]; exact Heap.get?_push_size _ rfl
 have hm₂:H2.DictAt knd d kvs ep:=hm.at' fun o e=>k2 d o e
 have hT2:Shared.TypeIs { s with heap:=H2 } (.ref d) "dict":=hm₂.dictOf.typeIs
 refine wpAny_bind (wpAny_holding ?_)
 unfold Builtin.List.listLengthHint
 refine wpAny_bind (wpAny_specialOf hT2 F.slot_dict_len.lookup ?_)
 (generalize hid:("dict.__len__":String)=id0; (fail_if_success (clear hid id0)); wp_delta; rw [show splitId id0=some ("dict","__len__") from by subst hid; decide +kernel]; subst hid)
 refine wpAny_bind (wpAny_isInstance (b:=true) hT2 (by rw [isSubtype_type]; kernel_rfl) ?_)
 rw [if_neg (by decide)]
 refine Eq.mpr (congrArg (fun t=>wpAny (model prog w) A.in1 t _ _ _) (if_pos (by decide +kernel))) ?_
 refine wpAny_bind (wpAny_typeOf hT2 ?_)
 refine wpAny_pure ?_
 show wpAny _ A.in1 (rule "list.extend.makes-room" >>= fun _=>Builtin.List.listTouch (.ref s.heap.objs.size) >>= fun _=>
  again (.builtin "list.extend.loop" ⟨[.ref s.heap.objs.size,.ref (s.heap.objs.size+1),.ref s.heap.objs.size],[]⟩)) _ _ _
 refine wpAny_bind (wpAny_rule ?_)
 refine wpAny_bind ?_
 show wpAny _ A.in1 (updateSeq s.heap.objs.size (·.push .none) >>= fun _=>updateSeq s.heap.objs.size (·.pop)) _ _ _
 refine wpAny_bind (wpAny_updateSeq hS2 rfl ?_)
 have hS₂:=Heap.get?_update_self (Obj.mapSeq (·.push Value.none)) hS2 rfl
 refine wpAny_updateSeq hS₂ rfl ?_
 have hS₃:=Heap.get?_update_self (Obj.mapSeq (·.pop)) hS₂ rfl
 have oth:∀ b o,b≠s.heap.objs.size→H2.get? b=some o→((H2.update s.heap.objs.size (Obj.mapSeq (·.push Value.none))).update s.heap.objs.size (Obj.mapSeq (·.pop))).get? b=some o:=
  fun b o hb e=>(Heap.get?_update_other _ _ (Ne.symm hb)).trans ((Heap.get?_update_other _ _ (Ne.symm hb)).trans e)
 have W:=(Walks.dictKeys (prog:=prog) (w:=w) (A:=A.in1) (knd:=knd) hh (s.heap.objs.size+1) d (Nat.ne_of_lt (Nat.lt_succ_of_lt hlt)) kvs ep).toS
 have hSf:s.heap.objs.size∉[s.heap.objs.size+1,d]:=by
  intro z
  rcases List.mem_cons.mp z with z | z
  ·lia
  ·exact hSd (by simpa using z)
 refine wpAny_pure ⟨plainId_quiet F.plain_extend_loop _,codeAny_extend_loopS W hn _ hSf _ kvs.length 0 _ _ _ rfl (Nat.zero_le _) ?_ hS₃ (ItemsOf.nil _) fun s' acc' c' hm' hS' hacc=>?_⟩
 ·exact ⟨⟨_,oth _ _ (by lia) hI2,rfl,rfl⟩,hm₂.at' fun o e=>oth d o hSd.symm e⟩
 ·show wpAny _ A (load s.heap.objs.size >>= _) _ _ s'
  refine wpAny_bind (wpAny_load hS' ?_)
  refine wpAny_pure (hQ s' acc' (fun b o e=>?_) (Nat.le_of_lt (Heap.lt_size hS')) hm'.gens hm'.drawn hm'.os hm'.toks hacc)
  have hb:b<s.heap.objs.size:=Heap.lt_size e
  refine hm'.heap b o ?_ (oth b o (Nat.ne_of_lt hb) (k2 b o e))
  intro z
  rcases List.mem_cons.mp z with z | z
  ·exact Nat.ne_of_lt hb z
  ·have:b=s.heap.objs.size+1:=by simpa using z
   exact Nat.ne_of_lt (Nat.lt_succ_of_lt hb) this
theorem Zhg {d:Addr} {kvs:List (K×Value)} {ep:Nat} {ns:List Int} {Q:Value→Shared→Prop} (hh:A.handled=none) (hd:(d==sysModules)=false) (hm:s.heap.DictAt knd d kvs ep) (hn:kvs.length≤sizeLine)
  (hk:∀ acc:Array Value,ItemsOf (fun i v=>∃ k x,kvs[i]? = some (k,x)∧knd.is k v=true) acc kvs.length→IntsAre acc.toList ns)
  (h:∀ s' (D:Addr) (its:List Value) (n:Nat) (ns':List Int),(∀ b o,s.heap.get? b=some o→s'.heap.get? b=some o)→s.heap.objs.size≤D→s'.heap.get? D=some { cls:=.type "list",data:=.seq its.toArray n }→IntsAre its ns'→ns'.Perm ns→ns'.Pairwise (·≤·) →
   s'.gens=s.gens→s'.drawn=s.drawn→s'.os=s.os→s.toks≤s'.toks→Q (.ref D) s'):
  wpAny (model prog w) A (call (.builtin "sorted") [.ref d]) Q E s:=by
 refine Calls.call_function_entry kind_sorted plain_sorted entry_sorted (args_sorted1 _) ?_
 unfold Builtin.«sorted»
 refine wpAny_bind (m:=checkCount "sorted" 1 1 _) (wpAny_pure ?_)
 refine wpAny_bind (Zgv hh hd hm hn fun s1 acc k1 k0 e1 e2 e3 e4 hacc=>?_)
 have hI:=hk acc hacc
 have hlen:acc.toList.length≤sizeLine:=by rw [Array.length_toList,hacc.1]; exact hn
 refine wpAny_bind (wpAny_newList ?_)
 have hoL:(s1.heap.push (seqObj "list" acc.toList.toArray 0)).get? s1.heap.objs.size=some (seqObj "list" acc.toList.toArray 0):=Heap.get?_push_size _ rfl
 refine wpAny_bind (wpAny_holding (wpAny_call_entry slot_list_sort ⟨_,hoL,rfl⟩ entry_list_sort (list_sort_treeAny hoL hI hlen fun out ns' a1 a2 a3=>⟨_,rfl,?_⟩) (args_list_sort _)))
 obtain ⟨ep',he'⟩:=PyProof.Rows.sortedHeap_at (vs:=acc.toList) (out:=out) hoL
 refine wpAny_pure ⟨_,rfl,h _ s1.heap.objs.size out.toList ep' ns' (fun b o e=>?_) k0 ?_ a1 a2 a3 e1 e2 e3 e4⟩
 ·have h1:=k1 b o e
  have hlt:=Heap.lt_size h1
  show (sortedHeap (s1.heap.push (seqObj "list" acc.toList.toArray 0)) s1.heap.objs.size acc.toList out).get? b=some o
  rw [PyProof.Rows.sortedHeap_old (Nat.ne_of_lt hlt) (by rw [size_push']; exact Nat.lt_succ_of_lt hlt)]
  exact Heap.get?_push_of_some _ h1
 ·have e5:out.toList.toArray=out:=by simp
  rw [e5]
  exact he'
end
theorem Zka {P:Program} {w:World}:∀ {kvs:List (Key×V)} {vs:List (Key×Value)} {ns:List Int},KV kvs vs→kvs.map (·.1)=ns.map Sum.inl→vs.map (·.1)=ns.map Sum.inl:=by
 intro kvs vs ns h e
 rw [← e]
 unfold KV at h
 clear e
 induction h with
 | nil=>rfl
 | cons hh t ih=>rw [List.map_cons,List.map_cons,ih,hh.1]
theorem Ziz {P:Program} {w:World} {vs:List (Key×Value)} {ns:List Int} (e:vs.map (·.1)=ns.map Sum.inl) (acc:Array Value) (h:ItemsOf (fun i v=>∃ k x,vs[i]? = some (k,x)∧(ZaM P w).is k v=true) acc vs.length):IntsAre acc.toList ns:=by
 have hl:acc.toList.length=ns.length:=by
  rw [Array.length_toList,h.1]
  have:=congrArg List.length e
  rw [List.length_map,List.length_map] at this
  exact this
 have each:∀ (i:Nat) (v:Value),acc.toList[i]? = some v→∃ (n:Int) (t:Tok),ns[i]? = some n∧v=Value.int n t:=by
  intro i v hv
  obtain ⟨k,x,h1,h2⟩:=h.2 i v (by rw [Array.getElem?_toList] at hv; exact hv)
  have h3:(vs.map (·.1))[i]? = (ns.map (Sum.inl:Int→Key))[i]?:=by rw [e]
  rw [List.getElem?_map,h1,List.getElem?_map] at h3
  cases hn:ns[i]? with
  | none=>rw [hn] at h3; cases h3
  | some n=>
   rw [hn] at h3
   injection h3 with h3
   have h3:k=Sum.inl n:=h3
   subst h3
   obtain ⟨t,e2⟩:=Value.isInt_shape (k:=n) (v:=v) h2
   exact ⟨n,t,rfl,e2⟩
 generalize acc.toList=l at hl each
 clear h e
 induction l generalizing ns with
 | nil=>
  cases ns with
  | nil=>exact .nil
  | cons a r=>cases hl
 | cons v l ih=>
  cases ns with
  | nil=>cases hl
  | cons a r=>
   obtain ⟨n,t,h1,h2⟩:=each 0 v rfl
   have h1:some a=some n:=h1
   cases h1
   subst h2
   exact .cons _ _ (ih (by simpa using hl) fun i v hv=>each (i+1) v hv)
theorem cr_sortedD {X:Cx} (hc:X.calm=true):CallR X (.builtin "sorted") (fun xs H Q=>∃ (a:Addr) (kvs:List (Key×V)) (ns:List Int),xs=[.ref a]∧H a=some (.dK kvs)∧kvs.map (·.1)=ns.map Sum.inl ∧
  ∀ (ns':List Int) (p:Addr),ns'.Perm ns→ns'.Pairwise (·≤·)→H p=none→Q (.ref p) (upd H p (.lst (ns'.map V.int)))):=by
 intro pins s σ H xs us Q I r h
 obtain ⟨a,kvs,ns,rfl,hH,hk,q⟩:=h
 obtain ⟨z,hd,vs,rel,dd⟩:=ZkM I.hok hH
 have hvs:=Zka (P:=X.prog) (w:=X.w) rel hk
 have hlen:kvs.length=ns.length:=by
  have:=congrArg List.length hk
  rw [List.length_map,List.length_map] at this
  exact this
 rw [Vals.ref1 r]
 obtain ⟨o,es,ep,h1,h2,h3,h4,h5,h6⟩:=dd
 have hm:s.heap.DictAt (ZaM X.prog X.w) a vs ep:=⟨o,es,h1,h2,h3,h4,h5,h6⟩
 refine Zhg (I.ok.hd hc) hd hm (by rw [← rel.length]; exact z) (Ziz hvs) fun s' Dd its n ns' k1 k0 k2 k3 k4 k5 e1 e2 e3 e4=>?_
 have es':s'={ s with heap:=s'.heap,toks:=s'.toks }:=by
  cases s'
  cases s
  simp_all
 rw [es']
 refine ⟨.ref Dd,upd H Dd (.lst (ns'.map V.int)),I.laid (t':=s'.toks) k1 k0 ⟨?_,its,n,Zdy k3,k2⟩,rfl,q ns' Dd k4 k5 (I.hok.fresh k0)⟩
 rw [List.length_map,k4.length_eq,← hlen]
 exact z
end SortD
namespace Pc
open PySem PySem.W PySem.Spec PyProof.Rows L2
def lF (a b c d e f:V):List (Str×V):=[("part",a),("colour",b),("x",c),("y",d),("z",e),("turns",f)]
theorem ZpE:¬ (("colour":Str)="part"):=by decide +kernel
theorem ZpF:¬ (("x":Str)="part"):=by decide +kernel
theorem ZpG:¬ (("y":Str)="part"):=by decide +kernel
theorem ZpH:¬ (("z":Str)="part"):=by decide +kernel
theorem ZpI:¬ (("turns":Str)="part"):=by decide +kernel
theorem ZpJ:¬ (("x":Str)="colour"):=by decide +kernel
theorem ZpK:¬ (("y":Str)="colour"):=by decide +kernel
theorem ZpL:¬ (("z":Str)="colour"):=by decide +kernel
theorem ZpM:¬ (("turns":Str)="colour"):=by decide +kernel
theorem ZpN:¬ (("y":Str)="x"):=by decide +kernel
theorem ZpO:¬ (("z":Str)="x"):=by decide +kernel
theorem ZpP:¬ (("turns":Str)="x"):=by decide +kernel
theorem ZpQ:¬ (("z":Str)="y"):=by decide +kernel
theorem ZpR:¬ (("turns":Str)="y"):=by decide +kernel
theorem ZpS:¬ (("turns":Str)="z"):=by decide +kernel
theorem lF_p (a b c d e f:V):(lF a b c d e f).lookup ("part":Str)=some a:=by unfold lF; rw [Zah,if_pos rfl]
theorem lF_c (a b c d e f:V):(lF a b c d e f).lookup ("colour":Str)=some b:=by unfold lF; rw [Zah,if_neg ZpE,Zah,if_pos rfl]
theorem lF_x (a b c d e f:V):(lF a b c d e f).lookup ("x":Str)=some c:=by unfold lF; rw [Zah,if_neg ZpF,Zah,if_neg ZpJ,Zah,if_pos rfl]
theorem lF_y (a b c d e f:V):(lF a b c d e f).lookup ("y":Str)=some d:=by unfold lF; rw [Zah,if_neg ZpG,Zah,if_neg ZpK,Zah,if_neg ZpN,Zah,if_pos rfl]
theorem lF_z (a b c d e f:V):(lF a b c d e f).lookup ("z":Str)=some e:=by unfold lF; rw [Zah,if_neg ZpH,Zah,if_neg ZpL,Zah,if_neg ZpO,Zah,if_neg ZpQ,Zah,if_pos rfl]
theorem lF_t (a b c d e f:V):(lF a b c d e f).lookup ("turns":Str)=some f:=by unfold lF; rw [Zah,if_neg ZpI,Zah,if_neg ZpM,Zah,if_neg ZpP,Zah,if_neg ZpR,Zah,if_neg ZpS,Zah,if_pos rfl]
theorem Zol (a b c d e f:V):ZaR "turns" f (ZaR "z" e (ZaR "y" d (ZaR "x" c (ZaR "colour" b (ZaR "part" a [])))))=lF a b c d e f:=by
 have e0:ZaR ("part":Str) a []=[(("part":Str),a)]:=rfl
 have e1:ZaR ("colour":Str) b []=[(("colour":Str),b)]:=rfl
 have e2:ZaR ("x":Str) c []=[(("x":Str),c)]:=rfl
 have e3:ZaR ("y":Str) d []=[(("y":Str),d)]:=rfl
 have e4:ZaR ("z":Str) e []=[(("z":Str),e)]:=rfl
 have e5:ZaR ("turns":Str) f []=[(("turns":Str),f)]:=rfl
 rw [e0,ZbQ _ _ _ _ (Ne.symm ZpE),e1,ZbQ _ _ _ _ (Ne.symm ZpF),ZbQ _ _ _ _ (Ne.symm ZpJ),e2,ZbQ _ _ _ _ (Ne.symm ZpG),ZbQ _ _ _ _ (Ne.symm ZpK),ZbQ _ _ _ _ (Ne.symm ZpN),e3,
  ZbQ _ _ _ _ (Ne.symm ZpH),ZbQ _ _ _ _ (Ne.symm ZpL),ZbQ _ _ _ _ (Ne.symm ZpO),ZbQ _ _ _ _ (Ne.symm ZpQ),e4,ZbQ _ _ _ _ (Ne.symm ZpI),ZbQ _ _ _ _ (Ne.symm ZpM),ZbQ _ _ _ _ (Ne.symm ZpP),ZbQ _ _ _ _ (Ne.symm ZpR),ZbQ _ _ _ _ (Ne.symm ZpS),e5]
 rfl
def LineAt (D:Addr) (H:Hp) (q:Addr) (l:Br.Line):Prop:=∃ dx,H q=some (.ins D dx (lF (.int l.part) (.int l.colour) (.int l.x) (.int l.y) (.int l.z) (.int l.r)))
theorem LineAt.same {D:Addr} {H H':Hp} {q:Addr} {l:Br.Line} (h:LineAt D H q l) (s:Same H H'):LineAt D H' q l:=
 let ⟨dx,a⟩:=h
 ⟨dx,s _ _ a⟩
theorem LineAt.keep {D C p a:Addr} {st:S} {H H':Hp} {q:Addr} {l:Br.Line} (h:LineAt D H q l) (r:RdAt C H p a st) (s:Keep p H H'):LineAt D H' q l:=by
 obtain ⟨dx,h1⟩:=h
 obtain ⟨dy,h4⟩:=r
 refine ⟨dx,s _ _ h1 (ZaF h1 h4 ?_)⟩
 intro z
 injection z with _ _ z
 have:=congrArg List.length z
 unfold lF rdF at this
 simp at this
theorem LineAt.put {D k:Addr} {H:Hp} {q:Addr} {l:Br.Line} {xs:List V} {o:HO} (h:LineAt D H q l) (hl:H k=some (.lst xs)):LineAt D (upd H k o) q l:=by
 obtain ⟨dx,h1⟩:=h
 exact ⟨dx,by rw [Zag (ZaF h1 hl (by intro z; cases z))]; exact h1⟩
end Pc
namespace L2
open PySem PySem.Spec PyProof.Rows
end L2
namespace Pc
open PySem PySem.W PySem.Spec PyProof.Rows L2
end Pc
namespace Am
open Pc Br Sm Ly
open PySem (Paired)
set_option maxHeartbeats 1000000
set_option linter.all false
theorem Zlx {ps:List PartM} {k:Catalogue} (h:Paired PartIs ps k):Dp.sizesOf k=szs ps (ZaX ps):=by
 unfold Dp.sizesOf szs
 rw [Cm.plates_is h]
 refine List.map_congr_left fun n hn=>?_
 have hlt:n<ps.length:=List.mem_range.mp (List.mem_filter.mp hn).1
 have g:PartIs (ps.getD n Zaj) (k.getD n nothing):=Cm.paired_getD h hlt
 rw [g.wide,g.deep]
theorem sok {ps:List PartM} (h:∀ p∈ps,PartOk p):Dp.SOk (szs ps (ZaX ps)):=by
 intro p hp
 unfold szs at hp
 obtain ⟨n,hn,rfl⟩:=List.mem_map.mp hp
 have hlt:n<ps.length:=List.mem_range.mp (List.mem_filter.mp hn).1
 have hm:ps.getD n Zaj∈ps:=by
  rw [List.getD_eq_getElem?_getD,List.getElem?_eq_getElem hlt]
  exact List.getElem_mem hlt
 have ok:=h _ hm
 have hf:ZaK ps n=true:=(List.mem_filter.mp hn).2
 unfold ZaK Zcq at hf
 have h1:=(Bool.and_eq_true_iff.mp hf).1
 have h2:=(Bool.and_eq_true_iff.mp h1).2
 have h3:=(Bool.and_eq_true_iff.mp h2).2
 have h4:=of_decide_eq_true (Bool.and_eq_true_iff.mp h3).1
 exact ⟨ok.w1,ok.d1,h4⟩
theorem Zkb {ps:List PartM} {k:Catalogue} (h:Paired PartIs ps k):∀ p∈ps,PartOk p:=by
 induction h with
 | nil=>intro p hp; cases hp
 | cons hh t ih=>
  intro p hp
  rcases List.mem_cons.mp hp with e | e
  ·rw [e]; exact Cm.PartIs.ok hh
  ·exact ih p e
theorem fok {fm:FieldM} {F:Field} (h:FieldIs fm F):Dp.FOk F:=⟨h.w1,h.w2,h.d1,h.d2,by rw [h.places,List.length_map]; exact h.len⟩
theorem Zkc {fm:FieldM} {F F':Field} (h:FieldIs fm F) (h':FieldIs fm F'):F=F':=by
 have e1:F.wide=F'.wide:=by have:=h.wide.symm.trans h'.wide; lia
 have e2:F.deep=F'.deep:=by have:=h.deep.symm.trans h'.deep; lia
 have e3:F.places=F'.places:=by rw [h.places,h'.places]
 cases F
 cases F'
 simp_all
theorem Zkd {c f:List Int} (hc:InB c) (hf:InB f) (h:ZeU c f) {F:Field} (hF:FieldIs (Za0 f ⟨0,false⟩) F):∃ k:Catalogue,Paired PartIs (Zbk c ⟨0,false⟩).1 k∧Br.wrong k=Option.none∧Dp.PlanOk k F∧Dp.sizesOf k=szs (Zbk c ⟨0,false⟩).1 (ZaX (Zbk c ⟨0,false⟩).1)∧∀ g,BrE.ofTwo (c.map byte) (f.map byte) g=g k F:=by
 obtain ⟨k,F',h1,h2,h3,h4⟩:=ZjT hc hf h
 have e:=Zkc hF h2
 subst e
 have es:=Zlx h1
 exact ⟨k,h1,h3,Dp.plan_ok (fok hF) (by rw [es]; exact sok (Zkb h1)),es,h4⟩
end Am
namespace Am
open Pc Br Sm Ly
open PySem (Paired Str)
set_option maxHeartbeats 1000000
set_option linter.all false
def toI (b:Bytes):List Int:=b.map fun (c:UInt8)=>(c.toNat:Int)
def numI (n:Nat):List Int:=(TL.numL n).map fun (m:Nat)=>(m:Int)
theorem Zbx (a b:Bytes):toI (a++b)=toI a++toI b:=List.map_append
theorem ZhU {ns:List Int} (h:InB ns):toI (ns.map byte)=ns:=by
 unfold toI
 rw [List.map_map]
 refine Eq.trans (List.map_congr_left fun i hi=>?_) (List.map_id ns)
 obtain ⟨h0,h1⟩:=h i hi
 show (((byte i).toNat:Nat):Int)=i
 unfold byte
 rw [UInt8.toNat_ofNat']
 lia
theorem Zgw:∀ (k n:Nat),n<k→toI (digitsIn k n)=numI n
 | 0,n,h=>absurd h (Nat.not_lt_zero n)
 | k+1,n,h=>by
  unfold digitsIn
  rw [Zbx]
  have e:toI [UInt8.ofNat (48+n%10)]=[((48+n%10:Nat):Int)]:=by
   unfold toI
   rw [List.map_singleton,UInt8.toNat_ofNat']
   congr 2
   lia
  rw [e]
  unfold numI
  by_cases hn:n<10
  ·rw [if_pos hn,TL.numL_lt hn]
   show _=[((48+n:Nat):Int)]
   rw [Nat.mod_eq_of_lt hn]
   rfl
  ·rw [if_neg hn,Zgw k (n / 10) (by lia),TL.numL_step (by lia),List.map_append]
   rfl
theorem Zom (n:Nat):toI (decimal n)=numI n:=Zgw (n+1) n (Nat.lt_succ_self n)
def lineI (name:List Int) (l:Line):List Int:=[112,117,116,32]++name++([32]++numI l.colour++[32]++numI l.x++[32]++numI l.y++[32]++numI l.z++[32]++numI l.r++[10])
theorem Zon:toI (ascii "put")=[112,117,116]:=by decide +kernel
theorem Zly:toI (ascii "build")=[98,117,105,108,100]:=by decide +kernel
theorem Zm9 (a b c d e f g:Bytes):line [a,b,c,d,e,f,g]=a++32::(b++32::(c++32::(d++32::(e++32::(f++32::(g++[10])))))):=rfl
theorem Zhh {c:Catalogue} {l:Line} {name:List Int} (hn:InB name) (h:(c.getD l.part nothing).name=name.map byte):toI (Line.text c l)=lineI name l:=by
 unfold Line.text lineI
 rw [Zm9,h]
 have c32:∀ b:Bytes,toI (32::b)=32::toI b:=fun b=>rfl
 simp only [Zbx,c32,Zom,Zon,ZhU hn]
 have e10:toI [10]=[10]:=by decide +kernel
 rw [e10]
 simp
theorem Zgx {c:Catalogue} {s:List Int} (hs:InB s) {ls:List Line} {names:Line→List Int} (h:∀ l∈ls,InB (names l)∧(c.getD l.part nothing).name=(names l).map byte):toI ((⟨s.map byte,ls⟩:Build).text c)=[98,117,105,108,100,32]++s++[10]++ls.flatMap fun l=>lineI (names l) l:=by
 unfold Build.text
 rw [Zbx]
 have e1:toI (line [ascii "build",s.map byte])=[98,117,105,108,100,32]++s++[10]:=by
  show toI (ascii "build"++32::(s.map byte++[10]))=_
  have c32:∀ b:Bytes,toI (32::b)=32::toI b:=fun b=>rfl
  have e10:toI [10]=[10]:=by decide +kernel
  rw [Zbx,Zly,c32,Zbx,ZhU hs,e10]
  simp
 rw [e1]
 congr 1
 induction ls with
 | nil=>rfl
 | cons a r ih=>
  rw [List.flatMap_cons,List.flatMap_cons,Zbx]
  obtain ⟨h1,h2⟩:=h a List.mem_cons_self
  rw [Zhh h1 h2]
  congr 1
  exact ih fun l hl=>h l (List.mem_cons_of_mem _ hl)
theorem Zhi (b:Bytes):CoversNeutral.shown (.bytes b)=(b.length:Int)::toI b:=rfl
theorem Zna (b:Bytes):(toI b).length=b.length:=List.length_map _
end Am
namespace Am
open Pc Br Sm Ly
open PySem (Paired)
set_option maxHeartbeats 1000000
set_option linter.all false
theorem step_facts {zs:Dp.Sizes} (hz:Dp.SOk zs) {F:Field} (hf:Dp.FOk F) {B:Nat} {q:Nat×Nat} (hq:q∈Dp.steps zs F B):0<B∧(Dp.col F (Bm.low B)).isSome=true∧(0<q.2→Bm.low B<Bm.low q.2)∧∃ z∈zs,z.1=q.1:=by
 unfold Dp.steps at hq
 by_cases h0:B=0
 ·rw [if_pos h0] at hq; cases hq
 rw [if_neg h0] at hq
 obtain ⟨r,hr,rfl⟩:=List.mem_map.mp hq
 obtain ⟨hr1,hr2⟩:=List.mem_filter.mp hr
 have hsub:r.2&&&B=r.2:=by simpa using hr2
 unfold Dp.shapesAt at hr1
 by_cases hn:(Dp.col F (Bm.low B)).isNone=true
 ·rw [if_pos hn] at hr1; cases hr1
 rw [if_neg hn] at hr1
 obtain ⟨hr3,hr4⟩:=List.mem_filter.mp hr1
 obtain ⟨z,hzm,hze⟩:=List.mem_map.mp hr3
 have hc:(Dp.col F (Bm.low B)).isSome=true:=by
  cases e:Dp.col F (Bm.low B) with
  | none=>rw [e] at hn; exact absurd rfl hn
  | some c=>rfl
 refine ⟨by lia,hc,fun h2=>?_,z,hzm,by rw [← hze]⟩
 obtain ⟨c,hcc⟩:=Option.isSome_iff_exists.mp hc
 obtain ⟨w1,d1,_⟩:=hz z hzm
 have hpos:0<r.2:=by simpa using hr4
 have hsh:r.2=Dp.shL F (fun _=>(z.2.1,z.2.2)) ⟨0,c,Bm.low B%F.wide,Bm.low B / F.wide,0,0⟩:=by
  rw [← hze,hcc]
  rfl
 have hb:r.2.testBit (Bm.low B)=true:=by
  have:=(Dp.shape_corner hf (wd:=fun _=>(z.2.1,z.2.2)) (l:=⟨0,c,Bm.low B%F.wide,Bm.low B / F.wide,0,0⟩) (by rw [← hsh]; exact hpos) w1 d1).1
  rw [← hsh] at this
  have e:Dp.crn F ⟨0,c,Bm.low B%F.wide,Bm.low B / F.wide,0,0⟩=Bm.low B:=Nat.div_add_mod _ _
  rw [e] at this
  exact this
 have ht:=Bm.low_test h2
 have hsb:=Bm.sub_bits hsub (Bm.low (B-r.2))
 rw [ht] at hsb
 have hs2:=(Bool.and_eq_true_iff.mp hsb.symm)
 have hge:¬ Bm.low (B-r.2)<Bm.low B:=fun z=>by
  have:=Bm.low_min (by lia) z
  rw [this] at hs2
  cases hs2.1
 have hne:Bm.low (B-r.2)≠Bm.low B:=fun z=>by
  rw [z,hb] at hs2
  cases hs2.2
 show Bm.low B<Bm.low (B-r.2)
 lia
theorem few_step {zs:Dp.Sizes} {F:Field} {B m:Nat} (hB:B≠0) (h:Dp.few zs F B=some m):∃ q,(Dp.steps zs F B).find? (Dp.isFew zs F B)=some q∧q∈Dp.steps zs F B∧(Dp.few zs F q.2).isSome=true:=by
 have hl:=Dp.few_least zs F hB
 have hne:((Dp.steps zs F B).filterMap fun q=>(Dp.few zs F q.2).map fun n=>n+1)≠[]:=fun z=>by
  rw [z] at hl
  rw [h] at hl
  cases hl
 obtain ⟨k,hk1,hk2,_⟩:=Dp.least_is hne
 obtain ⟨q,hq1,hq2⟩:=List.mem_filterMap.mp hk2
 have hf:Dp.isFew zs F B q=true:=by
  unfold Dp.isFew
  rw [hq2,hl,hk1]
  simp
 cases hfd:(Dp.steps zs F B).find? (Dp.isFew zs F B) with
 | none=>
  have:=List.find?_eq_none.mp hfd q hq1
  exact absurd hf this
 | some p=>
  have hp:=List.find?_some hfd
  refine ⟨p,rfl,List.mem_of_find?_eq_some hfd,?_⟩
  unfold Dp.isFew at hp
  rw [h] at hp
  cases e:Dp.few zs F p.2 with
  | none=>rw [e] at hp; simp at hp
  | some n=>rfl
theorem first_step {zs:Dp.Sizes} {F:Field} {B m:Nat} (hB:B≠0) (h:Dp.few zs F B=some m) {q:Nat×Nat} (hq:(Dp.steps zs F B).find? (Dp.isFew zs F B)=some q):Dp.firstM zs F B B=Dp.lineAt F B q.1::Dp.firstM zs F q.2 q.2:=by
 obtain ⟨f,rfl⟩:∃ f,B=f+1:=⟨B-1,by lia⟩
 have hlt:=Dp.steps_lt (List.mem_of_find?_eq_some hq)
 have e:Dp.firstM zs F (f+1) (f+1)=match (Dp.steps zs F (f+1)).find? (Dp.isFew zs F (f+1)) with
  | some q=>Dp.lineAt F (f+1) q.1::Dp.firstM zs F f q.2
  | Option.none=>[]:=rfl
 rw [e,hq]
 show _::Dp.firstM zs F f q.2=_
 rw [Dp.firstM_eq zs F q.2 q.2 f q.2 (Nat.le_refl _) (by lia) (Nat.le_refl _)]
theorem Ze7 (ns:List Int):∀ (k:Nat) (st:S),(ZaI ns k st).1.length≤k
 | 0,st=>Nat.le_refl _
 | k+1,st=>by
  unfold ZaI
  by_cases h:see ns (lets++digs) st=true
  ·rw [if_pos h]
   exact Nat.succ_le_succ (Ze7 ns k _)
  ·rw [if_neg h]
   exact Nat.zero_le _
theorem Zgy (ns:List Int) (st:S):(Za8 ns 8 st).1.length≤8:=Nat.succ_le_succ (Ze7 ns 7 _)
theorem Zep (ns:List Int):∀ (k:Nat) (st:S),∀ p∈(Za1 ns k st).1,p.name.length≤8
 | 0,st,p,hp=>by cases hp
 | k+1,st,p,hp=>by
  unfold Za1 at hp
  by_cases h:has ns st=true
  ·rw [if_pos h] at hp
   rcases List.mem_cons.mp hp with e | e
   ·rw [e]
    exact Zgy ns _
   ·exact Zep ns k _ p e
  ·rw [if_neg h] at hp
   cases hp
theorem catM_names (ns:List Int) (st:S):∀ p∈(Zbk ns st).1,p.name.length≤8:=fun p hp=>by
 rcases List.mem_cons.mp hp with e | e
 ·rw [e]
  exact Zgy ns _
 ·exact Zep ns 63 _ p e
theorem Zlz {ps:List PartM} {k:Catalogue} (h:Paired PartIs ps k) {i:Nat} (hi:i<ps.length):InB (ps.getD i Zaj).name∧(k.getD i nothing).name=(ps.getD i Zaj).name.map byte:=by
 have g:PartIs (ps.getD i Zaj) (k.getD i nothing):=Cm.paired_getD h hi
 exact ⟨Zo6 g.nameIn,g.name⟩
theorem ZlA {c f s:List Int} (hs:InB s) {F:Field} {k:Catalogue} (h1:Paired PartIs (Zbk c ⟨0,false⟩).1 k) {ls:List Line} (hl:∀ l∈ls,l.part<(Zbk c ⟨0,false⟩).1.length):
  CoversNeutral.shown (BrE.told k (s.map byte) (some ls))=let t:=[98,117,105,108,100,32]++s++[10]++ls.flatMap fun l=>lineI ((Zbk c ⟨0,false⟩).1.getD l.part Zaj).name l
   ((t.length:Nat):Int)::t:=by
 show CoversNeutral.shown (.bytes ((⟨s.map byte,ls⟩:Build).text k))=_
 rw [Zhi,← Zna,Zgx hs (names:=fun l=>((Zbk c ⟨0,false⟩).1.getD l.part Zaj).name) fun l hlm=>Zlz h1 (hl l hlm)]
theorem ZdM (c f s:List Int):PyWqasca.first c f s=CoversNeutral.shown (if longName (s.map byte)=false then BrE.no 1 else BrE.ofTwo (c.map byte) (f.map byte) fun k x=>BrE.told k (s.map byte) (plan k x).first):=rfl
theorem first_name {c f s:List Int} (hs:InB s) (h:Zb1 s=false):PyWqasca.first c f s=[-1]:=by
 rw [ZdM,nameOk_is hs,if_pos h]
 rfl
theorem first_no {c f s:List Int} (hc:InB c) (hf:InB f) (hs:InB s) (hn:Zb1 s=true) {z:Int} (h:GivNo c f z):PyWqasca.first c f s=[z]:=by
 rw [ZdM,nameOk_is hs,if_neg (by rw [hn]; simp),Zll hc hf h]
 exact Zlk h.neg
theorem first_none {c f s:List Int} (hc:InB c) (hf:InB f) (hs:InB s) (hn:Zb1 s=true) (h:ZeU c f) {F:Field} (hF:FieldIs (Za0 f ⟨0,false⟩) F) (hw:Dp.few (szs (Zbk c ⟨0,false⟩).1 (ZaX (Zbk c ⟨0,false⟩).1)) F (Dp.coloured F)=Option.none):PyWqasca.first c f s=[-3]:=by
 obtain ⟨k,h1,_,hp,es,hg⟩:=Zkd hc hf h hF
 rw [ZdM,nameOk_is hs,if_neg (by rw [hn]; simp),hg]
 have e:(plan k F).first=Option.none:=by
  unfold Plan.first
  rw [hp.count,es,if_pos ((Dp.ways_few _ F _ _ (Nat.le_refl _)).mpr hw)]
 rw [e]
 rfl
theorem first_yes {c f s:List Int} (hc:InB c) (hf:InB f) (hs:InB s) (hn:Zb1 s=true) (h:ZeU c f) {F:Field} (hF:FieldIs (Za0 f ⟨0,false⟩) F) {m:Nat} (hw:Dp.few (szs (Zbk c ⟨0,false⟩).1 (ZaX (Zbk c ⟨0,false⟩).1)) F (Dp.coloured F)=some m)
  (hl:∀ l∈Dp.firstM (szs (Zbk c ⟨0,false⟩).1 (ZaX (Zbk c ⟨0,false⟩).1)) F (Dp.coloured F) (Dp.coloured F),l.part<(Zbk c ⟨0,false⟩).1.length):PyWqasca.first c f s=let t:=[98,117,105,108,100,32]++s++[10]++(Dp.firstM (szs (Zbk c ⟨0,false⟩).1 (ZaX (Zbk c ⟨0,false⟩).1)) F (Dp.coloured F) (Dp.coloured F)).flatMap fun l=>lineI ((Zbk c ⟨0,false⟩).1.getD l.part Zaj).name l
   ((t.length:Nat):Int)::t:=by
 obtain ⟨k,h1,_,hp,es,hg⟩:=Zkd hc hf h hF
 rw [ZdM,nameOk_is hs,if_neg (by rw [hn]; simp),hg]
 have e:(plan k F).first=some (Dp.firstM (szs (Zbk c ⟨0,false⟩).1 (ZaX (Zbk c ⟨0,false⟩).1)) F (Dp.coloured F) (Dp.coloured F)):=by
  unfold Plan.first
  rw [hp.count,es,if_neg (fun z=>by rw [(Dp.ways_few _ F _ _ (Nat.le_refl _)).mp z] at hw; cases hw),hp.first,es]
 rw [e]
 exact ZlA (f:=f) (F:=F) hs h1 hl
end Am
namespace Pr
open PySem PySem.Spec PyProof.Rows L2 Pc Ly
set_option maxHeartbeats 4000000
set_option maxRecDepth 100000
abbrev Ze8:Stmt:=(top 48)
abbrev ZiA:Stmt:=(top 51)
abbrev Ze9:Stmt:=(top 52)
abbrev Zfa:Stmt:=(top 54)
def Zeq (D:Addr):Sp:=fun vs H Q _=>∃ (q:Addr) (F:Br.Field) (k:Nat),vs=[.ref q,.int k]∧FieldAt D H q F∧k<Dp.area F∧Q (colV (Dp.col F k)) H
def Zma (D:Addr):Sp:=fun vs H Q _=>∃ (q:Addr) (F:Br.Field),vs=[.ref q]∧FieldAt D H q F∧Q (.int (Dp.coloured F:Int)) H
def Zke (Dq D:Addr):Sp:=fun vs H Q _=>∃ (r q:Addr) (p:PartM) (F:Br.Field) (x y c:Nat),vs=[.ref r,.ref q,.int x,.int y,.int c]∧PartAt Dq H r p∧PartOk p∧FieldAt D H q F∧x≤100∧y≤100∧Q (.int (Dp.shape F x y p.w p.d (some c):Int)) H
def spLeast:Sp:=fun vs H Q _=>∃ B:Nat,vs=[.int B]∧0<B∧Q (.int (Bm.low B:Int)) H
section
variable {P:Program} {w:World} {K:PySem.W.Frag} {mg:Str→Option Value} {base:Heap}
theorem Znb:FnScope ["field","place"] ["field","place"] (Zad Ze8):=⟨rfl,rfl,rfl,by decide +kernel,rfl,by decide +kernel,by decide +kernel⟩
theorem Zb3 {F:Br.Field} {ps:List Int} (hf:Dp.FOk F) (h:F.places=ps.map (fun i=>Sm.colOf (Sm.byte i))):ps.length=Dp.area F:=by
 have:=hf.len
 rw [h,List.length_map] at this
 exact this
theorem ZlB {f C D:Addr} {fd:FuncData} (F:Fun K "colour_at" "colour_at" Ze8 f fd) (T:TxtR K mg C) (TF:TxtF K mg D):FnOk P w K mg base CX0 1 f fd ["field","place"] (Zeq D):=by
 refine F.ok Znb (fun vs H Q E h=>?_) (fun cdv A outer s H vs Q E hr h=>?_)
 ·obtain ⟨q,F,k,rfl,_⟩:=h
  rfl
 ·obtain ⟨q,F,k,rfl,⟨dx,l,ps,hq,hl,hf,hpl,he⟩,hk,kk⟩:=h
  obtain ⟨t1,g1⟩:=TF.nc
  obtain ⟨t2,g2⟩:=T.dig
  refine ⟨_,Zab (Za6 (Zaz Zew (ZbB Zbq (Zam (pv 0) rfl) (pv 1) (fun _ _=>rfl)) (ZaH Zch (by rfl) T.ord (by decide +kernel) (Zaa (Zax (v:=.str ".") rfl g1 ⟨t1,rfl⟩) Zae)) (ZaE _)) (Zaf (Zav ZcL)) ZaA) <|
   Zaf (Zav (ZaG Zbz (ZbB Zbq (Zam (pv 0) rfl) (pv 1) (fun _ _=>rfl)) (ZaH Zch (by rfl) T.ord (by decide +kernel) (Zaa (ZbB ZnA (Zax (v:=.str "0123456789") rfl g2 ⟨t2,rfl⟩) Zau (fun _ _=>rfl)) Zae)))),?_⟩
  have hlen:=Zb3 hf hpl
  have hlt:k<ps.length:=by rw [hlen]; exact hk
  have hget:ps[k]? = some (ps.getD k 0):=by rw [List.getD_eq_getElem?_getD,List.getElem?_eq_getElem hlt]; rfl
  have hcol:=Zl9 hpl he hget
  refine ⟨_,rfl,q,D,dx,_,_,rfl,hq,TF.cl,TF.nP,Zou _ _ _,_,rfl,l,_,_,_,rfl,rfl,SqL.of hl,Zck hlt,_,rfl,rfl,rfl,_,rfl,Zbn (fun h=>?_) (fun h=>?_)⟩
  ·have h46:ps.getD k 0=46:=by
    generalize ps.getD k 0=v at *
    simpa [e46] using h
   rcases hcol with ⟨_,e⟩ | ⟨e,_⟩
   ·rw [e] at kk
    exact kk
   ·exact absurd h46 e
  ·have h46:¬ ps.getD k 0=46:=by
    generalize ps.getD k 0=v at *
    simpa [e46] using h
   rcases hcol with ⟨e,_⟩ | ⟨_,n,_,e,e2⟩
   ·exact absurd e h46
   ·rw [e] at kk
    refine ⟨_,rfl,q,D,dx,_,_,rfl,hq,TF.cl,TF.nP,Zou _ _ _,_,rfl,l,_,_,_,rfl,rfl,SqL.of hl,Zck hlt,_,_,48,rfl,rfl,by decide +kernel,by decide +kernel,_,rfl,rfl,_,_,rfl,rfl,?_⟩
    show Q (.int (ps.getD k 0-48)) H
    rw [e2]
    exact kk
theorem Znc:FnScope ["bare"] ["bare"] (Zad Zfa):=⟨rfl,rfl,rfl,by decide +kernel,rfl,by decide +kernel,by decide +kernel⟩
theorem ZlC {f:Addr} {fd:FuncData} (F:Fun K "least_place" "least_place" Zfa f fd):FnOk P w K mg base CX0 1 f fd ["bare"] spLeast:=by
 refine F.ok Znc (fun vs H Q E h=>?_) (fun cdv A outer s H vs Q E hr h=>?_)
 ·obtain ⟨B,rfl,_⟩:=h
  rfl
 ·obtain ⟨B,rfl,hB,k⟩:=h
  refine ⟨_,Zaf (Zav (ZaG Zbz (Zi0 PySem.F.plainAttrs_int PySem.F.slot_int_bit_length PySem.F.type_int_bit_length Zj8 (ZaG Znw (pv 0) (ZaG Zbz (pv 0) Zau))) Zau)),?_⟩
  refine ⟨_,rfl,_,rfl,_,_,rfl,rfl,_,_,rfl,rfl,rfl,_,rfl,rfl,_,_,rfl,rfl,?_⟩
  rw [least_is hB]
  have e:(((Bm.low B+1:Nat):Int)-1)=(Bm.low B:Int):=by lia
  show Q (.int (((Bm.low B+1:Nat):Int)-1)) H
  rw [e]
  exact k
theorem scCSet:FnScope ["field","found","place"] ["field"] (Zad ZiA):=⟨rfl,rfl,rfl,by decide +kernel,rfl,by decide +kernel,by decide +kernel⟩
theorem Zgz (g:Nat→Bool) (i:Nat):(List.range (i+1)).filter g=if g i=true then (List.range i).filter g++[i] else (List.range i).filter g:=by
 rw [List.range_succ,List.filter_append]
 by_cases h:g i=true
 ·rw [if_pos h,List.filter_cons_of_pos h]; rfl
 ·rw [if_neg h,List.filter_cons_of_neg h,List.filter_nil,List.append_nil]
theorem ZgA (l:List Nat) (a:Nat):Bm.bits (l++[a])=Bm.bits l+2^a:=by
 rw [Bm.bits_append]
 rfl
theorem Znd {f C D fA:Addr} {fd fdA:FuncData} (F:Fun K "coloured_set" "coloured_set" ZiA f fd) (T:TxtR K mg C) (TF:TxtF K mg D) (GA:FnOk P w K mg base CX0 1 fA fdA ["field","place"] (Zeq D)) (bA:Def K mg "colour_at" fA fdA ["field","place"]):
  FnOk P w K mg base CX0 2 f fd ["field"] (Zma D):=by
 refine F.ok scCSet (fun vs H Q E h=>?_) (fun cdv A outer s H vs Q E hr h=>?_)
 ·obtain ⟨q,F,rfl,_⟩:=h
  rfl
 ·obtain ⟨q,F,rfl,hF,kk⟩:=h
  obtain ⟨dx,l,ps,hq,hl,hf,hpl,he⟩:=id hF
  refine ⟨_,Zab (Zat (i:=1) scCSet.nd rfl (Or.inl rfl) Zau) <|
   Zab (ZbO PassesOwn.never rfl (ZcM rfl T.range (Zaa (ZaH ZaC (by rfl) T.len PySem.boot_len (Zaa (Zam (pv 0) rfl) Zae)) Zae)) (ZaS (i:=2) scCSet.nd rfl (Or.inl rfl))
    (Zaf (Za6 (Zaz Zmh (Zak GA hr (by rfl) bA.mg bA.kp bA.bd .nil Zar (Zaa (pv 0) (Zaa (pv 2) Zae))) ZcL (ZaE _)) (Zaf (Zat (i:=1) scCSet.nd rfl (Or.inl rfl) (ZaG ZbI (pv 1) (ZaG ZlO Zau (pv 2))))) ZaA))) <|
   Zaf (Zav (pv 1)),?_⟩
  have hlen:=Zb3 hf hpl
  have ha:=Zdt hf
  refine ⟨_,rfl,q,D,dx,_,_,rfl,hq,TF.cl,TF.nP,Zou _ _ _,l,_,rfl,.inl (SqL.of hl),(((ps.map V.int).length:Nat):Int),rfl,by lia,by rw [List.length_map]; lia,Zb5 (n:=(ps.map V.int).length)
   (fun i σ H2=>∃ v2:Option V,σ=[some (.ref q),some (.int (Bm.bits ((List.range i).filter fun p=>(Dp.col F p).isSome):Nat)),v2]∧H2=H) ⟨none,rfl,rfl⟩ ?_ ?_⟩
  ·rintro i σ H2 hi ⟨v2,rfl,rfl⟩
   rw [List.length_map,hlen] at hi
   have ei:(0:Int)+(i:Int)=(i:Int):=by lia
   rw [ei]
   refine ⟨_,rfl,_,rfl,q,F,i,rfl,hF,hi,rfl,_,rfl,?_⟩
   cases hc:Dp.col F i with
   | none=>
    refine Zjg ?_
    refine ⟨some (.int (i:Int)),?_,rfl⟩
    rw [Zgz,if_neg (by rw [hc]; simp)]
    rfl
   | some c=>
    refine Zh7 ?_
    refine ⟨_,rfl,_,rfl,_,_,rfl,rfl,⟨by lia,by lia,by decide⟩,_,_,rfl,rfl,?_⟩
    refine ⟨some (.int (i:Int)),?_,rfl⟩
    rw [Zgz,if_pos (by rw [hc]; rfl),ZgA]
    have e2:((Bm.bits ((List.range i).filter fun p=>(Dp.col F p).isSome)+2^i:Nat):Int)=((Bm.bits ((List.range i).filter fun p=>(Dp.col F p).isSome):Nat):Int)+1*2^((i:Int)).toNat:=by
     rw [Int.toNat_natCast,Int.natCast_add,Int.natCast_pow,Int.one_mul]
     rfl
    rw [e2]
    rfl
  ·rintro σ H2 ⟨v2,rfl,rfl⟩
   rw [List.length_map,hlen]
   exact ⟨_,rfl,kk⟩
theorem scShape:FnScope ["part","field","x","y","colour","shape","row","column","place"] ["part","field","x","y","colour"] (Zad Ze9):=⟨rfl,rfl,rfl,by decide +kernel,rfl,by decide +kernel,by decide +kernel⟩
def ZcH (W x y w j i:Nat):List Nat:=Dp.rectL W x y w j++(List.range i).map fun i=>W*(y+j)+(x+i)
theorem Zfb (W x y w j i:Nat):ZcH W x y w j (i+1)=ZcH W x y w j i++[W*(y+j)+(x+i)]:=by
 unfold ZcH
 rw [List.range_succ,List.map_append,← List.append_assoc]
 rfl
theorem Zkf (W x y w j:Nat):ZcH W x y w j w=Dp.rectL W x y w (j+1):=by
 unfold ZcH Dp.rectL
 rw [List.range_succ,List.flatMap_append]
 simp
theorem Zfc (W x y w j:Nat):ZcH W x y w j 0=Dp.rectL W x y w j:=by
 unfold ZcH
 simp
theorem Zkg {W x y w d j i:Nat} (hj:j<d) (hi:i<w):W*(y+j)+(x+i)∈Dp.rectL W x y w d:=by
 unfold Dp.rectL
 exact List.mem_flatMap.mpr ⟨j,List.mem_range.mpr hj,List.mem_map.mpr ⟨i,List.mem_range.mpr hi,rfl⟩⟩
theorem ZlD {f C Dq D fA:Addr} {fd fdA:FuncData} (F:Fun K "shape_of" "shape_of" Ze9 f fd) (T:TxtR K mg C) (TP:TxtP K mg Dq) (TF:TxtF K mg D) (GA:FnOk P w K mg base CX0 1 fA fdA ["field","place"] (Zeq D)) (bA:Def K mg "colour_at" fA fdA ["field","place"]):
  FnOk P w K mg base CX0 2 f fd ["part","field","x","y","colour"] (Zke Dq D):=by
 refine F.ok scShape (fun vs H Q E h=>?_) (fun cdv A outer s H vs Q E hr h=>?_)
 ·obtain ⟨r,q,p,F,x,y,c,rfl,_⟩:=h
  rfl
 ·obtain ⟨r,q,p,F,x,y,c,rfl,hp,ok,hF,hx,hy,kk⟩:=h
  obtain ⟨dp,m1,m2,hr1,_,_⟩:=id hp
  obtain ⟨dx,l,ps,hq,hl,hf,hpl,he⟩:=id hF
  refine ⟨_,Zab (Za6 (Znt (Zaz Zc9 (ZaG ZbI (pv 2) (Zam (pv 0) rfl)) (Zam (pv 1) rfl) (ZaE _)) (ZlM (Zaz Zc9 (ZaG ZbI (pv 3) (Zam (pv 0) rfl)) (Zam (pv 1) rfl) (ZaE _)))).pt (Zaf (Zav Zau)) ZaA) <|
   Zab (Zat (i:=5) scShape.nd rfl (Or.inl rfl) Zau) <|
   Zab (ZbO PassesOwn.never rfl (ZfM rfl T.range (Zaa (pv 3) (Zaa (ZaG ZbI (pv 3) (Zam (pv 0) rfl)) Zae))) (ZaS (i:=6) scShape.nd rfl (Or.inl rfl))
    (Zaf (ZbO PassesOwn.never rfl (ZfM rfl T.range (Zaa (pv 2) (Zaa (ZaG ZbI (pv 2) (Zam (pv 0) rfl)) Zae))) (ZaS (i:=7) scShape.nd rfl (Or.inl rfl))
     (Zab (Zat (i:=8) scShape.nd rfl (Or.inl rfl) (ZaG ZbI (ZaG ZeB (Zam (pv 1) rfl) (pv 6)) (pv 7))) <|
     Zab (Za6 (Zaz ZkD (Zak GA hr (by rfl) bA.mg bA.kp bA.bd .nil Zar (Zaa (pv 1) (Zaa (pv 8) Zae))) (pv 4) (ZaE _)) (Zaf (Zav Zau)) ZaA) <|
     Zaf (Zat (i:=5) scShape.nd rfl (Or.inl rfl) (ZaG ZbI (pv 5) (ZaG ZlO Zau (pv 8)))))))) <|
   Zaf (Zav (pv 5)),?_⟩
  have hw:=ok.w1
  have hw2:=ok.w2
  have hd:=ok.d1
  have hd2:=ok.d2
  have hf6:=hf.w6
  have zero:(F.wide<x+p.w∨F.deep<y+p.d)→Q (.int 0) H:=fun z=>by
   unfold Dp.shape at kk
   rw [if_pos z] at kk
   exact kk
  refine ⟨_,rfl,_,rfl,r,Dq,dp,_,_,rfl,hr1,TP.cl,TP.nW,Zia _ _ _ _ _,_,_,rfl,rfl,_,rfl,q,D,dx,_,_,rfl,hq,TF.cl,TF.nW,ZnQ _ _ _,_,_,rfl,rfl,_,rfl,Zbn (fun h=>?_) (fun h=>?_)⟩
  ·refine Zh7 ?_
   exact zero (.inl (by have:=of_decide_eq_true h; lia))
  ·have hxw:x+p.w≤F.wide:=by
    have:¬ ((F.wide:Int)<(x:Int)+(p.w:Int)):=fun z=>h (decide_eq_true z)
    lia
   refine ⟨_,rfl,_,rfl,r,Dq,dp,_,_,rfl,hr1,TP.cl,TP.nD,Zkx _ _ _ _ _,_,_,rfl,rfl,_,rfl,q,D,dx,_,_,rfl,hq,TF.cl,TF.nD,fF_d _ _ _,_,_,rfl,rfl,_,rfl,Zbn (fun h2=>?_) (fun h2=>?_)⟩
   ·exact zero (.inr (by have:=of_decide_eq_true h2; lia))
   ·have hyd:y+p.d≤F.deep:=by
     have:¬ ((F.deep:Int)<(y:Int)+(p.d:Int)):=fun z=>h2 (decide_eq_true z)
     lia
    have hsh:Dp.shape F x y p.w p.d (some c)=if (Dp.rectL F.wide x y p.w p.d).all (fun k=>Dp.col F k==some c)=true then Bm.bits (Dp.rectL F.wide x y p.w p.d) else 0:=by
     unfold Dp.shape
     rw [if_neg (by lia)]
    have hin:∀ j i,j<p.d→i<p.w→F.wide*(y+j)+(x+i)<Dp.area F:=fun j i hj hi=>by
     have:(F.wide*(y+j)+(x+i)) / F.wide<F.deep:=by
      rw [Nat.mul_add_div (by lia),Nat.div_eq_of_lt (a:=x+i) (by lia)]
      lia
     rw [Nat.div_lt_iff_lt_mul (by lia)] at this
     exact this
    refine ⟨_,rfl,_,rfl,_,rfl,r,Dq,dp,_,_,rfl,hr1,TP.cl,TP.nD,Zkx _ _ _ _ _,_,_,rfl,rfl,_,_,rfl,⟨by lia,by lia,by lia,by lia⟩,Zb5 (lo:=(y:Int)) (n:=((y:Int)+(p.d:Int)-(y:Int)).toNat)
     (fun j σ H2=>∃ v6 v7 v8:Option V,σ=[some (.ref r),some (.ref q),some (.int (x:Int)),some (.int (y:Int)),some (.int (c:Int)),some (.int ((Bm.bits (Dp.rectL F.wide x y p.w j):Nat):Int)),v6,v7,v8]∧H2=H∧∀ k∈Dp.rectL F.wide x y p.w j,Dp.col F k=some c) ⟨none,none,none,rfl,rfl,fun k hk=>(by simp [Dp.rectL] at hk)⟩ ?_ ?_⟩
    ·rintro j σ H2 hj ⟨v6,v7,v8,rfl,rfl,hall⟩
     have hj':j<p.d:=by lia
     refine ⟨_,rfl,_,rfl,_,rfl,r,Dq,dp,_,_,rfl,hr1,TP.cl,TP.nW,Zia _ _ _ _ _,_,_,rfl,rfl,_,_,rfl,⟨by lia,by lia,by lia,by lia⟩,Zb5 (lo:=(x:Int)) (n:=((x:Int)+(p.w:Int)-(x:Int)).toNat)
      (fun i σ H3=>∃ v7 v8:Option V,σ=[some (.ref r),some (.ref q),some (.int (x:Int)),some (.int (y:Int)),some (.int (c:Int)),some (.int ((Bm.bits (ZcH F.wide x y p.w j i):Nat):Int)),some (.int ((y:Int)+(j:Int))),v7,v8]∧H3=H2∧∀ k∈ZcH F.wide x y p.w j i,Dp.col F k=some c) ⟨v7,v8,(by rw [Zfc]; rfl),rfl,(by rw [Zfc]; exact hall)⟩ ?_ ?_⟩
     ·rintro i σ H3 hi ⟨v7,v8,rfl,rfl,hall2⟩
      have hi':i<p.w:=by lia
      have hpl2:(F.wide:Int)*((y:Int)+(j:Int))+((x:Int)+(i:Int))=((F.wide*(y+j)+(x+i):Nat):Int):=by
       rw [Int.natCast_add,Int.natCast_mul,Int.natCast_add,Int.natCast_add]
      refine ⟨_,rfl,q,D,dx,_,_,rfl,hq,TF.cl,TF.nW,ZnQ _ _ _,_,rfl,_,_,rfl,rfl,.inl ⟨by lia,by lia⟩,_,rfl,_,_,rfl,rfl,?_⟩
      refine ⟨_,rfl,_,rfl,q,F,F.wide*(y+j)+(x+i),(by show [V.ref q,V.int ((F.wide:Int)*((y:Int)+(j:Int))+((x:Int)+(i:Int)))]=_; rw [hpl2]),hF,hin j i hj' hi',?_⟩
      have hmem:F.wide*(y+j)+(x+i)∈Dp.rectL F.wide x y p.w p.d:=Zkg hj' hi'
      have hno:Dp.col F (F.wide*(y+j)+(x+i))≠some c→Q (.int 0) H3:=fun z=>by
       rw [hsh,if_neg (fun ha=>z (by simpa using List.all_eq_true.mp ha _ hmem))] at kk
       exact kk
      have hyes:Dp.col F (F.wide*(y+j)+(x+i))=some c→∀ (v7:Option V),∃ v7' v8:Option V,[some (V.ref r),some (V.ref q),some (V.int (x:Int)),some (V.int (y:Int)),some (V.int (c:Int)),some (V.int (((Bm.bits (ZcH F.wide x y p.w j i):Nat):Int)+1*2^((F.wide:Int)*((y:Int)+(j:Int))+((x:Int)+(i:Int))).toNat)),some (V.int ((y:Int)+(j:Int))),v7,some (V.int ((F.wide:Int)*((y:Int)+(j:Int))+((x:Int)+(i:Int))))] =
        [some (V.ref r),some (V.ref q),some (V.int (x:Int)),some (V.int (y:Int)),some (V.int (c:Int)),some (V.int ((Bm.bits (ZcH F.wide x y p.w j (i+1)):Nat):Int)),some (V.int ((y:Int)+(j:Int))),v7',v8]∧H3=H3∧∀ k∈ZcH F.wide x y p.w j (i+1),Dp.col F k=some c:=fun z v7=>by
       refine ⟨v7,some (V.int ((F.wide:Int)*((y:Int)+(j:Int))+((x:Int)+(i:Int)))),?_,rfl,fun k hk=>?_⟩
       ·have eb:((Bm.bits (ZcH F.wide x y p.w j i)+2^(F.wide*(y+j)+(x+i)):Nat):Int)=((Bm.bits (ZcH F.wide x y p.w j i):Nat):Int)+2^(F.wide*(y+j)+(x+i)):=by
         rw [Int.natCast_add (Bm.bits (ZcH F.wide x y p.w j i)),Int.natCast_pow]
         rfl
        rw [hpl2,Int.toNat_natCast,Int.one_mul,Zfb,ZgA,eb]
       ·rw [Zfb] at hk
        rcases List.mem_append.mp hk with g | g
        ·exact hall2 k g
        ·rw [List.mem_singleton.mp g]
         exact z
      cases hcol:Dp.col F (F.wide*(y+j)+(x+i)) with
      | none=>
       refine ⟨_,rfl,rfl,_,rfl,Zh7 ?_⟩
       exact hno (by rw [hcol]; simp)
      | some c'=>
       refine ⟨_,rfl,rfl,_,rfl,Zbn (fun h=>?_) (fun h=>?_)⟩
       ·exact hno (by
         rw [hcol]
         intro z
         injection z with z
         have h:(!decide (V.int (c':Int)=V.int (c:Int)))=true:=h
         rw [z] at h
         simp at h)
       ·have hcc:c'=c:=by
         have h:¬ (!decide (V.int (c':Int)=V.int (c:Int)))=true:=h
         have:(c':Int)=(c:Int):=by simpa using h
         lia
        rw [hcc] at hcol
        refine ⟨_,rfl,_,rfl,_,_,rfl,rfl,⟨by rw [hpl2]; lia,by rw [hpl2]; have:=hin j i hj' hi'; have:=Zdt hf; lia,by decide⟩,_,_,rfl,rfl,?_⟩
        exact hyes hcol _
     ·rintro σ H3 ⟨v7,v8,rfl,rfl,hall2⟩
      have ew:((x:Int)+(p.w:Int)-(x:Int)).toNat=p.w:=by lia
      rw [ew] at hall2 ⊢
      rw [Zkf] at hall2 ⊢
      exact ⟨_,_,_,rfl,rfl,hall2⟩
    ·rintro σ H2 ⟨v6,v7,v8,rfl,rfl,hall⟩
     have ed:((y:Int)+(p.d:Int)-(y:Int)).toNat=p.d:=by lia
     rw [ed] at hall ⊢
     refine ⟨_,rfl,?_⟩
     rw [hsh,if_pos (List.all_eq_true.mpr fun k hk=>by rw [hall k hk]; simp)] at kk
     exact kk
end
end Pr
namespace Pr
open PySem PySem.Spec PyProof.Rows L2 Pc Ly
set_option maxHeartbeats 4000000
set_option maxRecDepth 100000
abbrev Zce:Stmt:=(top 53)
def ZhV (Dq D:Addr):Sp:=fun vs H Q _=>∃ (l lp q:Addr) (qs:List Addr) (ps:List PartM) (pl:List Nat) (F:Br.Field) (k:Nat),vs=[.ref l,.ref lp,.ref q,.int k]∧CatAt Dq H l qs ps∧H lp=some (.lst (Zan pl))∧(∀ n∈pl,n<ps.length)∧pl.length≤64∧FieldAt D H q F∧k<Dp.area F ∧
 ∀ (a:Addr) (H':Hp),Same H H'→H a=none→PairsAt H' a (Dp.shapesAt (szs ps pl) F k)→Q (.ref a) H'
section
variable {P:Program} {w:World} {K:PySem.W.Frag} {mg:Str→Option Value} {base:Heap}
theorem scShapes:FnScope ["parts","plates","field","place","colour","x","y","shapes","plate","pair"] ["parts","plates","field","place"] (Zad Zce):=⟨rfl,rfl,rfl,by decide +kernel,rfl,by decide +kernel,by decide +kernel⟩
theorem Zkh {f Dq D fA fS:Addr} {fd fdA fdS:FuncData} (F:Fun K "shapes_at" "shapes_at" Zce f fd) (TF:TxtF K mg D) (GA:FnOk P w K mg base CX0 1 fA fdA ["field","place"] (Zeq D)) (bA:Def K mg "colour_at" fA fdA ["field","place"])
  (GS:FnOk P w K mg base CX0 2 fS fdS ["part","field","x","y","colour"] (Zke Dq D)) (bS:Def K mg "shape_of" fS fdS ["part","field","x","y","colour"]):FnOk P w K mg base CX0 3 f fd ["parts","plates","field","place"] (ZhV Dq D):=by
 refine F.ok scShapes (fun vs H Q E h=>?_) (fun cdv A outer s H vs Q E hr h=>?_)
 ·obtain ⟨l,lp,q,qs,ps,pl,F,k,rfl,_⟩:=h
  rfl
 ·obtain ⟨l,lp,q,qs,ps,pl,F,k,rfl,hc,hlp,hpl,hp64,hF,hk,kk⟩:=h
  obtain ⟨dx,fl,bs,hq,hl,hf,hplc,he⟩:=id hF
  refine ⟨_,Zab (Zat (i:=4) scShapes.nd rfl (Or.inr rfl) (Zak GA (hr.mono (by decide)) rfl bA.mg bA.kp bA.bd .nil Zar (Zaa (pv 2) (Zaa (pv 3) Zae)))) <|
   Zab (Za6 (Zaz Zny (pv 4) ZcL (ZaE _)) (Zaf (Zav (ZbA Zae))) ZaA) <|
   Zab (Zat (i:=5) scShapes.nd rfl (Or.inr rfl) (ZaG Zhm (pv 3) (Zam (pv 2) rfl))) <|
   Zab (Zat (i:=6) scShapes.nd rfl (Or.inr rfl) (ZaG Zfm (pv 3) (Zam (pv 2) rfl))) <|
   Zab (ZcR (i:=7) rfl scShapes.nd rfl rfl (ZdV rfl rfl rfl rfl) (Zbc (pv 1)) (Za4 (N:=["parts","plates","field","place","colour","x","y","shapes","plate","pair"]) (sc:=Zad Zce) (own:=[("plate",8)]) (by decide +kernel)) (fun s H Cc cl fp=>ZaS (i:=8) scShapes.nd rfl (Or.inl rfl)) (fun s H Cc cl fp=>Zb7)
    (fun s H Cc cl fp=>ZeD (Zaa (pv 8) (Zaa (Zak GS hr rfl bS.mg bS.kp bS.bd .nil Zar (Zaa (ZbB (Zlw (K:=K) rfl) (pv 0) (pv 8) (fun _ _=>rfl)) (Zaa (pv 2) (Zaa (pv 5) (Zaa (pv 6) (Zaa (pv 4) Zae)))))) Zae)))) <|
   Zaf (Zav (ZfW rfl scShapes.nd (Zbc (pv 7)) (Za4 (N:=["parts","plates","field","place","colour","x","y","shapes","plate","pair"]) (sc:=Zad Zce) (own:=[("pair",9)]) (by decide +kernel)) (fun s H Cc cl fp=>ZaS (i:=9) scShapes.nd rfl (Or.inl rfl))
    (fun s H Cc cl fp=>ZdU (Zaz Zc9 (ZbB (Zj9 (K:=K) rfl) (pv 9) Zau (fun _ _=>rfl)) Zau (ZaE _))) (fun s H Cc cl fp=>pv 9))),?_⟩
  refine ⟨_,rfl,_,rfl,q,F,k,rfl,hF,hk,?_⟩
  cases hcol:Dp.col F k with
  | none=>
   refine ⟨_,rfl,rfl,_,rfl,Zh7 ⟨Nat.zero_le _,fun a ha=>kk a _ (Zai ha) ha ⟨[],Zac,?_⟩⟩⟩
   have e:Dp.shapesAt (szs ps pl) F k=[]:=by
    unfold Dp.shapesAt
    rw [if_pos (by rw [hcol]; rfl)]
   rw [e]
   exact .nil
  | some c=>
   have hW:=hf.w1
   have hW6:=hf.w6
   have h72:=Zdt hf
   refine ⟨_,rfl,rfl,_,rfl,Zjg ?_⟩
   refine ⟨_,rfl,_,rfl,q,D,dx,_,_,rfl,hq,TF.cl,TF.nW,ZnQ _ _ _,_,_,rfl,rfl,(by show (0:Int)<F.wide; lia),?_⟩
   refine ⟨_,rfl,_,rfl,q,D,dx,_,_,rfl,hq,TF.cl,TF.nW,ZnQ _ _ _,_,_,rfl,rfl,⟨by show (0:Int)<F.wide; lia,by show (F.wide:Int)<1073741824; lia⟩,?_⟩
   have hil:(Zan pl).length=pl.length:=by unfold Zan; rw [List.length_map]
   refine ⟨_,rfl,lp,rfl,⟨_,SqL.of hlp⟩,fun D2 hD2=>Zbo (K:=K) (a:=lp) (xs:=Zan pl) (fun _=>true) (fun H i y=>∃ t,y=V.ref t∧H t=some (.tup [V.int (((ZgG ps pl F k c).getD i (0,0)).1:Int),V.int (((ZgG ps pl F k c).getD i (0,0)).2:Int)])) hD2 (SqL.of hlp) (Zev (m:=64) (by rw [hil]; exact hp64) (by decide)) ?_ ?_ ?_⟩
   ·rintro Ha Hb i y ⟨ys,hys⟩ hK ⟨t,rfl,ht⟩
    exact ⟨t,rfl,hK _ _ ht (ZaF ht hys (by intro z; cases z))⟩
   ·rintro i x H' Y N hx hS _ hY _
    obtain ⟨n,hn,rfl⟩:=getElem?_intsN hx
    have hnp:=hpl n (List.mem_of_getElem? hn)
    have hc':=hc.same hS
    have hlenq:=hc.len
    have hgq:(qs.map V.ref)[n]? = some (V.ref (qs.getD n 0)):=by
     rw [List.getElem?_map,List.getD_eq_getElem?_getD,List.getElem?_eq_getElem (by lia)]
     rfl
    obtain ⟨q1,e1,_,_,hp,ok,_⟩:=hc'.at_ hgq
    injection e1 with e1
    have eg:(ZgG ps pl F k c).getD i (0,0)=(n,Dp.shape F (k%F.wide) (k / F.wide) (ps.getD n Zaj).w (ps.getD n Zaj).d (some c)):=by
     unfold ZgG szs
     rw [List.getD_eq_getElem?_getD,List.getElem?_map,List.getElem?_map,hn]
     rfl
    refine ⟨rfl,_,rfl,_,rfl,_,rfl,l,_,_,_,rfl,rfl,SqL.of hc'.lst,Za7 hgq,_,rfl,_,rfl,_,rfl,_,rfl,qs.getD n 0,q,ps.getD n Zaj,F,k%F.wide,k / F.wide,c,?_,by rw [e1]; exact hp,ok,hF.same hS,?_,?_,(by show 2≤sizeLine; decide),fun t ht=>hY rfl _ _ (Zai ht) ⟨t,rfl,?_⟩⟩
    ·rw [Int.natCast_emod,Int.natCast_ediv]
     rfl
    ·have:=Nat.mod_lt k (show 0<F.wide by lia)
     lia
    ·have:=Nat.div_le_self k F.wide
     lia
    ·rw [Zac,eg]
   intro H2 ys hS2 hys hpr
   rw [ZcY,hil,← ZhR ps pl F k c] at hpr
   obtain ⟨ts,rfl,hts⟩:=ZbD hpr
   have hL:Paired (fun t q=>H2 t=some (.tup [V.int ((q:Nat×Nat).1:Int),V.int (q.2:Int)])) ts (ZgG ps pl F k c):=by
    have:=ZbY (R':=fun (t:Addr) (q:Nat×Nat)=>H2 t=some (.tup [V.int (q.1:Int),V.int (q.2:Int)])) (f:=fun i=>(ZgG ps pl F k c).getD i (0,0)) (fun a b h=>h) hts
    rw [Zcl (fun x=>x) (0,0) (ZgG ps pl F k c),List.map_id'] at this
    exact this
   have hlt:ts.length=(ZgG ps pl F k c).length:=Paired.length hL
   have hl64:ts.length≤64:=by rw [hlt,ZhR]; exact hp64
   refine ⟨_,rfl,D2,rfl,⟨_,SqL.of hys⟩,fun D3 hD3=>Zbo (K:=K) (a:=D2) (xs:=ts.map V.ref) (fun i=>decide (0<((ZgG ps pl F k c).getD i (0,0)).2)) (fun _ i y=>y=V.ref (ts.getD i 0)) hD3 (SqL.of hys) (Zev (m:=64) (by rw [List.length_map]; exact hl64) (by decide)) (fun _ _ _ _ _ _ z=>z) ?_ ?_⟩
   ·rintro i x H' Y N hx hS _ hY hN
    have hi:i<ts.length:=by
     have:=(List.getElem?_eq_some_iff.mp hx).1
     rw [List.length_map] at this
     exact this
    have ex:x=V.ref (ts.getD i 0):=by
     rw [List.getElem?_map,List.getElem?_eq_getElem hi] at hx
     have hx:V.ref ts[i]=x:=Option.some.inj hx
     rw [← hx,List.getD_eq_getElem?_getD,List.getElem?_eq_getElem hi]
     rfl
    subst ex
    have ht:=hS _ _ (ZbG (a0:=0) (b0:=(0,0)) hL (show i<(ZgG ps pl F k c).length by lia))
    refine ⟨rfl,_,rfl,ts.getD i 0,_,_,_,rfl,rfl,SqT.of ht,(show atI _ (((1:Nat):Int))=_ from Za7 (by rfl)),_,_,rfl,rfl,_,rfl,Zbn (fun h=>?_) (fun h=>?_)⟩
    ·have h':0<((ZgG ps pl F k c).getD i (0,0)).2:=by
      have:=of_decide_eq_true h
      lia
     exact ⟨_,rfl,hY (decide_eq_true h') _ _ (Same.refl _) rfl⟩
    ·have h':¬ 0<((ZgG ps pl F k c).getD i (0,0)).2:=fun z=>h (decide_eq_true (by lia))
     exact hN (decide_eq_false h') _ (Same.refl _)
   intro H3 ys3 hS3 hys3 hpr3
   rw [List.length_map,hlt] at hpr3
   rw [Zbv hpr3] at hys3
   refine kk D3 H3 (hS2.trans hS3) (hS2.free hD3) ?_
   rw [Zhf hcol]
   exact Ze5 _ (ZaD (fun _ _ z=>hS3 _ _ z) hL) hys3
end
end Pr
namespace Pr
open PySem PySem.Spec PyProof.Rows L2 Pc Ly
set_option maxHeartbeats 4000000
set_option maxRecDepth 100000
abbrev Zer:Stmt:=(Zbh (top 50) 0)
structure TxtY (K:PySem.W.Frag) (mg:Str→Option Value) (C:Addr):Prop where
 cl:Cls K C
 nF:NoAttr K C "field"
 nP:NoAttr K C "parts"
 nL:NoAttr K C "plates"
 nC:NoAttr K C "coloured"
 nS:NoAttr K C "shapes"
 mgC:mg "Laying"=some (.ref C)
structure LayAt (Y Dq D:Addr) (H:Hp) (y:Addr) (ps:List PartM) (F:Br.Field) (dx q l lp ls:Addr) (qs ts:List Addr):Prop where
 obj:H y=some (.ins Y dx (yF (.ref q) (.ref l) (.ref lp) (.int (Dp.coloured F:Int)) (.ref ls)))
 fld:FieldAt D H q F
 cat:CatAt Dq H l qs ps
 pls:H lp=some (.lst (Zan (ZaX ps)))
 shs:H ls=some (.lst (ts.map V.ref))
 each:Paired (fun t i=>PairsAt H t (Dp.shapesAt (szs ps (ZaX ps)) F i)) ts (List.range (Dp.area F))
theorem LayAt.same {Y Dq D:Addr} {H H':Hp} {y:Addr} {ps:List PartM} {F:Br.Field} {dx q l lp ls:Addr} {qs ts:List Addr} (h:LayAt Y Dq D H y ps F dx q l lp ls qs ts) (s:Same H H'):LayAt Y Dq D H' y ps F dx q l lp ls qs ts:=
 ⟨s _ _ h.obj,h.fld.same s,h.cat.same s,s _ _ h.pls,s _ _ h.shs,ZaD (fun _ _ z=>z.same s) h.each⟩
def Zki (Y Dq D:Addr):Sp:=fun vs H Q _=>∃ (y dx l q:Addr) (qs:List Addr) (ps:List PartM) (F:Br.Field),vs=[.ref y,.ref l,.ref q]∧H y=some (.ins Y dx [])∧CatAt Dq H l qs ps∧FieldAt D H q F∧q≠y ∧
 ∀ (lp ls:Addr) (ts:List Addr) H',LayAt Y Dq D H' y ps F dx q l lp ls qs ts→Keep y H H'→Q .non H'
theorem Zdu (ps:List PartM):∀ n∈ZaX ps,n<ps.length:=fun n hn=>List.mem_range.mp (List.mem_filter.mp hn).1
theorem ZcI {ps:List PartM} (h:ps.length≤64):(ZaX ps).length≤64:=Nat.le_trans (List.length_filter_le _ _) (by rw [List.length_range]; exact h)
theorem PairsAt.keepL {H H':Hp} {D t:Addr} {L:List (Nat×Nat)} {ys:List V} (h:PairsAt H t L) (hD:H D=some (.lst ys)) (hne:t≠D) (k:Keep D H H'):PairsAt H' t L:=by
 obtain ⟨ts,h1,h2⟩:=h
 exact ⟨ts,k _ _ h1 hne,ZaD (fun a q z=>k _ _ z (ZaF z hD (by intro z; cases z))) h2⟩
theorem PairsAt.put {H:Hp} {y Y dx t:Addr} {fs:List (Str×V)} {o:HO} {L:List (Nat×Nat)} (h:PairsAt H t L) (hy:H y=some (.ins Y dx fs)):PairsAt (upd H y o) t L:=by
 obtain ⟨ts,h1,h2⟩:=h
 exact ⟨ts,by rw [Zag (ZaF h1 hy (by intro z; cases z))]; exact h1,ZaD (fun a q z=>by rw [Zag (ZaF z hy (by intro z; cases z))]; exact z) h2⟩
section
variable {P:Program} {w:World} {K:PySem.W.Frag} {mg:Str→Option Value} {base:Heap}
theorem scYInit:FnScope ["self","parts","field","place"] ["self","parts","field"] (Zad Zer):=⟨rfl,rfl,rfl,by decide +kernel,rfl,by decide +kernel,by decide +kernel⟩
theorem CatAt.put {D:Addr} {H:Hp} {l:Addr} {qs:List Addr} {ps:List PartM} {Y y dx:Addr} {fs:List (Str×V)} {o:HO} (h:CatAt D H l qs ps) (hy:H y=some (.ins Y dx fs)) (hfs:fs.length<5):CatAt D (upd H y o) l qs ps:=by
 refine ⟨by rw [Zag (ZaF h.lst hy (by intro z; cases z))]; exact h.lst,?_,h.ok,h.few⟩
 refine ZaD (fun q p z=>?_) h.each
 obtain ⟨dp,l1,l2,h1,h2,h3⟩:=z
 refine ⟨dp,l1,l2,?_,?_,?_⟩
 ·rw [Zag (ZaF h1 hy ?_)]
  ·exact h1
  ·intro z
   injection z with _ _ z
   rw [← z] at hfs
   exact absurd hfs (by unfold pF; simp)
 ·rw [Zag (ZaF h2 hy (by intro z; cases z))]; exact h2
 ·rw [Zag (ZaF h3 hy (by intro z; cases z))]; exact h3
theorem FieldAt.put {D:Addr} {H:Hp} {q y Y dx:Addr} {F:Br.Field} {fs:List (Str×V)} {o:HO} (h:FieldAt D H q F) (hy:H y=some (.ins Y dx fs)) (hne:q≠y):FieldAt D (upd H y o) q F:=by
 obtain ⟨df,l,bs,h1,h2,h3⟩:=h
 exact ⟨df,l,bs,by rw [Zag hne]; exact h1,by rw [Zag (ZaF h2 hy (by intro z; cases z))]; exact h2,h3⟩
theorem ZlE {f C Y Dq D fP fS fC:Addr} {fd fdP fdS fdC:FuncData} (F:Fun K "__init__" "Laying.__init__" Zer f fd) (T:TxtR K mg C) (TY:TxtY K mg Y) (TF:TxtF K mg D) (GP:FnOk P w K mg base CX0 2 fP fdP ["parts"] (ZhG Dq)) (bP:Def K mg "plate_numbers" fP fdP ["parts"])
  (GC:FnOk P w K mg base CX0 2 fC fdC ["field"] (Zma D)) (bC:Def K mg "coloured_set" fC fdC ["field"]) (GS:FnOk P w K mg base CX0 3 fS fdS ["parts","plates","field","place"] (ZhV Dq D)) (bS:Def K mg "shapes_at" fS fdS ["parts","plates","field","place"]):
  FnOk P w K mg base CX0 4 f fd ["self","parts","field"] (Zki Y Dq D):=by
 refine F.ok scYInit (fun vs H Q E h=>?_) (fun cdv A outer s H vs Q E hr h=>?_)
 ·obtain ⟨y,dx,l,q,qs,ps,F,rfl,_⟩:=h
  rfl
 ·obtain ⟨y,dx,l,q,qs,ps,F,rfl,hy,hc,hF,hqy,kk⟩:=h
  refine ⟨_,Zab (ZaQ (pv 0) (pv 2) rfl) <|
   Zab (ZaQ (pv 0) (pv 1) rfl) <|
   Zab (ZaQ (pv 0) (Zak GP (hr.mono (by decide)) rfl bP.mg bP.kp bP.bd .nil Zar (Zaa (pv 1) Zae)) rfl) <|
   Zab (ZaQ (pv 0) (Zak GC (hr.mono (by decide)) rfl bC.mg bC.kp bC.bd .nil Zar (Zaa (pv 2) Zae)) rfl) <|
   Zaf (ZaQ (pv 0) (ZfW rfl scYInit.nd (ZcM rfl T.range (Zaa (ZaH ZaC (by rfl) T.len PySem.boot_len (Zaa (Zam (pv 2) rfl) Zae)) Zae)) (Za4 (N:=["self","parts","field","place"]) (sc:=Zad Zer) (own:=[("place",3)]) (by decide +kernel)) (fun s H Cc cl fp=>ZaS (i:=3) scYInit.nd rfl (Or.inl rfl)) (fun s H Cc cl fp=>Zb7)
    (fun s H Cc cl fp=>Zak GS hr rfl bS.mg bS.kp bS.bd .nil Zar (Zaa (pv 1) (Zaa (Zm7 (K:=K) rfl (pv 0) rfl) (Zaa (pv 2) (Zaa (pv 3) Zae)))))) rfl),?_⟩
  have h72:=Zdt hF.ok
  refine ⟨_,rfl,_,rfl,y,Y,dx,[],rfl,hy,TY.cl,TY.nF,(by show 0<1000; decide),?_⟩
  have hc1:=hc.put (o:=.ins Y dx (ZaR "field" (.ref q) [])) hy (by show 0<5; decide)
  have hF1:=FieldAt.put (o:=.ins Y dx (ZaR "field" (.ref q) [])) hF hy hqy
  have k1:Keep y H (upd H y (.ins Y dx (ZaR "field" (.ref q) []))):=Keep.put
  have hy1:(upd H y (.ins Y dx (ZaR "field" (.ref q) []))) y=some (.ins Y dx (ZaR "field" (.ref q) [])):=Zac
  generalize upd H y (.ins Y dx (ZaR "field" (.ref q) []))=H1 at *
  refine ⟨_,rfl,_,rfl,y,Y,dx,_,rfl,hy1,TY.cl,TY.nP,(by show 1<1000; decide),?_⟩
  have hc2:=hc1.put (o:=.ins Y dx (ZaR "parts" (.ref l) (ZaR "field" (.ref q) []))) hy1 (by show 1<5; decide)
  have hF2:=FieldAt.put (o:=.ins Y dx (ZaR "parts" (.ref l) (ZaR "field" (.ref q) []))) hF1 hy1 hqy
  have k2:=k1.trans (Keep.put (o:=.ins Y dx (ZaR "parts" (.ref l) (ZaR "field" (.ref q) []))))
  have hy2:(upd H1 y (.ins Y dx (ZaR "parts" (.ref l) (ZaR "field" (.ref q) [])))) y=some (.ins Y dx (ZaR "parts" (.ref l) (ZaR "field" (.ref q) []))):=Zac
  generalize upd H1 y (.ins Y dx (ZaR "parts" (.ref l) (ZaR "field" (.ref q) [])))=H2 at *
  refine ⟨_,rfl,l,qs,ps,rfl,hc2,fun lp H3 s3 _ hlp=>?_⟩
  have hy3:=s3 _ _ hy2
  have hl2:(ZaR "parts" (.ref l) (ZaR "field" (.ref q) ([]:List (Str×V)))).length≤2:=Nat.le_trans (Zas _ _ _) (Nat.succ_le_succ (Zas _ _ _))
  refine ⟨_,rfl,y,Y,dx,_,rfl,hy3,TY.cl,TY.nL,by lia,?_⟩
  rw [Zm5]
  have hc4:=(hc2.same s3).put (o:=.ins Y dx (yF3 (.ref q) (.ref l) (.ref lp))) hy3 (by lia)
  have hF4:=FieldAt.put (o:=.ins Y dx (yF3 (.ref q) (.ref l) (.ref lp))) (hF2.same s3) hy3 hqy
  have k4:=(k2.trans (Keep.of s3)).trans (Keep.put (o:=.ins Y dx (yF3 (.ref q) (.ref l) (.ref lp))))
  have hlp4:(upd H3 y (.ins Y dx (yF3 (.ref q) (.ref l) (.ref lp)))) lp=some (.lst (Zan (ZaX ps))):=by rw [Zag (ZaF hlp hy3 (by intro z; cases z))]; exact hlp
  have hy4:(upd H3 y (.ins Y dx (yF3 (.ref q) (.ref l) (.ref lp)))) y=some (.ins Y dx (yF3 (.ref q) (.ref l) (.ref lp))):=Zac
  generalize upd H3 y (.ins Y dx (yF3 (.ref q) (.ref l) (.ref lp)))=H4 at *
  refine ⟨_,rfl,q,F,rfl,hF4,_,rfl,y,Y,dx,_,rfl,hy4,TY.cl,TY.nC,(by show 3<1000; decide),?_⟩
  rw [Zm6]
  have hc5:=hc4.put (o:=.ins Y dx (yF4 (.ref q) (.ref l) (.ref lp) (.int (Dp.coloured F:Int)))) hy4 (by show 3<5; decide)
  have hF5:=FieldAt.put (o:=.ins Y dx (yF4 (.ref q) (.ref l) (.ref lp) (.int (Dp.coloured F:Int)))) hF4 hy4 hqy
  have k5:=k4.trans (Keep.put (o:=.ins Y dx (yF4 (.ref q) (.ref l) (.ref lp) (.int (Dp.coloured F:Int)))))
  have hlp5:(upd H4 y (.ins Y dx (yF4 (.ref q) (.ref l) (.ref lp) (.int (Dp.coloured F:Int))))) lp=some (.lst (Zan (ZaX ps))):=by rw [Zag (ZaF hlp4 hy4 (by intro z; cases z))]; exact hlp4
  have hy5:(upd H4 y (.ins Y dx (yF4 (.ref q) (.ref l) (.ref lp) (.int (Dp.coloured F:Int))))) y=some (.ins Y dx (yF4 (.ref q) (.ref l) (.ref lp) (.int (Dp.coloured F:Int)))):=Zac
  generalize upd H4 y (.ins Y dx (yF4 (.ref q) (.ref l) (.ref lp) (.int (Dp.coloured F:Int))))=H5 at *
  obtain ⟨df,fl,bs,hq,hbl,hf,hplc,hbe⟩:=id hF5
  have hlen:=Zb3 hf hplc
  refine ⟨_,rfl,q,D,df,_,_,rfl,hq,TF.cl,TF.nP,Zou _ _ _,fl,_,rfl,.inl (SqL.of hbl),(((bs.map V.int).length:Nat):Int),rfl,by lia,by rw [List.length_map]; lia,fun D2 hD2=>Zjm (n:=(bs.map V.int).length) (fun _=>true)
   (fun H i v=>∃ t,v=V.ref t∧(t≠D2∧PairsAt H t (Dp.shapesAt (szs ps (ZaX ps)) F i))) hD2 (Zev (m:=72) (by rw [List.length_map,hlen]; exact h72) (by decide)) ?_ ?_ ?_⟩
  ·rintro Ha Hb i v ⟨ys,hys⟩ hK ⟨t,rfl,hne,hP⟩
   exact ⟨t,rfl,hne,PairsAt.keepL hP hys hne hK⟩
  ·rintro i H' Yy N hi hS hys hY _
   rw [List.length_map,hlen] at hi
   rw [Int.zero_add]
   refine ⟨rfl,_,rfl,_,rfl,y,Y,dx,_,_,rfl,hS _ _ hy5,TY.cl,TY.nL,Zo8 _ _ _ _,_,rfl,_,rfl,l,lp,q,qs,ps,ZaX ps,F,i,rfl,hc5.same hS,hS _ _ hlp5,Zdu ps,ZcI hc.few,hF5.same hS,hi,fun a H6 s6 fr hP=>hY rfl _ _ s6 ⟨a,rfl,?_,hP⟩⟩
   intro z
   obtain ⟨ys,e⟩:=hys
   rw [z,e] at fr
   cases fr
  intro H6 ys hS6 hys hpr
  rw [ZcY,List.length_map,hlen] at hpr
  obtain ⟨ts,rfl,hts⟩:=ZbD hpr
  have hy6:=hS6 _ _ hy5
  refine ⟨_,rfl,y,Y,dx,_,rfl,hy6,TY.cl,TY.nS,(by show 4<1000; decide),?_⟩
  rw [Zok]
  refine kk lp D2 ts _ ⟨Zac,FieldAt.put (hF5.same hS6) hy6 hqy,(hc5.same hS6).put hy6 (by show 4<5; decide),?_,?_,?_⟩ ((k5.trans (Keep.of hS6)).trans Keep.put)
  ·rw [Zag (ZaF (hS6 _ _ hlp5) hy6 (by intro z; cases z))]; exact hS6 _ _ hlp5
  ·rw [Zag (ZaF hys hy6 (by intro z; cases z))]; exact hys
  ·exact ZaD (fun t i z=>PairsAt.put z.2 hy6) hts
end
end Pr
namespace Pr
open PySem PySem.Spec PyProof.Rows L2 Pc Ly
set_option maxHeartbeats 4000000
set_option maxRecDepth 100000
abbrev Zes:Stmt:=(top 55)
abbrev ZaL (ps:List PartM):Dp.Sizes:=szs ps (ZaX ps)
def ZfH (Y Dq D:Addr):Sp:=fun vs H Q _=>∃ (y:Addr) (B:Nat) (ps:List PartM) (F:Br.Field) (dx q l lp ls:Addr) (qs ts:List Addr),vs=[.ref y,.int B]∧LayAt Y Dq D H y ps F dx q l lp ls qs ts∧(0<B→Bm.low B<Dp.area F) ∧
 ∀ (a:Addr) (H':Hp),Same H H'→H a=none→PairsAt H' a (Dp.steps (ZaL ps) F B)→Q (.ref a) H'
theorem Zfd (zs:Dp.Sizes) (F:Br.Field) (k:Nat):(Dp.shapesAt zs F k).length≤zs.length:=by
 unfold Dp.shapesAt
 by_cases h:(Dp.col F k).isNone=true
 ·rw [if_pos h]; exact Nat.zero_le _
 ·rw [if_neg h]
  exact Nat.le_trans (List.length_filter_le _ _) (by rw [List.length_map]; exact Nat.le_refl _)
theorem Zkj (ps:List PartM) (pl:List Nat):(szs ps pl).length=pl.length:=List.length_map _
section
variable {P:Program} {w:World} {K:PySem.W.Frag} {mg:Str→Option Value} {base:Heap}
theorem scSteps:FnScope ["laying","bare","plate","shape"] ["laying","bare"] (Zad Zes):=⟨rfl,rfl,rfl,by decide +kernel,rfl,by decide +kernel,by decide +kernel⟩
theorem ZlF {f Y Dq D fL:Addr} {fd fdL:FuncData} (F:Fun K "steps" "steps" Zes f fd) (TY:TxtY K mg Y) (GL:FnOk P w K mg base CX0 1 fL fdL ["bare"] spLeast) (bL:Def K mg "least_place" fL fdL ["bare"]):
  FnOk P w K mg base CX0 2 f fd ["laying","bare"] (ZfH Y Dq D):=by
 refine F.ok scSteps (fun vs H Q E h=>?_) (fun cdv A outer s H vs Q E hr h=>?_)
 ·obtain ⟨y,B,ps,F,dx,q,l,lp,ls,qs,ts,rfl,_⟩:=h
  rfl
 ·obtain ⟨y,B,ps,F,dx,q,l,lp,ls,qs,ts,rfl,hL,hB,kk⟩:=h
  refine ⟨_,Zab (Za6 (Zaz Zew (pv 1) Zau (ZaE _)) (Zaf (Zav (ZbA Zae))) ZaA) <|
   Zaf (Zav (ZfW rfl scSteps.nd (Zbc (ZbB Zbq (Zam (pv 0) rfl) (Zak GL hr rfl bL.mg bL.kp bL.bd .nil Zar (Zaa (pv 1) Zae)) (fun _ _=>rfl))) (Za4 (N:=["laying","bare","plate","shape"]) (sc:=Zad Zes) (own:=[("plate",2),("shape",3)]) (by decide +kernel))
    (fun s H Cc cl fp=>ZcB (K:=K) (i:=2) (j:=3) rfl rfl scSteps.nd rfl rfl rfl rfl)
    (fun s H Cc cl fp=>ZdU (Zaz Zew (ZaG Znv (pv 3) (pv 1)) (pv 3) (ZaE _))) (fun s H Cc cl fp=>ZeD (Zaa (pv 2) (Zaa (ZaG Zbz (pv 1) (pv 3)) Zae))))),?_⟩
  refine ⟨_,rfl,rfl,_,rfl,Zbn (fun h=>?_) (fun h=>?_)⟩
  ·have h0:B=0:=by
    have:(B:Int)=0:=by simpa using h
    lia
   subst h0
   exact ⟨Nat.zero_le _,fun a ha=>kk a _ (Zai ha) ha ⟨[],Zac,.nil⟩⟩
  ·have h0:0<B:=by
    rcases Nat.eq_zero_or_pos B with e | e
    ·rw [e] at h
     exact absurd rfl h
    ·exact e
   have hlow:=hB h0
   have htl:ts.length=Dp.area F:=by rw [Paired.length hL.each,List.length_range]
   have hrow:(ts.map V.ref)[Bm.low B]? = some (V.ref (ts.getD (Bm.low B) 0)):=by
    rw [List.getElem?_map,List.getD_eq_getElem?_getD,List.getElem?_eq_getElem (by lia)]
    rfl
   have hPr:PairsAt H (ts.getD (Bm.low B) 0) (Dp.shapesAt (ZaL ps) F (Bm.low B)):=by
    have:=ZbG (a0:=0) (b0:=0) hL.each (i:=Bm.low B) (by rw [List.length_range]; exact hlow)
    rw [List.getD_eq_getElem?_getD (l:=List.range _),List.getElem?_range hlow] at this
    exact this
   obtain ⟨us,hu1,hu2⟩:=hPr
   generalize hLL:Dp.shapesAt (ZaL ps) F (Bm.low B)=L at hu2
   have hul:us.length=L.length:=Paired.length hu2
   have hl64:L.length≤64:=by
    rw [← hLL]
    exact Nat.le_trans (Zfd _ _ _) (by rw [Zkj]; exact ZcI hL.cat.few)
   refine ⟨_,rfl,y,Y,dx,_,_,rfl,hL.obj,TY.cl,TY.nS,yF_s _ _ _ _ _,_,rfl,B,rfl,h0,ls,_,_,_,rfl,rfl,SqL.of hL.shs,Za7 hrow,_,rfl,⟨_,SqL.of hu1⟩,fun D2 hD2=>Zbo (K:=K) (a:=ts.getD (Bm.low B) 0) (xs:=us.map V.ref) (fun i=>(L.getD i (0,0)).2&&&B==(L.getD i (0,0)).2)
    (fun H i v=>∃ t,v=V.ref t∧H t=some (.tup [V.int ((L.getD i (0,0)).1:Int),V.int ((B-(L.getD i (0,0)).2:Nat):Int)])) hD2 (SqL.of hu1) (Zev (m:=64) (by rw [List.length_map]; lia) (by decide)) ?_ ?_ ?_⟩
   ·rintro Ha Hb i v ⟨ys,hys⟩ hK ⟨t,rfl,ht⟩
    exact ⟨t,rfl,hK _ _ ht (ZaF ht hys (by intro z; cases z))⟩
   ·rintro i x H' Yy N hx hS _ hY hN
    have hi:i<us.length:=by
     have:=(List.getElem?_eq_some_iff.mp hx).1
     rw [List.length_map] at this
     exact this
    have ex:x=V.ref (us.getD i 0):=by
     rw [List.getElem?_map,List.getElem?_eq_getElem hi] at hx
     have hx:V.ref us[i]=x:=Option.some.inj hx
     rw [← hx,List.getD_eq_getElem?_getD,List.getElem?_eq_getElem hi]
     rfl
    subst ex
    have ht:=hS _ _ (ZbG (a0:=0) (b0:=(0,0)) hu2 (show i<L.length by lia))
    generalize hp:L.getD i (0,0)=p at *
    refine ⟨_,_,rfl,SqT.of ht,rfl,_,_,rfl,_,_,rfl,rfl,rfl,_,rfl,_,rfl,_,_,rfl,rfl,_,rfl,rfl,_,rfl,Zbn (fun h=>?_) (fun h=>?_)⟩
    ·have hs:p.2&&&B=p.2:=by
      have h1:=of_decide_eq_true h
      injection h1 with h1
      rw [Zl8] at h1
      lia
     have hle:=Bm.and_le hs
     refine ⟨_,rfl,_,rfl,_,rfl,_,_,rfl,rfl,(by show 2≤sizeLine; decide),fun t ht2=>hY (by simpa using hs) _ _ (Zai ht2) ⟨t,rfl,?_⟩⟩
     rw [Zac]
     have e:(B:Int)-(p.2:Int)=((B-p.2:Nat):Int):=by lia
     show some (HO.tup [V.int (p.1:Int),V.int ((B:Int)-(p.2:Int))])=_
     rw [e]
    ·have hs:¬ p.2&&&B=p.2:=fun z=>h (decide_eq_true (by show V.int (Builtin.bitAnd (p.2:Int) (B:Int))=V.int (p.2:Int); rw [Zl8,z]))
     exact hN (by simpa using hs) _ (Same.refl _)
   intro H2 ys hS2 hys hpr
   rw [List.length_map,hul] at hpr
   obtain ⟨vs,rfl,hvs⟩:=ZbD hpr
   refine kk D2 H2 hS2 hD2 ⟨vs,hys,?_⟩
   have est:Dp.steps (ZaL ps) F B=((List.range L.length).filter fun i=>(L.getD i (0,0)).2&&&B==(L.getD i (0,0)).2).map fun i=>((L.getD i (0,0)).1,B-(L.getD i (0,0)).2):=by
    unfold Dp.steps
    rw [if_neg (by lia),hLL,Zcd (0,0) (fun q:Nat×Nat=>q.2&&&B==q.2) L,List.map_map]
    rfl
   rw [est]
   exact ZbY (R':=fun (t:Addr) (q:Nat×Nat)=>H2 t=some (.tup [V.int (q.1:Int),V.int (q.2:Int)])) (f:=fun i=>((L.getD i (0,0)).1,B-(L.getD i (0,0)).2)) (fun a b h=>h) hvs
end
end Pr
namespace Pr
open PySem PySem.Spec PyProof.Rows L2 Pc Ly
set_option maxHeartbeats 4000000
set_option maxRecDepth 100000
abbrev Zco:Stmt:=(top 56)
def ZOk (ps:List PartM):Prop:=Dp.SOk (ZaL ps)
theorem zok {ps:List PartM} (h:∀ p∈ps,PartOk p):ZOk ps:=by
 intro p hp
 unfold ZaL szs at hp
 obtain ⟨n,hn,rfl⟩:=List.mem_map.mp hp
 have hlt:=Zdu ps n hn
 have hm:ps.getD n Zaj∈ps:=by
  rw [List.getD_eq_getElem?_getD,List.getElem?_eq_getElem hlt]
  exact List.getElem_mem hlt
 have ok:=h _ hm
 have hf:ZaK ps n=true:=(List.mem_filter.mp hn).2
 unfold ZaK Zcq at hf
 have h1:=(Bool.and_eq_true_iff.mp hf).1
 have h2:=(Bool.and_eq_true_iff.mp h1).2
 have h3:=(Bool.and_eq_true_iff.mp h2).2
 have h4:=of_decide_eq_true (Bool.and_eq_true_iff.mp h3).1
 exact ⟨ok.w1,ok.d1,h4⟩
def ZgB (Y Dq D:Addr):Sp:=fun vs H Q _=>∃ (y:Addr) (ps:List PartM) (F:Br.Field) (dx q l lp ls:Addr) (qs ts:List Addr),vs=[.ref y]∧LayAt Y Dq D H y ps F dx q l lp ls qs ts ∧
 ∀ (a:Addr) (R:List Nat) (H':Hp),Same H H'→H a=none→H' a=some (.lst (Zan R))→Dp.Reached (ZaL ps) F R→Q (.ref a) H'
section
variable {P:Program} {w:World} {K:PySem.W.Frag} {mg:Str→Option Value} {base:Heap}
theorem scReached:FnScope ["laying","reached","waiting","bare","plate","after"] ["laying"] (Zad Zco):=⟨rfl,rfl,rfl,by decide +kernel,rfl,by decide +kernel,by decide +kernel⟩
theorem ZpT {n m:Nat} (h:n≤m) (h2:m≤1140625):n<sizeLine:=by rw [sizeLine_eq]; lia
theorem ZiB {f C Y Dq D fS:Addr} {fd fdS:FuncData} (F:Fun K "reached_sets" "reached_sets" Zco f fd) (T:TxtR K mg C) (TY:TxtY K mg Y) (hsorted:mg "sorted"=none) (GS:FnOk P w K mg base CX0 2 fS fdS ["laying","bare"] (ZfH Y Dq D)) (bS:Def K mg "steps" fS fdS ["laying","bare"]):
  FnOk P w K mg base CX0 3 f fd ["laying"] (ZgB Y Dq D):=by
 refine F.ok scReached (fun vs H Q E h=>?_) (fun cdv A outer s H vs Q E hr h=>?_)
 ·obtain ⟨y,ps,F,dx,q,l,lp,ls,qs,ts,rfl,_⟩:=h
  rfl
 ·obtain ⟨y,ps,F,dx,q,l,lp,ls,qs,ts,rfl,hL,kk⟩:=h
  have hu:=ZgV hr
  refine ⟨_,Zab (Zat (i:=1) scReached.nd rfl (Or.inl rfl) (Zi9 (Zhs (Zam (pv 0) rfl) ZcK Zi8) rfl rfl (by simp) (by decide))) <|
   Zab (Zat (i:=2) scReached.nd rfl (Or.inl rfl) (ZbA (Zaa (Zam (pv 0) rfl) Zae))) <|
   Zab (Zcg PassesOwn.never (Zaz Zc9 (ZaH ZaC (by rfl) T.len PySem.boot_len (Zaa (pv 2) Zae)) Zau (ZaE _))
    (Zab (Zat (i:=3) scReached.nd rfl (Or.inl rfl) (Zi0 PySem.F.plainAttrs_list PySem.F.slot_list_pop PySem.F.type_list_pop ZlS (pv 2)))
    (Zaf (ZbO PassesOwn.never rfl (Zbc (Zak GS hr rfl bS.mg bS.kp bS.bd .nil Zar (Zaa (pv 0) (Zaa (pv 3) Zae)))) (ZcB (K:=K) (i:=4) (j:=5) rfl rfl scReached.nd rfl rfl rfl rfl)
     (Zaf (Za6 (ZfK (ZdX hu (pv 5) (pv 1))) (Zab (ZgU hu (pv 1) (pv 5) ZcK rfl) (Zaf (ZaB (Zcv PySem.F.plainAttrs_list PySem.F.slot_list_append PySem.F.type_list_append ZaW (pv 2) (Zaa (pv 5) Zae))))) ZaA)))))) <|
   Zaf (Zav (ZaH (SortD.cr_sortedD rfl) (by rfl) hsorted (by decide +kernel) (Zaa (pv 1) Zae))),?_⟩
  have hz:ZOk ps:=zok hL.cat.ok
  have hf:=hL.fld.ok
  have hbd:=Dp.bound_le hf
  refine fun ld hld=>?_
  have s1:Same H (upd H ld (.dK [])):=Zai hld
  refine ⟨_,rfl,y,Y,dx,_,_,rfl,s1 _ _ hL.obj,TY.cl,TY.nC,Zow _ _ _ _ _,Zac,[((Sum.inl ((Dp.coloured F:Nat):Int):Key),V.bl true)],rfl,(by show 1≤15; decide),?_⟩
  rw [Zfk]
  have e0:ZbJ [] [((Sum.inl ((Dp.coloured F:Nat):Int):Key),V.bl true)]=dOf gT [Dp.coloured F]:=rfl
  rw [e0]
  have s2:Same H (upd H ld (.dK (dOf gT [Dp.coloured F]))):=Zai hld
  refine ⟨_,rfl,y,Y,dx,_,_,rfl,s2 _ _ hL.obj,TY.cl,TY.nC,Zow _ _ _ _ _,(by show 1≤sizeLine; decide),fun lw hlw=>?_⟩
  have sA:Same H (upd (upd H ld (.dK (dOf gT [Dp.coloured F]))) lw (.lst [V.int ((Dp.coloured F:Nat):Int)])):=s2.trans (Zai hlw)
  have flw:H lw=none:=s2.free hlw
  have nld:ld≠lw:=Zao Zac hlw
  have hA1:(upd (upd H ld (.dK (dOf gT [Dp.coloured F]))) lw (.lst [V.int ((Dp.coloured F:Nat):Int)])) ld=some (.dK (dOf gT [Dp.coloured F])):=by rw [Zag nld]; exact Zac
  have hA2:(upd (upd H ld (.dK (dOf gT [Dp.coloured F]))) lw (.lst [V.int ((Dp.coloured F:Nat):Int)])) lw=some (.lst (Zan [Dp.coloured F])):=Zac
  generalize upd (upd H ld (.dK (dOf gT [Dp.coloured F]))) lw (.lst [V.int ((Dp.coloured F:Nat):Int)])=H3 at *
  have hR0:Dp.Rs (ZaL ps) F [Dp.coloured F] [Dp.coloured F]:=⟨by simp,List.mem_singleton_self _,fun B hB=>by rw [List.mem_singleton.mp hB]; exact Dp.im_start hf,fun B hB=>hB⟩
  have hC0:Dp.Cl (ZaL ps) F [Dp.coloured F] [Dp.coloured F] []:=fun B hB hw=>absurd hB hw
  have hfew:∀ {R W:List Nat},Dp.Rs (ZaL ps) F R W→R.length≤Dp.bound F:=fun h=>Dp.im_few h.nd h.im
  refine ZbP (fun σ H4=>∃ (v3 v4 v5:Option V) (R:List Nat),σ=[some (.ref y),some (.ref ld),some (.ref lw),v3,v4,v5]∧Same H H4∧H4 ld=some (.dK (dOf gT R))∧Dp.Rs (ZaL ps) F R []∧Dp.Cl (ZaL ps) F R [] []) (fun Dw hDw=>?_) ?_
  ·refine ⟨fun m σ H4=>∃ (v3 v4 v5:Option V) (R W:List Nat),σ=[some (.ref y),some (.ref ld),some (.ref lw),v3,v4,v5]∧Same H H4∧H4 ld=some (.dK (dOf gT R))∧H4 lw=some (.lst (Zan W))∧Dp.Rs (ZaL ps) F R W∧Dp.Cl (ZaL ps) F R W []∧W.length≤R.length∧m=2*(Dp.bound F-R.length)+W.length,
    ⟨_,none,none,none,[Dp.coloured F],[Dp.coloured F],rfl,sA,hA1,hA2,hR0,hC0,Nat.le_refl _,rfl⟩,?_⟩
   rintro m σ H4 ⟨v3,v4,v5,R,W,rfl,g1,g2,g3,g4,g5,g6,rfl⟩
   refine ⟨_,rfl,lw,_,rfl,.inl (SqL.of g3),_,_,rfl,rfl,_,rfl,Zbn (fun h=>?_) (fun h=>?_)⟩
   ·obtain ⟨W0,x,rfl⟩:∃ W0 x,W=W0++[x]:=by
     have hne:W≠[]:=fun z=>by
      rw [z] at h
      exact absurd (of_decide_eq_true h) (by simp [Zan])
     exact ⟨W.dropLast,W.getLast hne,(List.dropLast_concat_getLast hne).symm⟩
    have eW:Zan (W0++[x])=Zan W0++[V.int (x:Int)]:=by unfold Zan; rw [List.map_append]; rfl
    have hxR:=g4.wait x (by simp)
    have hlW:(W0++[x]).length=W0.length+1:=by rw [List.length_append]; rfl
    refine ⟨fun σ' H'=>∃ m',m'<2*(Dp.bound F-R.length)+(W0++[x]).length∧∃ (v3 v4 v5:Option V) (R W:List Nat),σ'=[some (.ref y),some (.ref ld),some (.ref lw),v3,v4,v5]∧Same H H'∧H' ld=some (.dK (dOf gT R))∧H' lw=some (.lst (Zan W))∧Dp.Rs (ZaL ps) F R W∧Dp.Cl (ZaL ps) F R W []∧W.length≤R.length∧m'=2*(Dp.bound F-R.length)+W.length,fun _ _ z=>z,?_⟩
    refine ⟨_,rfl,.inl ⟨rfl,_,SqL.of g3⟩,lw,_,V.int (x:Int),rfl,rfl,g3,?_,?_⟩
    ·rw [eW,List.length_append]
     show (Zan W0++[V.int (x:Int)])[(Zan W0).length+1-1]? = _
     rw [Nat.add_sub_cancel,List.getElem?_append_right (Nat.le_refl _),Nat.sub_self]
     rfl
    have ed:(Zan (W0++[x])).dropLast=Zan W0:=by rw [eW,List.dropLast_concat]
    rw [ed]
    have g1':Same H (upd H4 lw (.lst (Zan W0))):=ZaO g1 flw
    have nld2:ld≠lw:=ZaF g2 g3 (by intro z; cases z)
    have g2':(upd H4 lw (.lst (Zan W0))) ld=some (.dK (dOf gT R)):=by rw [Zag nld2]; exact g2
    have g3':(upd H4 lw (.lst (Zan W0))) lw=some (.lst (Zan W0)):=Zac
    generalize upd H4 lw (.lst (Zan W0))=H5 at *
    refine ⟨_,rfl,_,rfl,y,x,ps,F,dx,q,l,lp,ls,qs,ts,rfl,hL.same g1',fun hx0=>Dp.im_low (g4.im x hxR) hx0,fun ln H6 sN fN hN=>?_⟩
    obtain ⟨us,hu1,hu2⟩:=hN
    have hul:us.length=(Dp.steps (ZaL ps) F x).length:=Paired.length hu2
    refine ⟨ln,rfl,⟨_,SqL.of hu1⟩,ZcN (K:=K) (a:=ln) (xs:=us.map V.ref)
     (fun i σ H7=>∃ (v4 v5:Option V) (R' W':List Nat),σ=[some (.ref y),some (.ref ld),some (.ref lw),some (.int (x:Int)),v4,v5]∧Same H H7∧H7 ln=some (.lst (us.map V.ref))∧Paired (fun t q=>H7 t=some (.tup [V.int (q.1:Int),V.int (q.2:Int)])) us (Dp.steps (ZaL ps) F x)∧H7 ld=some (.dK (dOf gT R'))∧H7 lw=some (.lst (Zan W')) ∧
      Dp.Rs (ZaL ps) F R' W'∧Dp.Cl (ZaL ps) F R' W' [x]∧x∈R'∧(∀ j,j<i→∀ q,(Dp.steps (ZaL ps) F x)[j]? = some q→q.2∈R')∧W'.length≤R'.length∧2*(Dp.bound F-R'.length)+W'.length≤2*(Dp.bound F-R.length)+W0.length) ?_ ?_ ?_ ?_⟩
    ·refine ⟨_,_,R,W0,rfl,g1'.trans sN,hu1,hu2,sN _ _ g2',sN _ _ g3',⟨g4.nd,g4.start,g4.im,fun z hz=>g4.wait z (List.mem_append_left _ hz)⟩,fun z hz hw ha=>g5 z hz (fun zz=>?_) (by simp),hxR,fun j hj=>absurd hj (Nat.not_lt_zero _),by lia,Nat.le_refl _⟩
     rcases List.mem_append.mp zz with e | e
     ·exact hw e
     ·exact ha e
    ·rintro i σ H7 _ ⟨v4,v5,R',W',_,_,z,_⟩
     exact SqL.of z
    ·rintro i v σ H7 hi ⟨v4,v5,R',W',rfl,a1,a2,a2b,a3,a4,a5,a6,a7,a8,a8b,a9⟩
     have hi':i<us.length:=by
      have:=(List.getElem?_eq_some_iff.mp hi).1
      rw [List.length_map] at this
      exact this
     have ev:v=V.ref (us.getD i 0):=by
      rw [List.getElem?_map,List.getElem?_eq_getElem hi'] at hi
      have hi:V.ref us[i]=v:=Option.some.inj hi
      rw [← hi,List.getD_eq_getElem?_getD,List.getElem?_eq_getElem hi']
      rfl
     subst ev
     have ht:=ZbG (a0:=0) (b0:=(0,0)) a2b (show i<(Dp.steps (ZaL ps) F x).length by lia)
     have hget:(Dp.steps (ZaL ps) F x)[i]? = some ((Dp.steps (ZaL ps) F x).getD i (0,0)):=by
      rw [List.getD_eq_getElem?_getD,List.getElem?_eq_getElem (by lia)]
      rfl
     generalize hpq:(Dp.steps (ZaL ps) F x).getD i (0,0)=p at *
     have hpm:p∈Dp.steps (ZaL ps) F x:=List.mem_of_getElem? hget
     refine ⟨_,_,rfl,SqT.of ht,rfl,_,_,rfl,_,_,rfl,rfl,_,rfl,_,rfl,ld,_,rfl,DGet.k (k:=Sum.inl (p.2:Int)) a3,_,rfl,?_⟩
     rw [Zbs]
     have hrl:=hfew a5
     by_cases hin:p.2∈R'
     ·rw [if_pos hin]
      refine Zjg ?_
      refine ⟨_,_,R',W',rfl,a1,a2,a2b,a3,a4,a5,a6,a7,fun j hj q hq=>?_,a8b,a9⟩
      rcases Nat.lt_succ_iff_lt_or_eq.mp hj with zz | zz
      ·exact a8 j zz q hq
      ·rw [zz,hget] at hq
       cases hq
       exact hin
     ·rw [if_neg hin]
      refine Zh7 ?_
      refine ⟨_,rfl,_,rfl,ld,_,rfl,DPut.k (k:=Sum.inl (p.2:Int)) a3 (by rw [ZgZ]; exact ZpT hrl hbd),?_⟩
      have ep:ZdW (dOf gT R') (Sum.inl (p.2:Int):Key) (V.bl true)=dOf gT (R'++[p.2]):=Zfu gT hin
      rw [ep]
      have nlw:lw≠ld:=ZaF a4 a3 (by intro z; cases z)
      have a4':(upd H7 ld (.dK (dOf gT (R'++[p.2])))) lw=some (.lst (Zan W')):=by rw [Zag nlw]; exact a4
      have a5':=a5.add hz hf a7 hpm hin
      have hrl':=hfew a5'
      have hla:(R'++[p.2]).length=R'.length+1:=by rw [List.length_append]; rfl
      have hlb:(W'++[p.2]).length=W'.length+1:=by rw [List.length_append]; rfl
      refine ⟨_,rfl,.inl ⟨rfl,_,SqL.of a4'⟩,_,rfl,lw,_,_,rfl,rfl,a4',?_,?_⟩
      ·unfold Zan
       rw [List.length_map]
       exact ZpT (m:=Dp.bound F) (by lia) hbd
      have nln:ln≠lw:=fun z=>by
       rw [z,g3'] at fN
       cases fN
      have nlnd:ln≠ld:=ZaF a2 a3 (by intro z; cases z)
      refine ⟨_,_,R'++[p.2],W'++[p.2],rfl,ZaO (ZaO a1 hld) flw,by rw [Zag nln,Zag nlnd]; exact a2,ZaD (fun t qq zq=>?_) a2b,by rw [Zag nlw.symm]; exact Zac,?_,a5',a6.add,List.mem_append_left _ a7,fun j hj q hq=>?_,by lia,by lia⟩
      ·rw [Zag (ZaF zq a4 (by intro z; cases z)),Zag (ZaF zq a3 (by intro z; cases z))]
       exact zq
      ·rw [Zac]
       unfold Zan
       rw [List.map_append]
       rfl
      ·rcases Nat.lt_succ_iff_lt_or_eq.mp hj with zz | zz
       ·exact List.mem_append_left _ (a8 j zz q hq)
       ·rw [zz,hget] at hq
        cases hq
        exact List.mem_append_right _ (List.mem_singleton_self _)
    ·rintro σ H7 ⟨v4,v5,R',W',rfl,a1,a2,a2b,a3,a4,a5,a6,a7,a8,a8b,a9⟩
     refine ⟨2*(Dp.bound F-R'.length)+W'.length,by lia,_,_,_,R',W',rfl,a1,a3,a4,a5,fun z hzz hw _ q hq=>?_,a8b,rfl⟩
     by_cases e:z=x
     ·subst e
      obtain ⟨j,hj⟩:=List.mem_iff_getElem?.mp hq
      have hjl:=(List.getElem?_eq_some_iff.mp hj).1
      exact a8 j (by rw [List.length_map]; lia) q hj
     ·exact a6 z hzz hw (by simpa using e) q hq
   ·have hW:W=[]:=by
     have:¬ (0:Int)<((Zan W).length:Nat):=fun z=>h (decide_eq_true z)
     unfold Zan at this
     rw [List.length_map] at this
     exact List.length_eq_zero_iff.mp (by lia)
    subst hW
    exact hDw _ _ ⟨v3,v4,v5,R,rfl,g1,g2,g4,g5⟩
  ·rintro σ H4 ⟨v3,v4,v5,R,rfl,g1,g2,g3,g4⟩
   refine ⟨_,rfl,ld,_,R.map (fun (n:Nat)=>(n:Int)),rfl,g2,?_,fun ns' p hperm hpw hp=>?_⟩
   ·unfold dOf
    rw [List.map_map,List.map_map]
    rfl
   ·have hnn:∀ i∈ns',0≤i:=fun i hi=>by
     obtain ⟨n,_,rfl⟩:=List.mem_map.mp (hperm.mem_iff.mp hi)
     lia
    have e1:ns'=(ns'.map Int.toNat).map fun (n:Nat)=>(n:Int):=by
     rw [List.map_map]
     conv=>lhs; rw [← List.map_id ns']
     refine List.map_congr_left fun i hi=>?_
     show i=((i.toNat:Nat):Int)
     have:=hnn i hi
     lia
    have hmem:∀ n:Nat,n∈ns'.map Int.toNat↔n∈R:=fun n=>by
     constructor
     ·intro hn
      obtain ⟨i,hi,rfl⟩:=List.mem_map.mp hn
      obtain ⟨m,hm,e⟩:=List.mem_map.mp (hperm.mem_iff.mp hi)
      have:i.toNat=m:=by lia
      rw [this]
      exact hm
     ·intro hn
      exact List.mem_map.mpr ⟨(n:Int),hperm.mem_iff.mpr (List.mem_map.mpr ⟨n,hn,rfl⟩),by lia⟩
    have hndI:ns'.Nodup:=hperm.nodup_iff.mpr (by
     unfold List.Nodup
     rw [List.pairwise_map]
     exact List.Pairwise.imp (fun {a b} h e=>h (by lia)) g3.nd)
    have hlt:(ns'.map Int.toNat).Pairwise (·<·):=by
     rw [List.pairwise_map]
     have both:=List.Pairwise.and hpw hndI
     refine List.Pairwise.imp_of_mem (fun {a b} ha hb h=>?_) both
     have:=hnn a ha
     have:=hnn b hb
     have h1:=h.1
     have h2:a≠b:=h.2
     lia
    refine kk p (ns'.map Int.toNat) _ (g1.trans (Zai hp)) (g1.free hp) ?_ ⟨hlt,(hmem _).mpr g3.start,fun B hB=>g3.im B ((hmem B).mp hB),fun B hB q hq=>(hmem _).mpr (g4 B ((hmem B).mp hB) (by simp) (by simp) q hq)⟩
    rw [Zac,Zfs,← e1]
end
end Pr
namespace Pr
open PySem PySem.Spec PyProof.Rows L2 Pc Ly
set_option maxHeartbeats 4000000
set_option maxRecDepth 100000
abbrev ZcJ:Stmt:=(top 57)
def gF (zs:Dp.Sizes) (F:Br.Field):Nat→V:=fun n=>.int (((Dp.few zs F n).getD 0:Nat):Int)
def Zb4 (zs:Dp.Sizes) (F:Br.Field) (R:List Nat):List Nat:=0::R.filter fun B=>decide (0<B)&&(Dp.few zs F B).isSome
theorem Zc6 {zs:Dp.Sizes} {F:Br.Field} {R:List Nat} {B:Nat} (h:B=0∨B∈R):B∈Zb4 zs F R↔(Dp.few zs F B).isSome=true:=by
 constructor
 ·intro z
  rcases List.mem_cons.mp z with e | e
  ·rw [e,Dp.few_zero]; rfl
  ·exact (Bool.and_eq_true_iff.mp (List.mem_filter.mp e).2).2
 ·intro z
  rcases Nat.eq_zero_or_pos B with e | e
  ·rw [e]; exact List.mem_cons_self
  ·rcases h with h | h
   ·lia
   ·exact List.mem_cons_of_mem _ (List.mem_filter.mpr ⟨h,by rw [decide_eq_true e,z]; rfl⟩)
def ZhW (Y Dq D:Addr):Sp:=fun vs H Q _=>∃ (y:Addr) (ps:List PartM) (F:Br.Field) (dx q l lp ls:Addr) (qs ts:List Addr),vs=[.ref y]∧LayAt Y Dq D H y ps F dx q l lp ls qs ts ∧
 ∀ (a:Addr) (R:List Nat) (H':Hp),Same H H'→H a=none→H' a=some (.dK (dOf (gF (ZaL ps) F) (Zb4 (ZaL ps) F R)))→Dp.Reached (ZaL ps) F R→Q (.ref a) H'
theorem ZgC {ps:List PartM} (h:ps.length≤64) (F:Br.Field) (B:Nat):(Dp.steps (ZaL ps) F B).length≤64:=by
 unfold Dp.steps
 by_cases h0:B=0
 ·rw [if_pos h0]; exact Nat.zero_le _
 ·rw [if_neg h0,List.length_map]
  exact Nat.le_trans (List.length_filter_le _ _) (Nat.le_trans (Zfd _ _ _) (by rw [Zkj]; exact ZcI h))
section
variable {P:Program} {w:World} {K:PySem.W.Frag} {mg:Str→Option Value} {base:Heap}
theorem Zo9 {n:Nat} (h:n≤2000000):n<sizeLine:=by rw [sizeLine_eq]; lia
theorem scFewest:FnScope ["laying","fewest","bare","numbers","plate","after"] ["laying"] (Zad ZcJ):=⟨rfl,rfl,rfl,by decide +kernel,rfl,by decide +kernel,by decide +kernel⟩
theorem Zkk {f C Y Dq D fR fS:Addr} {fd fdR fdS:FuncData} (F:Fun K "fewest_lines" "fewest_lines" ZcJ f fd) (T:TxtR K mg C) (hmin:mg "min"=none) (GR:FnOk P w K mg base CX0 3 fR fdR ["laying"] (ZgB Y Dq D)) (bR:Def K mg "reached_sets" fR fdR ["laying"])
  (GS:FnOk P w K mg base CX0 2 fS fdS ["laying","bare"] (ZfH Y Dq D)) (bS:Def K mg "steps" fS fdS ["laying","bare"]):FnOk P w K mg base CX0 4 f fd ["laying"] (ZhW Y Dq D):=by
 refine F.ok scFewest (fun vs H Q E h=>?_) (fun cdv A outer s H vs Q E hr h=>?_)
 ·obtain ⟨y,ps,F,dx,q,l,lp,ls,qs,ts,rfl,_⟩:=h
  rfl
 ·obtain ⟨y,ps,F,dx,q,l,lp,ls,qs,ts,rfl,hL,kk⟩:=h
  have hu:=ZgV hr
  refine ⟨_,Zab (Zat (i:=1) scFewest.nd rfl (Or.inr rfl) (Zi9 (Zhs Zau Zau Zi8) rfl rfl (by simp) (by decide))) <|
   Zab (ZbO PassesOwn.never rfl (Zbc (Zak GR hr rfl bR.mg bR.kp bR.bd .nil Zar (Zaa (pv 0) Zae))) (ZaS (i:=2) scFewest.nd rfl (Or.inl rfl))
    (Zab (ZcR (i:=3) rfl scFewest.nd rfl rfl (ZdV rfl rfl rfl rfl) (Zbc (Zak GS (hr.mono (by decide)) rfl bS.mg bS.kp bS.bd .nil Zar (Zaa (pv 0) (Zaa (pv 2) Zae))))
     (Za4 (N:=["laying","fewest","bare","numbers","plate","after"]) (sc:=Zad ZcJ) (own:=[("plate",4),("after",5)]) (by decide +kernel)) (fun s H Cc cl fp=>ZcB (K:=K) (i:=4) (j:=5) rfl rfl scFewest.nd rfl rfl rfl rfl) (fun s H Cc cl fp=>ZdU (ZfK (ZlU hu (pv 5) (pv 1)))) (fun s H Cc cl fp=>ZaG ZbI (Zi6 hu (pv 1) (pv 5) (fun _ _=>rfl)) Zau)) <|
    Zaf (Za6 (Zaz Zc9 (ZaH ZaC (by rfl) T.len PySem.boot_len (Zaa (pv 3) Zae)) Zau (ZaE _)) (Zaf (ZgU hu (pv 1) (pv 2) (ZaH (ZnC rfl) (by rfl) hmin (by decide +kernel) (Zaa (pv 3) Zae)) rfl)) ZaA))) <|
   Zaf (Zav (pv 1)),?_⟩
  have hf:=hL.fld.ok
  have hbd:=Dp.bound_le hf
  refine fun ld hld=>⟨Zac,[((Sum.inl (0:Int):Key),V.int 0)],rfl,(by show 1≤15; decide),?_⟩
  rw [Zfk]
  have e0:ZbJ [] [((Sum.inl (0:Int):Key),V.int 0)]=dOf (gF (ZaL ps) F) [0]:=rfl
  rw [e0]
  have s1:Same H (upd H ld (.dK (dOf (gF (ZaL ps) F) [0]))):=Zai hld
  have hd1:(upd H ld (.dK (dOf (gF (ZaL ps) F) [0]))) ld=some (.dK (dOf (gF (ZaL ps) F) [0])):=Zac
  generalize upd H ld (.dK (dOf (gF (ZaL ps) F) [0]))=H1 at *
  refine ⟨_,rfl,y,ps,F,dx,q,l,lp,ls,qs,ts,rfl,hL.same s1,fun lr R H2 s2 fr hlr hR=>?_⟩
  have hndR:R.Nodup:=List.Pairwise.imp (fun {a b} h=>Nat.ne_of_lt h) hR.lt
  have hlR:=Dp.im_few hndR hR.im
  refine ⟨lr,rfl,⟨_,SqL.of hlr⟩,ZcN (K:=K) (a:=lr) (xs:=Zan R) (fun i σ H3=>∃ v2 v3 v4 v5:Option V,σ=[some (.ref y),some (.ref ld),v2,v3,v4,v5]∧Same H H3∧H3 lr=some (.lst (Zan R))∧H3 ld=some (.dK (dOf (gF (ZaL ps) F) (Zb4 (ZaL ps) F (R.take i))))) ?_ ?_ ?_ ?_⟩
  ·exact ⟨none,none,none,none,rfl,s1.trans s2,hlr,s2 _ _ hd1⟩
  ·rintro i σ H3 _ ⟨v2,v3,v4,v5,_,_,z,_⟩
   exact SqL.of z
  ·rintro i v σ H3 hi ⟨v2,v3,v4,v5,rfl,g1,g2,g3⟩
   obtain ⟨B,hB,rfl⟩:=getElem?_intsN hi
   have hBR:B∈R:=List.mem_of_getElem? hB
   have etake:R.take (i+1)=R.take i++[B]:=Zd1 hB
   refine ⟨_,rfl,_,rfl,y,B,ps,F,dx,q,l,lp,ls,qs,ts,rfl,hL.same g1,fun hz=>Dp.im_low (hR.im B hBR) hz,fun ln H4 s4 fN hN=>?_⟩
   obtain ⟨us,hu1,hu2⟩:=hN
   have hul:us.length=(Dp.steps (ZaL ps) F B).length:=Paired.length hu2
   have hsl:=ZgC hL.cat.few F B
   have g3':=s4 _ _ g3
   generalize hLL:Dp.steps (ZaL ps) F B=L at *
   have hkey:∀ p∈L,p.2=0∨p.2∈R.take i:=fun p hp=>by
    rw [← hLL] at hp
    exact .inr (Dp.lt_take hR.lt hB (hR.cl B hBR p hp) (Dp.steps_lt hp))
   refine ⟨ln,rfl,⟨_,SqL.of hu1⟩,fun D2 hD2=>Zbo (K:=K) (a:=ln) (xs:=us.map V.ref) (fun j=>(Dp.few (ZaL ps) F (L.getD j (0,0)).2).isSome) (fun _ j v=>v=V.int ((((Dp.few (ZaL ps) F (L.getD j (0,0)).2).getD 0:Nat):Int)+1)) hD2 (SqL.of hu1) (Zev (m:=64) (by rw [List.length_map]; lia) (by decide)) Zdd ?_ ?_⟩
   ·rintro j x H' Yy N hx hS _ hY hN
    have hj:j<us.length:=by
     have:=(List.getElem?_eq_some_iff.mp hx).1
     rw [List.length_map] at this
     exact this
    have ex:x=V.ref (us.getD j 0):=by
     rw [List.getElem?_map,List.getElem?_eq_getElem hj] at hx
     have hx:V.ref us[j]=x:=Option.some.inj hx
     rw [← hx,List.getD_eq_getElem?_getD,List.getElem?_eq_getElem hj]
     rfl
    subst ex
    have ht:=hS _ _ (ZbG (a0:=0) (b0:=(0,0)) hu2 (show j<L.length by lia))
    have hpm:L.getD j (0,0)∈L:=by
     rw [List.getD_eq_getElem?_getD,List.getElem?_eq_getElem (by lia)]
     exact List.getElem_mem _
    generalize hpq:L.getD j (0,0)=p at *
    have hk:=Zc6 (zs:=ZaL ps) (F:=F) (hkey p hpm)
    have hg:=DGet.k (k:=(Sum.inl (p.2:Int):Key)) (hS _ _ g3')
    rw [Zbs] at hg
    refine ⟨_,_,rfl,SqT.of ht,rfl,_,_,rfl,_,_,rfl,rfl,rfl,_,rfl,_,rfl,ld,_,rfl,hg,_,rfl,?_⟩
    by_cases hz:p.2∈Zb4 (ZaL ps) F (R.take i)
    ·rw [if_pos hz]
     rw [if_pos hz] at hg
     exact Zh7 ⟨_,rfl,_,rfl,ld,gF (ZaL ps) F p.2,rfl,hg,_,_,rfl,rfl,hY (hk.mp hz) _ _ (Same.refl _) rfl⟩
    ·rw [if_neg hz]
     refine Zjg (hN ?_ _ (Same.refl _))
     exact Bool.eq_false_iff.mpr fun z=>hz (hk.mpr z)
   intro H5 ys hS5 hys hpr
   rw [List.length_map,hul] at hpr
   rw [Zbv hpr] at hys
   have eN:((List.range L.length).filter fun j=>(Dp.few (ZaL ps) F (L.getD j (0,0)).2).isSome).map (fun j=>V.int ((((Dp.few (ZaL ps) F (L.getD j (0,0)).2).getD 0:Nat):Int)+1))=((L.filterMap fun q=>(Dp.few (ZaL ps) F q.2).map fun n=>n+1).map fun (n:Nat)=>(n:Int)).map V.int:=by
    rw [Dp.filterMap_filter,List.map_map,List.map_map]
    have e1:(fun (q:Nat×Nat)=>((Dp.few (ZaL ps) F q.2).map fun n=>n+1).isSome)=fun q=>(Dp.few (ZaL ps) F q.2).isSome:=by
     funext q
     cases Dp.few (ZaL ps) F q.2<;>rfl
    rw [e1,Zcd (0,0) (fun q:Nat×Nat=>(Dp.few (ZaL ps) F q.2).isSome) L,List.map_map]
    refine List.map_congr_left fun j hj=>?_
    have hsome:=(List.mem_filter.mp hj).2
    show V.int _=V.int _
    cases e2:Dp.few (ZaL ps) F (L.getD j (0,0)).2 with
    | none=>rw [e2] at hsome; cases hsome
    | some n=>
     show V.int ((n:Int)+1)=V.int ((((Dp.few (ZaL ps) F (L.getD j (0,0)).2).map fun n=>n+1).getD 0:Nat):Int)
     rw [e2]
     rfl
   rw [eN] at hys
   generalize hNN:(L.filterMap fun q=>(Dp.few (ZaL ps) F q.2).map fun n=>n+1)=N at *
   have hNl:(((N.map fun (n:Nat)=>(n:Int)).map V.int).length:Nat)=N.length:=by rw [List.length_map,List.length_map]
   have hfew:B≠0→Dp.few (ZaL ps) F B=Dp.leastO N:=fun hz=>by rw [Dp.few_least (ZaL ps) F hz,hLL,hNN]
   have hB0:B=0→N=[]:=fun hz=>by
    rw [hz] at hLL
    rw [← hNN,← hLL]
    rfl
   have g3'':=hS5 _ _ g3'
   have nlr:lr≠ld:=ZaF g2 g3 (by intro z; cases z)
   have g1':=g1.trans (s4.trans hS5)
   refine ⟨_,rfl,D2,_,rfl,.inl (SqL.of hys),_,_,rfl,rfl,_,rfl,Zbn (fun h=>?_) (fun h=>?_)⟩
   ·have hne:N≠[]:=fun z=>by
     have:=of_decide_eq_true h
     rw [hNl,z] at this
     simp at this
    have h0:0<B:=by
     rcases Nat.eq_zero_or_pos B with e | e
     ·exact absurd (hB0 e) hne
     ·exact e
    obtain ⟨k0,k1,k2,k3⟩:=Dp.least_is hne
    have hfB:Dp.few (ZaL ps) F B=some k0:=(hfew (by lia)).trans k1
    refine ⟨_,rfl,D2,N.map (fun (n:Nat)=>(n:Int)),rfl,SqL.of hys,?_,fun m hm hmin=>?_⟩
    ·rw [List.length_map]
     exact List.length_pos_iff.mpr hne
    have hmk:m=(k0:Int):=by
     obtain ⟨n,hn,rfl⟩:=List.mem_map.mp hm
     have a1:=hmin (k0:Int) (List.mem_map.mpr ⟨k0,k2,rfl⟩)
     have a2:=k3 n hn
     lia
    subst hmk
    have hnk:B∉Zb4 (ZaL ps) F (R.take i):=by
     intro z
     rcases List.mem_cons.mp z with e | e
     ·lia
     ·exact Dp.not_take hR.lt hB (List.mem_filter.mp e).1
    refine ⟨_,rfl,_,rfl,ld,_,rfl,DPut.k (k:=Sum.inl (B:Int)) g3'' ?_,?_⟩
    ·rw [ZgZ]
     refine Zo9 ?_
     show ((R.take i).filter _).length+1≤_
     have:=List.length_filter_le (fun B=>decide (0<B)&&(Dp.few (ZaL ps) F B).isSome) (R.take i)
     rw [List.length_take] at this
     lia
    ·have eg:gF (ZaL ps) F B=V.int (k0:Int):=by unfold gF; rw [hfB]; rfl
     have ep:ZdW (dOf (gF (ZaL ps) F) (Zb4 (ZaL ps) F (R.take i))) (Sum.inl (B:Int):Key) (V.int (k0:Int))=dOf (gF (ZaL ps) F) (Zb4 (ZaL ps) F (R.take i)++[B]):=by
      rw [← eg]
      exact Zfu (gF (ZaL ps) F) hnk
     rw [ep]
     have ek:Zb4 (ZaL ps) F (R.take (i+1))=Zb4 (ZaL ps) F (R.take i)++[B]:=by
      unfold Zb4
      rw [etake,List.filter_append,List.filter_cons_of_pos (p:=fun B=>decide (0<B)&&(Dp.few (ZaL ps) F B).isSome) (a:=B) (l:=[]) (by rw [decide_eq_true h0,hfB]; rfl)]
      rfl
     refine ⟨_,_,_,_,rfl,ZaO g1' hld,by rw [Zag nlr]; exact hS5 _ _ (s4 _ _ g2),?_⟩
     rw [Zac,ek]
   ·have hN0:N=[]:=by
     have:¬ (0:Int)<(N.length:Nat):=fun z=>h (decide_eq_true (by rw [hNl]; exact z))
     exact List.length_eq_zero_iff.mp (by lia)
    refine ⟨_,_,_,_,rfl,g1',hS5 _ _ (s4 _ _ g2),?_⟩
    have:Zb4 (ZaL ps) F (R.take (i+1))=Zb4 (ZaL ps) F (R.take i):=by
     unfold Zb4
     rw [etake,List.filter_append,List.filter_cons_of_neg (p:=fun B=>decide (0<B)&&(Dp.few (ZaL ps) F B).isSome) (a:=B) (l:=[]),List.filter_nil,List.append_nil]
     intro z
     obtain ⟨z1,z2⟩:=Bool.and_eq_true_iff.mp z
     have z1:=of_decide_eq_true z1
     rw [hfew (by lia),hN0] at z2
     cases z2
    rw [this]
    exact g3''
  ·rintro σ H3 ⟨v2,v3,v4,v5,rfl,g1,g2,g3⟩
   have:(Zan R).length=R.length:=by unfold Zan; rw [List.length_map]
   rw [this,List.take_length] at g3
   exact ⟨_,rfl,kk ld R H3 g1 hld g3 hR⟩
end
end Pr
namespace Pr
open PySem PySem.Spec PyProof.Rows L2 Pc Ly
set_option maxHeartbeats 4000000
set_option maxRecDepth 100000
abbrev Zdv:Stmt:=(top 73)
structure TxtG2 (mg:Str→Option Value):Prop where
 lf:∃ t,mg "LONGEST_FIELD"=some (.int 16384 t)
 nf:∃ t,mg "NO_FIELD"=some (.int (-10) t)
def ZhX (K:PySem.W.Frag) (Dq D G:Addr):Sp:=fun vs H Q _=>∃ (a b:Addr) (c f:List Int),vs=[.ref a,.ref b]∧SqL K H a (c.map V.int)∧SqL K H b (f.map V.int)∧Sm.InB c∧Sm.InB f ∧
 (∀ (g:Addr) (z:Int) H',Same H H'→GivNo c f z→GvAt G H' g (.int z) .non .non .non→Q (.ref g) H') ∧
 (∀ (g l q:Addr) (qs:List Addr) (F:Br.Field) H',Same H H'→ZeU c f→CatAt Dq H' l qs (Zbk c ⟨0,false⟩).1→FieldAt D H' q F→Sm.FieldIs (Za0 f ⟨0,false⟩) F→GvAt G H' g (.int 0) (.ref l) (.ref q) .non→Q (.ref g) H')
theorem ZiC {D:Addr} {H:Hp} {q l dx:Addr} {fm:FieldM} {F:Br.Field} (h1:H q=some (.ins D dx (fF (.int fm.wide) (.int fm.deep) (.ref l)))) (h2:H l=some (.lst (fm.places.map V.int))) (h:Sm.FieldIs fm F):FieldAt D H q F:=by
 refine ⟨dx,l,fm.places,by rw [h1,h.wide,h.deep],h2,⟨h.w1,h.w2,h.d1,h.d2,by rw [h.places,List.length_map]; exact h.len⟩,h.places,h.each⟩
section
variable {P:Program} {w:World} {K:PySem.W.Frag} {mg:Str→Option Value} {base:Heap}
theorem scRGiven:FnScope ["c","f","given","reader","field"] ["c","f"] (Zad Zdv):=⟨rfl,rfl,rfl,by decide +kernel,rfl,by decide +kernel,by decide +kernel⟩
theorem Zkl {f C Dq D G fI fJ fR fC fX:Addr} {fd fdI fdJ fdR fdC fdX:FuncData} (F:Fun K "read_given" "read_given" Zdv f fd) (T:TxtR K mg C) (TG:TxtG K mg G) (T2:TxtG2 mg) (MC:Mk K C fI) (GI:FnOk P w K mg base CX0 1 fI fdI ["self","text"] (ZhB C)) (bI:Binds K fdI ["self","text"] [])
  (MG:Mk K G fJ) (GJ:FnOk P w K mg base CX0 1 fJ fdJ ["self","refusal","parts","field","lines"] (ZfD G)) (bJ:Binds K fdJ ["self","refusal","parts","field","lines"] []) (GR:FnOk P w K mg base CX0 3 fR fdR ["refusal"] (Zei G)) (bR:Def K mg "refused" fR fdR ["refusal"])
  (GC:FnOk P w K mg base CX0 8 fC fdC ["c"] (ZhO K Dq G)) (bC:Def K mg "read_right_catalogue" fC fdC ["c"]) (GX:FnOk P w K mg base CX0 6 fX fdX ["reader"] (ZlZ K C D)) (bX:Def K mg "read_field" fX fdX ["reader"]):
  FnOk P w K mg base CX0 9 f fd ["c","f"] (ZhX K Dq D G):=by
 refine F.ok scRGiven (fun vs H Q E h=>?_) (fun cdv A outer s H vs Q E hr h=>?_)
 ·obtain ⟨a,b,c,f,rfl,_⟩:=h
  rfl
 ·obtain ⟨a,b,c,fl,rfl,hc,hf,hcb,hfb,kn,ky⟩:=h
  obtain ⟨t1,g1⟩:=T2.lf
  obtain ⟨t2,g2⟩:=TG.tl
  obtain ⟨t3,g3⟩:=T2.nf
  have hr2:=hr.mono (j:=3) (by decide)
  refine ⟨_,Zab (Za6 (Zaz Zc9 (ZaH ZaC (by rfl) T.len PySem.boot_len (Zaa (pv 1) Zae)) (Zax (v:=.int 16384) rfl g1 ⟨t1,rfl⟩) (ZaE _)) (Zaf (Zav (Zak GR hr2 rfl bR.mg bR.kp bR.bd .nil Zar (Zaa (Zax (v:=.int (-2)) rfl g2 ⟨t2,rfl⟩) Zae)))) ZaA) <|
   Zab (Zat (i:=2) scRGiven.nd rfl (Or.inl rfl) (Zak GC hr rfl bC.mg bC.kp bC.bd .nil Zar (Zaa (pv 0) Zae))) <|
   Zab (Za6 (Zaz ZfO (Zam (pv 2) rfl) Zau (ZaE _)) (Zaf (Zav (pv 2))) ZaA) <|
   Zab (Zat (i:=3) scRGiven.nd rfl (Or.inl rfl) (ZbM MC GI (hr.mono (by decide)) rfl T.mgC bI .nil Zar (Zaa (pv 1) Zae))) <|
   Zab (Zat (i:=4) scRGiven.nd rfl (Or.inl rfl) (Zak GX (hr.mono (by decide)) rfl bX.mg bX.kp bX.bd .nil Zar (Zaa (pv 3) Zae))) <|
   Zab (Za6 (Zcr (Zam (pv 3) rfl)) (Zaf (Zav (Zak GR hr2 rfl bR.mg bR.kp bR.bd .nil Zar (Zaa (Zax (v:=.int (-10)) rfl g3 ⟨t3,rfl⟩) Zae)))) ZaA) <|
   Zaf (Zav (ZbM MG GJ (hr.mono (by decide)) rfl TG.mgC bJ .nil Zar (Zaa Zau (Zaa (Zam (pv 2) rfl) (Zaa (pv 4) (Zaa ZcL Zae)))))),?_⟩
  refine ⟨_,rfl,b,_,rfl,.inl hf,_,_,rfl,rfl,_,rfl,Zbn (fun h=>?_) (fun h=>?_)⟩
  ·have h':16384<fl.length:=by
    have h2:=of_decide_eq_true h
    rw [List.length_map] at h2
    lia
   exact ⟨-2,rfl,fun g H' s' hg=>kn g (-2) H' s' (.inl ⟨h',rfl⟩) hg⟩
  ·have h':¬ 16384<fl.length:=by
    intro h2
    refine h (decide_eq_true ?_)
    rw [List.length_map]
    lia
   refine ⟨_,rfl,a,c,rfl,hc,hcb,fun g z H1 s1 hn hg=>?_,fun g l qs H1 s1 hy hcat hg=>?_⟩
   ·obtain ⟨dx,hg'⟩:=id hg
    refine ⟨_,rfl,g,G,dx,_,_,rfl,hg',TG.cl,TG.nR,ZjU _ _ _ _,_,_,rfl,rfl,_,rfl,?_⟩
    rw [decide_eq_true hn.neg]
    exact Zh7 ⟨_,rfl,kn g z H1 s1 (.inr (.inl ⟨h',hn⟩)) hg⟩
   ·obtain ⟨dx,hg'⟩:=id hg
    refine ⟨_,rfl,g,G,dx,_,_,rfl,hg',TG.cl,TG.nR,ZjU _ _ _ _,_,_,rfl,rfl,_,rfl,?_⟩
    rw [decide_eq_false (by decide)]
    refine Zjg ?_
    refine ⟨_,rfl,fun p dp hp hdp hne=>⟨p,dp,b,rfl,Zac,fun H2 h2 k2=>⟨rfl,?_⟩⟩⟩
    have s2:Same H1 H2:=Same.made hp hdp k2
    refine ⟨_,rfl,p,b,fl,_,rfl,⟨h2,(s1.trans s2).seq hf⟩,fun q lq df H3 h3 h4 h5 k3=>?_⟩
    have s3:Same H1 H3:=Zeh s2 k3 hp
    obtain ⟨dz,h5⟩:=h5
    refine ⟨_,rfl,p,C,dz,_,_,rfl,h5,T.cl,T.nStuck,ZcW _ _,_,rfl,Zbn (fun hs=>?_) (fun hs=>?_)⟩
    ·exact ⟨-10,rfl,fun g H' s' hg=>kn g (-10) H' (s1.trans (s3.trans s')) (.inr (.inr ⟨h',hy,hs,rfl⟩)) hg⟩
    ·have hs':(Za0 fl ⟨0,false⟩).st.stuck=false:=by simpa using hs
     rcases Sm.readF_is hfb with ⟨F,_,_,hFi⟩ | ⟨i,_,e⟩
     ·have hg3:=s3 _ _ hg'
      refine ⟨_,rfl,g,G,dx,_,_,rfl,hg3,TG.cl,TG.nP,ZmT _ _ _ _,_,rfl,fun g2 dg hg2 hdg hne2=>⟨g2,dg,_,_,_,_,rfl,Zac,fun H4 h4' k4=>⟨rfl,?_⟩⟩⟩
      have s4:Same H3 H4:=Same.made hg2 hdg k4
      exact ky g2 l q qs F H4 (s1.trans (s3.trans s4)) ⟨h',hy,hs'⟩ (hcat.same (s3.trans s4)) (ZiC (s4 _ _ h3) (s4 _ _ h4) hFi) hFi h4'
     ·rw [e] at hs'; cases hs'
end
end Pr
namespace Pr
open PySem PySem.Spec PyProof.Rows L2 Pc Ly
set_option maxHeartbeats 4000000
set_option maxRecDepth 100000
abbrev Zfe:Stmt:=(top 39)
abbrev Zff:Stmt:=(Zbh (top 38) 0)
abbrev Zdw:Stmt:=(top 58)
abbrev Zfg:Stmt:=(top 40)
abbrev Zfh:Stmt:=(top 41)
abbrev ZiD:Stmt:=(top 74)
structure TxtL (K:PySem.W.Frag) (mg:Str→Option Value) (C:Addr):Prop where
 cl:Cls K C
 nP:NoAttr K C "part"
 nC:NoAttr K C "colour"
 nX:NoAttr K C "x"
 nY:NoAttr K C "y"
 nZ:NoAttr K C "z"
 nT:NoAttr K C "turns"
 mgC:mg "Line"=some (.ref C)
def Zkm (D:Addr):Sp:=fun vs H Q _=>∃ (q dx t:Addr) (a b c d e f:V),vs=[.ref q,a,b,.ref t,f]∧H q=some (.ins D dx [])∧H t=some (.tup [c,d,e])∧∀ H',(∃ dx,H' q=some (.ins D dx (lF a b c d e f)))→Keep q H H'→Q .non H'
def Zkn (K:PySem.W.Frag):Sp:=fun vs H Q _=>∃ (a:Addr) (ns:List Int),vs=[.ref a]∧SqL K H a (ns.map V.int)∧∀ H',Same H H'→Q (.bl (Zb1 ns)) H'
def ZhY (Y Dq D L:Addr):Sp:=fun vs H Q _=>∃ (y:Addr) (B p:Nat) (ps:List PartM) (F:Br.Field) (dx q l lp ls:Addr) (qs ts:List Addr),vs=[.ref y,.int B,.int p]∧LayAt Y Dq D H y ps F dx q l lp ls qs ts∧0<B∧Bm.low B<Dp.area F∧(Dp.col F (Bm.low B)).isSome=true ∧
 ∀ (k:Addr) (H':Hp),Same H H'→LineAt L H' k (Dp.lineAt F B p)→H k=none→Q (.ref k) H'
def ZbU (ps:List PartM) (l:Br.Line):List Int:=(ps.getD l.part Zaj).name
def Zko (Dq L:Addr):Sp:=fun vs H Q _=>∃ (l k:Addr) (qs:List Addr) (ps:List PartM) (li:Br.Line),vs=[.ref l,.ref k]∧CatAt Dq H l qs ps∧LineAt L H k li∧li.part<ps.length∧li.colour<100∧li.x<100∧li.y<100∧li.z<100∧li.r<100∧(ZbU ps li).length≤100 ∧
 ∀ (a:Addr) (H':Hp),Same H H'→H a=none→H' a=some (.lst ((Am.lineI (ZbU ps li) li).map V.int))→Q (.ref a) H'
def Zkp (K:PySem.W.Frag) (Dq L:Addr):Sp:=fun vs H Q _=>∃ (n l kl:Addr) (ns:List Int) (qs ks:List Addr) (ps:List PartM) (lis:List Br.Line),vs=[.ref n,.ref l,.ref kl]∧SqL K H n (ns.map V.int)∧ns.length≤100∧CatAt Dq H l qs ps∧H kl=some (.lst (ks.map V.ref))∧Paired (LineAt L H) ks lis∧lis.length≤1000∧(∀ li∈lis,li.part<ps.length∧li.colour<100∧li.x<100∧li.y<100∧li.z<100∧li.r<100∧(ZbU ps li).length≤100) ∧
 ∀ (a:Addr) (H':Hp),Same H H'→H' a=some (.lst (([98,117,105,108,100,32]++ns++[10]++lis.flatMap fun l=>Am.lineI (ZbU ps l) l).map V.int))→Q (.ref a) H'
def spTold:Sp:=fun vs H Q _=>∃ (a:Addr) (ns:List Int),vs=[.ref a]∧H a=some (.lst (ns.map V.int))∧ns.length<2000000∧∀ (b:Addr) (H':Hp),H' b=some (.lst ((((ns.length:Nat):Int)::ns).map V.int))→Q (.ref b) H'
theorem Zc7 (x y:Str):Zaw (x++y)=Zaw x++Zaw y:=by
 unfold Zaw
 rw [Str.cps_append,Array.toList_append,List.map_append]
theorem Zby (n:Nat):Zaw (Str.ofString (toString ((n:Nat):Int)))=Am.numI n:=by
 unfold Zaw Am.numI
 rw [show (Str.ofString (toString ((n:Nat):Int))).cps.toList=TL.numL n from TL.tl_num n]
theorem Zbp {n:Nat} (h:n<100):(Am.numI n).length≤2:=by
 unfold Am.numI
 rw [List.length_map]
 exact TL.numL_len (by decide) h
theorem Za9 (x:Str):x.length=(Zaw x).length:=by
 unfold Zaw
 rw [List.length_map,Array.length_toList]
 rfl
theorem Zcf {n:Nat} (h:n<100):((n:Nat):Int).natAbs.log2<1920:=by
 rw [Int.natAbs_natCast]
 by_cases h0:n=0
 ·rw [h0]; decide
 ·exact Nat.lt_of_lt_of_le ((Nat.log2_lt h0).mpr (show n<2^7 by lia)) (by decide)
section
variable {P:Program} {w:World} {K:PySem.W.Frag} {mg:Str→Option Value} {base:Heap}
theorem scBName:FnScope ["s","reader"] ["s"] (Zad Zfe):=⟨rfl,rfl,rfl,by decide +kernel,rfl,by decide +kernel,by decide +kernel⟩
theorem ZlG {f C fI fM fE:Addr} {fd fdI fdM fdE:FuncData} (F:Fun K "is_build_name" "is_build_name" Zfe f fd) (T:TxtR K mg C) (hln:∃ t,mg "LONGEST_NAME"=some (.int 16 t)) (MC:Mk K C fI) (GI:FnOk P w K mg base CX0 1 fI fdI ["self","text"] (ZhB C)) (bI:Binds K fdI ["self","text"] [])
  (GM:FnOk P w K mg base CX0 4 fM fdM ["self","longest"] (Zjs K C)) (bM:Mth K C "take_name" fM fdM ["self","longest"]) (GE:FnOk P w K mg base CX0 2 fE fdE ["self"] (ZkY K C)) (bE:Mth K C "take_end" fE fdE ["self"]):
  FnOk P w K mg base CX0 5 f fd ["s"] (Zkn K):=by
 refine F.ok scBName (fun vs H Q E h=>?_) (fun cdv A outer s H vs Q E hr h=>?_)
 ·obtain ⟨a,ns,rfl,_⟩:=h
  rfl
 ·obtain ⟨a,ns,rfl,ha,k⟩:=h
  obtain ⟨t1,g1⟩:=hln
  refine ⟨_,Zab (Zat (i:=1) scBName.nd rfl (Or.inl rfl) (ZbM MC GI (hr.mono (by decide)) rfl T.mgC bI .nil Zar (Zaa (pv 0) Zae))) <|
   Zab (ZaB (ZaJ (pv 1) T.cl bM.mt GM hr bM.bd .nil Zar (Zaa (Zax (v:=.int 16) rfl g1 ⟨t1,rfl⟩) Zae))) <|
   Zab (ZaB (Zci (pv 1) T.cl bE.mt GE (hr.mono (by decide)) bE.bd .nil Zar)) <|
   Zaf (Zav (ZlN (Zam (pv 1) rfl))),?_⟩
  refine ⟨_,rfl,fun p dp hp hdp hne=>⟨p,dp,a,rfl,Zac,fun H2 h2 k2=>⟨rfl,?_⟩⟩⟩
  have s2:Same H H2:=Same.made hp hdp k2
  obtain ⟨d2,e2⟩:=id h2
  refine ⟨_,rfl,p,d2,_,rfl,e2,ZaN _ _ (by decide +kernel) (by decide +kernel) (by decide +kernel),p,a,16,ns,_,rfl,(by decide),(by decide),⟨h2,s2.seq ha⟩,fun ln H3 n3 r3 k3=>?_⟩
  obtain ⟨d3,e3⟩:=id r3
  refine ⟨_,rfl,p,d3,_,rfl,e3,ZaN _ _ (by decide +kernel) (by decide +kernel) (by decide +kernel),p,a,ns,_,rfl,⟨r3,h2.seq k3 (s2.seq ha)⟩,fun H4 r4 k4=>?_⟩
  obtain ⟨d4,e4⟩:=id r4
  exact ⟨_,rfl,p,C,d4,_,_,rfl,e4,T.cl,T.nStuck,ZcW _ _,_,rfl,k H4 (Zeh s2 (k3.trans k4) hp)⟩
theorem Zne:FnScope ["self","part","colour","place","turns"] ["self","part","colour","place","turns"] (Zad Zff):=⟨rfl,rfl,rfl,by decide +kernel,rfl,by decide +kernel,by decide +kernel⟩
theorem ZlH {f D:Addr} {fd:FuncData} (F:Fun K "__init__" "Line.__init__" Zff f fd) (T:TxtL K mg D):FnOk P w K mg base CX0 1 f fd ["self","part","colour","place","turns"] (Zkm D):=by
 refine F.ok Zne (fun vs H Q E h=>?_) (fun cdv A outer s H vs Q E hr h=>?_)
 ·obtain ⟨q,dx,t,a,b,c,d,e,f,rfl,_⟩:=h
  rfl
 ·obtain ⟨q,dx,t,a,b,c,d,e,f,rfl,hq,ht,k⟩:=h
  refine ⟨_,Zab (ZaQ (pv 0) (pv 1) rfl) <| Zab (ZaQ (pv 0) (pv 2) rfl) <| Zab (ZaQ (pv 0) (ZbB ZcP (pv 3) Zau (fun _ _=>rfl)) rfl) <| Zab (ZaQ (pv 0) (ZbB ZcP (pv 3) Zau (fun _ _=>rfl)) rfl) <|
   Zab (ZaQ (pv 0) (ZbB ZcP (pv 3) Zau (fun _ _=>rfl)) rfl) <| Zaf (ZaQ (pv 0) (pv 4) rfl),?_⟩
  have ntq:t≠q:=ZaF ht hq (by intro z; cases z)
  refine ⟨_,rfl,_,rfl,q,D,dx,[],rfl,hq,T.cl,T.nP,(by show 0<1000; decide),?_⟩
  refine ⟨_,rfl,_,rfl,q,D,dx,_,rfl,Zac,T.cl,T.nC,(by show 1<1000; decide),?_⟩
  refine ⟨_,rfl,t,_,_,_,rfl,rfl,SqT.of (by rw [Zag ntq,Zag ntq]; exact ht),(show atI [c,d,e] ((0:Nat):Int)=some c from Za7 rfl),_,rfl,q,D,dx,_,rfl,Zac,T.cl,T.nX,?_,?_⟩
  ·exact Nat.lt_of_le_of_lt (Zas _ _ _) (by show 2<1000; decide)
  refine ⟨_,rfl,t,_,_,_,rfl,rfl,SqT.of (by rw [Zag ntq,Zag ntq,Zag ntq]; exact ht),(show atI [c,d,e] ((1:Nat):Int)=some d from Za7 rfl),_,rfl,q,D,dx,_,rfl,Zac,T.cl,T.nY,?_,?_⟩
  ·exact Nat.lt_of_le_of_lt (Zas _ _ _) (Nat.lt_of_le_of_lt (Nat.succ_le_succ (Zas _ _ _)) (by show 3<1000; decide))
  refine ⟨_,rfl,t,_,_,_,rfl,rfl,SqT.of (by rw [Zag ntq,Zag ntq,Zag ntq,Zag ntq]; exact ht),(show atI [c,d,e] ((2:Nat):Int)=some e from Za7 rfl),_,rfl,q,D,dx,_,rfl,Zac,T.cl,T.nZ,?_,?_⟩
  ·exact Nat.lt_of_le_of_lt (Zas _ _ _) (Nat.lt_of_le_of_lt (Nat.succ_le_succ (Zas _ _ _)) (Nat.lt_of_le_of_lt (Nat.succ_le_succ (Nat.succ_le_succ (Zas _ _ _))) (by show 4<1000; decide)))
  refine ⟨_,rfl,_,rfl,q,D,dx,_,rfl,Zac,T.cl,T.nT,?_,?_⟩
  ·exact Nat.lt_of_le_of_lt (Zas _ _ _) (Nat.lt_of_le_of_lt (Nat.succ_le_succ (Zas _ _ _)) (Nat.lt_of_le_of_lt (Nat.succ_le_succ (Nat.succ_le_succ (Zas _ _ _))) (Nat.lt_of_le_of_lt (Nat.succ_le_succ (Nat.succ_le_succ (Nat.succ_le_succ (Zas _ _ _)))) (by show 5<1000; decide))))
  ·exact k _ ⟨dx,Eq.trans Zac (congrArg (fun q=>some (HO.ins D dx q)) (Zol a b c d e f))⟩ fun b o e hb=>by rw [Zag hb,Zag hb,Zag hb,Zag hb,Zag hb,Zag hb]; exact e
theorem scLineAt:FnScope ["laying","bare","plate","place","width"] ["laying","bare","plate"] (Zad Zdw):=⟨rfl,rfl,rfl,by decide +kernel,rfl,by decide +kernel,by decide +kernel⟩
theorem Zkq {f Y Dq D L fL fA fI:Addr} {fd fdL fdA fdI:FuncData} (F:Fun K "line_at" "line_at" Zdw f fd) (TY:TxtY K mg Y) (TF:TxtF K mg D) (TL:TxtL K mg L) (ML:Mk K L fI) (GI:FnOk P w K mg base CX0 1 fI fdI ["self","part","colour","place","turns"] (Zkm L)) (bI:Binds K fdI ["self","part","colour","place","turns"] [])
  (GL:FnOk P w K mg base CX0 1 fL fdL ["bare"] spLeast) (bL:Def K mg "least_place" fL fdL ["bare"]) (GA:FnOk P w K mg base CX0 1 fA fdA ["field","place"] (Zeq D)) (bA:Def K mg "colour_at" fA fdA ["field","place"]):
  FnOk P w K mg base CX0 3 f fd ["laying","bare","plate"] (ZhY Y Dq D L):=by
 refine F.ok scLineAt (fun vs H Q E h=>?_) (fun cdv A outer s H vs Q E hr h=>?_)
 ·obtain ⟨y,B,p,ps,F,dx,q,l,lp,ls,qs,ts,rfl,_⟩:=h
  rfl
 ·obtain ⟨y,B,p,ps,F,dx,q,l,lp,ls,qs,ts,rfl,hL,hB,hlow,hcol,kk⟩:=h
  refine ⟨_,Zab (Zat (i:=3) scLineAt.nd rfl (Or.inl rfl) (Zak GL (hr.mono (by decide)) rfl bL.mg bL.kp bL.bd .nil Zar (Zaa (pv 1) Zae))) <|
   Zab (Zat (i:=4) scLineAt.nd rfl (Or.inl rfl) (Zam (Zam (pv 0) rfl) rfl)) <|
   Zaf (Zav (ZbM ML GI hr rfl TL.mgC bI .nil Zar (Zaa (pv 2) (Zaa (Zak GA (hr.mono (by decide)) rfl bA.mg bA.kp bA.bd .nil Zar (Zaa (Zam (pv 0) rfl) (Zaa (pv 3) Zae))) (Zaa (ZeD (Zaa (ZaG Zhm (pv 3) (pv 4)) (Zaa (ZaG Zfm (pv 3) (pv 4)) (Zaa Zau Zae)))) (Zaa Zau Zae)))))),?_⟩
  obtain ⟨df,fl,bs,hq,hfl,hf,hplc,he⟩:=id hL.fld
  have hW:=hf.w1
  have hW6:=hf.w6
  refine ⟨_,rfl,B,rfl,hB,?_⟩
  refine ⟨_,rfl,y,Y,dx,_,_,rfl,hL.obj,TY.cl,TY.nF,ZpD _ _ _ _ _,q,D,df,_,_,rfl,hq,TF.cl,TF.nW,ZnQ _ _ _,?_⟩
  refine ⟨_,rfl,_,rfl,y,Y,dx,_,_,rfl,hL.obj,TY.cl,TY.nF,ZpD _ _ _ _ _,_,rfl,q,F,Bm.low B,rfl,hL.fld,hlow,?_⟩
  obtain ⟨c,hc⟩:=Option.isSome_iff_exists.mp hcol
  rw [hc]
  refine ⟨_,rfl,_,rfl,_,_,rfl,rfl,(by show (0:Int)<F.wide; lia),_,rfl,_,rfl,_,_,rfl,rfl,⟨by show (0:Int)<F.wide; lia,by show (F.wide:Int)<1073741824; lia⟩,(by show 3≤sizeLine; decide),fun t htn=>fun k dk hk hdk hne=>?_⟩
  have s1:Same H (upd H t (.tup [V.int (((Bm.low B:Nat):Int)%(F.wide:Int)),V.int (((Bm.low B:Nat):Int) / (F.wide:Int)),V.int 0])):=Zai htn
  have ntq:t≠k:=Zao Zac hk
  have ntd:t≠dk:=Zao Zac hdk
  refine ⟨k,dk,t,_,_,_,_,_,_,rfl,Zac,(by rw [Zag ntq,Zag ntd]; exact Zac),fun HD hD kD=>⟨rfl,?_⟩⟩
  have s2:Same _ HD:=Same.made hk hdk kD
  obtain ⟨dy,hD⟩:=hD
  refine kk k HD (s1.trans s2) ⟨dy,?_⟩ (s1.free hk)
  rw [hD]
  unfold Dp.lineAt
  rw [hc]
  rfl
end
end Pr
namespace Pr
open PySem PySem.Spec PyProof.Rows L2 Pc Ly
set_option maxHeartbeats 4000000
set_option maxRecDepth 100000
section
variable {P:Program} {w:World} {K:PySem.W.Frag} {mg:Str→Option Value} {base:Heap}
theorem scLText:FnScope ["parts","line","colour","x","y","z","turns"] ["parts","line"] (Zad Zfg):=⟨rfl,rfl,rfl,by decide +kernel,rfl,by decide +kernel,by decide +kernel⟩
theorem ZiE {L:Addr} {H:Hp} {ks:List Addr} {lis:List Br.Line} (h:Paired (LineAt L H) ks lis) {i:Nat} {li:Br.Line} (hi:lis[i]? = some li):∃ k,(ks.map V.ref)[i]? = some (V.ref k)∧LineAt L H k li:=by
 induction h generalizing i with
 | nil=>simp at hi
 | cons x r ih=>
  cases i with
  | zero=>simp at hi; subst hi; exact ⟨_,rfl,x⟩
  | succ i=>simpa using ih (by simpa using hi)
theorem ZiF:Zaw "put "=[112,117,116,32]:=by decide +kernel
theorem ZgD:Zaw (Str.ofString " ")=[32]:=by decide +kernel
theorem ZgE:Zaw (Str.ofString "\n")=[10]:=by decide +kernel
theorem Znf:Zaw Str.empty=[]:=rfl
theorem ZlI {f C Dq L fC:Addr} {fd fdC:FuncData} (F:Fun K "line_text" "line_text" Zfg f fd) (TP:TxtP K mg Dq) (TL:TxtL K mg L) (GC:FnOk P w K mg base CX0 1 fC fdC ["signs"] spCodes) (bC:Def K mg "codes" fC fdC ["signs"]):
  FnOk P w K mg base CX0 2 f fd ["parts","line"] (Zko Dq L):=by
 refine F.ok scLText (fun vs H Q E h=>?_) (fun cdv A outer s H vs Q E hr h=>?_)
 ·obtain ⟨l,k,qs,ps,li,rfl,_⟩:=h
  rfl
 ·obtain ⟨l,k,qs,ps,li,rfl,hcat,⟨dk,hk⟩,hpt,h1,h2,h3,h4,h5,hnl,kk⟩:=h
  refine ⟨_,Zab (Zat (i:=2) scLText.nd rfl (Or.inl rfl) (Zam (pv 1) rfl)) <| Zab (Zat (i:=3) scLText.nd rfl (Or.inl rfl) (Zam (pv 1) rfl)) <| Zab (Zat (i:=4) scLText.nd rfl (Or.inl rfl) (Zam (pv 1) rfl)) <| Zab (Zat (i:=5) scLText.nd rfl (Or.inl rfl) (Zam (pv 1) rfl)) <| Zab (Zat (i:=6) scLText.nd rfl (Or.inl rfl) (Zam (pv 1) rfl)) <|
   Zaf (Zav (ZaG Zhq (ZaG Zhq (Zak GC hr rfl bC.mg bC.kp bC.bd .nil Zar (Zaa Zbf Zae)) (Zam (ZbB Zbq (pv 0) (Zam (pv 1) rfl) (fun _ _=>rfl)) rfl))
    (Zak GC hr rfl bC.mg bC.kp bC.bd .nil Zar (Zaa (Zjn (ZbE Zbf (ZbE (Zf7 (pv 2)) (ZbE Zbf (ZbE (Zf7 (pv 3)) (ZbE Zbf (ZbE (Zf7 (pv 4)) (ZbE Zbf (ZbE (Zf7 (pv 5)) (ZbE Zbf (ZbE (Zf7 (pv 6)) (ZbE Zbf ZnU)))))))))))) Zae)))),?_⟩
  have hrow:(qs.map V.ref)[li.part]? = some (V.ref (qs.getD li.part 0)):=by
   rw [List.getElem?_map,List.getD_eq_getElem?_getD,List.getElem?_eq_getElem (by rw [hcat.len]; exact hpt)]
   rfl
  refine ⟨_,rfl,k,L,dk,_,_,rfl,hk,TL.cl,TL.nC,lF_c _ _ _ _ _ _,?_⟩
  refine ⟨_,rfl,k,L,dk,_,_,rfl,hk,TL.cl,TL.nX,lF_x _ _ _ _ _ _,?_⟩
  refine ⟨_,rfl,k,L,dk,_,_,rfl,hk,TL.cl,TL.nY,lF_y _ _ _ _ _ _,?_⟩
  refine ⟨_,rfl,k,L,dk,_,_,rfl,hk,TL.cl,TL.nZ,lF_z _ _ _ _ _ _,?_⟩
  refine ⟨_,rfl,k,L,dk,_,_,rfl,hk,TL.cl,TL.nT,lF_t _ _ _ _ _ _,?_⟩
  refine ⟨_,rfl,(by decide +kernel),fun a1 ha1=>?_⟩
  rw [ZiF]
  have s1:Same H (upd H a1 (.lst (([112,117,116,32]:List Int).map V.int))):=Zai ha1
  have g1:(upd H a1 (.lst (([112,117,116,32]:List Int).map V.int))) a1=some (.lst (([112,117,116,32]:List Int).map V.int)):=Zac
  generalize upd H a1 (.lst (([112,117,116,32]:List Int).map V.int))=H1 at *
  obtain ⟨q2,eq2,_,_,hP,hok,_⟩:=(hcat.same s1).at_ hrow
  injection eq2 with eq2
  obtain ⟨dp,l1,l2,p1,p2,p3⟩:=hP
  rw [← eq2] at p1
  refine ⟨_,rfl,_,rfl,k,L,dk,_,_,rfl,s1 _ _ hk,TL.cl,TL.nP,lF_p _ _ _ _ _ _,l,_,_,_,rfl,rfl,SqL.of (hcat.same s1).lst,Za7 hrow,_,Dq,dp,_,_,rfl,p1,TP.cl,TP.nN,ZoV _ _ _ _ _,a1,l1,_,_,rfl,rfl,g1,p2,?_,fun a2 ha2=>?_⟩
  ·rw [List.length_map,List.length_map]
   unfold ZbU at hnl
   refine Nat.le_of_lt (ZbC (n:=4+(ps.getD li.part Zaj).name.length) ?_)
   lia
  have s2:Same H1 (upd H1 a2 (.lst (([112,117,116,32]:List Int).map V.int++(ps.getD li.part Zaj).name.map V.int))):=Zai ha2
  have g2:(upd H1 a2 (.lst (([112,117,116,32]:List Int).map V.int++(ps.getD li.part Zaj).name.map V.int))) a2=some (.lst (([112,117,116,32]:List Int).map V.int++(ps.getD li.part Zaj).name.map V.int)):=Zac
  generalize upd H1 a2 (.lst (([112,117,116,32]:List Int).map V.int++(ps.getD li.part Zaj).name.map V.int))=H2 at *
  have n1:=Zbp h1
  have n2:=Zbp h2
  have n3:=Zbp h3
  have n4:=Zbp h4
  have n5:=Zbp h5
  have l1:∀ (x y:Str),(x++y).length=x.length+y.length:=fun x y=>by rw [Za9,Za9,Za9,Zc7,List.length_append]
  have m1:(Str.ofString (toString ((li.colour:Nat):Int))).length≤2:=by rw [Za9,Zby]; exact n1
  have m2:(Str.ofString (toString ((li.x:Nat):Int))).length≤2:=by rw [Za9,Zby]; exact n2
  have m3:(Str.ofString (toString ((li.y:Nat):Int))).length≤2:=by rw [Za9,Zby]; exact n3
  have m4:(Str.ofString (toString ((li.z:Nat):Int))).length≤2:=by rw [Za9,Zby]; exact n4
  have m5:(Str.ofString (toString ((li.r:Nat):Int))).length≤2:=by rw [Za9,Zby]; exact n5
  have b1:(Str.ofString " ").length=1:=by rw [Za9,ZgD]; rfl
  have b2:(Str.ofString "\n").length=1:=by rw [Za9,ZgE]; rfl
  have b0:Str.empty.length=0:=rfl
  have sz:∀ {n:Nat},n≤1000→n≤sizeLine:=fun h=>Nat.le_of_lt (ZbC h)
  refine ⟨_,rfl,sz (by rw [l1]; lia),_,rfl,_,rfl,Zcf h1,_,rfl,sz (by rw [l1,l1]; lia),_,rfl,sz (by rw [l1,l1,l1]; lia),_,rfl,_,rfl,Zcf h2,_,rfl,sz (by rw [l1,l1,l1,l1]; lia),_,rfl,sz (by rw [l1,l1,l1,l1,l1]; lia),_,rfl,_,rfl,Zcf h3,_,rfl,sz (by rw [l1,l1,l1,l1,l1,l1]; lia),_,rfl,sz (by rw [l1,l1,l1,l1,l1,l1,l1]; lia),_,rfl,_,rfl,Zcf h4,_,rfl,sz (by rw [l1,l1,l1,l1,l1,l1,l1,l1]; lia),_,rfl,sz (by rw [l1,l1,l1,l1,l1,l1,l1,l1,l1]; lia),_,rfl,_,rfl,Zcf h5,_,rfl,sz (by rw [l1,l1,l1,l1,l1,l1,l1,l1,l1,l1]; lia),_,rfl,sz (by rw [l1,l1,l1,l1,l1,l1,l1,l1,l1,l1,l1]; lia),sz (by rw [l1,l1,l1,l1,l1,l1,l1,l1,l1,l1,l1]; lia),?_⟩
  have ecod:Zaw (Str.empty++Str.ofString " "++Str.ofString (toString ((li.colour:Nat):Int))++Str.ofString " "++Str.ofString (toString ((li.x:Nat):Int))++Str.ofString " "++Str.ofString (toString ((li.y:Nat):Int))++Str.ofString " "++Str.ofString (toString ((li.z:Nat):Int))++Str.ofString " "++Str.ofString (toString ((li.r:Nat):Int))++Str.ofString "\n")=[32]++Am.numI li.colour++[32]++Am.numI li.x++[32]++Am.numI li.y++[32]++Am.numI li.z++[32]++Am.numI li.r++[10]:=by
   simp only [Zc7,Zby,ZgD,ZgE,Znf]
   simp
  refine ⟨_,rfl,?_,fun a3 ha3=>?_⟩
  ·have e:∀ x:Str,x.cps.toList.length=x.length:=fun x=>Array.length_toList
   rw [e,l1,l1,l1,l1,l1,l1,l1,l1,l1,l1,l1]
   lia
  rw [ecod]
  generalize hcd:[32]++Am.numI li.colour++[32]++Am.numI li.x++[32]++Am.numI li.y++[32]++Am.numI li.z++[32]++Am.numI li.r++[10]=cd at *
  have hcl:cd.length≤16:=by
   rw [← hcd]
   simp only [List.length_append,List.length_cons,List.length_nil]
   lia
  have s3:Same H2 (upd H2 a3 (.lst (cd.map V.int))):=Zai ha3
  have g3:(upd H2 a3 (.lst (cd.map V.int))) a3=some (.lst (cd.map V.int)):=Zac
  generalize upd H2 a3 (.lst (cd.map V.int))=H3 at *
  refine ⟨a2,a3,_,_,rfl,rfl,s3 _ _ g2,g3,?_,fun a4 ha4=>kk a4 _ (s1.trans (s2.trans (s3.trans (Zai ha4)))) ((s1.trans (s2.trans s3)).free ha4) ?_⟩
  ·rw [List.length_append,List.length_map,List.length_map,List.length_map]
   refine Nat.le_of_lt (ZbC (n:=4+(ps.getD li.part Zaj).name.length+cd.length) ?_)
   unfold ZbU at hnl
   lia
  ·rw [Zac]
   unfold Am.lineI ZbU
   rw [hcd,List.map_append,List.map_append]
theorem scBText:FnScope ["name","parts","lines","text","line"] ["name","parts","lines"] (Zad Zfh):=⟨rfl,rfl,rfl,by decide +kernel,rfl,by decide +kernel,by decide +kernel⟩
theorem Zkr:Zaw "build "=[98,117,105,108,100,32]:=by decide +kernel
theorem Zks:Zaw "\n"=[10]:=by decide +kernel
theorem ZgF {l:Br.Line} {nm:List Int} (h1:l.colour<100) (h2:l.x<100) (h3:l.y<100) (h4:l.z<100) (h5:l.r<100) (hn:nm.length≤100):(Am.lineI nm l).length≤200:=by
 have n1:=Zbp h1
 have n2:=Zbp h2
 have n3:=Zbp h3
 have n4:=Zbp h4
 have n5:=Zbp h5
 unfold Am.lineI
 simp only [List.length_append,List.length_cons,List.length_nil]
 lia
theorem ZlJ {f Dq L fC fL:Addr} {fd fdC fdL:FuncData} (F:Fun K "build_text" "build_text" Zfh f fd) (GC:FnOk P w K mg base CX0 1 fC fdC ["signs"] spCodes) (bC:Def K mg "codes" fC fdC ["signs"])
  (GL:FnOk P w K mg base CX0 2 fL fdL ["parts","line"] (Zko Dq L)) (bL:Def K mg "line_text" fL fdL ["parts","line"]):FnOk P w K mg base CX0 3 f fd ["name","parts","lines"] (Zkp K Dq L):=by
 refine F.ok scBText (fun vs H Q E h=>?_) (fun cdv A outer s H vs Q E hr h=>?_)
 ·obtain ⟨n,l,kl,ns,qs,ks,ps,lis,rfl,_⟩:=h
  rfl
 ·obtain ⟨n,l,kl,ns,qs,ks,ps,lis,rfl,hn,hnl,hcat,hkl,hks,hlm,hbd,kk⟩:=h
  refine ⟨_,Zab (Zat (i:=3) scBText.nd rfl (Or.inl rfl) (ZaG Zhq (ZaG Zmw (Zak GC (hr.mono (by decide)) rfl bC.mg bC.kp bC.bd .nil Zar (Zaa Zbf Zae)) (pv 0)) (Zak GC (hr.mono (by decide)) rfl bC.mg bC.kp bC.bd .nil Zar (Zaa Zbf Zae)))) <|
   Zab (ZbO PassesOwn.never rfl (Zbc (pv 2)) (ZaS (i:=4) scBText.nd rfl (Or.inl rfl))
    (Zaf (ZaB (Zcv PySem.F.plainAttrs_list PySem.F.slot_list_extend PySem.F.type_list_extend Zi1 (pv 3) (Zaa (Zak GL hr rfl bL.mg bL.kp bL.bd .nil Zar (Zaa (pv 1) (Zaa (pv 4) Zae))) Zae))))) <|
   Zaf (Zav (pv 3)),?_⟩
  have hlen:ks.length=lis.length:=Paired.length hks
  refine ⟨_,rfl,(by decide +kernel),fun a1 ha1=>?_⟩
  rw [Zkr]
  have s1:Same H (upd H a1 (.lst (([98,117,105,108,100,32]:List Int).map V.int))):=Zai ha1
  have g1:(upd H a1 (.lst (([98,117,105,108,100,32]:List Int).map V.int))) a1=some (.lst (([98,117,105,108,100,32]:List Int).map V.int)):=Zac
  generalize upd H a1 (.lst (([98,117,105,108,100,32]:List Int).map V.int))=H1 at *
  refine ⟨_,rfl,a1,n,_,_,rfl,rfl,SqL.of g1,s1.seq hn,?_,fun a2 ha2=>?_⟩
  ·rw [List.length_map,List.length_map]
   exact Nat.le_of_lt (ZbC (n:=6+ns.length) (by lia))
  have s2:Same H1 (upd H1 a2 (.lst (([98,117,105,108,100,32]:List Int).map V.int++ns.map V.int))):=Zai ha2
  have g2:(upd H1 a2 (.lst (([98,117,105,108,100,32]:List Int).map V.int++ns.map V.int))) a2=some (.lst (([98,117,105,108,100,32]:List Int).map V.int++ns.map V.int)):=Zac
  generalize upd H1 a2 (.lst (([98,117,105,108,100,32]:List Int).map V.int++ns.map V.int))=H2 at *
  refine ⟨_,rfl,(by decide +kernel),fun a3 ha3=>?_⟩
  rw [Zks]
  have s3:Same H2 (upd H2 a3 (.lst (([10]:List Int).map V.int))):=Zai ha3
  have g3:(upd H2 a3 (.lst (([10]:List Int).map V.int))) a3=some (.lst (([10]:List Int).map V.int)):=Zac
  generalize upd H2 a3 (.lst (([10]:List Int).map V.int))=H3 at *
  refine ⟨a2,a3,_,_,rfl,rfl,s3 _ _ g2,g3,?_,fun a4 ha4=>?_⟩
  ·rw [List.length_append,List.length_map,List.length_map]
   exact Nat.le_of_lt (ZbC (n:=6+ns.length+1) (by lia))
  have s4:=s1.trans (s2.trans s3)
  have n4:H a4=none:=s4.free ha4
  have e4:([98,117,105,108,100,32]:List Int).map V.int++ns.map V.int++([10]:List Int).map V.int=([98,117,105,108,100,32]++ns++[10]).map V.int:=by rw [List.map_append,List.map_append]
  rw [e4]
  have hhl:([98,117,105,108,100,32]++ns++[10]:List Int).length≤200:=by
   simp only [List.length_append,List.length_cons,List.length_nil]
   lia
  generalize ([98,117,105,108,100,32]++ns++[10]:List Int)=hd at *
  refine ⟨_,rfl,kl,rfl,⟨_,SqL.of ((s4.trans (Zai ha4)) _ _ hkl)⟩,ZcN (K:=K) (a:=kl) (xs:=ks.map V.ref) (fun i σ H5=>∃ v4:Option V,σ=[some (.ref n),some (.ref l),some (.ref kl),some (.ref a4),v4]∧Same H H5∧H5 a4=some (.lst ((hd++(lis.take i).flatMap fun l=>Am.lineI (ZbU ps l) l).map V.int))∧(hd++(lis.take i).flatMap fun l=>Am.lineI (ZbU ps l) l).length≤200*(i+1)) ?_ ?_ ?_ ?_⟩
  ·refine ⟨none,rfl,s4.trans (Zai ha4),?_,?_⟩
   ·rw [Zac]
    simp
   ·simpa using hhl
  ·rintro i σ H5 _ ⟨v4,_,z,_⟩
   exact SqL.of (z _ _ hkl)
  ·rintro i x σ H5 hx ⟨v4,rfl,z,hz,hzl⟩
   have hi:i<lis.length:=by
    have:=(List.getElem?_eq_some_iff.mp hx).1
    rw [List.length_map,hlen] at this
    exact this
   have hli:lis[i]? = some lis[i]:=List.getElem?_eq_getElem hi
   obtain ⟨k,hk1,hk2⟩:=ZiE (ZaD (fun _ _ w=>LineAt.same w z) hks) hli
   have ex:x=V.ref k:=by rw [hk1] at hx; exact (Option.some.inj hx).symm
   subst ex
   obtain ⟨b1,b2,b3,b4,b5,b6,b7⟩:=hbd _ (List.mem_of_getElem? hli)
   have ll:=ZgF b2 b3 b4 b5 b6 b7
   refine ⟨_,rfl,.inl ⟨rfl,_,SqL.of hz⟩,_,rfl,_,rfl,l,k,qs,ps,lis[i],rfl,hcat.same z,hk2,b1,b2,b3,b4,b5,b6,b7,fun a5 H6 s6 n5 g5=>?_⟩
   refine ⟨a4,a5,_,_,rfl,rfl,s6 _ _ hz,g5,?_,?_⟩
   ·rw [List.length_map,List.length_map,sizeLine_eq]
    lia
   ·have et:lis.take (i+1)=lis.take i++[lis[i]]:=Zd1 hli
    refine ⟨_,rfl,ZaO (z.trans s6) n4,?_,?_⟩
    ·rw [Zac,et,List.flatMap_append,← List.append_assoc,List.map_append (l₁:=hd++_)]
     simp
    ·rw [et,List.flatMap_append,← List.append_assoc,List.length_append]
     have:([lis[i]].flatMap fun l=>Am.lineI (ZbU ps l) l).length=(Am.lineI (ZbU ps lis[i]) lis[i]).length:=by simp
     lia
  ·rintro σ H5 ⟨v4,rfl,z,hz,_⟩
   rw [List.length_map,hlen,List.take_length] at hz
   exact ⟨_,rfl,kk a4 H5 z hz⟩
theorem Zoo:FnScope ["text"] ["text"] (Zad ZiD):=⟨rfl,rfl,rfl,by decide +kernel,rfl,by decide +kernel,by decide +kernel⟩
theorem Zng {f C:Addr} {fd:FuncData} (F:Fun K "told_text" "told_text" ZiD f fd) (T:TxtR K mg C):FnOk P w K mg base CX0 1 f fd ["text"] spTold:=by
 refine F.ok Zoo (fun vs H Q E h=>?_) (fun cdv A outer s H vs Q E hr h=>?_)
 ·obtain ⟨a,ns,rfl,_⟩:=h
  rfl
 ·obtain ⟨a,ns,rfl,ha,hl,kk⟩:=h
  refine ⟨_,Zaf (Zav (ZaG Zhq (ZbA (Zaa (ZaH ZaC (by rfl) T.len PySem.boot_len (Zaa (pv 0) Zae)) Zae)) (pv 0))),?_⟩
  refine ⟨_,rfl,a,_,rfl,.inl (SqL.of ha),(by show 1≤sizeLine; decide),fun b hb=>?_⟩
  refine ⟨_,rfl,b,a,_,_,rfl,rfl,Zac,Zai hb _ _ ha,?_,fun b2 hb2=>kk b2 _ ?_⟩
  ·rw [List.length_map,sizeLine_eq]
   show 1+ns.length≤_
   lia
  ·rw [Zac,List.length_map]
   rfl
end
end Pr
namespace Pr
open PySem PySem.Spec PyProof.Rows L2 Pc Ly
set_option maxHeartbeats 4000000
set_option maxRecDepth 100000
abbrev Zet:Stmt:=(top 59)
abbrev Zfi:Stmt:=(top 60)
def Zcp (ps:List PartM) (li:Br.Line):Prop:=li.part<ps.length∧li.colour<100∧li.x<100∧li.y<100∧li.z<100∧li.r<100
def Zkt (Y Dq D:Addr):Sp:=fun vs H Q _=>∃ (y ld:Addr) (B m:Nat) (R:List Nat) (ps:List PartM) (F:Br.Field) (dx q l lp ls:Addr) (qs ts:List Addr),vs=[.ref y,.ref ld,.int B]∧LayAt Y Dq D H y ps F dx q l lp ls qs ts∧H ld=some (.dK (dOf (gF (ZaL ps) F) (Zb4 (ZaL ps) F R)))∧Dp.Reached (ZaL ps) F R∧B∈R∧0<B∧Dp.few (ZaL ps) F B=some m ∧
 ∀ (u:Addr) (p:Nat×Nat) (H':Hp),Same H H'→(Dp.steps (ZaL ps) F B).find? (Dp.isFew (ZaL ps) F B)=some p→H' u=some (.tup [V.int (p.1:Int),V.int (p.2:Int)])→Q (.ref u) H'
def Zku (Y Dq D L:Addr):Sp:=fun vs H Q _=>∃ (y ld:Addr) (m:Nat) (R:List Nat) (ps:List PartM) (F:Br.Field) (dx q l lp ls:Addr) (qs ts:List Addr),vs=[.ref y,.ref ld]∧LayAt Y Dq D H y ps F dx q l lp ls qs ts∧H ld=some (.dK (dOf (gF (ZaL ps) F) (Zb4 (ZaL ps) F R)))∧Dp.Reached (ZaL ps) F R∧Dp.few (ZaL ps) F (Dp.coloured F)=some m ∧
 ∀ (kl:Addr) (ks:List Addr) (H':Hp),Same H H'→H' kl=some (.lst (ks.map V.ref))→Paired (LineAt L H') ks (Dp.firstM (ZaL ps) F (Dp.coloured F) (Dp.coloured F))→(Dp.firstM (ZaL ps) F (Dp.coloured F) (Dp.coloured F)).length≤100→(∀ li∈Dp.firstM (ZaL ps) F (Dp.coloured F) (Dp.coloured F),Zcp ps li)→Q (.ref kl) H'
theorem ZbF {α:Type} (g:α→Bool):∀ (L:List α) {p:α},L.find? g=some p→∃ r,L.filter g=p::r
 | [],p,h=>by cases h
 | a::L,p,h=>by
  rw [List.find?_cons] at h
  by_cases hg:g a=true
  ·rw [hg] at h
   cases h
   exact ⟨L.filter g,by rw [List.filter_cons_of_pos hg]⟩
  ·rw [Bool.not_eq_true] at hg
   rw [hg] at h
   obtain ⟨r,hr⟩:=ZbF g L h
   exact ⟨r,by rw [List.filter_cons_of_neg (by rw [hg]; simp)]; exact hr⟩
section
variable {P:Program} {w:World} {K:PySem.W.Frag} {mg:Str→Option Value} {base:Heap}
theorem scFStep:FnScope ["laying","fewest","bare","step"] ["laying","fewest","bare"] (Zad Zet):=⟨rfl,rfl,rfl,by decide +kernel,rfl,by decide +kernel,by decide +kernel⟩
theorem ZlK {f Y Dq D fS:Addr} {fd fdS:FuncData} (F:Fun K "first_step_of_fewest" "first_step_of_fewest" Zet f fd) (GS:FnOk P w K mg base CX0 2 fS fdS ["laying","bare"] (ZfH Y Dq D)) (bS:Def K mg "steps" fS fdS ["laying","bare"]):
  FnOk P w K mg base CX0 3 f fd ["laying","fewest","bare"] (Zkt Y Dq D):=by
 refine F.ok scFStep (fun vs H Q E h=>?_) (fun cdv A outer s H vs Q E hr h=>?_)
 ·obtain ⟨y,ld,B,m,R,ps,F,dx,q,l,lp,ls,qs,ts,rfl,_⟩:=h
  rfl
 ·obtain ⟨y,ld,B,m,R,ps,F,dx,q,l,lp,ls,qs,ts,rfl,hL,hld,hR,hBR,h0,hm,kk⟩:=h
  have hu:=ZgV hr
  refine ⟨_,Zaf (Zav (ZbB Zbq (ZfW rfl scFStep.nd (Zbc (Zak GS hr rfl bS.mg bS.kp bS.bd .nil Zar (Zaa (pv 0) (Zaa (pv 2) Zae))))
   (Za4 (N:=["laying","fewest","bare","step"]) (sc:=Zad Zet) (own:=[("step",3)]) (by decide +kernel)) (fun s H Cc cl fp=>ZaS (i:=3) scFStep.nd rfl (Or.inl rfl))
   (fun s H Cc cl fp=>ZdU (Zaz Zew (ZkQ hu (pv 1) (ZbB (Zj9 (K:=K) rfl) (pv 3) Zau (fun _ _=>rfl)) ⟨rfl,rfl,rfl,rfl⟩) (ZaG Zbz (Zi6 hu (pv 1) (pv 2) (fun _ _=>rfl)) Zau) (ZaE _))) (fun s H Cc cl fp=>pv 3)) Zau (fun _ _=>rfl))),?_⟩
  refine ⟨_,rfl,_,rfl,y,B,ps,F,dx,q,l,lp,ls,qs,ts,rfl,hL,fun hz=>Dp.im_low (hR.im B hBR) hz,fun ln H4 s4 fN hN=>?_⟩
  obtain ⟨us,hu1,hu2⟩:=hN
  have hul:us.length=(Dp.steps (ZaL ps) F B).length:=Paired.length hu2
  have hsl:=ZgC hL.cat.few F B
  have hcl:=hR.cl B hBR
  obtain ⟨p,hp1,hp2,hp3⟩:=Am.few_step (by lia) hm
  have hfew:∀ r:Nat×Nat,Dp.isFew (ZaL ps) F B r=(((Dp.few (ZaL ps) F r.2).map fun n=>n+1)==some m):=fun r=>by unfold Dp.isFew; rw [hm]
  generalize hLL:Dp.steps (ZaL ps) F B=L at *
  refine ⟨ln,rfl,⟨_,SqL.of hu1⟩,fun D2 hD2=>Zbo (K:=K) (a:=ln) (xs:=us.map V.ref) (fun i=>Dp.isFew (ZaL ps) F B (L.getD i (0,0))) (fun _ i v=>v=V.ref (us.getD i 0)) hD2 (SqL.of hu1) (Zev (m:=64) (by rw [List.length_map]; lia) (by decide)) Zdd ?_ ?_⟩
  ·rintro j x H' Yy N hx hS _ hY hN
   have hj:j<us.length:=by
    have:=(List.getElem?_eq_some_iff.mp hx).1
    rw [List.length_map] at this
    exact this
   have ex:x=V.ref (us.getD j 0):=by
    rw [List.getElem?_map,List.getElem?_eq_getElem hj] at hx
    have hx:V.ref us[j]=x:=Option.some.inj hx
    rw [← hx,List.getD_eq_getElem?_getD,List.getElem?_eq_getElem hj]
    rfl
   subst ex
   have ht:=hS _ _ (ZbG (a0:=0) (b0:=(0,0)) hu2 (show j<L.length by lia))
   have hpm:L.getD j (0,0)∈L:=by
    rw [List.getD_eq_getElem?_getD,List.getElem?_eq_getElem (by lia)]
    exact List.getElem_mem _
   generalize hpq:L.getD j (0,0)=r at *
   have hd:=(s4.trans hS) _ _ hld
   have hg:=DGet.k (k:=(Sum.inl (r.2:Int):Key)) hd
   rw [Zbs] at hg
   have hgB:=DGet.k (k:=(Sum.inl (B:Int):Key)) hd
   have hk:=Zc6 (zs:=ZaL ps) (F:=F) (B:=r.2) (Or.inr (hcl r hpm))
   rw [Zbs,if_pos ((Zc6 (Or.inr hBR)).mpr (by rw [hm]; rfl))] at hgB
   have hv:gF (ZaL ps) F B=V.int ((m:Nat):Int):=by unfold gF; rw [hm]; rfl
   rw [hv] at hgB
   refine ⟨rfl,_,rfl,ld,rfl,.inl ⟨_,.inl hd⟩,_,rfl,_,_,_,_,rfl,rfl,SqT.of ht,(show atI _ ((1:Nat):Int)=some (V.int (r.2:Int)) from Za7 rfl),_,hg,_,rfl,_,rfl,ld,_,rfl,hgB,_,_,rfl,rfl,?_⟩
   have hcond:((if r.2∈Zb4 (ZaL ps) F R then some (gF (ZaL ps) F r.2) else none).getD V.non)=match Dp.few (ZaL ps) F r.2 with
     | some n=>V.int ((n:Nat):Int)
     | none=>V.non:=by
    cases e:Dp.few (ZaL ps) F r.2 with
    | none=>rw [if_neg (fun z=>by have:=hk.mp z; rw [e] at this; cases this)]; rfl
    | some n=>
     rw [if_pos (hk.mpr (by rw [e]; rfl))]
     unfold gF
     rw [e]
     rfl
   rw [hcond]
   have hfr:=hfew r
   cases e:Dp.few (ZaL ps) F r.2 with
   | none=>
    rw [e] at hfr
    exact ⟨rfl,_,rfl,Zjg (hN hfr _ (Same.refl _))⟩
   | some n=>
    rw [e] at hfr
    refine ⟨rfl,_,rfl,Zbn (fun h=>?_) (fun h=>?_)⟩
    ·have h1:=of_decide_eq_true h
     injection h1 with h1
     have:n+1=m:=by lia
     exact ⟨_,rfl,hY (by rw [hfr,← this]; simp) _ _ (Same.refl _) rfl⟩
    ·refine hN ?_ _ (Same.refl _)
     rw [hfr]
     apply Bool.eq_false_iff.mpr
     intro z
     have z:n+1=m:=by simpa using z
     exact h (decide_eq_true (by show V.int ((n:Nat):Int)=V.int (((m:Nat):Int)-1); congr 1; lia))
  ·intro H5 ys hS5 hys hpr
   rw [List.length_map,hul] at hpr
   rw [Zbv hpr] at hys
   have hu2':=ZaD (fun _ _ z=>hS5 _ _ z) hu2
   obtain ⟨ts2,ht1,ht2⟩:=Ze5 (Dp.isFew (ZaL ps) F B) hu2' hys
   obtain ⟨r,hr⟩:=ZbF _ L hp1
   rw [hr] at ht2
   cases ht2 with
   | cons h1 h2=>
    exact ⟨D2,_,_,_,rfl,rfl,SqL.of ht1,(show atI _ ((0:Nat):Int)=some (V.ref _) from Za7 rfl),kk _ p H5 (s4.trans hS5) hp1 h1⟩
theorem scFirst:FnScope ["laying","fewest","lines","bare","step"] ["laying","fewest"] (Zad Zfi):=⟨rfl,rfl,rfl,by decide +kernel,rfl,by decide +kernel,by decide +kernel⟩
theorem Zop {D:Addr} {H:Hp} {q:Addr} {F:Br.Field} (h:FieldAt D H q F) {k c:Nat} (hk:k<Dp.area F) (hc:Dp.col F k=some c):c≤9:=by
 obtain ⟨dx,l,ps,_,_,hf,hpl,he⟩:=h
 have hlen:=Zb3 hf hpl
 have hget:ps[k]? = some (ps.getD k 0):=by rw [List.getD_eq_getElem?_getD,List.getElem?_eq_getElem (by lia)]; rfl
 rcases Zl9 hpl he hget with ⟨_,e⟩ | ⟨_,n,hn,e,_⟩
 ·rw [e] at hc; cases hc
 ·rw [e] at hc
  cases hc
  exact hn
theorem Zkv {D:Addr} {H:Hp} {q:Addr} {ps:List PartM} {F:Br.Field} (h:FieldAt D H q F) (hok:∀ p∈ps,PartOk p) {B:Nat} (hlow:Bm.low B<Dp.area F) {p:Nat×Nat} (hp:p∈Dp.steps (ZaL ps) F B):Zcp ps (Dp.lineAt F B p.1):=by
 obtain ⟨h0,hc,_,z,hz,hze⟩:=Am.step_facts (Am.sok hok) h.ok hp
 have ha:=Zdt h.ok
 have hW:=h.ok.w1
 obtain ⟨c,hcc⟩:=Option.isSome_iff_exists.mp hc
 have h9:=Zop h hlow hcc
 have hm:Bm.low B%F.wide<F.wide:=Nat.mod_lt _ hW
 have hd:Bm.low B / F.wide≤Bm.low B:=Nat.div_le_self _ _
 have h6:=h.ok.w6
 refine ⟨?_,?_,?_,?_,?_,?_⟩
 ·obtain ⟨n,hn,rfl⟩:=List.mem_map.mp hz
  show p.1<ps.length
  rw [← hze]
  exact Zdu ps n hn
 ·show (Dp.col F (Bm.low B)).getD 0<100
  rw [hcc]
  show c<100
  lia
 ·show Bm.low B%F.wide<100
  lia
 ·show Bm.low B / F.wide<100
  lia
 ·show 0<100; decide
 ·show 0<100; decide
theorem ZlL {f Y Dq D L fS fA:Addr} {fd fdS fdA:FuncData} (F:Fun K "first_of_fewest" "first_of_fewest" Zfi f fd) (TY:TxtY K mg Y) (GS:FnOk P w K mg base CX0 3 fS fdS ["laying","fewest","bare"] (Zkt Y Dq D)) (bS:Def K mg "first_step_of_fewest" fS fdS ["laying","fewest","bare"])
  (GA:FnOk P w K mg base CX0 3 fA fdA ["laying","bare","plate"] (ZhY Y Dq D L)) (bA:Def K mg "line_at" fA fdA ["laying","bare","plate"]):FnOk P w K mg base CX0 4 f fd ["laying","fewest"] (Zku Y Dq D L):=by
 refine F.ok scFirst (fun vs H Q E h=>?_) (fun cdv A outer s H vs Q E hr h=>?_)
 ·obtain ⟨y,ld,m,R,ps,F,dx,q,l,lp,ls,qs,ts,rfl,_⟩:=h
  rfl
 ·obtain ⟨y,ld,m,R,ps,F,dx,q,l,lp,ls,qs,ts,rfl,hL,hld,hR,hm,kk⟩:=h
  refine ⟨_,Zab (Zat (i:=2) scFirst.nd rfl (Or.inl rfl) (ZbA Zae)) <| Zab (Zat (i:=3) scFirst.nd rfl (Or.inl rfl) (Zam (pv 0) rfl)) <|
   Zab (Zcg PassesOwn.never (Zaz Zc9 (pv 3) Zau (ZaE _))
    (Zab (Zat (i:=4) scFirst.nd rfl (Or.inl rfl) (Zak GS hr rfl bS.mg bS.kp bS.bd .nil Zar (Zaa (pv 0) (Zaa (pv 1) (Zaa (pv 3) Zae))))) <|
    Zab (ZaB (Zcv PySem.F.plainAttrs_list PySem.F.slot_list_append PySem.F.type_list_append ZaW (pv 2) (Zaa (Zak GA hr rfl bA.mg bA.kp bA.bd .nil Zar (Zaa (pv 0) (Zaa (pv 3) (Zaa (ZbB ZcP (pv 4) Zau (fun _ _=>rfl)) Zae)))) Zae))) <|
    Zaf (Zat (i:=3) scFirst.nd rfl (Or.inl rfl) (ZbB ZcP (pv 4) Zau (fun _ _=>rfl))))) <|
   Zaf (Zav (pv 2)),?_⟩
  have hok:=hL.cat.ok
  have hf:=hL.fld.ok
  have ha72:=Zdt hf
  refine ⟨Nat.zero_le _,fun kl hkl=>?_⟩
  have s1:Same H (upd H kl (.lst [])):=Zai hkl
  refine ⟨_,rfl,y,Y,dx,_,_,rfl,s1 _ _ hL.obj,TY.cl,TY.nC,Zow _ _ _ _ _,?_⟩
  generalize hGoal:Dp.firstM (ZaL ps) F (Dp.coloured F) (Dp.coloured F)=goal at *
  refine ZbP (fun σ H2=>∃ (ks:List Addr) (v3 v4:Option V),σ=[some (.ref y),some (.ref ld),some (.ref kl),v3,v4]∧Same H H2∧H2 kl=some (.lst (ks.map V.ref))∧Paired (LineAt L H2) ks goal∧goal.length≤100∧∀ li∈goal,Zcp ps li) (fun Dn hD=>?_) ?_
  ·refine ⟨fun mm σ H2=>∃ (B m':Nat) (ks:List Addr) (acc:List Br.Line) (v4:Option V),σ=[some (.ref y),some (.ref ld),some (.ref kl),some (.int B),v4]∧Same H H2∧H2 kl=some (.lst (ks.map V.ref))∧Paired (LineAt L H2) ks acc∧B∈R∧Dp.few (ZaL ps) F B=some m'∧acc.length≤Dp.area F∧(0<B→acc.length≤Bm.low B)∧(∀ li∈acc,Zcp ps li)∧B=mm∧goal=acc++Dp.firstM (ZaL ps) F B B,
    ⟨_,Dp.coloured F,m,[],[],none,rfl,s1,Zac,.nil,hR.start,hm,Nat.zero_le _,fun _=>Nat.zero_le _,(fun li hli=>by cases hli),rfl,by rw [List.nil_append]; exact hGoal.symm⟩,?_⟩
   rintro mm σ H2 ⟨B,m',ks,acc,v4,rfl,z1,z2,z3,z4,z5,z6,z7,z8,rfl,z9⟩
   refine ⟨_,rfl,_,_,rfl,rfl,_,rfl,Zbn (fun h=>?_) (fun h=>?_)⟩
   ·have h0:0<B:=by have:=of_decide_eq_true h; lia
    have hlow:=Dp.im_low (hR.im B z4) h0
    refine ⟨fun σ' H'=>∃ mm',mm'<B∧∃ (B m':Nat) (ks:List Addr) (acc:List Br.Line) (v4:Option V),σ'=[some (.ref y),some (.ref ld),some (.ref kl),some (.int B),v4]∧Same H H'∧H' kl=some (.lst (ks.map V.ref))∧Paired (LineAt L H') ks acc∧B∈R∧Dp.few (ZaL ps) F B=some m'∧acc.length≤Dp.area F∧(0<B→acc.length≤Bm.low B)∧(∀ li∈acc,Zcp ps li)∧B=mm'∧goal=acc++Dp.firstM (ZaL ps) F B B,fun _ _ z=>z,?_⟩
    refine ⟨_,rfl,_,rfl,_,rfl,y,ld,B,m',R,ps,F,dx,q,l,lp,ls,qs,ts,rfl,hL.same z1,z1 _ _ hld,hR,z4,h0,z5,fun u p H3 s3 hp hu=>?_⟩
    have hpm:=List.mem_of_find?_eq_some hp
    obtain ⟨_,hcol,hlt,_⟩:=Am.step_facts (Am.sok hok) hf hpm
    have hfp:(Dp.few (ZaL ps) F p.2).isSome=true:=by
     obtain ⟨p',e1,_,e3⟩:=Am.few_step (by lia) z5
     rw [hp] at e1
     cases e1
     exact e3
    obtain ⟨m2,hm2⟩:=Option.isSome_iff_exists.mp hfp
    have hstep:=Am.first_step (by lia) z5 hp
    refine ⟨_,rfl,.inl ⟨rfl,_,SqL.of (s3 _ _ z2)⟩,_,rfl,_,rfl,_,rfl,u,_,_,_,rfl,rfl,SqT.of hu,(show atI _ ((0:Nat):Int)=some (V.int (p.1:Int)) from Za7 rfl),y,B,p.1,ps,F,dx,q,l,lp,ls,qs,ts,rfl,hL.same (z1.trans s3),h0,hlow,hcol,fun k H4 s4 hk hk0=>?_⟩
    have z2':=s4 _ _ (s3 _ _ z2)
    have hu4:=s4 _ _ hu
    have hlen:ks.length=acc.length:=Paired.length z3
    refine ⟨kl,_,_,rfl,rfl,z2',by rw [List.length_map]; exact ZbC (by lia),?_⟩
    have nku:u≠kl:=ZaF hu4 z2' (by intro z; cases z)
    refine ⟨_,rfl,u,_,_,_,rfl,rfl,SqT.of (by rw [Zag nku]; exact hu4),(show atI _ ((1:Nat):Int)=some (V.int (p.2:Int)) from Za7 rfl),?_⟩
    refine ⟨p.2,Dp.steps_lt hpm,p.2,m2,ks++[k],acc++[Dp.lineAt F B p.1],some (.ref u),rfl,ZaO (z1.trans (s3.trans s4)) hkl,by rw [Zac]; simp,?_,hR.cl B z4 p hpm,hm2,?_,?_,?_,rfl,?_⟩
    ·refine ZbX (ZaD (fun _ _ w=>((w.same (s3.trans s4)).put z2')) z3) (hk.put z2')
    ·rw [List.length_append]
     have:=z7 h0
     show acc.length+1≤_
     lia
    ·intro h2
     rw [List.length_append]
     have:=z7 h0
     have:=hlt h2
     show acc.length+1≤_
     lia
    ·intro li hli
     rcases List.mem_append.mp hli with e | e
     ·exact z8 li e
     ·rw [List.mem_singleton.mp e]
      exact Zkv hL.fld hok hlow hpm
    ·rw [z9,hstep]
     simp
   ·have h0:B=0:=by
     have:¬ (0:Int)<(B:Int):=fun z=>h (decide_eq_true z)
     lia
    rw [h0,Dp.firstM_zero,List.append_nil] at z9
    refine hD _ _ ⟨ks,_,_,rfl,z1,z2,by rw [z9]; exact z3,by rw [z9]; lia,by rw [z9]; exact z8⟩
  ·rintro σ H2 ⟨ks,v3,v4,rfl,z1,z2,z3,z4,z5⟩
   exact ⟨_,rfl,kk kl ks H2 z1 z2 z3 z4 z5⟩
end
end Pr
namespace Pr
open PySem PySem.Spec PyProof.Rows L2 Pc Ly
set_option maxHeartbeats 4000000
set_option maxRecDepth 100000
abbrev Zdx:Stmt:=(top 75)
def spFirstC (K:PySem.W.Frag):Sp:=fun vs H Q _=>∃ (a b d:Addr) (c f sn:List Int),vs=[.ref a,.ref b,.ref d]∧SqL K H a (c.map V.int)∧SqL K H b (f.map V.int)∧SqL K H d (sn.map V.int)∧Sm.InB c∧Sm.InB f∧Sm.InB sn∧∀ (l:Addr) (H':Hp),H' l=some (.lst ((PyWqasca.first c f sn).map V.int))→Q (.ref l) H'
theorem ZiG {H:Hp} {x dx C:Addr} (nx:H x=none) (nd:H dx=none):Same H (upd (upd H dx (.own x)) x (.ins C dx [])):=fun b o e=>by
 rw [Zag (Zao e nx),Zag (Zao e nd)]
 exact e
section
variable {P:Program} {w:World} {K:PySem.W.Frag} {mg:Str→Option Value} {base:Heap}
theorem scFirstC:FnScope ["c","f","s","given","laying","lines"] ["c","f","s"] (Zad Zdx):=⟨rfl,rfl,rfl,by decide +kernel,rfl,by decide +kernel,by decide +kernel⟩
theorem ZdG {sn:List Int} (h:Sm.InB sn) (hn:Zb1 sn=true):sn.length≤100:=by
 rw [← Sm.nameOk_is h] at hn
 unfold Br.longName at hn
 have h2:=(Bool.and_eq_true_iff.mp hn).2
 have h3:=of_decide_eq_true (Bool.and_eq_true_iff.mp h2).1
 rw [List.length_map] at h3
 lia
theorem Zkw {f Y Dq D L G fB fR fI fC fT fX fF:Addr} {fd fdB fdR fdI fdC fdT fdX fdF:FuncData} (F:Fun K "first" "first" Zdx f fd) (TG:TxtG K mg G) (TY:TxtY K mg Y) (GB:FnOk P w K mg base CX0 5 fB fdB ["s"] (Zkn K)) (bB:Def K mg "is_build_name" fB fdB ["s"]) (hnn:∃ t,mg "NO_NAME"=some (.int (-1) t)) (GR:FnOk P w K mg base CX0 9 fR fdR ["c","f"] (ZhX K Dq D G)) (bR:Def K mg "read_given" fR fdR ["c","f"])
  (MY:Mk K Y fI) (GI:FnOk P w K mg base CX0 4 fI fdI ["self","parts","field"] (Zki Y Dq D)) (bI:Binds K fdI ["self","parts","field"] []) (GC:FnOk P w K mg base CX0 4 fC fdC ["laying"] (ZhW Y Dq D)) (bC:Def K mg "fewest_lines" fC fdC ["laying"]) (hno:∃ t,mg "NO_COVER"=some (.int (-3) t))
  (GF:FnOk P w K mg base CX0 4 fF fdF ["laying","fewest"] (Zku Y Dq D L)) (bF:Def K mg "first_of_fewest" fF fdF ["laying","fewest"]) (GX:FnOk P w K mg base CX0 3 fX fdX ["name","parts","lines"] (Zkp K Dq L)) (bX:Def K mg "build_text" fX fdX ["name","parts","lines"]) (GT:FnOk P w K mg base CX0 1 fT fdT ["text"] spTold) (bT:Def K mg "told_text" fT fdT ["text"]):
  FnOk P w K mg base CX0 10 f fd ["c","f","s"] (spFirstC K):=by
 refine F.ok scFirstC (fun vs H Q E h=>?_) (fun cdv A outer s H vs Q E hr h=>?_)
 ·obtain ⟨a,b,d,c,f,sn,rfl,_⟩:=h
  rfl
 ·obtain ⟨a,b,d,c,fl,sn,rfl,hc,hf,hd,hcb,hfb,hsb,k⟩:=h
  have hu:=ZgV hr
  obtain ⟨t1,g1⟩:=hno
  obtain ⟨t2,g2⟩:=hnn
  refine ⟨_,Zab (Za6 (ZiM (Zcr (Zak GB (hr.mono (by decide)) (by rfl) bB.mg bB.kp bB.bd .nil Zar (Zaa (pv 2) Zae)))) (Zaf (Zav (ZbA (Zaa (Zax (v:=.int (-1)) rfl g2 ⟨t2,rfl⟩) Zae)))) ZaA) <|
   Zab (Zat (i:=3) scFirstC.nd rfl (Or.inl rfl) (Zak GR hr rfl bR.mg bR.kp bR.bd .nil Zar (Zaa (pv 0) (Zaa (pv 1) Zae)))) <|
   Zab (Za6 (Zaz ZfO (Zam (pv 3) rfl) Zau (ZaE _)) (Zaf (Zav (ZbA (Zaa (Zam (pv 3) rfl) Zae)))) ZaA) <|
   Zab (Zat (i:=4) scFirstC.nd rfl (Or.inl rfl) (ZbM MY GI (hr.mono (by decide)) rfl TY.mgC bI .nil Zar (Zaa (Zam (pv 3) rfl) (Zaa (Zam (pv 3) rfl) Zae)))) <|
   Zab (Zat (i:=5) scFirstC.nd rfl (Or.inl rfl) (Zak GC (hr.mono (by decide)) rfl bC.mg bC.kp bC.bd .nil Zar (Zaa (pv 4) Zae))) <|
   Zab (Za6 (ZfK (ZdX hu (Zam (pv 4) rfl) (pv 5))) (Zaf (Zav (ZbA (Zaa (Zax (v:=.int (-3)) rfl g1 ⟨t1,rfl⟩) Zae)))) ZaA) <|
   Zaf (Zav (Zak GT (hr.mono (by decide)) rfl bT.mg bT.kp bT.bd .nil Zar (Zaa (Zak GX (hr.mono (by decide)) rfl bX.mg bX.kp bX.bd .nil Zar (Zaa (pv 2) (Zaa (Zam (pv 3) rfl) (Zaa (Zak GF (hr.mono (by decide)) rfl bF.mg bF.kp bF.bd .nil Zar (Zaa (pv 4) (Zaa (pv 5) Zae))) Zae)))) Zae))),?_⟩
  refine ⟨_,rfl,d,sn,rfl,hd,fun H0 s0=>⟨_,rfl,?_⟩⟩
  cases hname:Zb1 sn with
  | false=>
   refine Zh7 ⟨by show 1≤sizeLine; decide,fun l hl=>k l _ ?_⟩
   rw [Zac,Am.first_name hsb hname]
   rfl
  | true=>
  refine Zjg ?_
  refine ⟨_,rfl,_,rfl,a,b,c,fl,rfl,s0.seq hc,s0.seq hf,hcb,hfb,fun g z H1 s1 hn hg=>?_,fun g l q qs Fd H1 s1 hy hcat hfld hFi hg=>?_⟩
  ·obtain ⟨dx,hg⟩:=hg
   refine ⟨_,rfl,g,G,dx,_,_,rfl,hg,TG.cl,TG.nR,ZjU _ _ _ _,_,_,rfl,rfl,_,rfl,?_⟩
   rw [decide_eq_true hn.neg]
   refine Zh7 ⟨_,rfl,g,G,dx,_,_,rfl,hg,TG.cl,TG.nR,ZjU _ _ _ _,by show 1≤sizeLine; decide,fun l hl=>k l _ ?_⟩
   rw [Zac,Am.first_no hcb hfb hsb hname hn]
   rfl
  ·obtain ⟨dx,hg⟩:=hg
   refine ⟨_,rfl,g,G,dx,_,_,rfl,hg,TG.cl,TG.nR,ZjU _ _ _ _,_,_,rfl,rfl,_,rfl,?_⟩
   rw [decide_eq_false (by decide)]
   refine Zjg ?_
   refine ⟨_,rfl,g,G,dx,_,_,rfl,hg,TG.cl,TG.nP,ZmT _ _ _ _,_,rfl,g,G,dx,_,_,rfl,hg,TG.cl,TG.nF,Zo7 _ _ _ _,fun y dy hy0 hdy hne=>?_⟩
   have sm:=ZiG (C:=Y) hy0 hdy
   have hqy:q≠y:=by
    obtain ⟨_,_,_,e,_⟩:=id hfld
    exact Zao e hy0
   refine ⟨y,dy,l,q,qs,_,Fd,rfl,Zac,hcat.same sm,hfld.same sm,hqy,fun lp ls ts H2 hL k2=>⟨rfl,?_⟩⟩
   have s2:Same H1 H2:=Same.made hy0 hdy k2
   refine ⟨_,rfl,y,_,Fd,dy,q,l,lp,ls,qs,ts,rfl,hL,fun ld R H3 s3 _ hdd hR=>?_⟩
   have hL3:=hL.same s3
   have hmem:=Zc6 (zs:=ZaL (Zbk c ⟨0,false⟩).1) (F:=Fd) (Or.inr hR.start)
   have hget:=DGet.k (k:=(Sum.inl ((Dp.coloured Fd:Nat):Int):Key)) hdd
   rw [Zbs] at hget
   refine ⟨_,rfl,y,Y,dy,_,_,rfl,hL3.obj,TY.cl,TY.nC,Zow _ _ _ _ _,_,rfl,ld,_,rfl,hget,_,rfl,?_⟩
   cases hq:Dp.few (ZaL (Zbk c ⟨0,false⟩).1) Fd (Dp.coloured Fd) with
   | none=>
    have hnz:¬ Dp.coloured Fd∈Zb4 (ZaL (Zbk c ⟨0,false⟩).1) Fd R:=fun z=>by
     have:=hmem.mp z
     rw [hq] at this
     cases this
    rw [if_neg hnz]
    refine Zh7 ⟨by show 1≤sizeLine; decide,fun a2 ha2=>k a2 _ ?_⟩
    rw [Zac,Am.first_none hcb hfb hsb hname hy hFi hq]
    rfl
   | some m=>
    have hyz:Dp.coloured Fd∈Zb4 (ZaL (Zbk c ⟨0,false⟩).1) Fd R:=hmem.mpr (by rw [hq]; rfl)
    rw [if_pos hyz]
    refine Zjg ?_
    have sA:=s2.trans s3
    refine ⟨_,rfl,_,rfl,g,G,dx,_,_,rfl,sA _ _ hg,TG.cl,TG.nP,ZmT _ _ _ _,_,rfl,_,rfl,y,ld,m,R,_,Fd,dy,q,l,lp,ls,qs,ts,rfl,hL3,hdd,hR,hq,fun kl ks H4 s4 h1 h2 h3 h4=>?_⟩
    have sF:=s0.trans (s1.trans (sA.trans s4))
    have hnames:=Am.catM_names c ⟨0,false⟩
    have hnlen:∀ i,i<(Zbk c ⟨0,false⟩).1.length→((Zbk c ⟨0,false⟩).1.getD i Zaj).name.length≤100:=fun i hi=>by
     have:=hnames ((Zbk c ⟨0,false⟩).1.getD i Zaj) (by rw [List.getD_eq_getElem?_getD,List.getElem?_eq_getElem hi]; exact List.getElem_mem _)
     lia
    refine ⟨d,l,kl,sn,qs,ks,_,_,rfl,sF.seq hd,ZdG hsb hname,hcat.same (sA.trans s4),h1,h2,by lia,fun li hli=>?_,fun a5 H5 s5 h5=>?_⟩
    ·obtain ⟨q1,q2,q3,q4,q5,q6⟩:=h4 li hli
     exact ⟨q1,q2,q3,q4,q5,q6,hnlen _ q1⟩
    have hyes:=Am.first_yes hcb hfb hsb hname hy hFi hq fun li hli=>(h4 li hli).1
    refine ⟨a5,_,rfl,h5,?_,fun a6 H6 h6=>k a6 H6 ?_⟩
    ·have hl:=ZdG hsb hname
     have key:∀ (ls:List Br.Line),(∀ li∈ls,Zcp (Zbk c ⟨0,false⟩).1 li)→(ls.flatMap fun l=>Am.lineI (ZbU (Zbk c ⟨0,false⟩).1 l) l).length≤200*ls.length:=by
      intro ls
      induction ls with
      | nil=>intro _; exact Nat.le_refl _
      | cons x r ih=>
       intro hx
       rw [List.flatMap_cons,List.length_append,List.length_cons]
       have:=ih fun li hli=>hx li (List.mem_cons_of_mem _ hli)
       obtain ⟨q1,q2,q3,q4,q5,q6⟩:=hx x List.mem_cons_self
       have:=ZgF q2 q3 q4 q5 q6 (nm:=ZbU (Zbk c ⟨0,false⟩).1 x) (hnlen _ q1)
       lia
     have:=key _ h4
     rw [List.length_append,List.length_append,List.length_append]
     show 6+sn.length+1+_<2000000
     lia
    ·rw [h6,hyes]
     rfl
end
end Pr
namespace Pr
open PySem PySem.Spec PyProof.Rows L2 Pc
set_option maxHeartbeats 4000000
set_option maxRecDepth 100000
theorem all_mk {Pg:Program} {w:World} {K:PySem.W.Frag} {h:Heap} {mg:Str→Option Value} {fa C Dp Df Dl Dy Gv r_init r_has r_sees r_take r_signs r_num r_name r_rows r_end p_init f_init l_init y_init g_init f_44 f_32 f_13 f_40 f_x_of f_y_of f_z_of f_1 f_5 f_26 f_14 f_15 f_27 f_4 f_6 f_16 f_17 f_35 f_29 f_30 f_36 f_20 f_41 f_37 f_24 f_45 f_21 f_22 f_42 f_2 f_10 f_43 f_3 f_31 f_39 f_first:Addr}
  {odr_init anr_init:Option Addr} {slr_init:Array (Option Value)} {ocr_init kVr_init dcr_init pmr_init cdr_init ctr_init:Value}
  {odr_has anr_has:Option Addr} {slr_has:Array (Option Value)} {ocr_has kVr_has dcr_has pmr_has cdr_has ctr_has:Value}
  {odr_sees anr_sees:Option Addr} {slr_sees:Array (Option Value)} {ocr_sees kVr_sees dcr_sees pmr_sees cdr_sees ctr_sees:Value}
  {odr_take anr_take:Option Addr} {slr_take:Array (Option Value)} {ocr_take kVr_take dcr_take pmr_take cdr_take ctr_take:Value}
  {odr_signs anr_signs:Option Addr} {slr_signs:Array (Option Value)} {ocr_signs kVr_signs dcr_signs pmr_signs cdr_signs ctr_signs:Value}
  {odr_num anr_num:Option Addr} {slr_num:Array (Option Value)} {ocr_num kVr_num dcr_num pmr_num cdr_num ctr_num:Value}
  {odr_name anr_name:Option Addr} {slr_name:Array (Option Value)} {ocr_name kVr_name dcr_name pmr_name cdr_name ctr_name:Value}
  {odr_rows anr_rows:Option Addr} {slr_rows:Array (Option Value)} {ocr_rows kVr_rows dcr_rows pmr_rows cdr_rows ctr_rows:Value}
  {odr_end anr_end:Option Addr} {slr_end:Array (Option Value)} {ocr_end kVr_end dcr_end pmr_end cdr_end ctr_end:Value}
  {odp_init anp_init:Option Addr} {slp_init:Array (Option Value)} {ocp_init kVp_init dcp_init pmp_init cdp_init ctp_init:Value}
  {odf_init anf_init:Option Addr} {slf_init:Array (Option Value)} {ocf_init kVf_init dcf_init pmf_init cdf_init ctf_init:Value}
  {odl_init anl_init:Option Addr} {sll_init:Array (Option Value)} {ocl_init kVl_init dcl_init pml_init cdl_init ctl_init:Value}
  {ody_init any_init:Option Addr} {sly_init:Array (Option Value)} {ocy_init kVy_init dcy_init pmy_init cdy_init cty_init:Value}
  {odg_init ang_init:Option Addr} {slg_init:Array (Option Value)} {ocg_init kVg_init dcg_init pmg_init cdg_init ctg_init:Value}
  {odf_44 anf_44:Option Addr} {slf_44:Array (Option Value)} {ocf_44 kVf_44 dcf_44 pmf_44 cdf_44 ctf_44:Value}
  {odf_32 anf_32:Option Addr} {slf_32:Array (Option Value)} {ocf_32 kVf_32 dcf_32 pmf_32 cdf_32 ctf_32:Value}
  {odf_13 anf_13:Option Addr} {slf_13:Array (Option Value)} {ocf_13 kVf_13 dcf_13 pmf_13 cdf_13 ctf_13:Value}
  {odf_40 anf_40:Option Addr} {slf_40:Array (Option Value)} {ocf_40 kVf_40 dcf_40 pmf_40 cdf_40 ctf_40:Value}
  {odf_x_of anf_x_of:Option Addr} {slf_x_of:Array (Option Value)} {ocf_x_of kVf_x_of dcf_x_of pmf_x_of cdf_x_of ctf_x_of:Value}
  {odf_y_of anf_y_of:Option Addr} {slf_y_of:Array (Option Value)} {ocf_y_of kVf_y_of dcf_y_of pmf_y_of cdf_y_of ctf_y_of:Value}
  {odf_z_of anf_z_of:Option Addr} {slf_z_of:Array (Option Value)} {ocf_z_of kVf_z_of dcf_z_of pmf_z_of cdf_z_of ctf_z_of:Value}
  {odf_1 anf_1:Option Addr} {slf_1:Array (Option Value)} {ocf_1 kVf_1 dcf_1 pmf_1 cdf_1 ctf_1:Value}
  {odf_5 anf_5:Option Addr} {slf_5:Array (Option Value)} {ocf_5 kVf_5 dcf_5 pmf_5 cdf_5 ctf_5:Value}
  {odf_26 anf_26:Option Addr} {slf_26:Array (Option Value)} {ocf_26 kVf_26 dcf_26 pmf_26 cdf_26 ctf_26:Value}
  {odf_14 anf_14:Option Addr} {slf_14:Array (Option Value)} {ocf_14 kVf_14 dcf_14 pmf_14 cdf_14 ctf_14:Value}
  {odf_15 anf_15:Option Addr} {slf_15:Array (Option Value)} {ocf_15 kVf_15 dcf_15 pmf_15 cdf_15 ctf_15:Value}
  {odf_27 anf_27:Option Addr} {slf_27:Array (Option Value)} {ocf_27 kVf_27 dcf_27 pmf_27 cdf_27 ctf_27:Value}
  {odf_4 anf_4:Option Addr} {slf_4:Array (Option Value)} {ocf_4 kVf_4 dcf_4 pmf_4 cdf_4 ctf_4:Value}
  {odf_6 anf_6:Option Addr} {slf_6:Array (Option Value)} {ocf_6 kVf_6 dcf_6 pmf_6 cdf_6 ctf_6:Value}
  {odf_16 anf_16:Option Addr} {slf_16:Array (Option Value)} {ocf_16 kVf_16 dcf_16 pmf_16 cdf_16 ctf_16:Value}
  {odf_17 anf_17:Option Addr} {slf_17:Array (Option Value)} {ocf_17 kVf_17 dcf_17 pmf_17 cdf_17 ctf_17:Value}
  {odf_35 anf_35:Option Addr} {slf_35:Array (Option Value)} {ocf_35 kVf_35 dcf_35 pmf_35 cdf_35 ctf_35:Value}
  {odf_29 anf_29:Option Addr} {slf_29:Array (Option Value)} {ocf_29 kVf_29 dcf_29 pmf_29 cdf_29 ctf_29:Value}
  {odf_30 anf_30:Option Addr} {slf_30:Array (Option Value)} {ocf_30 kVf_30 dcf_30 pmf_30 cdf_30 ctf_30:Value}
  {odf_36 anf_36:Option Addr} {slf_36:Array (Option Value)} {ocf_36 kVf_36 dcf_36 pmf_36 cdf_36 ctf_36:Value}
  {odf_20 anf_20:Option Addr} {slf_20:Array (Option Value)} {ocf_20 kVf_20 dcf_20 pmf_20 cdf_20 ctf_20:Value}
  {odf_41 anf_41:Option Addr} {slf_41:Array (Option Value)} {ocf_41 kVf_41 dcf_41 pmf_41 cdf_41 ctf_41:Value}
  {odf_37 anf_37:Option Addr} {slf_37:Array (Option Value)} {ocf_37 kVf_37 dcf_37 pmf_37 cdf_37 ctf_37:Value}
  {odf_24 anf_24:Option Addr} {slf_24:Array (Option Value)} {ocf_24 kVf_24 dcf_24 pmf_24 cdf_24 ctf_24:Value}
  {odf_45 anf_45:Option Addr} {slf_45:Array (Option Value)} {ocf_45 kVf_45 dcf_45 pmf_45 cdf_45 ctf_45:Value}
  {odf_21 anf_21:Option Addr} {slf_21:Array (Option Value)} {ocf_21 kVf_21 dcf_21 pmf_21 cdf_21 ctf_21:Value}
  {odf_22 anf_22:Option Addr} {slf_22:Array (Option Value)} {ocf_22 kVf_22 dcf_22 pmf_22 cdf_22 ctf_22:Value}
  {odf_42 anf_42:Option Addr} {slf_42:Array (Option Value)} {ocf_42 kVf_42 dcf_42 pmf_42 cdf_42 ctf_42:Value}
  {odf_2 anf_2:Option Addr} {slf_2:Array (Option Value)} {ocf_2 kVf_2 dcf_2 pmf_2 cdf_2 ctf_2:Value}
  {odf_10 anf_10:Option Addr} {slf_10:Array (Option Value)} {ocf_10 kVf_10 dcf_10 pmf_10 cdf_10 ctf_10:Value}
  {odf_43 anf_43:Option Addr} {slf_43:Array (Option Value)} {ocf_43 kVf_43 dcf_43 pmf_43 cdf_43 ctf_43:Value}
  {odf_3 anf_3:Option Addr} {slf_3:Array (Option Value)} {ocf_3 kVf_3 dcf_3 pmf_3 cdf_3 ctf_3:Value}
  {odf_31 anf_31:Option Addr} {slf_31:Array (Option Value)} {ocf_31 kVf_31 dcf_31 pmf_31 cdf_31 ctf_31:Value}
  {odf_39 anf_39:Option Addr} {slf_39:Array (Option Value)} {ocf_39 kVf_39 dcf_39 pmf_39 cdf_39 ctf_39:Value}
  {odf_first anf_first:Option Addr} {slf_first:Array (Option Value)} {ocf_first kVf_first dcf_first pmf_first cdf_first ctf_first:Value}
  {t_63:Tok}
  {t_52:Tok}
  {t_76:Tok}
  {t_77:Tok}
  {t_66:Tok}
  {t_51:Tok}
  {t_80:Tok}
  {t_78:Tok}
  {t_70:Tok}
  {t_53:Tok}
  {t_56:Tok}
  {t_57:Tok}
  {t_68:Tok}
  {t_69:Tok}
  {t_67:Tok}
  {t_46:Tok}
  {t_47:Tok}
  {t_49:Tok}
  {t_50:Tok}
  {t_83:Tok}
  {t_81:Tok}
  {t_82:Tok}
  {t_84:Tok}
  {t_85:Tok}
  {t_86:Tok}
  {t_65:Tok}
  {t_75:Tok}
  (X:K.In h) (G:h.Ns mainGlobals mg) (hfa:mg "first"=some (.ref fa))
  (aC:PySem.W.nsIn K mainGlobals "Reader"=some (some (.ref C)))
  (aDp:PySem.W.nsIn K mainGlobals "Part"=some (some (.ref Dp)))
  (aDf:PySem.W.nsIn K mainGlobals "Field"=some (some (.ref Df)))
  (aDl:PySem.W.nsIn K mainGlobals "Line"=some (some (.ref Dl)))
  (aDy:PySem.W.nsIn K mainGlobals "Laying"=some (some (.ref Dy)))
  (aGv:PySem.W.nsIn K mainGlobals "Given"=some (some (.ref Gv)))
  (ar_init:PySem.W.findIn K (.ref C) "__init__"=some (some (.ref r_init)))
  (ir_init:PySem.W.isFn K (.ref r_init)=true)
  (lr_init:K.lookup r_init=some ⟨ocr_init,odr_init,.func (PySem.W.fnOf "__init__" "Reader.__init__" (Zaq Zib) (Zap Zib) (Zad Zib) .none kVr_init dcr_init pmr_init anr_init cdr_init ctr_init),slr_init⟩)
  (cr_init:PySem.W.codeIn K cdr_init "Reader.__init__"=true)
  (kr_init:PySem.W.keepIn K (.ref r_init)=true)
  (ar_has:PySem.W.findIn K (.ref C) "has_more"=some (some (.ref r_has)))
  (ir_has:PySem.W.isFn K (.ref r_has)=true)
  (lr_has:K.lookup r_has=some ⟨ocr_has,odr_has,.func (PySem.W.fnOf "has_more" "Reader.has_more" (Zaq Zmx) (Zap Zmx) (Zad Zmx) .none kVr_has dcr_has pmr_has anr_has cdr_has ctr_has),slr_has⟩)
  (cr_has:PySem.W.codeIn K cdr_has "Reader.has_more"=true)
  (kr_has:PySem.W.keepIn K (.ref r_has)=true)
  (ar_sees:PySem.W.findIn K (.ref C) "sees"=some (some (.ref r_sees)))
  (ir_sees:PySem.W.isFn K (.ref r_sees)=true)
  (lr_sees:K.lookup r_sees=some ⟨ocr_sees,odr_sees,.func (PySem.W.fnOf "sees" "Reader.sees" (Zaq Zic) (Zap Zic) (Zad Zic) .none kVr_sees dcr_sees pmr_sees anr_sees cdr_sees ctr_sees),slr_sees⟩)
  (cr_sees:PySem.W.codeIn K cdr_sees "Reader.sees"=true)
  (kr_sees:PySem.W.keepIn K (.ref r_sees)=true)
  (ar_take:PySem.W.findIn K (.ref C) "take"=some (some (.ref r_take)))
  (ir_take:PySem.W.isFn K (.ref r_take)=true)
  (lr_take:K.lookup r_take=some ⟨ocr_take,odr_take,.func (PySem.W.fnOf "take" "Reader.take" (Zaq Zid) (Zap Zid) (Zad Zid) .none kVr_take dcr_take pmr_take anr_take cdr_take ctr_take),slr_take⟩)
  (cr_take:PySem.W.codeIn K cdr_take "Reader.take"=true)
  (kr_take:PySem.W.keepIn K (.ref r_take)=true)
  (ar_signs:PySem.W.findIn K (.ref C) "take_signs"=some (some (.ref r_signs)))
  (ir_signs:PySem.W.isFn K (.ref r_signs)=true)
  (lr_signs:K.lookup r_signs=some ⟨ocr_signs,odr_signs,.func (PySem.W.fnOf "take_signs" "Reader.take_signs" (Zaq ZeK) (Zap ZeK) (Zad ZeK) .none kVr_signs dcr_signs pmr_signs anr_signs cdr_signs ctr_signs),slr_signs⟩)
  (cr_signs:PySem.W.codeIn K cdr_signs "Reader.take_signs"=true)
  (kr_signs:PySem.W.keepIn K (.ref r_signs)=true)
  (ar_num:PySem.W.findIn K (.ref C) "take_number"=some (some (.ref r_num)))
  (ir_num:PySem.W.isFn K (.ref r_num)=true)
  (lr_num:K.lookup r_num=some ⟨ocr_num,odr_num,.func (PySem.W.fnOf "take_number" "Reader.take_number" (Zaq Zde) (Zap Zde) (Zad Zde) .none kVr_num dcr_num pmr_num anr_num cdr_num ctr_num),slr_num⟩)
  (cr_num:PySem.W.codeIn K cdr_num "Reader.take_number"=true)
  (kr_num:PySem.W.keepIn K (.ref r_num)=true)
  (ar_name:PySem.W.findIn K (.ref C) "take_name"=some (some (.ref r_name)))
  (ir_name:PySem.W.isFn K (.ref r_name)=true)
  (lr_name:K.lookup r_name=some ⟨ocr_name,odr_name,.func (PySem.W.fnOf "take_name" "Reader.take_name" (Zaq Zig) (Zap Zig) (Zad Zig) .none kVr_name dcr_name pmr_name anr_name cdr_name ctr_name),slr_name⟩)
  (cr_name:PySem.W.codeIn K cdr_name "Reader.take_name"=true)
  (kr_name:PySem.W.keepIn K (.ref r_name)=true)
  (ar_rows:PySem.W.findIn K (.ref C) "take_rows"=some (some (.ref r_rows)))
  (ir_rows:PySem.W.isFn K (.ref r_rows)=true)
  (lr_rows:K.lookup r_rows=some ⟨ocr_rows,odr_rows,.func (PySem.W.fnOf "take_rows" "Reader.take_rows" (Zaq Zie) (Zap Zie) (Zad Zie) .none kVr_rows dcr_rows pmr_rows anr_rows cdr_rows ctr_rows),slr_rows⟩)
  (cr_rows:PySem.W.codeIn K cdr_rows "Reader.take_rows"=true)
  (kr_rows:PySem.W.keepIn K (.ref r_rows)=true)
  (ar_end:PySem.W.findIn K (.ref C) "take_end"=some (some (.ref r_end)))
  (ir_end:PySem.W.isFn K (.ref r_end)=true)
  (lr_end:K.lookup r_end=some ⟨ocr_end,odr_end,.func (PySem.W.fnOf "take_end" "Reader.take_end" (Zaq ZkV) (Zap ZkV) (Zad ZkV) .none kVr_end dcr_end pmr_end anr_end cdr_end ctr_end),slr_end⟩)
  (cr_end:PySem.W.codeIn K cdr_end "Reader.take_end"=true)
  (kr_end:PySem.W.keepIn K (.ref r_end)=true)
  (ap_init:PySem.W.findIn K (.ref Dp) "__init__"=some (some (.ref p_init)))
  (ip_init:PySem.W.isFn K (.ref p_init)=true)
  (lp_init:K.lookup p_init=some ⟨ocp_init,odp_init,.func (PySem.W.fnOf "__init__" "Part.__init__" (Zaq ZeM) (Zap ZeM) (Zad ZeM) .none kVp_init dcp_init pmp_init anp_init cdp_init ctp_init),slp_init⟩)
  (cp_init:PySem.W.codeIn K cdp_init "Part.__init__"=true)
  (kp_init:PySem.W.keepIn K (.ref p_init)=true)
  (af_init:PySem.W.findIn K (.ref Df) "__init__"=some (some (.ref f_init)))
  (if_init:PySem.W.isFn K (.ref f_init)=true)
  (lf_init:K.lookup f_init=some ⟨ocf_init,odf_init,.func (PySem.W.fnOf "__init__" "Field.__init__" (Zaq ZeL) (Zap ZeL) (Zad ZeL) .none kVf_init dcf_init pmf_init anf_init cdf_init ctf_init),slf_init⟩)
  (cf_init:PySem.W.codeIn K cdf_init "Field.__init__"=true)
  (kf_init:PySem.W.keepIn K (.ref f_init)=true)
  (al_init:PySem.W.findIn K (.ref Dl) "__init__"=some (some (.ref l_init)))
  (il_init:PySem.W.isFn K (.ref l_init)=true)
  (ll_init:K.lookup l_init=some ⟨ocl_init,odl_init,.func (PySem.W.fnOf "__init__" "Line.__init__" (Zaq Zff) (Zap Zff) (Zad Zff) .none kVl_init dcl_init pml_init anl_init cdl_init ctl_init),sll_init⟩)
  (cl_init:PySem.W.codeIn K cdl_init "Line.__init__"=true)
  (kl_init:PySem.W.keepIn K (.ref l_init)=true)
  (ay_init:PySem.W.findIn K (.ref Dy) "__init__"=some (some (.ref y_init)))
  (iy_init:PySem.W.isFn K (.ref y_init)=true)
  (ly_init:K.lookup y_init=some ⟨ocy_init,ody_init,.func (PySem.W.fnOf "__init__" "Laying.__init__" (Zaq Zer) (Zap Zer) (Zad Zer) .none kVy_init dcy_init pmy_init any_init cdy_init cty_init),sly_init⟩)
  (cy_init:PySem.W.codeIn K cdy_init "Laying.__init__"=true)
  (ky_init:PySem.W.keepIn K (.ref y_init)=true)
  (ag_init:PySem.W.findIn K (.ref Gv) "__init__"=some (some (.ref g_init)))
  (ig_init:PySem.W.isFn K (.ref g_init)=true)
  (lg_init:K.lookup g_init=some ⟨ocg_init,odg_init,.func (PySem.W.fnOf "__init__" "Given.__init__" (Zaq ZeV) (Zap ZeV) (Zad ZeV) .none kVg_init dcg_init pmg_init ang_init cdg_init ctg_init),slg_init⟩)
  (cg_init:PySem.W.codeIn K cdg_init "Given.__init__"=true)
  (kg_init:PySem.W.keepIn K (.ref g_init)=true)
  (af_44:PySem.W.nsIn K mainGlobals "codes"=some (some (.ref f_44)))
  (lf_44:K.lookup f_44=some ⟨ocf_44,odf_44,.func (PySem.W.fnOf "codes" "codes" (Zaq Zd9) (Zap Zd9) (Zad Zd9) .none kVf_44 dcf_44 pmf_44 anf_44 cdf_44 ctf_44),slf_44⟩)
  (cf_44:PySem.W.codeIn K cdf_44 "codes"=true)
  (kf_44:PySem.W.keepIn K (.ref f_44)=true)
  (af_32:PySem.W.nsIn K mainGlobals "read_part"=some (some (.ref f_32)))
  (lf_32:K.lookup f_32=some ⟨ocf_32,odf_32,.func (PySem.W.fnOf "read_part" "read_part" (Zaq Zih) (Zap Zih) (Zad Zih) .none kVf_32 dcf_32 pmf_32 anf_32 cdf_32 ctf_32),slf_32⟩)
  (cf_32:PySem.W.codeIn K cdf_32 "read_part"=true)
  (kf_32:PySem.W.keepIn K (.ref f_32)=true)
  (af_13:PySem.W.nsIn K mainGlobals "read_catalogue"=some (some (.ref f_13)))
  (lf_13:K.lookup f_13=some ⟨ocf_13,odf_13,.func (PySem.W.fnOf "read_catalogue" "read_catalogue" (Zaq Znk) (Zap Znk) (Zad Znk) .none kVf_13 dcf_13 pmf_13 anf_13 cdf_13 ctf_13),slf_13⟩)
  (cf_13:PySem.W.codeIn K cdf_13 "read_catalogue"=true)
  (kf_13:PySem.W.keepIn K (.ref f_13)=true)
  (af_40:PySem.W.nsIn K mainGlobals "cells_of"=some (some (.ref f_40)))
  (lf_40:K.lookup f_40=some ⟨ocf_40,odf_40,.func (PySem.W.fnOf "cells_of" "cells_of" (Zaq Zea) (Zap Zea) (Zad Zea) .none kVf_40 dcf_40 pmf_40 anf_40 cdf_40 ctf_40),slf_40⟩)
  (cf_40:PySem.W.codeIn K cdf_40 "cells_of"=true)
  (kf_40:PySem.W.keepIn K (.ref f_40)=true)
  (af_x_of:PySem.W.nsIn K mainGlobals "x_of"=some (some (.ref f_x_of)))
  (lf_x_of:K.lookup f_x_of=some ⟨ocf_x_of,odf_x_of,.func (PySem.W.fnOf "x_of" "x_of" (Zaq Znl) (Zap Znl) (Zad Znl) .none kVf_x_of dcf_x_of pmf_x_of anf_x_of cdf_x_of ctf_x_of),slf_x_of⟩)
  (cf_x_of:PySem.W.codeIn K cdf_x_of "x_of"=true)
  (kf_x_of:PySem.W.keepIn K (.ref f_x_of)=true)
  (af_y_of:PySem.W.nsIn K mainGlobals "y_of"=some (some (.ref f_y_of)))
  (lf_y_of:K.lookup f_y_of=some ⟨ocf_y_of,odf_y_of,.func (PySem.W.fnOf "y_of" "y_of" (Zaq Znm) (Zap Znm) (Zad Znm) .none kVf_y_of dcf_y_of pmf_y_of anf_y_of cdf_y_of ctf_y_of),slf_y_of⟩)
  (cf_y_of:PySem.W.codeIn K cdf_y_of "y_of"=true)
  (kf_y_of:PySem.W.keepIn K (.ref f_y_of)=true)
  (af_z_of:PySem.W.nsIn K mainGlobals "z_of"=some (some (.ref f_z_of)))
  (lf_z_of:K.lookup f_z_of=some ⟨ocf_z_of,odf_z_of,.func (PySem.W.fnOf "z_of" "z_of" (Zaq Znn) (Zap Znn) (Zad Znn) .none kVf_z_of dcf_z_of pmf_z_of anf_z_of cdf_z_of ctf_z_of),slf_z_of⟩)
  (cf_z_of:PySem.W.codeIn K cdf_z_of "z_of"=true)
  (kf_z_of:PySem.W.keepIn K (.ref f_z_of)=true)
  (af_1:PySem.W.nsIn K mainGlobals "studs_and_tubes_are_free"=some (some (.ref f_1)))
  (lf_1:K.lookup f_1=some ⟨ocf_1,odf_1,.func (PySem.W.fnOf "studs_and_tubes_are_free" "studs_and_tubes_are_free" (Zaq Zil) (Zap Zil) (Zad Zil) .none kVf_1 dcf_1 pmf_1 anf_1 cdf_1 ctf_1),slf_1⟩)
  (cf_1:PySem.W.codeIn K cdf_1 "studs_and_tubes_are_free"=true)
  (kf_1:PySem.W.keepIn K (.ref f_1)=true)
  (af_5:PySem.W.nsIn K mainGlobals "reaches_all_sides"=some (some (.ref f_5)))
  (lf_5:K.lookup f_5=some ⟨ocf_5,odf_5,.func (PySem.W.fnOf "reaches_all_sides" "reaches_all_sides" (Zaq ZcZ) (Zap ZcZ) (Zad ZcZ) .none kVf_5 dcf_5 pmf_5 anf_5 cdf_5 ctf_5),slf_5⟩)
  (cf_5:PySem.W.codeIn K cdf_5 "reaches_all_sides"=true)
  (kf_5:PySem.W.keepIn K (.ref f_5)=true)
  (af_26:PySem.W.nsIn K mainGlobals "neighbours"=some (some (.ref f_26)))
  (lf_26:K.lookup f_26=some ⟨ocf_26,odf_26,.func (PySem.W.fnOf "neighbours" "neighbours" (Zaq Zim) (Zap Zim) (Zad Zim) .none kVf_26 dcf_26 pmf_26 anf_26 cdf_26 ctf_26),slf_26⟩)
  (cf_26:PySem.W.codeIn K cdf_26 "neighbours"=true)
  (kf_26:PySem.W.keepIn K (.ref f_26)=true)
  (af_14:PySem.W.nsIn K mainGlobals "hangs_together"=some (some (.ref f_14)))
  (lf_14:K.lookup f_14=some ⟨ocf_14,odf_14,.func (PySem.W.fnOf "hangs_together" "hangs_together" (Zaq Zg3) (Zap Zg3) (Zad Zg3) .none kVf_14 dcf_14 pmf_14 anf_14 cdf_14 ctf_14),slf_14⟩)
  (cf_14:PySem.W.codeIn K cdf_14 "hangs_together"=true)
  (kf_14:PySem.W.keepIn K (.ref f_14)=true)
  (af_15:PySem.W.nsIn K mainGlobals "is_right_part"=some (some (.ref f_15)))
  (lf_15:K.lookup f_15=some ⟨ocf_15,odf_15,.func (PySem.W.fnOf "is_right_part" "is_right_part" (Zaq Zdf) (Zap Zdf) (Zad Zdf) .none kVf_15 dcf_15 pmf_15 anf_15 cdf_15 ctf_15),slf_15⟩)
  (cf_15:PySem.W.codeIn K cdf_15 "is_right_part"=true)
  (kf_15:PySem.W.keepIn K (.ref f_15)=true)
  (af_27:PySem.W.nsIn K mainGlobals "names_rise"=some (some (.ref f_27)))
  (lf_27:K.lookup f_27=some ⟨ocf_27,odf_27,.func (PySem.W.fnOf "names_rise" "names_rise" (Zaq Zin) (Zap Zin) (Zad Zin) .none kVf_27 dcf_27 pmf_27 anf_27 cdf_27 ctf_27),slf_27⟩)
  (cf_27:PySem.W.codeIn K cdf_27 "names_rise"=true)
  (kf_27:PySem.W.keepIn K (.ref f_27)=true)
  (af_4:PySem.W.nsIn K mainGlobals "is_right_catalogue"=some (some (.ref f_4)))
  (lf_4:K.lookup f_4=some ⟨ocf_4,odf_4,.func (PySem.W.fnOf "is_right_catalogue" "is_right_catalogue" (Zaq ZcD) (Zap ZcD) (Zad ZcD) .none kVf_4 dcf_4 pmf_4 anf_4 cdf_4 ctf_4),slf_4⟩)
  (cf_4:PySem.W.codeIn K cdf_4 "is_right_catalogue"=true)
  (kf_4:PySem.W.keepIn K (.ref f_4)=true)
  (af_6:PySem.W.nsIn K mainGlobals "has_form_of_plate"=some (some (.ref f_6)))
  (lf_6:K.lookup f_6=some ⟨ocf_6,odf_6,.func (PySem.W.fnOf "has_form_of_plate" "has_form_of_plate" (Zaq Zik) (Zap Zik) (Zad Zik) .none kVf_6 dcf_6 pmf_6 anf_6 cdf_6 ctf_6),slf_6⟩)
  (cf_6:PySem.W.codeIn K cdf_6 "has_form_of_plate"=true)
  (kf_6:PySem.W.keepIn K (.ref f_6)=true)
  (af_16:PySem.W.nsIn K mainGlobals "plate_numbers"=some (some (.ref f_16)))
  (lf_16:K.lookup f_16=some ⟨ocf_16,odf_16,.func (PySem.W.fnOf "plate_numbers" "plate_numbers" (Zaq Zdg) (Zap Zdg) (Zad Zdg) .none kVf_16 dcf_16 pmf_16 anf_16 cdf_16 ctf_16),slf_16⟩)
  (cf_16:PySem.W.codeIn K cdf_16 "plate_numbers"=true)
  (kf_16:PySem.W.keepIn K (.ref f_16)=true)
  (af_17:PySem.W.nsIn K mainGlobals "is_build_name"=some (some (.ref f_17)))
  (lf_17:K.lookup f_17=some ⟨ocf_17,odf_17,.func (PySem.W.fnOf "is_build_name" "is_build_name" (Zaq Zfe) (Zap Zfe) (Zad Zfe) .none kVf_17 dcf_17 pmf_17 anf_17 cdf_17 ctf_17),slf_17⟩)
  (cf_17:PySem.W.codeIn K cdf_17 "is_build_name"=true)
  (kf_17:PySem.W.keepIn K (.ref f_17)=true)
  (af_35:PySem.W.nsIn K mainGlobals "line_text"=some (some (.ref f_35)))
  (lf_35:K.lookup f_35=some ⟨ocf_35,odf_35,.func (PySem.W.fnOf "line_text" "line_text" (Zaq Zfg) (Zap Zfg) (Zad Zfg) .none kVf_35 dcf_35 pmf_35 anf_35 cdf_35 ctf_35),slf_35⟩)
  (cf_35:PySem.W.codeIn K cdf_35 "line_text"=true)
  (kf_35:PySem.W.keepIn K (.ref f_35)=true)
  (af_29:PySem.W.nsIn K mainGlobals "build_text"=some (some (.ref f_29)))
  (lf_29:K.lookup f_29=some ⟨ocf_29,odf_29,.func (PySem.W.fnOf "build_text" "build_text" (Zaq Zfh) (Zap Zfh) (Zad Zfh) .none kVf_29 dcf_29 pmf_29 anf_29 cdf_29 ctf_29),slf_29⟩)
  (cf_29:PySem.W.codeIn K cdf_29 "build_text"=true)
  (kf_29:PySem.W.keepIn K (.ref f_29)=true)
  (af_30:PySem.W.nsIn K mainGlobals "read_field"=some (some (.ref f_30)))
  (lf_30:K.lookup f_30=some ⟨ocf_30,odf_30,.func (PySem.W.fnOf "read_field" "read_field" (Zaq Zif) (Zap Zif) (Zad Zif) .none kVf_30 dcf_30 pmf_30 anf_30 cdf_30 ctf_30),slf_30⟩)
  (cf_30:PySem.W.codeIn K cdf_30 "read_field"=true)
  (kf_30:PySem.W.keepIn K (.ref f_30)=true)
  (af_36:PySem.W.nsIn K mainGlobals "colour_at"=some (some (.ref f_36)))
  (lf_36:K.lookup f_36=some ⟨ocf_36,odf_36,.func (PySem.W.fnOf "colour_at" "colour_at" (Zaq Ze8) (Zap Ze8) (Zad Ze8) .none kVf_36 dcf_36 pmf_36 anf_36 cdf_36 ctf_36),slf_36⟩)
  (cf_36:PySem.W.codeIn K cdf_36 "colour_at"=true)
  (kf_36:PySem.W.keepIn K (.ref f_36)=true)
  (af_20:PySem.W.nsIn K mainGlobals "coloured_set"=some (some (.ref f_20)))
  (lf_20:K.lookup f_20=some ⟨ocf_20,odf_20,.func (PySem.W.fnOf "coloured_set" "coloured_set" (Zaq ZiA) (Zap ZiA) (Zad ZiA) .none kVf_20 dcf_20 pmf_20 anf_20 cdf_20 ctf_20),slf_20⟩)
  (cf_20:PySem.W.codeIn K cdf_20 "coloured_set"=true)
  (kf_20:PySem.W.keepIn K (.ref f_20)=true)
  (af_41:PySem.W.nsIn K mainGlobals "shape_of"=some (some (.ref f_41)))
  (lf_41:K.lookup f_41=some ⟨ocf_41,odf_41,.func (PySem.W.fnOf "shape_of" "shape_of" (Zaq Ze9) (Zap Ze9) (Zad Ze9) .none kVf_41 dcf_41 pmf_41 anf_41 cdf_41 ctf_41),slf_41⟩)
  (cf_41:PySem.W.codeIn K cdf_41 "shape_of"=true)
  (kf_41:PySem.W.keepIn K (.ref f_41)=true)
  (af_37:PySem.W.nsIn K mainGlobals "shapes_at"=some (some (.ref f_37)))
  (lf_37:K.lookup f_37=some ⟨ocf_37,odf_37,.func (PySem.W.fnOf "shapes_at" "shapes_at" (Zaq Zce) (Zap Zce) (Zad Zce) .none kVf_37 dcf_37 pmf_37 anf_37 cdf_37 ctf_37),slf_37⟩)
  (cf_37:PySem.W.codeIn K cdf_37 "shapes_at"=true)
  (kf_37:PySem.W.keepIn K (.ref f_37)=true)
  (af_24:PySem.W.nsIn K mainGlobals "least_place"=some (some (.ref f_24)))
  (lf_24:K.lookup f_24=some ⟨ocf_24,odf_24,.func (PySem.W.fnOf "least_place" "least_place" (Zaq Zfa) (Zap Zfa) (Zad Zfa) .none kVf_24 dcf_24 pmf_24 anf_24 cdf_24 ctf_24),slf_24⟩)
  (cf_24:PySem.W.codeIn K cdf_24 "least_place"=true)
  (kf_24:PySem.W.keepIn K (.ref f_24)=true)
  (af_45:PySem.W.nsIn K mainGlobals "steps"=some (some (.ref f_45)))
  (lf_45:K.lookup f_45=some ⟨ocf_45,odf_45,.func (PySem.W.fnOf "steps" "steps" (Zaq Zes) (Zap Zes) (Zad Zes) .none kVf_45 dcf_45 pmf_45 anf_45 cdf_45 ctf_45),slf_45⟩)
  (cf_45:PySem.W.codeIn K cdf_45 "steps"=true)
  (kf_45:PySem.W.keepIn K (.ref f_45)=true)
  (af_21:PySem.W.nsIn K mainGlobals "reached_sets"=some (some (.ref f_21)))
  (lf_21:K.lookup f_21=some ⟨ocf_21,odf_21,.func (PySem.W.fnOf "reached_sets" "reached_sets" (Zaq Zco) (Zap Zco) (Zad Zco) .none kVf_21 dcf_21 pmf_21 anf_21 cdf_21 ctf_21),slf_21⟩)
  (cf_21:PySem.W.codeIn K cdf_21 "reached_sets"=true)
  (kf_21:PySem.W.keepIn K (.ref f_21)=true)
  (af_22:PySem.W.nsIn K mainGlobals "fewest_lines"=some (some (.ref f_22)))
  (lf_22:K.lookup f_22=some ⟨ocf_22,odf_22,.func (PySem.W.fnOf "fewest_lines" "fewest_lines" (Zaq ZcJ) (Zap ZcJ) (Zad ZcJ) .none kVf_22 dcf_22 pmf_22 anf_22 cdf_22 ctf_22),slf_22⟩)
  (cf_22:PySem.W.codeIn K cdf_22 "fewest_lines"=true)
  (kf_22:PySem.W.keepIn K (.ref f_22)=true)
  (af_42:PySem.W.nsIn K mainGlobals "line_at"=some (some (.ref f_42)))
  (lf_42:K.lookup f_42=some ⟨ocf_42,odf_42,.func (PySem.W.fnOf "line_at" "line_at" (Zaq Zdw) (Zap Zdw) (Zad Zdw) .none kVf_42 dcf_42 pmf_42 anf_42 cdf_42 ctf_42),slf_42⟩)
  (cf_42:PySem.W.codeIn K cdf_42 "line_at"=true)
  (kf_42:PySem.W.keepIn K (.ref f_42)=true)
  (af_2:PySem.W.nsIn K mainGlobals "first_step_of_fewest"=some (some (.ref f_2)))
  (lf_2:K.lookup f_2=some ⟨ocf_2,odf_2,.func (PySem.W.fnOf "first_step_of_fewest" "first_step_of_fewest" (Zaq Zet) (Zap Zet) (Zad Zet) .none kVf_2 dcf_2 pmf_2 anf_2 cdf_2 ctf_2),slf_2⟩)
  (cf_2:PySem.W.codeIn K cdf_2 "first_step_of_fewest"=true)
  (kf_2:PySem.W.keepIn K (.ref f_2)=true)
  (af_10:PySem.W.nsIn K mainGlobals "first_of_fewest"=some (some (.ref f_10)))
  (lf_10:K.lookup f_10=some ⟨ocf_10,odf_10,.func (PySem.W.fnOf "first_of_fewest" "first_of_fewest" (Zaq Zfi) (Zap Zfi) (Zad Zfi) .none kVf_10 dcf_10 pmf_10 anf_10 cdf_10 ctf_10),slf_10⟩)
  (cf_10:PySem.W.codeIn K cdf_10 "first_of_fewest"=true)
  (kf_10:PySem.W.keepIn K (.ref f_10)=true)
  (af_43:PySem.W.nsIn K mainGlobals "refused"=some (some (.ref f_43)))
  (lf_43:K.lookup f_43=some ⟨ocf_43,odf_43,.func (PySem.W.fnOf "refused" "refused" (Zaq Zcn) (Zap Zcn) (Zad Zcn) .none kVf_43 dcf_43 pmf_43 anf_43 cdf_43 ctf_43),slf_43⟩)
  (cf_43:PySem.W.codeIn K cdf_43 "refused"=true)
  (kf_43:PySem.W.keepIn K (.ref f_43)=true)
  (af_3:PySem.W.nsIn K mainGlobals "read_right_catalogue"=some (some (.ref f_3)))
  (lf_3:K.lookup f_3=some ⟨ocf_3,odf_3,.func (PySem.W.fnOf "read_right_catalogue" "read_right_catalogue" (Zaq Zdo) (Zap Zdo) (Zad Zdo) .none kVf_3 dcf_3 pmf_3 anf_3 cdf_3 ctf_3),slf_3⟩)
  (cf_3:PySem.W.codeIn K cdf_3 "read_right_catalogue"=true)
  (kf_3:PySem.W.keepIn K (.ref f_3)=true)
  (af_31:PySem.W.nsIn K mainGlobals "read_given"=some (some (.ref f_31)))
  (lf_31:K.lookup f_31=some ⟨ocf_31,odf_31,.func (PySem.W.fnOf "read_given" "read_given" (Zaq Zdv) (Zap Zdv) (Zad Zdv) .none kVf_31 dcf_31 pmf_31 anf_31 cdf_31 ctf_31),slf_31⟩)
  (cf_31:PySem.W.codeIn K cdf_31 "read_given"=true)
  (kf_31:PySem.W.keepIn K (.ref f_31)=true)
  (af_39:PySem.W.nsIn K mainGlobals "told_text"=some (some (.ref f_39)))
  (lf_39:K.lookup f_39=some ⟨ocf_39,odf_39,.func (PySem.W.fnOf "told_text" "told_text" (Zaq ZiD) (Zap ZiD) (Zad ZiD) .none kVf_39 dcf_39 pmf_39 anf_39 cdf_39 ctf_39),slf_39⟩)
  (cf_39:PySem.W.codeIn K cdf_39 "told_text"=true)
  (kf_39:PySem.W.keepIn K (.ref f_39)=true)
  (af_first:PySem.W.nsIn K mainGlobals "first"=some (some (.ref f_first)))
  (lf_first:K.lookup f_first=some ⟨ocf_first,odf_first,.func (PySem.W.fnOf "first" "first" (Zaq Zdx) (Zap Zdx) (Zad Zdx) .none kVf_first dcf_first pmf_first anf_first cdf_first ctf_first),slf_first⟩)
  (cf_first:PySem.W.codeIn K cdf_first "first"=true)
  (kf_first:PySem.W.keepIn K (.ref f_first)=true)
  (pgC:PySem.W.plainGet K C Str.empty=true)
  (hdC:PySem.W.hasDictIn K C=true)
  (poC:PySem.W.plainOver K C=true)
  (saC:PySem.W.findIn K (.ref C) "__setattr__"=some (some (.builtin "object.__setattr__")))
  (mkC:PySem.W.makesIn K C=true)
  (kcC:PySem.W.keepIn K (.ref C)=true)
  (nC_text:PySem.W.findIn K (.ref C) "text"=some none)
  (nC_at:PySem.W.findIn K (.ref C) "at"=some none)
  (nC_stuck:PySem.W.findIn K (.ref C) "stuck"=some none)
  (pgDp:PySem.W.plainGet K Dp Str.empty=true)
  (hdDp:PySem.W.hasDictIn K Dp=true)
  (poDp:PySem.W.plainOver K Dp=true)
  (saDp:PySem.W.findIn K (.ref Dp) "__setattr__"=some (some (.builtin "object.__setattr__")))
  (mkDp:PySem.W.makesIn K Dp=true)
  (kcDp:PySem.W.keepIn K (.ref Dp)=true)
  (nDp_name:PySem.W.findIn K (.ref Dp) "name"=some none)
  (nDp_width:PySem.W.findIn K (.ref Dp) "width"=some none)
  (nDp_depth:PySem.W.findIn K (.ref Dp) "depth"=some none)
  (nDp_height:PySem.W.findIn K (.ref Dp) "height"=some none)
  (nDp_places:PySem.W.findIn K (.ref Dp) "places"=some none)
  (pgDf:PySem.W.plainGet K Df Str.empty=true)
  (hdDf:PySem.W.hasDictIn K Df=true)
  (poDf:PySem.W.plainOver K Df=true)
  (saDf:PySem.W.findIn K (.ref Df) "__setattr__"=some (some (.builtin "object.__setattr__")))
  (mkDf:PySem.W.makesIn K Df=true)
  (kcDf:PySem.W.keepIn K (.ref Df)=true)
  (nDf_width:PySem.W.findIn K (.ref Df) "width"=some none)
  (nDf_depth:PySem.W.findIn K (.ref Df) "depth"=some none)
  (nDf_places:PySem.W.findIn K (.ref Df) "places"=some none)
  (pgDl:PySem.W.plainGet K Dl Str.empty=true)
  (hdDl:PySem.W.hasDictIn K Dl=true)
  (poDl:PySem.W.plainOver K Dl=true)
  (saDl:PySem.W.findIn K (.ref Dl) "__setattr__"=some (some (.builtin "object.__setattr__")))
  (mkDl:PySem.W.makesIn K Dl=true)
  (kcDl:PySem.W.keepIn K (.ref Dl)=true)
  (nDl_part:PySem.W.findIn K (.ref Dl) "part"=some none)
  (nDl_colour:PySem.W.findIn K (.ref Dl) "colour"=some none)
  (nDl_x:PySem.W.findIn K (.ref Dl) "x"=some none)
  (nDl_y:PySem.W.findIn K (.ref Dl) "y"=some none)
  (nDl_z:PySem.W.findIn K (.ref Dl) "z"=some none)
  (nDl_turns:PySem.W.findIn K (.ref Dl) "turns"=some none)
  (pgDy:PySem.W.plainGet K Dy Str.empty=true)
  (hdDy:PySem.W.hasDictIn K Dy=true)
  (poDy:PySem.W.plainOver K Dy=true)
  (saDy:PySem.W.findIn K (.ref Dy) "__setattr__"=some (some (.builtin "object.__setattr__")))
  (mkDy:PySem.W.makesIn K Dy=true)
  (kcDy:PySem.W.keepIn K (.ref Dy)=true)
  (nDy_field:PySem.W.findIn K (.ref Dy) "field"=some none)
  (nDy_parts:PySem.W.findIn K (.ref Dy) "parts"=some none)
  (nDy_plates:PySem.W.findIn K (.ref Dy) "plates"=some none)
  (nDy_coloured:PySem.W.findIn K (.ref Dy) "coloured"=some none)
  (nDy_shapes:PySem.W.findIn K (.ref Dy) "shapes"=some none)
  (pgGv:PySem.W.plainGet K Gv Str.empty=true)
  (hdGv:PySem.W.hasDictIn K Gv=true)
  (poGv:PySem.W.plainOver K Gv=true)
  (saGv:PySem.W.findIn K (.ref Gv) "__setattr__"=some (some (.builtin "object.__setattr__")))
  (mkGv:PySem.W.makesIn K Gv=true)
  (kcGv:PySem.W.keepIn K (.ref Gv)=true)
  (nGv_refusal:PySem.W.findIn K (.ref Gv) "refusal"=some none)
  (nGv_parts:PySem.W.findIn K (.ref Gv) "parts"=some none)
  (nGv_field:PySem.W.findIn K (.ref Gv) "field"=some none)
  (nGv_lines:PySem.W.findIn K (.ref Gv) "lines"=some none)
  (z_63:PySem.W.nsIn K mainGlobals "LONGEST_FIELD"=some (some (.int (16384) t_63)))
  (z_52:PySem.W.nsIn K mainGlobals "LONGEST_CATALOGUE"=some (some (.int (1048576) t_52)))
  (z_76:PySem.W.nsIn K mainGlobals "TOO_LONG"=some (some (.int (-2) t_76)))
  (z_77:PySem.W.nsIn K mainGlobals "NO_FIELD"=some (some (.int (-10) t_77)))
  (z_66:PySem.W.nsIn K mainGlobals "NO_CATALOGUE"=some (some (.int (-6) t_66)))
  (z_51:PySem.W.nsIn K mainGlobals "CATALOGUE_NOT_RIGHT"=some (some (.int (-8) t_51)))
  (z_80:PySem.W.nsIn K mainGlobals "NO_NAME"=some (some (.int (-1) t_80)))
  (z_78:PySem.W.nsIn K mainGlobals "NO_COVER"=some (some (.int (-3) t_78)))
  (z_70:PySem.W.nsIn K mainGlobals "MOST_PARTS"=some (some (.int (64) t_70)))
  (z_53:PySem.W.nsIn K mainGlobals "LONGEST_PART_NAME"=some (some (.int (8) t_53)))
  (z_56:PySem.W.nsIn K mainGlobals "GREATEST_HEIGHT"=some (some (.int (18) t_56)))
  (z_57:PySem.W.nsIn K mainGlobals "GREATEST_WEIGHT"=some (some (.int (9999) t_57)))
  (z_68:PySem.W.nsIn K mainGlobals "PLATE_WIDTH"=some (some (.int (6) t_68)))
  (z_69:PySem.W.nsIn K mainGlobals "PLATE_DEPTH"=some (some (.int (4) t_69)))
  (z_67:PySem.W.nsIn K mainGlobals "LONGEST_NAME"=some (some (.int (16) t_67)))
  (z_46:PySem.W.nsIn K mainGlobals "GREATEST_WIDTH_catalogues"=some (some (.int (16) t_46)))
  (z_47:PySem.W.nsIn K mainGlobals "GREATEST_DEPTH_catalogues"=some (some (.int (16) t_47)))
  (z_49:PySem.W.nsIn K mainGlobals "GREATEST_WIDTH_fields"=some (some (.int (6) t_49)))
  (z_50:PySem.W.nsIn K mainGlobals "GREATEST_DEPTH_fields"=some (some (.int (12) t_50)))
  (z_83:PySem.W.nsIn K mainGlobals "DIGITS"=some (some (.str "0123456789" t_83)))
  (z_81:PySem.W.nsIn K mainGlobals "LETTERS"=some (some (.str "abcdefghijklmnopqrstuvwxyz" t_81)))
  (z_82:PySem.W.nsIn K mainGlobals "NO_CELL"=some (some (.str "." t_82)))
  (z_84:PySem.W.nsIn K mainGlobals "PLAIN"=some (some (.str "#" t_84)))
  (z_85:PySem.W.nsIn K mainGlobals "STUD"=some (some (.str "s" t_85)))
  (z_86:PySem.W.nsIn K mainGlobals "TUBE"=some (some (.str "t" t_86)))
  (z_65:PySem.W.nsIn K mainGlobals "STUD_AND_TUBE"=some (some (.str "b" t_65)))
  (z_75:PySem.W.nsIn K mainGlobals "NO_COLOUR"=some (some (.str "." t_75)))
  (z_len:PySem.W.nsIn K mainGlobals "len"=some none)
  (z_ord:PySem.W.nsIn K mainGlobals "ord"=some none)
  (z_range:PySem.W.nsIn K mainGlobals "range"=some none)
  (z_enumerate:PySem.W.nsIn K mainGlobals "enumerate"=some none)
  (z_zip:PySem.W.nsIn K mainGlobals "zip"=some none)
  (z_dict:PySem.W.nsIn K mainGlobals "dict"=some none)
  (z_all:PySem.W.nsIn K mainGlobals "all"=some none)
  (z_sorted:PySem.W.nsIn K mainGlobals "sorted"=some none)
  (z_min:PySem.W.nsIn K mainGlobals "min"=some none):
  ∃ fd:FuncData,Binds K fd ["c","f","s"] []∧∀ base:Heap,K.In base→base.Ns mainGlobals mg→FnOk Pg w K mg base CX0 10 fa fd ["c","f","s"] (spFirstC K):=by
 have Fr_init:=Zay (st:=Zib) lr_init cr_init kr_init
 have br_init:=Fr_init.binds (ps:=["self","text"]) fun _ _ _ _ _ _ us hl=>match us,hl with | [_,_],_=>rfl
 have Fr_has:=Zay (st:=Zmx) lr_has cr_has kr_has
 have br_has:=Fr_has.binds (ps:=["self"]) fun _ _ _ _ _ _ us hl=>match us,hl with | [_],_=>rfl
 have mr_has:Mth K C "has_more" r_has _ ["self"]:=⟨⟨ar_has,ir_has,kr_has⟩,br_has⟩
 have Fr_sees:=Zay (st:=Zic) lr_sees cr_sees kr_sees
 have br_sees:=Fr_sees.binds (ps:=["self","wanted"]) fun _ _ _ _ _ _ us hl=>match us,hl with | [_,_],_=>rfl
 have mr_sees:Mth K C "sees" r_sees _ ["self","wanted"]:=⟨⟨ar_sees,ir_sees,kr_sees⟩,br_sees⟩
 have Fr_take:=Zay (st:=Zid) lr_take cr_take kr_take
 have br_take:=Fr_take.binds (ps:=["self","wanted"]) fun _ _ _ _ _ _ us hl=>match us,hl with | [_,_],_=>rfl
 have mr_take:Mth K C "take" r_take _ ["self","wanted"]:=⟨⟨ar_take,ir_take,kr_take⟩,br_take⟩
 have Fr_signs:=Zay (st:=ZeK) lr_signs cr_signs kr_signs
 have br_signs:=Fr_signs.binds (ps:=["self","signs"]) fun _ _ _ _ _ _ us hl=>match us,hl with | [_,_],_=>rfl
 have mr_signs:Mth K C "take_signs" r_signs _ ["self","signs"]:=⟨⟨ar_signs,ir_signs,kr_signs⟩,br_signs⟩
 have Fr_num:=Zay (st:=Zde) lr_num cr_num kr_num
 have br_num:=Fr_num.binds (ps:=["self","greatest"]) fun _ _ _ _ _ _ us hl=>match us,hl with | [_,_],_=>rfl
 have mr_num:Mth K C "take_number" r_num _ ["self","greatest"]:=⟨⟨ar_num,ir_num,kr_num⟩,br_num⟩
 have Fr_name:=Zay (st:=Zig) lr_name cr_name kr_name
 have br_name:=Fr_name.binds (ps:=["self","longest"]) fun _ _ _ _ _ _ us hl=>match us,hl with | [_,_],_=>rfl
 have mr_name:Mth K C "take_name" r_name _ ["self","longest"]:=⟨⟨ar_name,ir_name,kr_name⟩,br_name⟩
 have Fr_rows:=Zay (st:=Zie) lr_rows cr_rows kr_rows
 have br_rows:=Fr_rows.binds (ps:=["self","width","rows","signs"]) fun _ _ _ _ _ _ us hl=>match us,hl with | [_,_,_,_],_=>rfl
 have mr_rows:Mth K C "take_rows" r_rows _ ["self","width","rows","signs"]:=⟨⟨ar_rows,ir_rows,kr_rows⟩,br_rows⟩
 have Fr_end:=Zay (st:=ZkV) lr_end cr_end kr_end
 have br_end:=Fr_end.binds (ps:=["self"]) fun _ _ _ _ _ _ us hl=>match us,hl with | [_],_=>rfl
 have mr_end:Mth K C "take_end" r_end _ ["self"]:=⟨⟨ar_end,ir_end,kr_end⟩,br_end⟩
 have Fp_init:=Zay (st:=ZeM) lp_init cp_init kp_init
 have bp_init:=Fp_init.binds (ps:=["self","name","size","places"]) fun _ _ _ _ _ _ us hl=>match us,hl with | [_,_,_,_],_=>rfl
 have Ff_init:=Zay (st:=ZeL) lf_init cf_init kf_init
 have bf_init:=Ff_init.binds (ps:=["self","width","depth","places"]) fun _ _ _ _ _ _ us hl=>match us,hl with | [_,_,_,_],_=>rfl
 have Fl_init:=Zay (st:=Zff) ll_init cl_init kl_init
 have bl_init:=Fl_init.binds (ps:=["self","part","colour","place","turns"]) fun _ _ _ _ _ _ us hl=>match us,hl with | [_,_,_,_,_],_=>rfl
 have Fy_init:=Zay (st:=Zer) ly_init cy_init ky_init
 have by_init:=Fy_init.binds (ps:=["self","parts","field"]) fun _ _ _ _ _ _ us hl=>match us,hl with | [_,_,_],_=>rfl
 have Fg_init:=Zay (st:=ZeV) lg_init cg_init kg_init
 have bg_init:=Fg_init.binds (ps:=["self","refusal","parts","field","lines"]) fun _ _ _ _ _ _ us hl=>match us,hl with | [_,_,_,_,_],_=>rfl
 have Ff_44:=Zay (st:=Zd9) lf_44 cf_44 kf_44
 have bf_44:=Ff_44.binds (ps:=["signs"]) fun _ _ _ _ _ _ us hl=>match us,hl with | [_],_=>rfl
 have df_44:Def K mg "codes" f_44 _ ["signs"]:=⟨PySem.W.mg_of X G af_44,kf_44,bf_44⟩
 have Ff_32:=Zay (st:=Zih) lf_32 cf_32 kf_32
 have bf_32:=Ff_32.binds (ps:=["reader"]) fun _ _ _ _ _ _ us hl=>match us,hl with | [_],_=>rfl
 have df_32:Def K mg "read_part" f_32 _ ["reader"]:=⟨PySem.W.mg_of X G af_32,kf_32,bf_32⟩
 have Ff_13:=Zay (st:=Znk) lf_13 cf_13 kf_13
 have bf_13:=Ff_13.binds (ps:=["reader"]) fun _ _ _ _ _ _ us hl=>match us,hl with | [_],_=>rfl
 have df_13:Def K mg "read_catalogue" f_13 _ ["reader"]:=⟨PySem.W.mg_of X G af_13,kf_13,bf_13⟩
 have Ff_40:=Zay (st:=Zea) lf_40 cf_40 kf_40
 have bf_40:=Ff_40.binds (ps:=["part"]) fun _ _ _ _ _ _ us hl=>match us,hl with | [_],_=>rfl
 have df_40:Def K mg "cells_of" f_40 _ ["part"]:=⟨PySem.W.mg_of X G af_40,kf_40,bf_40⟩
 have Ff_x_of:=Zay (st:=Znl) lf_x_of cf_x_of kf_x_of
 have bf_x_of:=Ff_x_of.binds (ps:=["part","at"]) fun _ _ _ _ _ _ us hl=>match us,hl with | [_,_],_=>rfl
 have df_x_of:Def K mg "x_of" f_x_of _ ["part","at"]:=⟨PySem.W.mg_of X G af_x_of,kf_x_of,bf_x_of⟩
 have Ff_y_of:=Zay (st:=Znm) lf_y_of cf_y_of kf_y_of
 have bf_y_of:=Ff_y_of.binds (ps:=["part","at"]) fun _ _ _ _ _ _ us hl=>match us,hl with | [_,_],_=>rfl
 have df_y_of:Def K mg "y_of" f_y_of _ ["part","at"]:=⟨PySem.W.mg_of X G af_y_of,kf_y_of,bf_y_of⟩
 have Ff_z_of:=Zay (st:=Znn) lf_z_of cf_z_of kf_z_of
 have bf_z_of:=Ff_z_of.binds (ps:=["part","at"]) fun _ _ _ _ _ _ us hl=>match us,hl with | [_,_],_=>rfl
 have df_z_of:Def K mg "z_of" f_z_of _ ["part","at"]:=⟨PySem.W.mg_of X G af_z_of,kf_z_of,bf_z_of⟩
 have Ff_1:=Zay (st:=Zil) lf_1 cf_1 kf_1
 have bf_1:=Ff_1.binds (ps:=["part"]) fun _ _ _ _ _ _ us hl=>match us,hl with | [_],_=>rfl
 have df_1:Def K mg "studs_and_tubes_are_free" f_1 _ ["part"]:=⟨PySem.W.mg_of X G af_1,kf_1,bf_1⟩
 have Ff_5:=Zay (st:=ZcZ) lf_5 cf_5 kf_5
 have bf_5:=Ff_5.binds (ps:=["part"]) fun _ _ _ _ _ _ us hl=>match us,hl with | [_],_=>rfl
 have df_5:Def K mg "reaches_all_sides" f_5 _ ["part"]:=⟨PySem.W.mg_of X G af_5,kf_5,bf_5⟩
 have Ff_26:=Zay (st:=Zim) lf_26 cf_26 kf_26
 have bf_26:=Ff_26.binds (ps:=["part","at"]) fun _ _ _ _ _ _ us hl=>match us,hl with | [_,_],_=>rfl
 have df_26:Def K mg "neighbours" f_26 _ ["part","at"]:=⟨PySem.W.mg_of X G af_26,kf_26,bf_26⟩
 have Ff_14:=Zay (st:=Zg3) lf_14 cf_14 kf_14
 have bf_14:=Ff_14.binds (ps:=["part"]) fun _ _ _ _ _ _ us hl=>match us,hl with | [_],_=>rfl
 have df_14:Def K mg "hangs_together" f_14 _ ["part"]:=⟨PySem.W.mg_of X G af_14,kf_14,bf_14⟩
 have Ff_15:=Zay (st:=Zdf) lf_15 cf_15 kf_15
 have bf_15:=Ff_15.binds (ps:=["part"]) fun _ _ _ _ _ _ us hl=>match us,hl with | [_],_=>rfl
 have df_15:Def K mg "is_right_part" f_15 _ ["part"]:=⟨PySem.W.mg_of X G af_15,kf_15,bf_15⟩
 have Ff_27:=Zay (st:=Zin) lf_27 cf_27 kf_27
 have bf_27:=Ff_27.binds (ps:=["parts"]) fun _ _ _ _ _ _ us hl=>match us,hl with | [_],_=>rfl
 have df_27:Def K mg "names_rise" f_27 _ ["parts"]:=⟨PySem.W.mg_of X G af_27,kf_27,bf_27⟩
 have Ff_4:=Zay (st:=ZcD) lf_4 cf_4 kf_4
 have bf_4:=Ff_4.binds (ps:=["parts"]) fun _ _ _ _ _ _ us hl=>match us,hl with | [_],_=>rfl
 have df_4:Def K mg "is_right_catalogue" f_4 _ ["parts"]:=⟨PySem.W.mg_of X G af_4,kf_4,bf_4⟩
 have Ff_6:=Zay (st:=Zik) lf_6 cf_6 kf_6
 have bf_6:=Ff_6.binds (ps:=["part"]) fun _ _ _ _ _ _ us hl=>match us,hl with | [_],_=>rfl
 have df_6:Def K mg "has_form_of_plate" f_6 _ ["part"]:=⟨PySem.W.mg_of X G af_6,kf_6,bf_6⟩
 have Ff_16:=Zay (st:=Zdg) lf_16 cf_16 kf_16
 have bf_16:=Ff_16.binds (ps:=["parts"]) fun _ _ _ _ _ _ us hl=>match us,hl with | [_],_=>rfl
 have df_16:Def K mg "plate_numbers" f_16 _ ["parts"]:=⟨PySem.W.mg_of X G af_16,kf_16,bf_16⟩
 have Ff_17:=Zay (st:=Zfe) lf_17 cf_17 kf_17
 have bf_17:=Ff_17.binds (ps:=["s"]) fun _ _ _ _ _ _ us hl=>match us,hl with | [_],_=>rfl
 have df_17:Def K mg "is_build_name" f_17 _ ["s"]:=⟨PySem.W.mg_of X G af_17,kf_17,bf_17⟩
 have Ff_35:=Zay (st:=Zfg) lf_35 cf_35 kf_35
 have bf_35:=Ff_35.binds (ps:=["parts","line"]) fun _ _ _ _ _ _ us hl=>match us,hl with | [_,_],_=>rfl
 have df_35:Def K mg "line_text" f_35 _ ["parts","line"]:=⟨PySem.W.mg_of X G af_35,kf_35,bf_35⟩
 have Ff_29:=Zay (st:=Zfh) lf_29 cf_29 kf_29
 have bf_29:=Ff_29.binds (ps:=["name","parts","lines"]) fun _ _ _ _ _ _ us hl=>match us,hl with | [_,_,_],_=>rfl
 have df_29:Def K mg "build_text" f_29 _ ["name","parts","lines"]:=⟨PySem.W.mg_of X G af_29,kf_29,bf_29⟩
 have Ff_30:=Zay (st:=Zif) lf_30 cf_30 kf_30
 have bf_30:=Ff_30.binds (ps:=["reader"]) fun _ _ _ _ _ _ us hl=>match us,hl with | [_],_=>rfl
 have df_30:Def K mg "read_field" f_30 _ ["reader"]:=⟨PySem.W.mg_of X G af_30,kf_30,bf_30⟩
 have Ff_36:=Zay (st:=Ze8) lf_36 cf_36 kf_36
 have bf_36:=Ff_36.binds (ps:=["field","place"]) fun _ _ _ _ _ _ us hl=>match us,hl with | [_,_],_=>rfl
 have df_36:Def K mg "colour_at" f_36 _ ["field","place"]:=⟨PySem.W.mg_of X G af_36,kf_36,bf_36⟩
 have Ff_20:=Zay (st:=ZiA) lf_20 cf_20 kf_20
 have bf_20:=Ff_20.binds (ps:=["field"]) fun _ _ _ _ _ _ us hl=>match us,hl with | [_],_=>rfl
 have df_20:Def K mg "coloured_set" f_20 _ ["field"]:=⟨PySem.W.mg_of X G af_20,kf_20,bf_20⟩
 have Ff_41:=Zay (st:=Ze9) lf_41 cf_41 kf_41
 have bf_41:=Ff_41.binds (ps:=["part","field","x","y","colour"]) fun _ _ _ _ _ _ us hl=>match us,hl with | [_,_,_,_,_],_=>rfl
 have df_41:Def K mg "shape_of" f_41 _ ["part","field","x","y","colour"]:=⟨PySem.W.mg_of X G af_41,kf_41,bf_41⟩
 have Ff_37:=Zay (st:=Zce) lf_37 cf_37 kf_37
 have bf_37:=Ff_37.binds (ps:=["parts","plates","field","place"]) fun _ _ _ _ _ _ us hl=>match us,hl with | [_,_,_,_],_=>rfl
 have df_37:Def K mg "shapes_at" f_37 _ ["parts","plates","field","place"]:=⟨PySem.W.mg_of X G af_37,kf_37,bf_37⟩
 have Ff_24:=Zay (st:=Zfa) lf_24 cf_24 kf_24
 have bf_24:=Ff_24.binds (ps:=["bare"]) fun _ _ _ _ _ _ us hl=>match us,hl with | [_],_=>rfl
 have df_24:Def K mg "least_place" f_24 _ ["bare"]:=⟨PySem.W.mg_of X G af_24,kf_24,bf_24⟩
 have Ff_45:=Zay (st:=Zes) lf_45 cf_45 kf_45
 have bf_45:=Ff_45.binds (ps:=["laying","bare"]) fun _ _ _ _ _ _ us hl=>match us,hl with | [_,_],_=>rfl
 have df_45:Def K mg "steps" f_45 _ ["laying","bare"]:=⟨PySem.W.mg_of X G af_45,kf_45,bf_45⟩
 have Ff_21:=Zay (st:=Zco) lf_21 cf_21 kf_21
 have bf_21:=Ff_21.binds (ps:=["laying"]) fun _ _ _ _ _ _ us hl=>match us,hl with | [_],_=>rfl
 have df_21:Def K mg "reached_sets" f_21 _ ["laying"]:=⟨PySem.W.mg_of X G af_21,kf_21,bf_21⟩
 have Ff_22:=Zay (st:=ZcJ) lf_22 cf_22 kf_22
 have bf_22:=Ff_22.binds (ps:=["laying"]) fun _ _ _ _ _ _ us hl=>match us,hl with | [_],_=>rfl
 have df_22:Def K mg "fewest_lines" f_22 _ ["laying"]:=⟨PySem.W.mg_of X G af_22,kf_22,bf_22⟩
 have Ff_42:=Zay (st:=Zdw) lf_42 cf_42 kf_42
 have bf_42:=Ff_42.binds (ps:=["laying","bare","plate"]) fun _ _ _ _ _ _ us hl=>match us,hl with | [_,_,_],_=>rfl
 have df_42:Def K mg "line_at" f_42 _ ["laying","bare","plate"]:=⟨PySem.W.mg_of X G af_42,kf_42,bf_42⟩
 have Ff_2:=Zay (st:=Zet) lf_2 cf_2 kf_2
 have bf_2:=Ff_2.binds (ps:=["laying","fewest","bare"]) fun _ _ _ _ _ _ us hl=>match us,hl with | [_,_,_],_=>rfl
 have df_2:Def K mg "first_step_of_fewest" f_2 _ ["laying","fewest","bare"]:=⟨PySem.W.mg_of X G af_2,kf_2,bf_2⟩
 have Ff_10:=Zay (st:=Zfi) lf_10 cf_10 kf_10
 have bf_10:=Ff_10.binds (ps:=["laying","fewest"]) fun _ _ _ _ _ _ us hl=>match us,hl with | [_,_],_=>rfl
 have df_10:Def K mg "first_of_fewest" f_10 _ ["laying","fewest"]:=⟨PySem.W.mg_of X G af_10,kf_10,bf_10⟩
 have Ff_43:=Zay (st:=Zcn) lf_43 cf_43 kf_43
 have bf_43:=Ff_43.binds (ps:=["refusal"]) fun _ _ _ _ _ _ us hl=>match us,hl with | [_],_=>rfl
 have df_43:Def K mg "refused" f_43 _ ["refusal"]:=⟨PySem.W.mg_of X G af_43,kf_43,bf_43⟩
 have Ff_3:=Zay (st:=Zdo) lf_3 cf_3 kf_3
 have bf_3:=Ff_3.binds (ps:=["c"]) fun _ _ _ _ _ _ us hl=>match us,hl with | [_],_=>rfl
 have df_3:Def K mg "read_right_catalogue" f_3 _ ["c"]:=⟨PySem.W.mg_of X G af_3,kf_3,bf_3⟩
 have Ff_31:=Zay (st:=Zdv) lf_31 cf_31 kf_31
 have bf_31:=Ff_31.binds (ps:=["c","f"]) fun _ _ _ _ _ _ us hl=>match us,hl with | [_,_],_=>rfl
 have df_31:Def K mg "read_given" f_31 _ ["c","f"]:=⟨PySem.W.mg_of X G af_31,kf_31,bf_31⟩
 have Ff_39:=Zay (st:=ZiD) lf_39 cf_39 kf_39
 have bf_39:=Ff_39.binds (ps:=["text"]) fun _ _ _ _ _ _ us hl=>match us,hl with | [_],_=>rfl
 have df_39:Def K mg "told_text" f_39 _ ["text"]:=⟨PySem.W.mg_of X G af_39,kf_39,bf_39⟩
 have Ff_first:=Zay (st:=Zdx) lf_first cf_first kf_first
 have bf_first:=Ff_first.binds (ps:=["c","f","s"]) fun _ _ _ _ _ _ us hl=>match us,hl with | [_,_,_],_=>rfl
 have df_first:Def K mg "first" f_first _ ["c","f","s"]:=⟨PySem.W.mg_of X G af_first,kf_first,bf_first⟩
 have clsC:Cls K C:=⟨pgC,hdC,poC,saC⟩
 have mkrC:Mk K C r_init:=⟨mkC,ar_init,ir_init,kcC⟩
 have clsDp:Cls K Dp:=⟨pgDp,hdDp,poDp,saDp⟩
 have mkrDp:Mk K Dp p_init:=⟨mkDp,ap_init,ip_init,kcDp⟩
 have clsDf:Cls K Df:=⟨pgDf,hdDf,poDf,saDf⟩
 have mkrDf:Mk K Df f_init:=⟨mkDf,af_init,if_init,kcDf⟩
 have clsDl:Cls K Dl:=⟨pgDl,hdDl,poDl,saDl⟩
 have mkrDl:Mk K Dl l_init:=⟨mkDl,al_init,il_init,kcDl⟩
 have clsDy:Cls K Dy:=⟨pgDy,hdDy,poDy,saDy⟩
 have mkrDy:Mk K Dy y_init:=⟨mkDy,ay_init,iy_init,kcDy⟩
 have clsGv:Cls K Gv:=⟨pgGv,hdGv,poGv,saGv⟩
 have mkrGv:Mk K Gv g_init:=⟨mkGv,ag_init,ig_init,kcGv⟩
 have g_63:∃ t,mg "LONGEST_FIELD"=some (.int (16384) t):=⟨_,PySem.W.mg_of X G z_63⟩
 have g_52:∃ t,mg "LONGEST_CATALOGUE"=some (.int (1048576) t):=⟨_,PySem.W.mg_of X G z_52⟩
 have g_76:∃ t,mg "TOO_LONG"=some (.int (-2) t):=⟨_,PySem.W.mg_of X G z_76⟩
 have g_77:∃ t,mg "NO_FIELD"=some (.int (-10) t):=⟨_,PySem.W.mg_of X G z_77⟩
 have g_66:∃ t,mg "NO_CATALOGUE"=some (.int (-6) t):=⟨_,PySem.W.mg_of X G z_66⟩
 have g_51:∃ t,mg "CATALOGUE_NOT_RIGHT"=some (.int (-8) t):=⟨_,PySem.W.mg_of X G z_51⟩
 have g_80:∃ t,mg "NO_NAME"=some (.int (-1) t):=⟨_,PySem.W.mg_of X G z_80⟩
 have g_78:∃ t,mg "NO_COVER"=some (.int (-3) t):=⟨_,PySem.W.mg_of X G z_78⟩
 have g_70:∃ t,mg "MOST_PARTS"=some (.int (64) t):=⟨_,PySem.W.mg_of X G z_70⟩
 have g_53:∃ t,mg "LONGEST_PART_NAME"=some (.int (8) t):=⟨_,PySem.W.mg_of X G z_53⟩
 have g_56:∃ t,mg "GREATEST_HEIGHT"=some (.int (18) t):=⟨_,PySem.W.mg_of X G z_56⟩
 have g_57:∃ t,mg "GREATEST_WEIGHT"=some (.int (9999) t):=⟨_,PySem.W.mg_of X G z_57⟩
 have g_68:∃ t,mg "PLATE_WIDTH"=some (.int (6) t):=⟨_,PySem.W.mg_of X G z_68⟩
 have g_69:∃ t,mg "PLATE_DEPTH"=some (.int (4) t):=⟨_,PySem.W.mg_of X G z_69⟩
 have g_67:∃ t,mg "LONGEST_NAME"=some (.int (16) t):=⟨_,PySem.W.mg_of X G z_67⟩
 have g_46:∃ t,mg "GREATEST_WIDTH_catalogues"=some (.int (16) t):=⟨_,PySem.W.mg_of X G z_46⟩
 have g_47:∃ t,mg "GREATEST_DEPTH_catalogues"=some (.int (16) t):=⟨_,PySem.W.mg_of X G z_47⟩
 have g_49:∃ t,mg "GREATEST_WIDTH_fields"=some (.int (6) t):=⟨_,PySem.W.mg_of X G z_49⟩
 have g_50:∃ t,mg "GREATEST_DEPTH_fields"=some (.int (12) t):=⟨_,PySem.W.mg_of X G z_50⟩
 have g_83:∃ t,mg "DIGITS"=some (.str "0123456789" t):=⟨_,PySem.W.mg_of X G z_83⟩
 have g_81:∃ t,mg "LETTERS"=some (.str "abcdefghijklmnopqrstuvwxyz" t):=⟨_,PySem.W.mg_of X G z_81⟩
 have g_82:∃ t,mg "NO_CELL"=some (.str "." t):=⟨_,PySem.W.mg_of X G z_82⟩
 have g_84:∃ t,mg "PLAIN"=some (.str "#" t):=⟨_,PySem.W.mg_of X G z_84⟩
 have g_85:∃ t,mg "STUD"=some (.str "s" t):=⟨_,PySem.W.mg_of X G z_85⟩
 have g_86:∃ t,mg "TUBE"=some (.str "t" t):=⟨_,PySem.W.mg_of X G z_86⟩
 have g_65:∃ t,mg "STUD_AND_TUBE"=some (.str "b" t):=⟨_,PySem.W.mg_of X G z_65⟩
 have g_75:∃ t,mg "NO_COLOUR"=some (.str "." t):=⟨_,PySem.W.mg_of X G z_75⟩
 have g_len:mg "len"=none:=PySem.W.mg_none_of X G z_len
 have g_ord:mg "ord"=none:=PySem.W.mg_none_of X G z_ord
 have g_range:mg "range"=none:=PySem.W.mg_none_of X G z_range
 have g_enumerate:mg "enumerate"=none:=PySem.W.mg_none_of X G z_enumerate
 have g_zip:mg "zip"=none:=PySem.W.mg_none_of X G z_zip
 have g_dict:mg "dict"=none:=PySem.W.mg_none_of X G z_dict
 have g_all:mg "all"=none:=PySem.W.mg_none_of X G z_all
 have g_sorted:mg "sorted"=none:=PySem.W.mg_none_of X G z_sorted
 have g_min:mg "min"=none:=PySem.W.mg_none_of X G z_min
 have e:=hfa.symm.trans (PySem.W.mg_of X G af_first)
 cases e
 refine ⟨_,bf_first,fun base _ _=>?_⟩
 have T:TxtR K mg C:=⟨clsC,nC_text,nC_at,nC_stuck,PySem.W.mg_of X G aC,g_len,g_ord,g_range,g_83⟩
 have G_codes:=ZkX (P:=Pg) (w:=w) (base:=base) Ff_44 T
 have G_init:=Zmy (P:=Pg) (w:=w) (base:=base) Fr_init T
 have G_has:=ZlY (P:=Pg) (w:=w) (base:=base) Fr_has T
 have G_sees:=Zmz (P:=Pg) (w:=w) (base:=base) Fr_sees T Fr_has br_has mr_has.mt
 have G_take:=ZmA (P:=Pg) (w:=w) (base:=base) Fr_take T G_sees br_sees mr_sees.mt
 have G_signs:=ZkZ (P:=Pg) (w:=w) (base:=base) Fr_signs T G_codes df_44 G_take mr_take
 have G_num:=Zjq (P:=Pg) (w:=w) (base:=base) Fr_num T G_codes df_44 G_sees mr_sees
 have G_rows:=ZmB (P:=Pg) (w:=w) (base:=base) Fr_rows T G_codes df_44 G_take mr_take G_signs mr_signs
 have G_end:=ZnX (P:=Pg) (w:=w) (base:=base) Fr_end T G_has mr_has
 have TP:TxtP K mg Dp:=⟨clsDp,nDp_name,nDp_width,nDp_depth,nDp_height,nDp_places,PySem.W.mg_of X G aDp,g_81,g_70,g_53,g_46,g_47,g_56,g_57,g_68,g_69,g_82,g_84,g_85,g_86,g_65,g_enumerate,g_zip,g_dict,g_all⟩
 have TG:TxtG K mg Gv:=⟨clsGv,nGv_refusal,nGv_parts,nGv_field,nGv_lines,PySem.W.mg_of X G aGv,g_52,g_76,g_66,g_51⟩
 have G_name:=ZmE (P:=Pg) (w:=w) (base:=base) Fr_name T TP G_codes df_44 G_take mr_take G_sees mr_sees
 have G_pinit:=Zk2 (P:=Pg) (w:=w) (base:=base) Fp_init TP
 have G_part:=ZmG (P:=Pg) (w:=w) (base:=base) Ff_32 T TP mkrDp G_pinit bp_init G_signs mr_signs G_num mr_num G_rows mr_rows G_name mr_name
 have G_cat:=ZnZ (P:=Pg) (w:=w) (base:=base) Ff_13 T TP G_part df_32 G_has mr_has G_end mr_end
 have G_cells:=Zk3 (P:=Pg) (w:=w) (base:=base) Ff_40 T TP
 have G_xof:=Zn0 (P:=Pg) (w:=w) (base:=base) Ff_x_of TP
 have G_yof:=Zn1 (P:=Pg) (w:=w) (base:=base) Ff_y_of TP
 have G_zof:=Zn2 (P:=Pg) (w:=w) (base:=base) Ff_z_of TP
 have G_form:=ZmK (P:=Pg) (w:=w) (base:=base) Ff_6 T TP
 have G_sides:=Zk4 (P:=Pg) (w:=w) (base:=base) Ff_5 TP G_cells df_40 G_xof df_x_of G_yof df_y_of G_zof df_z_of
 have G_free:=ZmL (P:=Pg) (w:=w) (base:=base) Ff_1 T TP G_codes df_44
 have G_near:=ZmM (P:=Pg) (w:=w) (base:=base) Ff_26 TP G_xof df_x_of G_yof df_y_of G_zof df_z_of
 have G_hang:=ZmN (P:=Pg) (w:=w) (base:=base) Ff_14 T TP G_cells df_40 G_near df_26
 have G_rightP:=Zjx (P:=Pg) (w:=w) (base:=base) Ff_15 G_free df_1 G_sides df_5 G_hang df_14
 have G_rise:=ZmO (P:=Pg) (w:=w) (base:=base) Ff_27 TP
 have G_rightC:=Zjy (P:=Pg) (w:=w) (base:=base) Ff_4 TP G_rise df_27 G_rightP df_15
 have G_plates:=ZjA (P:=Pg) (w:=w) (base:=base) Ff_16 TP G_form df_6
 have G_ginit:=Zln (P:=Pg) (w:=w) (base:=base) Fg_init TG
 have G_refused:=Zit (P:=Pg) (w:=w) (base:=base) Ff_43 TG mkrGv G_ginit bg_init
 have G_readRC:=ZjW (P:=Pg) (w:=w) (base:=base) Ff_3 T TG mkrC G_init br_init mkrGv G_ginit bg_init G_refused df_43 G_cat df_13 G_rightC df_4
 have TF:TxtF K mg Df:=⟨clsDf,nDf_width,nDf_depth,nDf_places,PySem.W.mg_of X G aDf,g_49,g_50,g_75⟩
 have G_finit:=Zk0 (P:=Pg) (w:=w) (base:=base) Ff_init TF
 have G_field:=ZmD (P:=Pg) (w:=w) (base:=base) Ff_30 T TF mkrDf G_finit bf_init G_signs mr_signs G_num mr_num G_rows mr_rows G_end mr_end
 have T2:TxtG2 mg:=⟨g_63,g_77⟩
 have G_rgiven:=Zkl (P:=Pg) (w:=w) (base:=base) Ff_31 T TG T2 mkrC G_init br_init mkrGv G_ginit bg_init G_refused df_43 G_readRC df_3 G_field df_30
 have TY:TxtY K mg Dy:=⟨clsDy,nDy_field,nDy_parts,nDy_plates,nDy_coloured,nDy_shapes,PySem.W.mg_of X G aDy⟩
 have G_colat:=ZlB (P:=Pg) (w:=w) (base:=base) Ff_36 T TF
 have G_cset:=Znd (P:=Pg) (w:=w) (base:=base) Ff_20 T TF G_colat df_36
 have G_shape:=ZlD (P:=Pg) (w:=w) (base:=base) Ff_41 T TP TF G_colat df_36
 have G_shapes:=Zkh (P:=Pg) (w:=w) (base:=base) Ff_37 TF G_colat df_36 G_shape df_41
 have G_yinit:=ZlE (P:=Pg) (w:=w) (base:=base) Fy_init T TY TF G_plates df_16 G_cset df_20 G_shapes df_37
 have G_least:=ZlC (P:=Pg) (w:=w) (base:=base) (mg:=mg) Ff_24
 have G_steps:=ZlF (P:=Pg) (w:=w) (base:=base) (Dq:=Dp) (D:=Df) Ff_45 TY G_least df_24
 have G_reached:=ZiB (P:=Pg) (w:=w) (base:=base) Ff_21 T TY g_sorted G_steps df_45
 have G_fewest:=Zkk (P:=Pg) (w:=w) (base:=base) Ff_22 T g_min G_reached df_21 G_steps df_45
 have TL:TxtL K mg Dl:=⟨clsDl,nDl_part,nDl_colour,nDl_x,nDl_y,nDl_z,nDl_turns,PySem.W.mg_of X G aDl⟩
 have G_bname:=ZlG (P:=Pg) (w:=w) (base:=base) Ff_17 T g_67 mkrC G_init br_init G_name mr_name G_end mr_end
 have G_linit:=ZlH (P:=Pg) (w:=w) (base:=base) Fl_init TL
 have G_lineat:=Zkq (P:=Pg) (w:=w) (base:=base) (Dq:=Dp) Ff_42 TY TF TL mkrDl G_linit bl_init G_least df_24 G_colat df_36
 have G_ltext:=ZlI (P:=Pg) (w:=w) (base:=base) (C:=C) Ff_35 TP TL G_codes df_44
 have G_btext:=ZlJ (P:=Pg) (w:=w) (base:=base) Ff_29 G_codes df_44 G_ltext df_35
 have G_told:=Zng (P:=Pg) (w:=w) (base:=base) Ff_39 T
 have G_fstep:=ZlK (P:=Pg) (w:=w) (base:=base) Ff_2 G_steps df_45
 have G_first:=ZlL (P:=Pg) (w:=w) (base:=base) Ff_10 TY G_fstep df_2 G_lineat df_42
 exact Zkw Ff_first TG TY G_bname df_17 g_80 G_rgiven df_31 mkrDy G_yinit by_init G_fewest df_22 g_78 G_first df_10 G_btext df_29 G_told df_39
open PySem.W in
theorem dec_ok (as:List WData) (h:PySem.Challenge.rw_platecover_s04_first.pre as=true):∃ (args:List Sa.Arg) (ans:List Int),as=args.map Sa.Arg.data∧(∀ ns,Sa.Arg.ints ns∈args→ns.length≤sizeLine)∧PySem.Challenge.rw_platecover_s04_first.post as (.list (ans.map .int))=true ∧
  (∃ c f b,args=[.ints c,.ints f,.ints b]∧Sm.InB c∧Sm.InB f∧Sm.InB b∧ans=PyWqasca.first c f b):=by
 have said:PySem.Challenge.rw_platecover_s04_first.wellSaid=true:=by decide +kernel
 obtain ⟨a,hw,_,e⟩:=(OpenSpec.pre_iff said _).mp h
 subst e
 obtain ⟨c,f,b,u⟩:=a
 have hw1:=Codec.and_of hw
 have hw2:=Codec.and_of hw1.1
 have hw3:=Codec.and_of hw1.2
 have hw4:=Codec.and_of hw3.1
 have hw5:=Codec.and_of hw3.2
 have hw6:=Codec.and_of hw5.1
 have hlen:=(Codec.inNat_iff.mp hw2.1).2
 have hin:Sm.InB c:=fun x hx=>Codec.inInt_iff.mp (List.all_eq_true.mp hw2.2 x hx)
 have hlen2:=(Codec.inNat_iff.mp hw4.1).2
 have hin2:Sm.InB f:=fun x hx=>Codec.inInt_iff.mp (List.all_eq_true.mp hw4.2 x hx)
 have hlen3:=(Codec.inNat_iff.mp hw6.1).2
 have hin3:Sm.InB b:=fun x hx=>Codec.inInt_iff.mp (List.all_eq_true.mp hw6.2 x hx)
 refine ⟨[.ints c,.ints f,.ints b],PyWqasca.first c f b,rfl,fun ms hm=>?_,?_,c,f,b,rfl,hin,hin2,hin3,rfl⟩
 ·rw [sizeLine_eq]
  rcases List.mem_cons.mp hm with e | e
  ·injection e with e
   rw [e]
   exact Nat.le_trans hlen (by decide)
  ·rcases List.mem_cons.mp e with e | e
   ·injection e with e
    rw [e]
    exact Nat.le_trans hlen2 (by decide)
   ·have e:=List.mem_singleton.mp e
    injection e with e
    rw [e]
    exact Nat.le_trans hlen3 (by decide)
 ·exact (OpenSpec.post_iff said hw _ []).mpr rfl
end Pr
open PySem PySem.W PyProof.Rows
set_option maxRecDepth 100000 in
set_option maxHeartbeats 0 in
theorem PySem.Challenge.cw_platecover_s04_first_holds : PySem.Challenge.rw_platecover_s04_first.Holds := by
 w_on; k_headS; (case hw=>exact ⟨[.list [],.list [],.list []],by decide +kernel,by decide +kernel⟩)
 k_fillS
 refine Sa.walk_spec (r:=PySem.Challenge.rw_platecover_s04_first) (k:=10) (ps:=["c","f","s"]) (sp:=Pr.spFirstC) (Iv:=fun args ans=>∃ c f b,args=[.ints c,.ints f,.ints b]∧Sm.InB c∧Sm.InB f∧Sm.InB b∧ans=PyWqasca.first c f b) ⟨rfl,by decide,by decide⟩ rfl Pr.dec_ok (fun w h Y=>PySem.W.kIn_of Y) ?F ?S
 case F=>
  intro w mg fa h KX G hmg
  refine' Pr.all_mk KX G hmg ?aC ?aDp ?aDf ?aDl ?aDy ?aGv ?ar_init ?ir_init ?lr_init ?cr_init ?kr_init ?ar_has ?ir_has ?lr_has ?cr_has ?kr_has ?ar_sees ?ir_sees ?lr_sees ?cr_sees ?kr_sees ?ar_take ?ir_take ?lr_take ?cr_take ?kr_take ?ar_signs ?ir_signs ?lr_signs ?cr_signs ?kr_signs ?ar_num ?ir_num ?lr_num ?cr_num ?kr_num ?ar_name ?ir_name ?lr_name ?cr_name ?kr_name ?ar_rows ?ir_rows ?lr_rows ?cr_rows ?kr_rows ?ar_end ?ir_end ?lr_end ?cr_end ?kr_end ?ap_init ?ip_init ?lp_init ?cp_init ?kp_init ?af_init ?if_init ?lf_init ?cf_init ?kf_init ?al_init ?il_init ?ll_init ?cl_init ?kl_init ?ay_init ?iy_init ?ly_init ?cy_init ?ky_init ?ag_init ?ig_init ?lg_init ?cg_init ?kg_init ?af_44 ?lf_44 ?cf_44 ?kf_44 ?af_32 ?lf_32 ?cf_32 ?kf_32 ?af_13 ?lf_13 ?cf_13 ?kf_13 ?af_40 ?lf_40 ?cf_40 ?kf_40 ?af_x_of ?lf_x_of ?cf_x_of ?kf_x_of ?af_y_of ?lf_y_of ?cf_y_of ?kf_y_of ?af_z_of ?lf_z_of ?cf_z_of ?kf_z_of ?af_1 ?lf_1 ?cf_1 ?kf_1 ?af_5 ?lf_5 ?cf_5 ?kf_5 ?af_26 ?lf_26 ?cf_26 ?kf_26 ?af_14 ?lf_14 ?cf_14 ?kf_14 ?af_15 ?lf_15 ?cf_15 ?kf_15 ?af_27 ?lf_27 ?cf_27 ?kf_27 ?af_4 ?lf_4 ?cf_4 ?kf_4 ?af_6 ?lf_6 ?cf_6 ?kf_6 ?af_16 ?lf_16 ?cf_16 ?kf_16 ?af_17 ?lf_17 ?cf_17 ?kf_17 ?af_35 ?lf_35 ?cf_35 ?kf_35 ?af_29 ?lf_29 ?cf_29 ?kf_29 ?af_30 ?lf_30 ?cf_30 ?kf_30 ?af_36 ?lf_36 ?cf_36 ?kf_36 ?af_20 ?lf_20 ?cf_20 ?kf_20 ?af_41 ?lf_41 ?cf_41 ?kf_41 ?af_37 ?lf_37 ?cf_37 ?kf_37 ?af_24 ?lf_24 ?cf_24 ?kf_24 ?af_45 ?lf_45 ?cf_45 ?kf_45 ?af_21 ?lf_21 ?cf_21 ?kf_21 ?af_22 ?lf_22 ?cf_22 ?kf_22 ?af_42 ?lf_42 ?cf_42 ?kf_42 ?af_2 ?lf_2 ?cf_2 ?kf_2 ?af_10 ?lf_10 ?cf_10 ?kf_10 ?af_43 ?lf_43 ?cf_43 ?kf_43 ?af_3 ?lf_3 ?cf_3 ?kf_3 ?af_31 ?lf_31 ?cf_31 ?kf_31 ?af_39 ?lf_39 ?cf_39 ?kf_39 ?af_first ?lf_first ?cf_first ?kf_first ?pgC ?hdC ?poC ?saC ?mkC ?kcC ?nC_text ?nC_at ?nC_stuck ?pgDp ?hdDp ?poDp ?saDp ?mkDp ?kcDp ?nDp_name ?nDp_width ?nDp_depth ?nDp_height ?nDp_places ?pgDf ?hdDf ?poDf ?saDf ?mkDf ?kcDf ?nDf_width ?nDf_depth ?nDf_places ?pgDl ?hdDl ?poDl ?saDl ?mkDl ?kcDl ?nDl_part ?nDl_colour ?nDl_x ?nDl_y ?nDl_z ?nDl_turns ?pgDy ?hdDy ?poDy ?saDy ?mkDy ?kcDy ?nDy_field ?nDy_parts ?nDy_plates ?nDy_coloured ?nDy_shapes ?pgGv ?hdGv ?poGv ?saGv ?mkGv ?kcGv ?nGv_refusal ?nGv_parts ?nGv_field ?nGv_lines ?z_63 ?z_52 ?z_76 ?z_77 ?z_66 ?z_51 ?z_80 ?z_78 ?z_70 ?z_53 ?z_56 ?z_57 ?z_68 ?z_69 ?z_67 ?z_46 ?z_47 ?z_49 ?z_50 ?z_83 ?z_81 ?z_82 ?z_84 ?z_85 ?z_86 ?z_65 ?z_75 ?z_len ?z_ord ?z_range ?z_enumerate ?z_zip ?z_dict ?z_all ?z_sorted ?z_min
  (case aC=>k_is)
  (case aDp=>k_is)
  (case aDf=>k_is)
  (case aDl=>k_is)
  (case aDy=>k_is)
  (case aGv=>k_is)
  (case ar_init=>k_is)
  (case ir_init=>k_is)
  (case lr_init=>k_is)
  (case cr_init=>k_is)
  (case kr_init=>k_is)
  (case ar_has=>k_is)
  (case ir_has=>k_is)
  (case lr_has=>k_is)
  (case cr_has=>k_is)
  (case kr_has=>k_is)
  (case ar_sees=>k_is)
  (case ir_sees=>k_is)
  (case lr_sees=>k_is)
  (case cr_sees=>k_is)
  (case kr_sees=>k_is)
  (case ar_take=>k_is)
  (case ir_take=>k_is)
  (case lr_take=>k_is)
  (case cr_take=>k_is)
  (case kr_take=>k_is)
  (case ar_signs=>k_is)
  (case ir_signs=>k_is)
  (case lr_signs=>k_is)
  (case cr_signs=>k_is)
  (case kr_signs=>k_is)
  (case ar_num=>k_is)
  (case ir_num=>k_is)
  (case lr_num=>k_is)
  (case cr_num=>k_is)
  (case kr_num=>k_is)
  (case ar_name=>k_is)
  (case ir_name=>k_is)
  (case lr_name=>k_is)
  (case cr_name=>k_is)
  (case kr_name=>k_is)
  (case ar_rows=>k_is)
  (case ir_rows=>k_is)
  (case lr_rows=>k_is)
  (case cr_rows=>k_is)
  (case kr_rows=>k_is)
  (case ar_end=>k_is)
  (case ir_end=>k_is)
  (case lr_end=>k_is)
  (case cr_end=>k_is)
  (case kr_end=>k_is)
  (case ap_init=>k_is)
  (case ip_init=>k_is)
  (case lp_init=>k_is)
  (case cp_init=>k_is)
  (case kp_init=>k_is)
  (case af_init=>k_is)
  (case if_init=>k_is)
  (case lf_init=>k_is)
  (case cf_init=>k_is)
  (case kf_init=>k_is)
  (case al_init=>k_is)
  (case il_init=>k_is)
  (case ll_init=>k_is)
  (case cl_init=>k_is)
  (case kl_init=>k_is)
  (case ay_init=>k_is)
  (case iy_init=>k_is)
  (case ly_init=>k_is)
  (case cy_init=>k_is)
  (case ky_init=>k_is)
  (case ag_init=>k_is)
  (case ig_init=>k_is)
  (case lg_init=>k_is)
  (case cg_init=>k_is)
  (case kg_init=>k_is)
  (case af_44=>k_is)
  (case lf_44=>k_is)
  (case cf_44=>k_is)
  (case kf_44=>k_is)
  (case af_32=>k_is)
  (case lf_32=>k_is)
  (case cf_32=>k_is)
  (case kf_32=>k_is)
  (case af_13=>k_is)
  (case lf_13=>k_is)
  (case cf_13=>k_is)
  (case kf_13=>k_is)
  (case af_40=>k_is)
  (case lf_40=>k_is)
  (case cf_40=>k_is)
  (case kf_40=>k_is)
  (case af_x_of=>k_is)
  (case lf_x_of=>k_is)
  (case cf_x_of=>k_is)
  (case kf_x_of=>k_is)
  (case af_y_of=>k_is)
  (case lf_y_of=>k_is)
  (case cf_y_of=>k_is)
  (case kf_y_of=>k_is)
  (case af_z_of=>k_is)
  (case lf_z_of=>k_is)
  (case cf_z_of=>k_is)
  (case kf_z_of=>k_is)
  (case af_1=>k_is)
  (case lf_1=>k_is)
  (case cf_1=>k_is)
  (case kf_1=>k_is)
  (case af_5=>k_is)
  (case lf_5=>k_is)
  (case cf_5=>k_is)
  (case kf_5=>k_is)
  (case af_26=>k_is)
  (case lf_26=>k_is)
  (case cf_26=>k_is)
  (case kf_26=>k_is)
  (case af_14=>k_is)
  (case lf_14=>k_is)
  (case cf_14=>k_is)
  (case kf_14=>k_is)
  (case af_15=>k_is)
  (case lf_15=>k_is)
  (case cf_15=>k_is)
  (case kf_15=>k_is)
  (case af_27=>k_is)
  (case lf_27=>k_is)
  (case cf_27=>k_is)
  (case kf_27=>k_is)
  (case af_4=>k_is)
  (case lf_4=>k_is)
  (case cf_4=>k_is)
  (case kf_4=>k_is)
  (case af_6=>k_is)
  (case lf_6=>k_is)
  (case cf_6=>k_is)
  (case kf_6=>k_is)
  (case af_16=>k_is)
  (case lf_16=>k_is)
  (case cf_16=>k_is)
  (case kf_16=>k_is)
  (case af_17=>k_is)
  (case lf_17=>k_is)
  (case cf_17=>k_is)
  (case kf_17=>k_is)
  (case af_35=>k_is)
  (case lf_35=>k_is)
  (case cf_35=>k_is)
  (case kf_35=>k_is)
  (case af_29=>k_is)
  (case lf_29=>k_is)
  (case cf_29=>k_is)
  (case kf_29=>k_is)
  (case af_30=>k_is)
  (case lf_30=>k_is)
  (case cf_30=>k_is)
  (case kf_30=>k_is)
  (case af_36=>k_is)
  (case lf_36=>k_is)
  (case cf_36=>k_is)
  (case kf_36=>k_is)
  (case af_20=>k_is)
  (case lf_20=>k_is)
  (case cf_20=>k_is)
  (case kf_20=>k_is)
  (case af_41=>k_is)
  (case lf_41=>k_is)
  (case cf_41=>k_is)
  (case kf_41=>k_is)
  (case af_37=>k_is)
  (case lf_37=>k_is)
  (case cf_37=>k_is)
  (case kf_37=>k_is)
  (case af_24=>k_is)
  (case lf_24=>k_is)
  (case cf_24=>k_is)
  (case kf_24=>k_is)
  (case af_45=>k_is)
  (case lf_45=>k_is)
  (case cf_45=>k_is)
  (case kf_45=>k_is)
  (case af_21=>k_is)
  (case lf_21=>k_is)
  (case cf_21=>k_is)
  (case kf_21=>k_is)
  (case af_22=>k_is)
  (case lf_22=>k_is)
  (case cf_22=>k_is)
  (case kf_22=>k_is)
  (case af_42=>k_is)
  (case lf_42=>k_is)
  (case cf_42=>k_is)
  (case kf_42=>k_is)
  (case af_2=>k_is)
  (case lf_2=>k_is)
  (case cf_2=>k_is)
  (case kf_2=>k_is)
  (case af_10=>k_is)
  (case lf_10=>k_is)
  (case cf_10=>k_is)
  (case kf_10=>k_is)
  (case af_43=>k_is)
  (case lf_43=>k_is)
  (case cf_43=>k_is)
  (case kf_43=>k_is)
  (case af_3=>k_is)
  (case lf_3=>k_is)
  (case cf_3=>k_is)
  (case kf_3=>k_is)
  (case af_31=>k_is)
  (case lf_31=>k_is)
  (case cf_31=>k_is)
  (case kf_31=>k_is)
  (case af_39=>k_is)
  (case lf_39=>k_is)
  (case cf_39=>k_is)
  (case kf_39=>k_is)
  (case af_first=>k_is)
  (case lf_first=>k_is)
  (case cf_first=>k_is)
  (case kf_first=>k_is)
  (case pgC=>k_is)
  (case hdC=>k_is)
  (case poC=>k_is)
  (case saC=>k_is)
  (case mkC=>k_is)
  (case kcC=>k_is)
  (case nC_text=>k_is)
  (case nC_at=>k_is)
  (case nC_stuck=>k_is)
  (case pgDp=>k_is)
  (case hdDp=>k_is)
  (case poDp=>k_is)
  (case saDp=>k_is)
  (case mkDp=>k_is)
  (case kcDp=>k_is)
  (case nDp_name=>k_is)
  (case nDp_width=>k_is)
  (case nDp_depth=>k_is)
  (case nDp_height=>k_is)
  (case nDp_places=>k_is)
  (case pgDf=>k_is)
  (case hdDf=>k_is)
  (case poDf=>k_is)
  (case saDf=>k_is)
  (case mkDf=>k_is)
  (case kcDf=>k_is)
  (case nDf_width=>k_is)
  (case nDf_depth=>k_is)
  (case nDf_places=>k_is)
  (case pgDl=>k_is)
  (case hdDl=>k_is)
  (case poDl=>k_is)
  (case saDl=>k_is)
  (case mkDl=>k_is)
  (case kcDl=>k_is)
  (case nDl_part=>k_is)
  (case nDl_colour=>k_is)
  (case nDl_x=>k_is)
  (case nDl_y=>k_is)
  (case nDl_z=>k_is)
  (case nDl_turns=>k_is)
  (case pgDy=>k_is)
  (case hdDy=>k_is)
  (case poDy=>k_is)
  (case saDy=>k_is)
  (case mkDy=>k_is)
  (case kcDy=>k_is)
  (case nDy_field=>k_is)
  (case nDy_parts=>k_is)
  (case nDy_plates=>k_is)
  (case nDy_coloured=>k_is)
  (case nDy_shapes=>k_is)
  (case pgGv=>k_is)
  (case hdGv=>k_is)
  (case poGv=>k_is)
  (case saGv=>k_is)
  (case mkGv=>k_is)
  (case kcGv=>k_is)
  (case nGv_refusal=>k_is)
  (case nGv_parts=>k_is)
  (case nGv_field=>k_is)
  (case nGv_lines=>k_is)
  (case z_63=>k_is)
  (case z_52=>k_is)
  (case z_76=>k_is)
  (case z_77=>k_is)
  (case z_66=>k_is)
  (case z_51=>k_is)
  (case z_80=>k_is)
  (case z_78=>k_is)
  (case z_70=>k_is)
  (case z_53=>k_is)
  (case z_56=>k_is)
  (case z_57=>k_is)
  (case z_68=>k_is)
  (case z_69=>k_is)
  (case z_67=>k_is)
  (case z_46=>k_is)
  (case z_47=>k_is)
  (case z_49=>k_is)
  (case z_50=>k_is)
  (case z_83=>k_is)
  (case z_81=>k_is)
  (case z_82=>k_is)
  (case z_84=>k_is)
  (case z_85=>k_is)
  (case z_86=>k_is)
  (case z_65=>k_is)
  (case z_75=>k_is)
  (case z_len=>k_is)
  (case z_ord=>k_is)
  (case z_range=>k_is)
  (case z_enumerate=>k_is)
  (case z_zip=>k_is)
  (case z_dict=>k_is)
  (case z_all=>k_is)
  (case z_sorted=>k_is)
  (case z_min=>k_is)
 case S=>
  rintro K H vs args ans ⟨c,f,b,rfl,hin,hin2,hin3,rfl⟩ hO hP
  cases hP with
  | cons h1 h2=>
   cases h2 with
   | cons h2 h3=>
    cases h3 with
    | cons h3 h4=>
     cases h4
     obtain ⟨a,rfl,hS⟩:=h1
     obtain ⟨d,rfl,hS2⟩:=h2
     obtain ⟨e,rfl,hS3⟩:=h3
     exact ⟨a,d,e,c,f,b,rfl,hS,hS2,hS3,hin,hin2,hin3,fun l H' hl=>⟨l,rfl,hl⟩⟩
