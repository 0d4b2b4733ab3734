import PyProof.Rows.All
import Wide.All
import OpenK.AllK
import Wide.FinOn
import Lean
import PyProof.EqAt
import PyProof.EqKinds
import PyProof.TupleCall
import PyProof.Draws
import PyProof.ZipIter
import PyProof.EnumMake
import PyProof.AttrMissHeap
import KE.KDictOf
import PyProof.Rows.SeqMore2
import PyProof.Rows.SortWalk
import KE.KTryMore
import PyProof.RulesAs
import PyProof.NsDelKeeps
import KE.KIsAll
import PyProof.ExcArgs
import PySem.Challenge.RW_rotstacks_k39_whole_the_cost_comes_true
set_option Elab.async false
set_option linter.all false
set_option maxRecDepth 100000
set_option compiler.extract_closed false
set_option bootstrap.genMatcherCode false
set_option maxHeartbeats 0
def ac:=@Option.bind_some
def ae:=@List.length_map
def af:=@List.getElem?_cons_zero
def ah:=@List.getElem?_eq_some_iff
def ai:=@List.getElem?_cons_succ
def aj:=@Option.map_some
def ak:=@List.length_cons
def am:=@List.length_append
def ao:=@PySem.Heap.get?_push_of_some
def au:=@List.getElem?_append_left
def av:=@List.mem_cons_of_mem
def aw:=@Nat.lt_of_lt_of_le
def ax:=@List.set_cons_zero
def ay:=@List.mem_of_getElem?
def az:=@PySem.Heap.lt_size
def bc:=@List.set_cons_succ
def bh:=@List.size_toArray
def bi:=@List.getElem?_eq_getElem
def bj:=@List.mem_cons_self
def bn:=@Option.some.inj
def bq:=@List.nodup_cons
def bu:=@List.getD_eq_getElem?_getD
def bw:=@List.mem_append_right
def bx:=@Nat.ne_of_lt
def bz:=@List.getElem?_map
def b6:=@Nat.le_refl
def b7:=@List.mem_cons
def b8:=@Bool.false_ne_true
def b9:=@List.length_nil
def cb:=@PySem.Heap.get?_push_size
def cf:=@PySem.Heap.get?_update_other
def cg:=@List.lookup_cons
def ci:=@List.map_cons
def cj:=@List.mem_singleton
def cr:=@List.flatten_cons
def cw:=@List.mem_append
def cx:=@List.getElem?_eq_none
def cz:=@List.map_append
def db:=@List.getElem?_set_ne
def dc:=@Nat.le_trans
def de:=@List.append_nil
def dg:=@List.getElem?_append_right
def dh:=@List.append_assoc
def dj:=@List.length_set
def dm:=@Bool.false_eq_true
def dq:=@List.length_take
def du:=@List.map_nil
def dy:=@List.mem_append_left
def dz:=@List.getElem?_set_self
def d6:=@PySem.W.kia_one
def d7:=@PySem.mem_of_lookup
def d8:=@List.length_replicate
def d9:=@List.sublist_flatten_of_mem
def eg:=@List.ext_getElem?
def ek:=@Bool.and_eq_true
def em:=@List.drop_eq_getElem_cons
def e7:=@List.flatten_append
def fc:=@List.pairwise_cons
def ff:=@Nat.lt_succ_self
def fg:=@List.length_drop
def fj:=@Nat.lt_irrefl
def fm:=@List.sum_cons
def fo:=@PySem.Heap.get?_update_self
def fq:=@PySem.F.plainAttrs_list
def fx:=@List.replicate_succ
def fy:=@List.mem_map
def fz:=@Nat.zero_le
def f6:=@List.mem_flatten
def f8:=@List.singleton_append
def gf:=@Nat.lt_succ_of_lt
def gg:=@Int.toNat_natCast
def gh:=@Int.mul_add
def gk:=@List.all_eq_true
def gl:=@Int.mul_le_mul_of_nonneg_right
def gn:=@List.take_append_of_le_length
def gp:=@Int.add_mul
def gv:=@List.take_of_length_le
def gw:=@Int.mul_right_comm
def gy:=@Int.mul_comm
def h9:=@Int.mul_assoc
def ib:=@List.length_singleton
def ig:=@List.getElem?_set
def ii:=@List.getElem?_concat_length
def ij:=@List.pairwise_append
def io:=@List.map_set
def ip:=@List.drop_length
def iu:=@List.length_pos_iff
def iw:=@List.length_flatten
def i3:=@PySem.Heap.size_push
def i4:=@List.mem_filter
def i6:=@PySem.W.callWith_K
def i7:=@List.filter_append
def i9:=@Int.eq_ofNat_of_zero_le
def jc:=@List.map_map
def jf:=@List.takeWhile_append_dropWhile
def jh:=@List.cons_append
def jo:=@List.eq_nil_of_length_eq_zero
def jp:=@List.of_mem_zip
def jq:=@List.filterMap_cons
def jv:=@Nat.zero_add
def jw:=@Int.zero_add
def jz:=@List.zip_cons_cons
def j0:=@List.take_left
def j1:=@List.mem_range
def j2:=@Array.getElem?_eq_some_iff
def j5:=@List.length_range
def j6:=@Bool.not_eq_true'
def j9:=@PySem.W.mg_of
def ke:=@Option.isSome_iff_exists
def kj:=@List.filter_cons_of_pos
def kl:=@List.filter_cons_of_neg
def kt:=@PySem.W.cellsFrom_some
def ku:=@Nat.ne_of_gt
def ky:=@Option.map_none
def kz:=@List.sum_append
def lb:=@Bool.eq_iff_iff
def l7:=@PySem.W.plainGet_of
def l8:=@List.getElem_of_mem
def mi:=@Bool.not_true
def mr:=@List.mem_filterMap
def mw:=@List.map_replicate
def nh:=@PySem.W.kitx_list
def ni:=@Nat.lt_of_succ_le
def nj:=@Nat.le_of_lt
def oj:=@List.flatten_nil
def o8:=@Nat.le_succ
def o9:=@Int.mul_le_mul_of_nonneg_left
def qm:=@List.range_succ
def qo:=@List.nil_append
def sj:=@PyProof.Rows.callWith_type1
def su:=@Int.mul_lt_mul_of_pos_right
def uh:=@PySem.boot_len
def ui:=@PySem.F.excBase_ValueError
def uj:=@Int.lt_of_mul_lt_mul_right
def uk:=@Int.le_of_mul_le_mul_right
def vo:=@List.getLast?_eq_some_iff
def vp:=@List.getLast?_eq_none_iff
def xy:=@PySem.F.type_list_append
def xz:=@PySem.F.slot_list_append
def zy:=@List.getElem?_replicate
abbrev gj:=List PySem.Str
abbrev gr:=List PySem.Value
abbrev gs:=Option PySem.Value
abbrev gu:=List PySem.Addr
abbrev g0:=List Nat
abbrev g7:=List Int
abbrev g8:=List PySem.Env
abbrev g9:=List PySem.Expr
abbrev h6:=Option PySem.Str
abbrev h7:=Option Int
abbrev h8:=PySem.W.Frag
abbrev ia:=List (PySem.Addr×PySem.Obj)
abbrev ic:=Array PySem.Value
namespace PySem.W.Fast
def tw16532565388948089689:=()
def tw8763362985707160605:=()
def tw13184622150755146257:=()
def tw14652175557475932392:=()
def tw15359066029296091914:=()
def tw12228147544654841872:=()
def tw11184157179852473437:=()
def tw3301900299095288138:=()
def tw4248150464866556625:=()
def tw390746492956994619:=()
def tw13494128715974936559:=()
def tw2566217684597027983:=()
def tw7803279730508470376:=()
def tw16534869220895929806:=()
def tw14726039395708169042:=()
def tw13211135914812361414:=()
def tw4820894714139109015:=()
def tw16443253333803420104:=()
def tw8884897592538199573:=()
def tw14506563637503060239:=()
def tw17814219459025534607:=()
def tw2568920784801229785:=()
def tw2385765791921687726:=()
def tw7725012626891826632:=()
def tw83686271494855530:=()
def tw5071705196183758623:=()
def tw10314626906320716687:=()
def tw2360446847297263352:=()
def tw14767782586175439492:=()
def tw18424013207920332442:=()
def tw10900955558412200155:=()
def tw1038222354390345408:=()
def tw2626721090386267002:=()
def tw11426443043654593942:=()
def tw1489821537144307907:=()
def tw5382353233989407972:=()
def tw5557865022116740448:=()
def tw7985922588008975198:=()
def tw13306724036082246791:=()
def tw11281214088086372846:=()
def tw2310152115407694317:=()
def tw12264938177008825913:=()
def tw17548525900877467917:=()
def tw8454415917110297505:=()
def tw6805036417131008916:=()
def tw8221379785114272625:=()
def tw5040422761706969753:=()
def tw5794113773821822752:=()
def tw9730515312287759631:=()
def tw1030786325826500318:=()
def tw5400519122571244047:=()
def tw13774891425750927617:=()
def tw17904452937772611073:=()
def tw13829647151781561520:=()
def tw11259471920729424210:=()
def tw11660467191492749412:=()
def tw857434056779319320:=()
def tw9891321043359845860:=()
def tw267220488418714694:=()
def tw17702111594606338733:=()
def tw13413012072783188425:=()
def tw3599352512664547791:=()
def tw3427626926012126132:=()
def tw16452817190893736414:=()
def tw6493330665566167147:=()
def tw3307053570587155738:=()
def tw15831293633207555195:=()
def tw10744851713941782746:=()
def tw4437080809759059605:=()
def tw11379704496781480546:=()
def tw3293404830325504663:=()
def tw12048712365203503369:=()
def tw11276991364880623187:=()
def tw7556450903620949716:=()
def tw7345602108324005981:=()
def tw5034716454303145026:=()
def tw165743191007159182:=()
def tw11026720062418087932:=()
def tw10462138171525502897:=()
def tw5276463441047106903:=()
def tw8672185609985027439:=()
def tw3074404603848668348:=()
def tw9861558533797506370:=()
def tw5598528202930427401:=()
def tw5404456642806800512:=()
def tw15359102603107413231:=()
def tw10633405633325726860:=()
def tw12056627316340335133:=()
def tw14573953567509026023:=()
def tw17862767292479973822:=()
def tw3823070681319032280:=()
def tw7789411100190315816:=()
def tw12668837403108445984:=()
def tw7062433028394551289:=()
def tw210044324623842073:=()
def tw12791392028554949626:=()
def tw14321320524742165127:=()
def tw3940656549514326351:=()
def tw7398138059086511904:=()
def tw13372310052145129520:=()
def tw8140187065305788796:=()
def tw2043501010429613985:=()
def tw7762813997912352915:=()
def tw8106365122697232209:=()
def tw6472475503529500419:=()
def tw8983939867327204640:=()
def tw18338382014214175078:=()
def tw6163023441807191163:=()
def tw7753557234431668989:=()
def tw15271102585143624053:=()
def tw7691141007765276501:=()
def tw18032436344276265136:=()
def tw17388220926716677784:=()
def tw489658428743795868:=()
def tw8567998345255177908:=()
def tw1941158131923050496:=()
def tw3140074797282361975:=()
def tw1698672509037629243:=()
def tw7912420782090452261:=()
def tw9509332782846596327:=()
def tw90743548125290388:=()
def tw15178129359280702113:=()
def tw18128463025980351373:=()
def tw16359311613717473350:=()
def tw13026136331304254567:=()
def tw7810788576717098659:=()
def tw713925798845973743:=()
def tw11457838680292950747:=()
def tw185677493752296963:=()
def tw14057238044761739051:=()
def tw871618039370766144:=()
def tw13252475720556201039:=()
def tw17806559798037380195:=()
def tw3197127712834208283:=()
def tw13138367290070879637:=()
def tw3364652684642082450:=()
def tw15803686785222356702:=()
def tw15732433535119192703:=()
def tw4754274491870970602:=()
def tw6296575575862129534:=()
def tw6636851955436695:=()
def tw8287477372257394460:=()
def tw3758021554978405785:=()
def tw520760608191861299:=()
def tw9386486049590100709:=()
def tw14798798110222285957:=()
def tw9681987447262355795:=()
def tw13732824911413277348:=()
def tw5141834587752207717:=()
def tw773837769077973527:=()
def tw4752798683845683672:=()
def tw4197002392583829551:=()
def tw1042730745191015830:=()
def tw1033767309789745180:=()
def tw8168842266489454260:=()
def tw5830473581335204598:=()
def tw916079756521249631:=()
def tw12697813789500214038:=()
def tw11878816300642521280:=()
def tw2678646209641352363:=()
def tw15711869671402154468:=()
def tw11514965064213606460:=()
def tw14434645473729482494:=()
def tw16010320434224640865:=()
def tw8245440984276730856:=()
def tw2902711153862116940:=()
def tw9359556240772958421:=()
def tw10051351566672146426:=()
def tw10230110147958061854:=()
def tw15028540772661132815:=()
def tw2225952277646776182:=()
def tw17850976101320007240:=()
def tw6483710568601462799:=()
def tw9798687865813937216:=()
def tw12844784714904776382:=()
def tw6407755404423631311:=()
def tw32442392172473029:=()
def tw11030319001503708888:=()
def tw14845087081150203729:=()
def tw11783018575412727463:=()
def tw3188163731903929287:=()
def tw956844536867546939:=()
def tw1402506909793297291:=()
def tw919646863622198488:=()
def tw16670337082191713251:=()
def tw5921982454176926030:=()
def tw14777694549974150516:=()
def tw6737199313826581370:=()
def tw5200363831624026585:=()
def tw14163884457187909044:=()
def tw2388936564005763016:=()
def tw17176539658762967806:=()
def tw13337322251715412526:=()
def tw8342137133837284574:=()
def tw11298351402639607737:=()
def tw18251893030405360759:=()
def tw8735021800559381817:=()
def tw7203798550950037231:=()
def tw14114718927673804039:=()
def tw10971501718340150528:=()
def tw8320321486314702060:=()
def tw7122239765987411625:=()
def tw8662221553855630777:=()
def tw6498599440046646152:=()
def tw13993314514963861476:=()
def tw8528296176800286927:=()
def tw923929161578708131:=()
def tw16518523057615377998:=()
def tw6225451384088411900:=()
def tw11944983581154280522:=()
def tw15240120426040654831:=()
def tw9376872425781693605:=()
def tw2975443145256112729:=()
def tw17491880475837568706:=()
def tw7027161504191823226:=()
def tw6860835561147346472:=()
def tw10462606234668850954:=()
def tw11914615696464047931:=()
def tw5346366755811755404:=()
def tw10835153673288822319:=()
def tw10184082262108008333:=()
def tw6325669893785667225:=()
def tw7534559193154534058:=()
def tw16154471270675051047:=()
def tw8132564728747547695:=()
def tw16929985832543967965:=()
def tw4432724790468297698:=()
def tw4434607554527789799:=()
def tw5051928251995058599:=()
def tw15182589722207170881:=()
def tw7378193096076498514:=()
def tw7480326298462670547:=()
def tw2653100503704486927:=()
def tw17436130570902122954:=()
def tw8596935767243345797:=()
def tw14643470665348594077:=()
def tw700388651757566146:=()
def tw6077929630460915418:=()
def tw11240542012213566407:=()
def tw3018418718631485023:=()
def tw13565428580133954243:=()
def tw14649544806754832931:=()
def tw1431313312217236848:=()
def tw1628180050576995452:=()
def tw12224483052660838870:=()
def tw10914920531300362772:=()
def tw2071606587056475718:=()
def tw1679482964403891366:=()
def tw4685104083224611147:=()
def tw4895425382642465790:=()
def tw9331646050020945210:=()
def tw9696894445133737400:=()
def tw15910016796903737934:=()
def tw10064278401438594924:=()
def tw9234954786079030011:=()
def tw11508853816615547366:=()
def tw13449174799738682798:=()
def tw2058278923093271312:=()
def tw5898611799629526299:=()
def tw8226255479208371499:=()
def tw8208403822616478352:=()
def tw5319112565099122083:=()
def tw8890728187195941351:=()
def tw18167784821210252591:=()
def tw18258044017837031756:=()
def tw10405927150804094027:=()
def tw13053231961161858130:=()
def tw16465185968873600360:=()
def tw10250559878737261098:=()
def tw17731801680971310:=()
def tw17194835738226993535:=()
def tw11054019970778517585:=()
def tw6789358147626481695:=()
def tw15936792950938485859:=()
def tw13121867851967981337:=()
def tw11257470793238062447:=()
def tw11786329855717380806:=()
def tw4451723133488617876:=()
def tw13916040809530369296:=()
def tw14584273011410283914:=()
def tw9238318764281012090:=()
def tw234414850379622113:=()
def tw5684158757986905321:=()
def tw8077465801024808693:=()
def tw12978444730273849538:=()
def tw3874008476511197758:=()
def tw953458651356121817:=()
def tw14434250190731548073:=()
def tw1622557476127942605:=()
def tw11066789057533804942:=()
def tw13135332854944644959:=()
def tw11674209156167569879:=()
def tw2510093546764134355:=()
def tw13536869062205639005:=()
def tw12340551673284875809:=()
def tw7023752668811201446:=()
def tw14088921752869556638:=()
def tw7881732657216084209:=()
def tw13144248107758189823:=()
def tw7342397301655820149:=()
def tw11638739722516940127:=()
def tw12225655876219862416:=()
def tw6016840223995648031:=()
def tw14786972923689998084:=()
def tw4501814942782117934:=()
def tw379934576109449449:=()
def tw11546335813446654231:=()
def tw14610191767553438957:=()
def tw16477327522779651720:=()
def tw4348695930679769728:=()
def tw10850915588502522953:=()
def tw13674210368510959279:=()
def tw13029826101994396389:=()
def tw6421166545667665207:=()
def tw2702439272556505636:=()
def tw12823545756317744458:=()
def tw2811824731477432661:=()
def tw17843410382910287299:=()
def tw4044309526861786442:=()
def tw15951587067062996801:=()
def tw3337271120695453532:=()
def tw18099234228738475600:=()
def tw17657989423259337251:=()
def tw3779230181079493466:=()
def tw4050732226601590682:=()
def tw12001160295815477938:=()
def tw15119061523393908440:=()
def tw2325606590763678580:=()
def tw14826912328538242741:=()
def tw15745789919013403160:=()
def tw3872529491428680710:=()
def tw12357591020339336212:=()
def tw4889039987935711080:=()
def tw8694474041912759065:=()
def tw2218715251025163697:=()
def tw15594794917597159775:=()
def tw16350272775003310265:=()
def tw2053884174690754750:=()
def tw15848108554550008055:=()
def tw2538777933177422275:=()
def tw12312779253733893085:=()
def tw4268622498170725944:=()
def tw11478856704950905501:=()
def tw8134376496471485022:=()
def tw15891880329304377277:=()
def tw16888146075410284241:=()
def tw9679322562879927657:=()
def tw8207743015278759484:=()
def tw7310704335439136302:=()
def tw5166654182613107631:=()
def tw4721184679926851813:=()
def tw6986209519638567572:=()
def tw12538974470732270587:=()
def tw11201857759490133884:=()
def tw10390463854679879373:=()
def tw13263897153002040844:=()
def tw3520785460808442817:=()
def tw10276145494591126561:=()
def tw13617027138147984029:=()
def tw951539657040619174:=()
def tw10744680885394510362:=()
def tw947715704256038905:=()
def tw12482032908850363226:=()
def tw5640359272655481057:=()
def tw6696285059151635606:=()
def tw15146276678955778912:=()
def tw5398993404786027997:=()
def tw8795369682736231300:=()
def tw16871584232092169642:=()
def tw15509039178638469261:=()
def tw3874865946749633795:=()
def tw14373656841820193810:=()
def tw10020126217023852985:=()
def tw7399771249758580916:=()
def tw9023141816375520198:=()
def tw17493926111213347753:=()
def tw11462230743417447401:=()
def tw5910249020813440600:=()
def tw419604143202172994:=()
def tw3430374051675386231:=()
def tw3629635586054587791:=()
def tw12455167005163577674:=()
def tw17985486175664672621:=()
def tw12619148345953009265:=()
def tw2620867373401844138:=()
def tw5062136379586313953:=()
def tw1770286503028895335:=()
def tw11114441641902549053:=()
def tw7352019900404277650:=()
def tw16944876944197547581:=()
def tw18230195313121980701:=()
def tw17698045181106920911:=()
def tw9740286613861804963:=()
def tw6731854756357519614:=()
def tw2046811785664083416:=()
def tw13341254790193404362:=()
def tw15214239597741854453:=()
def tw683955573386985426:=()
def tw15418358042037484344:=()
def tw5510226504961764771:=()
def tw10299767521531412719:=()
def tw15399392379912836652:=()
def tw2142981848135296275:=()
def tw13923418127731320396:=()
def tw1856843853476692474:=()
end PySem.W.Fast
open_top headO for PySem.Challenge.rw_rotstacks_k39_whole_the_cost_comes_true
noncomputable section
namespace L2
open PySem PySem.Spec PyProof.Rows
abbrev Key:=Sum Int Str
def z1k:Key->Value->Bool
 | .inl k,v=>Value.isInt k v
 | .inr x,v=>Value.isStrOf x v
def keyH(w:World):Key->Int
 | .inl k=>hashInt k
 | .inr x=>hashStr w x
theorem r8:∀ {k:Key} {v:Value},z1k k v=true->(∃i t,k=Sum.inl i/\v=Value.int i t)\/(∃x t,k=Sum.inr x/\v=Value.str x t)
 | .inl i,v,h=>by
   obtain⟨t,e⟩:=Value.isInt_shape (k:=i) (v:=v) h;exact .inl ⟨i,t,rfl,e⟩
 | .inr x,v,h=>by
   obtain⟨t,e⟩:=Value.isStrOf_shape (x:=x) (v:=v) h;exact .inr ⟨x,t,rfl,e⟩
theorem z1l(a b:Int):decide ((Sum.inl a:Key)=Sum.inl b)=(a==b):=by
 by_cases e:a=b
 ·subst e;simp
 ·have h:¬(Sum.inl a:Key)=Sum.inl b:=λq=>e (Sum.inl.inj q)
  rw[decide_eq_false h];exact(beq_eq_false_iff_ne.mpr e).symm
theorem z1m(a b:Str):decide ((Sum.inr a:Key)=Sum.inr b)=decide (a=b):=by
 by_cases e:a=b
 ·subst e;simp
 ·have h:¬(Sum.inr a:Key)=Sum.inr b:=λq=>e (Sum.inr.inj q)
  rw[decide_eq_false h,decide_eq_false e]
theorem z1n(a:Int)(b:Str):decide ((Sum.inl a:Key)=Sum.inr b)=false:=decide_eq_false (λq=>nomatch q)
theorem z1o(a:Str)(b:Int):decide ((Sum.inr a:Key)=Sum.inl b)=false:=decide_eq_false (λq=>nomatch q)
def zsq(prog:Program)(w:World):PySem.KeyKind prog w Key where
 is:=z1k
 hash:=keyH w
 inj:=λv a b J I=>by
  rcases r8 J with⟨i,t,rfl,rfl⟩ | ⟨x,t,rfl,rfl⟩
  ·rcases r8 I with⟨j,u,rfl,e⟩ | ⟨y,u,rfl,e⟩
   ·injection e with e1 _;rw[e1]
   ·exact nomatch e
  ·rcases r8 I with⟨j,u,rfl,e⟩ | ⟨y,u,rfl,e⟩
   ·exact nomatch e
   ·injection e with e1 _;rw[e1]
 byValue:=λk v h=>by
  rcases r8 h with⟨i,t,rfl,rfl⟩ | ⟨x,t,rfl,rfl⟩ <;> rfl
 pyHash:=λD h=>by
  rcases r8 D with⟨i,t,rfl,rfl⟩ | ⟨x,t,rfl,rfl⟩
  ·exact wpAny_pyHash_int h
  ·exact wpAny_pyHash_str h
 eqBool:=λR D h=>by
  rcases r8 R with⟨i,t,rfl,rfl⟩ | ⟨x,t,rfl,rfl⟩
  ·rcases r8 D with⟨j,u,rfl,rfl⟩ | ⟨y,u,rfl,rfl⟩
   ·rw[z1l] at h;exact wpAny_eqBool_int h
   ·rw[z1n] at h;exact SeqAt.EqAt.int_str i t y u _ _ _ _ h
  ·rcases r8 D with⟨j,u,rfl,rfl⟩ | ⟨y,u,rfl,rfl⟩
   ·rw[z1o] at h;exact SeqAt.EqAt.str_int x t j u _ _ _ _ h
   ·rw[z1m] at h;exact wpAny_eqBool_str h
 «strs»:=λk x t v h=>by
  rcases r8 h with⟨i,u,rfl,e⟩ | ⟨y,u,rfl,e⟩
  ·exact nomatch e
  ·injection e with e1 _
   subst e1;cases v <;> rfl
inductive V where
 | non | bl (b:Bool) | int (i:Int) | str (x:Str) | byt (b:Array UInt8) | flt (b:UInt64) | ref (a:Addr) | ty (n:String)
 deriving DecidableEq
abbrev ik:=List V
def RelV:V->Value->Prop
 | .non,u=>u=Value.none
 | .bl b,u=>u=Value.bool b
 | .int i,u=>∃t,u=Value.int i t
 | .str x,u=>∃t,u=Value.str x t
 | .byt b,u=>∃t,u=Value.bytes b t
 | .flt b,u=>∃t,u=Value.float b t
 | .ref a,u=>u=Value.ref a
 | .ty n,u=>u=Value.type n
abbrev Vals:ik->gr->Prop:=Paired RelV
theorem Vals.length{xs:ik}{us:gr}(r:Vals xs us):xs.length=us.length:=Paired.length r
theorem Vals.get:∀ {xs:ik} {us:gr} {i:Nat} {x:V},Vals xs us->xs[i]?=some x->∃u,us[i]?=some u/\RelV x u
 | _,_,_,_,.nil,e=>by simp at e
 | _,_,0,_,.cons r _,e=>by simp at e;subst e;exact⟨_,rfl,r⟩
 | _,_,i+1,x,.cons _ t,e=>by
   obtain⟨u,h1,h2⟩:=Vals.get (i:=i) (x:=x) t (by simpa using e);exact⟨u,by simpa using h1,h2⟩
theorem Vals.set{x:V}{u:Value}(r:RelV x u):∀ {xs:ik} {us:gr} (i:Nat),Vals xs us->Vals (xs.set i x) (us.set i u)
 | _,_,_,.nil=>.nil
 | _,_,0,.cons _ t=>.cons r t
 | _,_,i+1,.cons q t=>.cons q (Vals.set r i t)
theorem Vals.append:∀ {xs ys:ik} {us ws:gr},Vals xs us->Vals ys ws->Vals (xs++ys) (us++ws)
 | _,_,_,_,.nil,s=>s
 | _,_,_,_,.cons r t,s=>.cons r (Vals.append t s)
theorem Vals.take:∀ {xs:ik} {us:gr} (n:Nat),Vals xs us->Vals (xs.take n) (us.take n)
 | _,_,0,_=>.nil
 | _,_,_+1,.nil=>.nil
 | _,_,n+1,.cons r t=>.cons r (Vals.take n t)
theorem Vals.drop:∀ {xs:ik} {us:gr} (n:Nat),Vals xs us->Vals (xs.drop n) (us.drop n)
 | _,_,0,r=>r
 | _,_,_+1,.nil=>.nil
 | _,_,n+1,.cons _ t=>Vals.drop n t
def RelO:Option V->gs->Prop
 | some v,some u=>RelV v u
 | none,none=>True
 | _,_=>False
def KV{κ:Type}:List (κ×V)->List (κ×Value)->Prop:=Paired λ(p:κ×V) (q:κ×Value)=>p.1=q.1/\RelV p.2 q.2
def kV:Key->V
 | .inl i=>.int i
 | .inr x=>.str x
inductive HO where
 | lst (xs:ik)
 | tup (xs:ik)
 | dK (kvs:List (Key×V)) | dT (kvs:List (List Key×V))
 | set (S:Int->Bool) (n:Nat)
 | ins (C dx:Addr) (fs:List (Str×V))
 | own (x:Addr)
 | xd (fs:List (Str×V))
 | met (f x:Addr)
 | rng (lo hi:Int)
 | frz (o:Obj) (u:HO)
 | tbl (ps:ic)
 | ext (φ:Heap->Prop)
abbrev Hp:=Addr->Option HO
def upd(H:Hp)(a:Addr)(o:HO):Hp:=λb=>if b=a then some o else H b
variable{H:Hp}{a:Addr}{o:HO}
theorem j8:upd H a o a=some o:=by unfold upd;rw[if_pos rfl]
variable{b:Addr}
theorem gm(h:b≠a):upd H a o b=H b:=by unfold upd;rw[if_neg h]
theorem m4(h:H a=some o)(h':H b=none):a≠b:=by
 intro e;subst e;rw[h] at h';cases h'
section
variable (P:Program) (w:World)
def ObjOk(H:Hp)(h:Heap)(a:Addr):HO->Prop
 | .lst xs=>xs.length<=sizeLine/\∃(its:gr) (n:Nat),Vals xs its/\h.get? a=some { cls:=.type "list",data:=.seq its.toArray n }
 | .tup xs=>xs.length<=sizeLine/\∃its:gr,Vals xs its/\IsTup h a its.toArray
 | .dK kvs=>kvs.length<=sizeLine/\(a==sysModules)=false/\∃vs,KV kvs vs/\h.DictOf (zsq P w) a vs
 | .dT kvs=>kvs.length<=sizeLine/\(a==sysModules)=false/\∃xs:List (List Key×Addr×Value),
    Paired (λ(p:List Key×V) (q:List Key×Addr×Value)=>p.1=q.1/\H q.2.1=some (.tup (p.1.map kV))/\RelV p.2 q.2.2) kvs xs /\
    ∃o es D,h.get? a=some o/\o.ExactDict/\o.data=.dict es D/\es.toList=xs.map (entryOfKey (tupleKind (zsq P w)))/\(xs.map (·.1)).Nodup
 | .set S n=>h.SetOf (intKind P w) a S n
 | .ins C dx fs=>H dx=some (.own a)/\fs.length<=1000/\dx≠a/\h.get? a=some (PySem.W.instObj C dx) /\
    ∃mA,h.Ns1 dx mA/\(∀f,RelO (fs.lookup f) (mA f))/\PySem.Within mA (fs.map (·.1))
 | .own _=>∃o,h.get? a=some o
 | .xd fs=>∃mA,h.Ns1 a mA/\∀f,RelO (fs.lookup f) (mA f)
 | .rng lo hi=>∃t u v,h.get? a=some { cls:=.type "range",data:=.fields #[.int lo t,.int hi u,.int 1 v] }
 | .frz o u=>h.get? a=some o/\ObjOk H h a u
 | .tbl ps=>h.get? a=some { cls:=.none,data:=.fields ps }
 | .met f x=>h.get? a=some (PySem.W.methodObj (.ref f) (.ref x))
 | .ext φ=>φ h/\(∃o,h.get? a=some o)/\∀h1 h2:Heap,φ h1->(∀o,h1.get? a=some o->h2.get? a=some o)->φ h2
def HOk(H:Hp)(h:Heap):Prop:=∀a o,H a=some o->ObjOk P w H h a o
end
variable{P:Program}{w:World}{h:Heap}
theorem ObjOk.lt(x:ObjOk P w H h a o):a<h.objs.size:=by
 cases o with
 | lst xs=>obtain⟨_,_,_,_,e⟩:=x;exact az e
 | tup xs=>obtain⟨_,_,_,p⟩:=x;exact p.lt
 | dK kvs=>obtain⟨_,_,_,_,o,_,_,e,_⟩:=x;exact az e
 | dT kvs=>obtain⟨_,_,_,_,o,_,_,e,_⟩:=x;exact az e
 | set S n=>obtain⟨o,_,_,_,e,_⟩:=x;exact az e
 | ins C dx fs=>obtain⟨_,_,_,e,_⟩:=x;exact az e
 | own y=>obtain⟨_,e⟩:=x;exact az e
 | xd fs=>obtain⟨_,⟨_,_,_,e,_⟩,_⟩:=x;exact az e
 | rng lo hi=>obtain⟨_,_,_,e⟩:=x;exact az e
 | frz ob u=>obtain⟨e,_⟩:=x;exact az e
 | tbl ps=>exact az (show h.get? a=some _ from x)
 | met f y=>exact az (show h.get? a=some _ from x)
 | ext φ=>obtain⟨_,⟨_,e⟩,_⟩:=x;exact az e
theorem Paired.mapP{α β:Type}{F G:α->β->Prop}:∀ {D:List α} {I:List β},Paired F D I->(∀a b,F a b->G a b)->Paired G D I
 | _,_,.nil,_=>.nil
 | _,_,.cons r t,f=>.cons (f _ _ r) (Paired.mapP t f)
variable{H':Hp}{h':Heap}
theorem ObjOk.stay(x:ObjOk P w H h a o)(k:∀b u,(b=a\/H b=some (.own a))->h.get? b=some u->h'.get? b=some u)(J:∀b,H b=some (.own a)->H' b=some (.own a))(R:∀b xs,H b=some (.tup xs)->H' b=some (.tup xs)):ObjOk P w H' h' a o:=by
 induction o with
 | lst xs=>obtain⟨z,its,n,r,e⟩:=x;exact⟨z,its,n,r,k _ _ (.inl rfl) e⟩
 | tup xs=>obtain⟨z,its,r,D,e,c⟩:=x;exact⟨z,its,r,D,k _ _ (.inl rfl) e,c⟩
 | dK kvs=>obtain⟨z,y,vs,r,D,es,I,e,c⟩:=x;exact⟨z,y,vs,r,D,es,I,k _ _ (.inl rfl) e,c⟩
 | dT kvs =>
   obtain⟨z,y,xs,r,D,es,I,e,c⟩:=x;exact⟨z,y,xs,Paired.mapP r λp q z=>⟨z.1,R _ _ z.2.1,z.2.2⟩,D,es,I,k _ _ (.inl rfl) e,c⟩
 | set S n=>obtain⟨D,es,I,t,e,c⟩:=x;exact⟨D,es,I,t,k _ _ (.inl rfl) e,c⟩
 | ins C dx fs =>
   obtain⟨d,z,U,e,mA,⟨od,es,I,V,c⟩,r⟩:=x;exact⟨J _ d,z,U,k _ _ (.inl rfl) e,mA,⟨od,es,I,k _ _ (.inr d) V,c⟩,r⟩
 | own y=>obtain⟨D,e⟩:=x;exact⟨D,k _ _ (.inl rfl) e⟩
 | xd fs=>obtain⟨mA,⟨od,es,I,e,c⟩,r⟩:=x;exact⟨mA,⟨od,es,I,k _ _ (.inl rfl) e,c⟩,r⟩
 | rng lo hi=>obtain⟨t,u,v,e⟩:=x;exact⟨t,u,v,k _ _ (.inl rfl) e⟩
 | frz D u ih=>obtain⟨e,q⟩:=x;exact⟨k _ _ (.inl rfl) e,ih q⟩
 | tbl ps =>
   have e:h.get? a=some { cls:=.none,data:=.fields ps }:=x;show h'.get? a=some { cls:=.none,data:=.fields ps };exact k a _ (.inl rfl) e
 | met f y =>
   have e:h.get? a=some (PySem.W.methodObj (.ref f) (.ref y)):=x;show h'.get? a=some (PySem.W.methodObj (.ref f) (.ref y));exact k a _ (.inl rfl) e
 | ext φ=>obtain⟨p,⟨o,e⟩,st⟩:=x;exact⟨st _ _ p λo q=>k _ _ (.inl rfl) q,⟨o,k _ _ (.inl rfl) e⟩,st⟩
theorem HOk.lt(x:HOk P w H h)(e:H a=some o):a<h.objs.size:=(x a o e).lt
theorem HOk.fresh(x:HOk P w H h)(e:h.objs.size<=a):H a=none:=by
 cases q:H a with
 | none=>rfl
 | some u=>exact absurd (aw (x.lt q) e) (fj _)
theorem HOk.kept(x:HOk P w H h)(k:∀b u,h.get? b=some u->h'.get? b=some u):HOk P w H h':=λa o e =>
 (x a o e).stay (λb u _ q=>k b u q) (λ_ q=>q) λ_ _ q=>q
theorem HOk.laid(x:HOk P w H h)(k:∀b u,h.get? b=some u->h'.get? b=some u)(J:h.objs.size<=a)(new:ObjOk P w (upd H a o) h' a o):HOk P w (upd H a o) h':=λb u e=>by
 have D:=x.fresh J;by_cases I:b=a
 ·subst I;rw[j8] at e;cases e;exact new
 ·rw[gm I] at e
  exact(x b u e).stay (λc v _ q=>k c v q) (λc q=>by rw[gm (m4 q D)];exact q) λc xs q=>by rw[gm (m4 q D)];exact q
def Rd(H:Hp)(a:Addr)(u:HO):Prop:=H a=some u\/∃o,H a=some (.frz o u)
variable{u:Value}
theorem Rd.ok{u:HO}(r:Rd H a u)(x:HOk P w H h):ObjOk P w H h a u:=by
 rcases r with r | ⟨o,r⟩
 ·exact x a u r
 ·obtain⟨_,q⟩:=x a _ r
  exact q
def Mut:Option HO->Prop
 | some (.lst _)=>True
 | some (.dK _)=>True
 | some (.dT _)=>True
 | some (.set _ _)=>True
 | some (.ins _ _ _)=>True
 | some (.ext _)=>True
 | _=>False
variable{x e:Addr}{o':HO}
theorem HOk.write(ok:HOk P w H h)(R:Mut (H x))(V:e=x\/H e=some (.own x))(k:∀b u,b≠e->h.get? b=some u->h'.get? b=some u)(U:∃u,h'.get? e=some u)(new:ObjOk P w (upd H x o') h' x o'):HOk P w (upd H x o') h':=λb u q=>by
 have I:∀c y,H c=some (.own y)->c≠x:=λc y r z=>by subst z;rw[r] at R;exact R
 have J:∀c xs,H c=some (.tup xs)->c≠x:=λc xs r z=>by subst z;rw[r] at R;exact R
 by_cases S:b=x
 ·subst S;rw[j8] at q;cases q;exact new
 ·rw[gm S] at q
  by_cases D:b=e
  ·have Y:H b=some (.own x):=by
    rcases V with z | z
    ·exact absurd (D.trans z) S
    ·rw[D];exact z
   rw[q] at Y;cases Y;obtain⟨v,Z⟩:=U;exact⟨v,by rw[D];exact Z⟩
  ·refine(ok b u q).stay (λc v hc r=>k c v ?_ r) (λc r=>by rw[gm (I c b r)];exact r) λc xs r=>by rw[gm (J c xs r)];exact r
   rcases hc with rfl | hc
   ·exact D
   ·rintro rfl
    rcases V with z | z
    ·exact I c b hc z
    ·rw[hc] at z;cases z;exact S rfl
structure Un (fs ex:gu) (H H':Hp) (h h':Heap):Prop where
 keep:∀b o,h.get? b=some o->H b=none->b∉fs->b∉ex->h'.get? b=some o
 slot:∀b o,h.get? b=some o->H b=none->b∈fs->b∉ex->∃sl,h'.get? b=some { o with slots:=sl }
 free:∀b o,h.get? b=some o->H b=none->b∉ex->H' b=none
 there:∀b o,h.get? b=some o->b∉ex->∃o',h'.get? b=some o'
 tups:∀b xs,H b=some (.tup xs)->H' b=some (.tup xs)
 frzs:∀b o u,H b=some (.frz o u)->H' b=some (.frz o u)
 tbls:∀b ps,H b=some (.tbl ps)->∃more,H' b=some (.tbl (ps++more))
variable{fs ex:gu}{H1:Hp}{h1:Heap}
theorem Un.any(u:Un fs ex H H1 h h1){D:Obj}(q:h.get? b=some D)(n:H b=none)(I:b∉ex):∃sl,h1.get? b=some { D with slots:=sl }:=by
 by_cases J:b∈fs
 ·exact u.slot b D q n J I
 ·exact⟨D.slots,u.keep b D q n J I⟩
theorem Un.kept(k:∀b u,h.get? b=some u->h'.get? b=some u):Un fs ex H H h h' :=
 ⟨λb D q _ _ _=>k b D q,λb D q _ _ _=>⟨D.slots,k b D q⟩,λ_ _ _ n _=>n,λb D q _=>⟨D,k b D q⟩,λ_ _ q=>q,λ_ _ _ q=>q,λ_ ps q=>⟨#[],by rw[q];simp⟩⟩
theorem Un.refl:Un fs ex H H h h:=Un.kept λ_ _ q=>q
theorem Un.laid(k:∀b u,h.get? b=some u->h'.get? b=some u)(I:h.objs.size<=a)(D:H a=none):Un fs ex H (upd H a o) h h' where
 keep:=λb u q _ _ _=>k b u q
 slot:=λb u q _ _ _=>⟨u.slots,k b u q⟩
 free:=λb u q n _=>by rw[gm (bx (aw (az q) I))];exact n
 there:=λb u q _=>⟨u,k b u q⟩
 tups:=λb xs q=>by rw[gm (m4 q D)];exact q
 frzs:=λb u xs q=>by rw[gm (m4 q D)];exact q
 tbls:=λb ps q=>⟨#[],by rw[gm (m4 q D),q];simp⟩
theorem Un.write(I:Mut (H x))(V:e=x\/H e=some (.own x))(k:∀b u,b≠e->h.get? b=some u->h'.get? b=some u)(J:∃u,h'.get? e=some u):Un fs ex H (upd H x o) h h':=by
 have S:∀b,H b=none->b≠x:=λb n z=>by subst z;rw[n] at I;exact I
 have U:∀b,H b=none->b≠e:=λb n z=>by
  subst z;rcases V with r | r
  ·exact S b n r
  ·rw[n] at r;cases r
 have R:∀b u,H b=some u->¬Mut (some u)->b≠x:=λb u q nm z=>by subst z;rw[q] at I;exact nm I
 refine⟨λb u q n _ _=>k b u (U b n) q,λb u q n _ _=>⟨u.slots,k b u (U b n) q⟩,λb u q n _=>by rw[gm (S b n)];exact n,λb u q _=>?_,
  λb xs q=>by rw[gm (R b _ q λz=>z)];exact q,λb u xs q=>by rw[gm (R b _ q λz=>z)];exact q,λb ps q=>⟨#[],by rw[gm (R b _ q λz=>z),q];simp⟩⟩
 by_cases D:b=e
 ·subst D;exact J
 ·exact⟨u,k b u D q⟩
def trk(h:Heap)(H:Hp):gu:=(List.range h.objs.size).filter λa=>(H a).isSome
def hidT(h:Heap)(H:Hp):Heap:=PySem.W.hideAll h (trk h H)
theorem zsr(h:Heap)(H:Hp):(hidT h H).objs.size=h.objs.size:=PySem.W.hideAll_size _ _
variable{o:Obj}
theorem zvk(e:h.get? b=some o)(n:H b=none):(hidT h H).get? b=some o :=
 PySem.W.hideAll_get _ e λD=>by
  have q:(H b).isSome=true:=(i4.mp D).2;rw[n] at q;simp at q
theorem zy4(e:(hidT h H).get? b=some o):h.get? b=some o/\H b=none:=by
 have e':h.get? b=some o:=PySem.W.of_hideAll (trk h H) e;refine⟨e',?_⟩;cases q:H b with
 | none=>rfl
 | some x =>
   have D:b∈trk h H:=i4.mpr ⟨j1.mpr (az e'),by simp[q]⟩;have z:(hidT h H).get? b=none:=PySem.W.hideAll_none (trk h H) D;rw[z] at e;cases e
def zy5(g h:Heap)(L:Addr):ia:=(List.range h.objs.size).filterMap λa=>if a=L\/(g.get? a).isSome=true then none else(h.get? a).map λo=>(a,o)
def rest(g h:Heap)(L d:Addr):ia:=(zy5 g h L).filter λp=>decide (p.1≠d)
structure Mod (K:h8) (mg:Str->gs) (base:Heap):Prop where
 kin:K.In base
 glob:base.Ns mainGlobals mg
 blt:∃mb,base.Ns builtinsNs mb/\∀x:Str,x ≠ "__name__"->mb x=bootBuiltins x
 nolimit:base.NoLimit
structure Cx where
 prog:Program
 w:World
 K:h8
 mg:Str->gs
 base:Heap
 A:Around
 N:gj
 s₀:Shared
 H₀:Hp
 env:Env
 outer:g8
 stack:g8
 ex:gu
 fn:Str->Bool
 calm:Bool
 pn:ia
 xe:Value->Shared->Prop
def frs(l:g8):gu:=l.filterMap (·.frame)
protected abbrev Cx.fs(X:Cx):gu:=frs X.outer
def Vis(sc:Scope)(x:Str):Prop:=sc.names.lookup x=some .local\/sc.names.lookup x=some .cell\/sc.names.lookup x=some .free
def Loc(sc:Scope)(x:Str):Prop:=sc.names.lookup x=some .local\/sc.names.lookup x=some .cell
def Look(env:Env)(h:Heap)(m:Str->gs)(x:Str)(u:Value):Prop :=
 (env.kindOf x=some .local/\m x=some u)\/((env.kindOf x=some .cell\/env.kindOf x=some .free)/\∃c,env.cells.lookup x=some c/\h.IsCell c (some u))
structure Cx.Ok (X:Cx):Prop where
 mod:Mod X.K X.mg X.base
 kind:X.env.scope.kind=.function
 glob:X.env.globals=mainGlobals
 blt:X.env.builtins=builtinsNs
 above:X.s₀.heap.objs.size<=X.env.locals
 inj:∀x y c,X.env.cells.lookup x=some c->X.env.cells.lookup y=some c->x=y
 has:∀x,(X.env.kindOf x=some .cell\/X.env.kindOf x=some .free)->∃c,X.env.cells.lookup x=some c
 cab:∀x c,X.fn x=true->X.env.cells.lookup x=some c->X.s₀.heap.objs.size<=c
 hd:X.calm=true->X.A.handled=none
 frames:X.A.frames=some X.stack
 stk:X.stack=X.outer\/(X.stack=X.env::X.outer/\X.env.frame=some X.env.locals)
 exf:∀b∈X.ex,b≠X.env.locals/\∀x c,X.env.cells.lookup x=some c->c≠b
 bs:∀b o,X.base.get? b=some o->X.s₀.heap.get? b=some o/\X.H₀ b=none
 bsz:X.base.objs.size<=X.s₀.heap.objs.size
 noex:∀b o,X.base.get? b=some o->b∉X.ex
 exfs:∀b∈X.ex,b∉X.fs
 funs:X.s₀.heap.FunFrames X.base X.outer
 frf:∀b∈X.fs,X.H₀ b=none
structure Inv (X:Cx) (pins:ia) (σ:List (Option V)) (H:Hp) (s:Shared):Prop where
 ok:X.Ok
 os:s.os=X.s₀.os
 bare:AllBare s.gens
 base:Un X.fs X.ex X.H₀ H X.s₀.heap s.heap
 loc:∃m,s.heap.Ns X.env.locals m/\∀(i:Nat) (x:Str) (v:V),X.N[i]?=some x->σ[i]?=some (some v)->Vis X.env.scope x->∃u,RelV v u/\Look X.env s.heap m x u
 cell:∀x c,X.env.cells.lookup x=some c->∃v,s.heap.IsCell c v
 free:H X.env.locals=none
 freeC:∀x c,X.env.cells.lookup x=some c->H c=none
 pin:∀p∈X.pn++pins,s.heap.get? p.1=some p.2/\H p.1=none/\p.1≠X.env.locals/\p.1∉X.fs/\∀v,p.2.data≠.cell v
 hok:HOk X.prog X.w H s.heap
 len:σ.length=X.N.length
variable{X:Cx}
theorem Cx.Ok.nofr(ok:X.Ok)(e:X.base.get? b=some o):b∉X.fs:=λD=>by
 have:=(ok.funs.mem D).1;rw[e] at this;cases this
variable{pins:ia}{σ:List (Option V)}{s:Shared}
protected theorem Inv.bs(I:Inv X pins σ H s):∀b o,X.base.get? b=some o->s.heap.get? b=some o/\H b=none:=λb o e =>
 ⟨I.base.keep b o (I.ok.bs b o e).1 (I.ok.bs b o e).2 (I.ok.nofr e) (I.ok.noex b o e),I.base.free b o (I.ok.bs b o e).1 (I.ok.bs b o e).2 (I.ok.noex b o e)⟩
theorem Inv.bk(I:Inv X pins σ H s):∀b o,X.base.get? b=some o->s.heap.get? b=some o:=λb o e=>(I.bs b o e).1
theorem Inv.mod(I:Inv X pins σ H s):Mod X.K X.mg X.base:=I.ok.mod
theorem Inv.kIn(I:Inv X pins σ H s):X.K.In s.heap:=I.ok.mod.kin.keeps I.bk
theorem Inv.lt(I:Inv X pins σ H s):X.env.locals<s.heap.objs.size:=let ⟨_,D,_⟩:=I.loc;D.lt
theorem Inv.sz(I:Inv X pins σ H s):X.s₀.heap.objs.size<=s.heap.objs.size:=dc I.ok.above (nj I.lt)
theorem Inv.nofs(I:Inv X pins σ H s)(h:s.heap.objs.size<=a):a∉X.fs:=λD=>by
 obtain⟨_,o,J,_⟩:=I.ok.funs.mem D;exact absurd (aw (az J) (dc I.sz h)) (fj _)
theorem Inv.cne(I:Inv X pins σ H s):∀x c,X.env.cells.lookup x=some c->c≠X.env.locals:=λx c e z=>by
 obtain⟨v,o,R,S⟩:=I.cell x c e;obtain⟨m,⟨o',es,U,D,J,_⟩,_⟩:=I.loc;rw[z,D] at R;cases R;rw[J] at S;cases S
theorem Inv.funs(I:Inv X pins σ H s):s.heap.FunFrames X.base X.outer:=by
 have all:∀(l:g8),(∀b∈frs l,b∈X.fs)->X.s₀.heap.FunFrames X.base l->s.heap.FunFrames X.base l:=by
  intro l;induction l with
  | nil=>intro _ _;trivial
  | cons env r ih =>
    intro S U;obtain⟨V,⟨L,o,D,Y,Z,a⟩,c⟩:=U;have J:L∈X.fs:=S L (by unfold frs;rw[jq,D];exact bj);obtain⟨sl,e⟩:=I.base.slot L o Z (I.ok.frf L J) J λz=>I.ok.exfs L z J;exact⟨V,⟨L,_,D,Y,e,a⟩,ih (λb R=>S b (by unfold frs;rw[jq,D];exact av _ R)) c⟩
 exact all X.outer (λ_ R=>R) I.ok.funs
theorem Inv.stack(I:Inv X pins σ H s):s.heap.FunFrames X.base X.stack:=by
 rcases I.ok.stk with e | ⟨e,hf⟩
 ·rw[e];exact I.funs
 ·rw[e]
  obtain⟨m,D,_⟩:=I.loc;refine .cons (by rw[I.ok.kind];decide) hf D ?_ I.funs;exact Heap.get?_none_of_le (dc I.ok.bsz I.ok.above)
theorem Inv.stkSub(I:Inv X pins σ H s):∀b∈frs X.stack,b∈X.env.locals::X.fs:=λb D=>by
 rcases I.ok.stk with e | ⟨e,hf⟩
 ·rw[e] at D;exact av _ D
 ·rw[e] at D
  unfold frs at D;rw[jq,hf] at D;exact D
theorem Inv.stkFree(I:Inv X pins σ H s):∀b∈frs X.stack,H b=none:=λb hb=>by
 rcases b7.mp (I.stkSub b hb) with e | hb
 ·rw[e];exact I.free
 ·obtain⟨_,o,D,_⟩:=I.ok.funs.mem hb
  exact I.base.free b o D (I.ok.frf b hb) λz=>I.ok.exfs b z hb
variable{g':Array GenState}{t':Nat}{d':Drawn}{ch:gu}
protected theorem Inv.step(I:Inv X pins σ H s)(J:∀b∈ch,(b∈X.ex\/X.s₀.heap.objs.size<=b)/\b≠X.env.locals/\(∀x c,X.env.cells.lookup x=some c->c≠b)/\∀p∈X.pn++pins,p.1≠b)(keep:∀b o,b≠X.env.locals->b∉X.fs->b∉ch->s.heap.get? b=some o->H b=none->h'.get? b=some o)(Y:∀b o,b≠X.env.locals->b∈X.fs->b∉ch->s.heap.get? b=some o->H b=none->∃sl,h'.get? b=some { o with slots:=sl })(free:∀b o,b∉ch->s.heap.get? b=some o->H b=none->H' b=none)(Z:∀b o,b∉ch->s.heap.get? b=some o->∃o',h'.get? b=some o')(g:∀b xs,H b=some (.tup xs)->H' b=some (.tup xs))(h:∀b o u,H b=some (.frz o u)->H' b=some (.frz o u))(j:∀b ps,H b=some (.tbl ps)->∃more,H' b=some (.tbl (ps++more)))(L:∀m,s.heap.Ns X.env.locals m->h'.Ns X.env.locals m)(A:HOk X.prog X.w H' h')(M:AllBare g') :
  Inv X pins σ H' { s with heap:=h',gens:=g',drawn:=d',toks:=t' }:=by
 have t:∀b o,X.s₀.heap.get? b=some o->b≠X.env.locals:=λb o e=>bx (aw (az e) I.ok.above);have U:∀b o,X.s₀.heap.get? b=some o->b∉X.ex->b∉ch:=λb o e D a=>by
  rcases(J b a).1 with z | z
  ·exact D z
  ·exact absurd (aw (az e) z) (fj _)
 have R:∀x c,X.env.cells.lookup x=some c->∀v,s.heap.IsCell c v->h'.IsCell c v:=λx c e v N=>by
  obtain⟨o,f,B⟩:=N;have S:c∉ch:=λz=>(J c z).2.2.1 x c e rfl;by_cases E:c∈X.fs
  ·obtain⟨sl,q⟩:=Y c o (I.cne x c e) E S f (I.freeC x c e)
   exact⟨_,q,B⟩
  ·exact⟨o,keep c o (I.cne x c e) E S f (I.freeC x c e),B⟩
 refine⟨I.ok,I.os,M,⟨λb o e n a D=>?_,λb o e n a D=>?_,λb o e n D=>?_,λb o e D=>?_,λb xs e=>g b xs (I.base.tups b xs e),λb o xs e=>h b o xs (I.base.frzs b o xs e),λb ps e=>?_⟩,?_,λx c e=>?_,?_,λx c e=>?_,λp F=>?_,A,I.len⟩
 ·exact keep b o (t b o e) a (U b o e D) (I.base.keep b o e n a D) (I.base.free b o e n D)
 ·obtain⟨sl,V⟩:=I.base.slot b o e n a D
  obtain⟨C,y⟩:=Y b _ (t b o e) a (U b o e D) V (I.base.free b o e n D);exact⟨C,y⟩
 ·obtain⟨o',V⟩:=I.base.there b o e D
  exact free b o' (U b o e D) V (I.base.free b o e n D)
 ·obtain⟨o',V⟩:=I.base.there b o e D
  exact Z b o' (U b o e D) V
 ·obtain⟨O,V⟩:=I.base.tbls b ps e
  obtain⟨P,y⟩:=j b _ V;exact⟨O++P,by rw[y,Array.append_assoc]⟩
 ·obtain⟨m,Q,T⟩:=I.loc
  refine⟨m,L m Q,λi x v V y W=>?_⟩;obtain⟨u,r,l⟩:=T i x v V y W;refine⟨u,r,?_⟩;rcases l with l | ⟨k,c,e,z⟩
  ·exact .inl l
  ·exact .inr ⟨k,c,e,R x c e _ z⟩
 ·obtain⟨v,z⟩:=I.cell x c e
  exact⟨v,R x c e v z⟩
 ·obtain⟨m,⟨o,_,_,f,_⟩,_⟩:=I.loc
  exact free _ o (λz=>(J _ z).2.1 rfl) f I.free
 ·obtain⟨v,o,f,B⟩:=I.cell x c e
  exact free c o (λz=>(J c z).2.2.1 x c e rfl) f (I.freeC x c e)
 ·obtain⟨e,n,G,K,d⟩:=I.pin p F
  have S:p.1∉ch:=λz=>(J p.1 z).2.2.2 p F rfl;exact⟨keep p.1 p.2 G K S e n,free p.1 p.2 S e n,G,K,d⟩
theorem Inv.un(I:Inv X pins σ H s)(u:Un X.fs [] H H' s.heap h')(J:HOk X.prog X.w H' h'):Inv X pins σ H' { s with heap:=h',toks:=t' }:=by
 obtain⟨m,⟨o,es,c,V,r⟩,_⟩:=id I.loc;obtain⟨sl,Y⟩:=u.any V I.free (by simp);exact I.step (g':=s.gens) (d':=s.drawn) (ch:=[]) (λ_ z=>nomatch z) (λb o _ R _ e n=>u.keep b o e n R (by simp)) (λb o _ R _ e n=>u.slot b o e n R (by simp)) (λb o _ e n=>u.free b o e n (by simp)) (λb o _ e=>u.there b o e (by simp)) u.tups u.frzs u.tbls (λd Z=>by
  obtain⟨o',S,U,D,a⟩:=Z;rw[V] at D;cases D;exact⟨_,S,U,Y,a⟩) J I.bare
theorem Inv.call(I:Inv X pins σ H s)(u:Un (frs X.stack) ch H H' s.heap h')(S:HOk X.prog X.w H' h')(a:AllBare g')(J:∀b∈ch,(b∈X.ex\/X.s₀.heap.objs.size<=b)/\b≠X.env.locals/\(∀x c,X.env.cells.lookup x=some c->c≠b)/\∀p∈X.pn++pins,p.1≠b) :
  Inv X pins σ H' { s with heap:=h',gens:=g',drawn:=d',toks:=t' }:=by
 obtain⟨m,⟨o,es,h,Z,r⟩,_⟩:=id I.loc;obtain⟨sl,U⟩:=u.any Z I.free λz=>(J _ z).2.1 rfl;exact I.step (ch:=ch) J (λb o U d D e n=>u.keep b o e n (λz=>(b7.mp (I.stkSub b z)).elim U d) D) (λb o _ _ D e n=>u.any e n D) (λb o D e n=>u.free b o e n D) (λb o D e=>u.there b o e D) u.tups u.frzs u.tbls (λi f=>by
  obtain⟨o',V,Y,R,g⟩:=f;rw[Z] at R;cases R;exact⟨_,V,Y,U,g⟩) S a
variable{it:Addr}
theorem Inv.turned(I:Inv X pins σ H s)(k:∀b o,b≠it->s.heap.get? b=some o->h'.get? b=some o)(S:H it=none)(R:it≠X.env.locals)(h1:it∈X.ex\/X.s₀.heap.objs.size<=it)(h2:∀x c,X.env.cells.lookup x=some c->c≠it)(U:∀p∈X.pn++pins,p.1≠it):Inv X pins σ H { s with heap:=h',toks:=t' }:=by
 have J:∀b u,H b=some u->b≠it:=λb u e z=>by rw[z,S] at e;cases e
 refine I.step (g':=s.gens) (d':=s.drawn) (ch:=[it]) (λb V=>?_) (λb o _ _ D e _=>k b o (λz=>D (by simp[z])) e) (λb o _ _ D e _=>⟨o.slots,k b o (λz=>D (by simp[z])) e⟩) (λ_ _ _ _ n=>n)
  (λb o D e=>⟨o,k b o (λz=>D (by simp[z])) e⟩) (λ_ _ e=>e) (λ_ _ _ e=>e) (λb ps e=>⟨#[],by rw[e];simp⟩) (λm Y=>?_) (λb u e=>?_) I.bare
 ·have e:b=it:=by simpa using V
  subst e;exact⟨h1,R,h2,U⟩
 ·obtain⟨o,es,Z,a,r⟩:=Y
  exact⟨o,es,Z,k _ o (Ne.symm R) a,r⟩
 ·refine(I.hok b u e).stay (λc v D q=>k c v ?_ q) (λ_ q=>q) λ_ _ q=>q
  rcases D with z | z
  ·rw[z];exact J b u e
  ·exact J c _ z
theorem Inv.tok(I:Inv X pins σ H s)(t:Nat):Inv X pins σ H { s with toks:=t }:=I.un (h':=s.heap) (t':=t) Un.refl I.hok
theorem Inv.kept{t':Nat}(I:Inv X pins σ H s)(k:∀b u,s.heap.get? b=some u->h'.get? b=some u):Inv X pins σ H { s with heap:=h',toks:=t' }:=I.un (Un.kept k) (I.hok.kept k)
theorem Inv.laid{a:Addr}{o:HO}{t':Nat}(I:Inv X pins σ H s)(k:∀b u,s.heap.get? b=some u->h'.get? b=some u)(D:s.heap.objs.size<=a)(new:ObjOk X.prog X.w (upd H a o) h' a o) :
  Inv X pins σ (upd H a o) { s with heap:=h',toks:=t' }:=I.un (Un.laid k D (I.hok.fresh D)) (I.hok.laid k D new)
theorem Inv.write{x e:Addr}{o:HO}{t':Nat}(I:Inv X pins σ H s)(J:Mut (H x))(R:e=x\/H e=some (.own x))(k:∀b u,b≠e->s.heap.get? b=some u->h'.get? b=some u)(D:∃u,h'.get? e=some u)(new:ObjOk X.prog X.w (upd H x o) h' x o):Inv X pins σ (upd H x o) { s with heap:=h',toks:=t' }:=I.un (Un.write J R k D) (I.hok.write J R k D new)
theorem Inv.pins_of{D:ia}(I:Inv X pins σ H s)(h:∀p∈D,s.heap.get? p.1=some p.2/\H p.1=none/\p.1≠X.env.locals/\p.1∉X.fs/\∀v,p.2.data≠.cell v):Inv X D σ H s :=
 ⟨I.ok,I.os,I.bare,I.base,I.loc,I.cell,I.free,I.freeC,λp J=>(cw.mp J).elim (λz=>I.pin p (dy _ z)) (h p),I.hok,I.len⟩
variable{x:Str}{N:gj}{i:Nat}{j:Int}
theorem zmh(D:N.Nodup){j:Nat}(a:N[i]?=some x)(b:N[j]?=some x):i=j:=by
 obtain⟨h1,I⟩:=ah.mp a;obtain⟨h2,J⟩:=ah.mp b;exact(List.getElem_inj D).mp (I.trans J.symm)
variable{M:Model}{A:Around}{E:Value->Shared->Prop}{v:V}{Q:Unit->Shared->Prop}
theorem zkz(I:Inv X pins σ H s)(hN:X.N.Nodup)(hi:X.N[i]?=some x)(S:Loc X.env.scope x)(r:RelV v u)(h:∀s',Inv X pins (σ.set i (some v)) H s'->(∃a,Heap.SameBut a s.heap s'.heap/\(a=X.env.locals\/X.env.cells.lookup x=some a))->Q () s')(hf:X.fn x=true\/X.env.scope.names.lookup x=some .local:=by first | exact .inl rfl | exact .inr rfl | assumption):wpAny M A (storeName X.env x u) Q E s:=by
 obtain⟨m,O,hl⟩:=id I.loc;have l:(X.env.scope.kind==.class || (X.env.scope.kind==.module && X.env.locals != X.env.globals))=false:=by rw[I.ok.kind];rfl
 have Y:i<σ.length:=by rw[I.len];exact(ah.mp hi).1
 have cne:=I.cne;have J:∀ {a:Addr} {h':Heap},(∃o,s.heap.get? a=some o/\H a=none)->Heap.SameBut a s.heap h'->HOk X.prog X.w H h':=λ{a h'} ha D b ob e=>by
  obtain⟨_,_,U⟩:=ha;refine(I.hok b ob e).stay (λc G hc q=>(D.2 c ?_).trans q) (λ_ q=>q) λ_ _ q=>q;rintro rfl;rcases hc with rfl | hc
  ·rw[U] at e;cases e
  ·rw[U] at hc;cases hc
 rcases S with hk | hk
 ·refine wpAny_storeName_local hk O (λh' P D=>?_) l
  obtain⟨oL,_,_,T,_⟩:=id O;refine h _ ⟨I.ok,I.os,I.bare,⟨λb o e n Z S=>?_,λb o e n Z S=>?_,I.base.free,λb o e S=>?_,I.base.tups,I.base.frzs,I.base.tbls⟩,⟨_,P,λj y W R V e3=>?_⟩,λy c e=>?_,I.free,I.freeC,λp hp=>?_,J ⟨oL,T,I.free⟩ D,by simpa using I.len⟩ ⟨_,D,.inl rfl⟩
  ·exact(D.2 b (bx (aw (az e) I.ok.above))).trans (I.base.keep b o e n Z S)
  ·obtain⟨sl,R⟩:=I.base.slot b o e n Z S
   exact⟨sl,(D.2 b (bx (aw (az e) I.ok.above))).trans R⟩
  ·obtain⟨o',R⟩:=I.base.there b o e S
   exact⟨o',(D.2 b (bx (aw (az e) I.ok.above))).trans R⟩
  ·by_cases f:j=i
   ·subst f
    rw[hi] at R;cases R;rw[dz Y] at V;cases V;exact⟨u,r,.inl ⟨hk,by simp⟩⟩
   ·rw[db (Ne.symm f)] at V
    obtain⟨u',r',q⟩:=hl j y W R V e3;refine⟨u',r',?_⟩;rcases q with⟨k,e⟩ | ⟨k,c,e,z⟩
    ·refine .inl ⟨k,?_⟩
     have:y≠x:=λe=>f (zmh hN R (e ▸ hi));simp[this,e]
    ·exact .inr ⟨k,c,e,z.sameBut D (cne y c e)⟩
  ·obtain⟨G,z⟩:=I.cell y c e
   exact⟨G,z.sameBut D (cne y c e)⟩
  ·obtain⟨e,n,K,nf,d⟩:=I.pin p hp
   exact⟨(D.2 p.1 K).trans e,n,K,nf,d⟩
 ·have g:X.fn x=true:=by
   rcases hf with z | z
   ·exact z
   ·rw[z] at hk;cases hk
  obtain⟨c,hc⟩:=I.ok.has x (.inl hk);obtain⟨G,z⟩:=I.cell x c hc;refine wpAny_storeName_cell I.ok.kind hk hc z (λh' t D=>?_);obtain⟨oc,B,C⟩:=id z;refine h { s with heap:=h' } ⟨I.ok,I.os,I.bare,⟨λb o e n Z S=>?_,λb o e n Z S=>?_,I.base.free,λb o e S=>?_,I.base.tups,I.base.frzs,I.base.tbls⟩,⟨m,O.sameBut D (Ne.symm (cne x c hc)),λj y W R V e3=>?_⟩,λy L e=>?_,I.free,I.freeC,λp hp=>?_,J ⟨oc,B,I.freeC x c hc⟩ D,by simpa using I.len⟩ ⟨c,D,.inr hc⟩
  ·exact(D.2 b (bx (aw (az e) (I.ok.cab x c g hc)))).trans (I.base.keep b o e n Z S)
  ·obtain⟨sl,R⟩:=I.base.slot b o e n Z S
   exact⟨sl,(D.2 b (bx (aw (az e) (I.ok.cab x c g hc)))).trans R⟩
  ·obtain⟨o',R⟩:=I.base.there b o e S
   exact⟨o',(D.2 b (bx (aw (az e) (I.ok.cab x c g hc)))).trans R⟩
  ·by_cases f:j=i
   ·subst f
    rw[hi] at R;cases R;rw[dz Y] at V;cases V;exact⟨u,r,.inr ⟨.inl hk,c,hc,t⟩⟩
   ·rw[db (Ne.symm f)] at V
    obtain⟨u',r',q⟩:=hl j y W R V e3;refine⟨u',r',?_⟩;rcases q with q | ⟨k,L,e,z'⟩
    ·exact .inl q
    ·refine .inr ⟨k,L,e,z'.sameBut D ?_⟩
     rintro rfl;exact f (zmh hN R (I.ok.inj _ _ _ e hc ▸ hi))
  ·by_cases F:L=c
   ·subst F;exact⟨_,t⟩
   ·obtain⟨w2,z2⟩:=I.cell y L e
    exact⟨w2,z2.sameBut D F⟩
  ·obtain⟨e,n,K,nf,d⟩:=I.pin p hp
   refine⟨(D.2 p.1 ?_).trans e,n,K,nf,d⟩;intro q;rw[q,B] at e;have q':oc=p.2:=bn e;exact d G (by rw[<-q'];exact C)
theorem zkp(I:Inv X pins σ H s)(D:X.N.Nodup)(hi:X.N[i]?=some x)(J:Loc X.env.scope x)(r:RelV v u)(h:∀s',Inv X pins (σ.set i (some v)) H s'->Q () s')(R:X.fn x=true\/X.env.scope.names.lookup x=some .local:=by first | exact .inl rfl | exact .inr rfl | assumption):wpAny M A (storeName X.env x u) Q E s :=
 zkz I D hi J r (λs' S _=>h s' S) R
variable{s':Shared}
theorem Inv.call'(I:Inv X pins σ H s)(R:s'.os=s.os)(u:Un (frs X.stack) ch H H' s.heap s'.heap)(D:HOk X.prog X.w H' s'.heap)(S:AllBare s'.gens)(J:∀b∈ch,(b∈X.ex\/X.s₀.heap.objs.size<=b)/\b≠X.env.locals/\(∀x c,X.env.cells.lookup x=some c->c≠b)/\∀p∈X.pn++pins,p.1≠b):Inv X pins σ H' s':=by
 obtain⟨h',g',d',t',o'⟩:=s';have e:o'=s.os:=R;subst e;exact I.call (g':=g') (t':=t') (d':=d') u D S J
abbrev XK:=Value->Option Addr->Hp->Prop
abbrev St:=List (Option V)
abbrev VK:=V->Hp->Prop
abbrev TE:=St->Hp->VK->Prop
abbrev TT:=St->Hp->(Bool->Hp->Prop)->Prop
abbrev TA:=St->Hp->(ik->Hp->Prop)->Prop
structure Ends where
 nx:St->Hp->Prop
 rt:VK
 bk:St->Hp->Prop:=λ_ _=>False
 ct:St->Hp->Prop:=λ_ _=>False
abbrev TS:=Ends->St->Hp->Prop
def EP(X:Cx)(pins:ia)(σ:St)(Q:VK)(u:Value)(s':Shared):Prop:=∃v H',Inv X pins σ H' s'/\RelV v u/\Q v H'
def TP(X:Cx)(pins:ia)(σ:St)(Q:Bool->Hp->Prop)(b:Bool)(s':Shared):Prop:=∃H',Inv X pins σ H' s'/\Q b H'
def AP(X:Cx)(pins:ia)(σ:St)(Q:ik->Hp->Prop)(us:gr)(s':Shared):Prop:=∃vs H',Inv X pins σ H' s'/\Vals vs us/\Q vs H'
def SP(X:Cx)(pins:ia)(D:Ends)(f:Flow)(s':Shared):Prop :=
 match f with
 | .next=>∃I H',Inv X pins I H' s'/\D.nx I H'
 | .brk=>∃I H',Inv X pins I H' s'/\D.bk I H'
 | .cont=>∃I H',Inv X pins I H' s'/\D.ct I H'
 | .ret u=>∃v I H',Inv X pins I H' s'/\RelV v u/\D.rt v H'
def PE(X:Cx)(e:Expr)(t:TE):Prop :=
 ∀(pins:ia) (s:Shared) (σ:St) (H:Hp) (Q:VK),Inv X pins σ H s->t σ H Q->wpAny (model X.prog X.w) X.A (eval e X.env) (EP X pins σ Q) X.xe s
def PT(X:Cx)(e:Expr)(t:TT):Prop :=
 ∀(pins:ia) (s:Shared) (σ:St) (H:Hp) (Q:Bool->Hp->Prop),Inv X pins σ H s->t σ H Q->wpAny (model X.prog X.w) X.A (isTrue e X.env (eval e X.env)) (TP X pins σ Q) X.xe s
def PW(X:Cx)(e:Expr)(t:TT):Prop :=
 ∀(whole:Sem Value) (pins:ia) (s:Shared) (σ:St) (H:Hp) (Q:Bool->Hp->Prop),Inv X pins σ H s->t σ H Q->wpAny (model X.prog X.w) X.A (isTrue e X.env whole) (TP X pins σ Q) X.xe s
variable{e:Expr}{t:TA}
theorem PW.pt{t:TT}(h:PW X e t):PT X e t:=h _
def PA(X:Cx)(es:g9)(t:TA):Prop :=
 ∀(pos:Pos) (pins:ia) (s:Shared) (σ:St) (H:Hp) (Q:ik->Hp->Prop),Inv X pins σ H s->t σ H Q->wpAny (model X.prog X.w) X.A (spliced (backTo pos (starEach es X.env))) (AP X pins σ Q) X.xe s
def PS(X:Cx)(st:Stmt)(t:TS):Prop :=
 ∀(pins:ia) (s:Shared) (σ:St) (H:Hp) (D:Ends),Inv X pins σ H s->t D σ H->wpAny (model X.prog X.w) X.A (exec st X.env) (SP X pins D) X.xe s
def PSs(X:Cx)(st:List Stmt)(t:TS):Prop :=
 ∀(pins:ia) (s:Shared) (σ:St) (H:Hp) (D:Ends),Inv X pins σ H s->t D σ H->wpAny (model X.prog X.w) X.A (execs st X.env) (SP X pins D) X.xe s
theorem thn{α:Type}{t:Sem α}{Q D:α->Shared->Prop}(h:wpAny M A t Q E s)(I:∀a s,Q a s->D a s):wpAny M A t D E s:=wpAny_mono h I λ_ _ x=>x
section
variable {X:Cx}
theorem bin{a b:Expr}{ta tb:TE}(J:PE X a ta)(S:PE X b tb){pins:ia}{s:Shared}{σ:St}{H:Hp}{R:V->V->Hp->Prop}(I:Inv X pins σ H s)(h:ta σ H λx H1=>tb σ H1 λy H2=>R x y H2){α:Type}{Q:α->Shared->Prop}{f:Value->Value->Sem α}(U:∀v u s2 x y H2,Inv X pins σ H2 s2->RelV x v->RelV y u->R x y H2->wpAny (model X.prog X.w) X.A (f v u) Q X.xe s2) :
  wpAny (model X.prog X.w) X.A (eval a X.env) (λv D=>wpAny (model X.prog X.w) X.A (eval b X.env) (λu s₂=>wpAny (model X.prog X.w) X.A (f v u) Q X.xe s₂) X.xe D) X.xe s:=by
 refine thn (J pins s σ H _ I h) λv s1 ⟨x,H1,I1,r1,q1⟩=>?_;refine thn (S pins s1 σ H1 _ I1 q1) λu s2 ⟨y,H2,I2,r2,q2⟩=>?_;exact U v u s2 x y H2 I2 r1 r2 q2
def tVar(i:Nat):TE:=λσ H Q=>∃v,σ[i]?=some (some v)/\Q v H
def tC(v:V):TE:=λ_ H Q=>Q v H
theorem z1p{i:Nat}{x:Str}{pos:Pos}(S:X.N[i]?=some x)(U:Vis X.env.scope x)(J:(x==("__debug__" : Str))=false:=by decide)(R:(x==("__classdict__" : Str))=false:=by decide):PE X (.Name x pos) (tVar i):=by
 intro pins s σ H Q I h;obtain⟨v,e,h⟩:=h;obtain⟨m,V,Y⟩:=I.loc;obtain⟨u,r,l⟩:=Y i x v S e U;have D:EP X pins σ Q u s:=⟨v,H,I,r,h⟩;rcases l with⟨hk,Z⟩ | ⟨hk,c,hc,hcell⟩
 ·exact wpAny_Name (wpAny_loadName_local I.ok.kind hk V Z D) J
 ·rcases hk with hk | hk
  ·exact wpAny_Name (wpAny_loadName_cell I.ok.kind hk hc hcell D) J
  ·exact wpAny_Name (wpAny_loadName_free I.ok.kind hk hc hcell D R) J
theorem ym{i j pos}:PE X (.Constant (.int i) j pos) (tC (.int i)):=λ_ _ _ H _ I h=>wpAny_Constant_int ⟨.int i,H,I.tok _,⟨_,rfl⟩,h⟩
theorem z4v{b j pos}:PE X (.Constant (.bool b) j pos) (tC (.bl b)):=λ_ _ _ H _ I h=>Constant_bool ⟨.bl b,H,I,rfl,h⟩
theorem zxy{x j pos}:PE X (.Constant (.str x) j pos) (tC (.str x)):=λ_ _ _ H _ I h=>Calls.Constant_str ⟨.str x,H,I.tok _,⟨_,rfl⟩,h⟩
def Gl(X:Cx)(x:Str):Prop:=X.env.kindOf x=some .globalImplicit
theorem u4{E:Value->Shared->Prop}{pins:ia}{s:Shared}{σ:St}{H:Hp}{x:Str}{u:Value}{pos:Pos}{Q:Value->Shared->Prop}(I:Inv X pins σ H s)(D:Gl X x)(J:X.mg x=some u)(h:Q u s)(R:(x==("__debug__" : Str))=false:=by decide):wpAny (model X.prog X.w) X.A (eval (.Name x pos) X.env) Q E s :=
 Calls.Name_function_global I.ok.kind D (Calls.loadGlobal_global (by rw[I.ok.glob];exact I.mod.glob.keeps I.bk) J h) R
theorem yl{E:Value->Shared->Prop}{pins:ia}{s:Shared}{σ:St}{H:Hp}{x:Str}{u:Value}{pos:Pos}{Q:Value->Shared->Prop}(I:Inv X pins σ H s)(D:Gl X x)(J:X.mg x=none)(R:bootBuiltins x=some u)(h:Q u s)(S:x ≠ "__name__":=by decide)(U:(x==("__debug__" : Str))=false:=by decide):wpAny (model X.prog X.w) X.A (eval (.Name x pos) X.env) Q E s:=by
 obtain⟨V,h1,h2⟩:=I.mod.blt;exact Calls.Name_function_global I.ok.kind D (Calls.loadGlobal_builtin (by rw[I.ok.glob];exact I.mod.glob.keeps I.bk) J (by rw[I.ok.blt];exact h1.keeps I.bk) ((h2 x S).trans R) h) U
theorem zss{x:Str}{v:V}{u:Value}{pos:Pos}(D:Gl X x)(J:X.mg x=some u)(r:RelV v u)(R:(x==("__debug__" : Str))=false:=by decide):PE X (.Name x pos) (tC v) :=
 λ_ _ _ H _ I h=>u4 I D J ⟨v,H,I,r,h⟩ R
theorem zst{x:Str}{v:V}{u:Value}{pos:Pos}(D:Gl X x)(J:X.mg x=none)(R:bootBuiltins x=some u)(r:RelV v u)(S:x ≠ "__name__":=by decide)(U:(x==("__debug__" : Str))=false:=by decide):PE X (.Name x pos) (tC v) :=
 λ_ _ _ H _ I h=>yl I D J R ⟨v,H,I,r,h⟩ S U
variable {a b:Expr} {ta tb:TE} {pos:Pos}
def PC(X:Cx)(op:CmpOp)(a b:Expr)(t:TE):Prop :=
 ∀(pins:ia) (s:Shared) (σ:St) (H:Hp) (Q:VK),Inv X pins σ H s->t σ H Q ->
  wpAny (model X.prog X.w) X.A (eval a X.env) (λv D=>wpAny (model X.prog X.w) X.A (eval b X.env) (λu s₂=>wpAny (model X.prog X.w) X.A (compareOp op v u) (EP X pins σ Q) X.xe s₂) X.xe D) X.xe s
theorem zvl(b:Expr){op:CmpOp}(h:op≠.In)(h2:op≠.NotIn):behindInMarks op b=false:=by
 have D:(op==CmpOp.In)=false:=by cases op <;> first | rfl | exact absurd rfl h
 have I:(op==CmpOp.NotIn)=false:=by cases op <;> first | rfl | exact absurd rfl h2
 cases b <;> simp[behindInMarks,D,I]
def tB(t:TE):TT:=λσ H Q=>t σ H λx H1=>∃c,x=.bl c/\Q c H1
theorem z6e{op:CmpOp}{t:TE}(h:PC X op a b t)(h1:behindInMarks op b=false:=by first | exact zvl _ (by decide) (by decide) | rfl):PT X (.Compare a [op] [b] pos) (tB t):=by
 intro pins s σ H Q I D;refine wpAny_isTrue_Compare1 (thn (h pins s σ H _ I D) λv J h1=>thn h1 λu s2 h2=>thn h2 λc s3 ⟨x,H1,I1,r1,q1⟩=>?_) h1;obtain⟨d,rfl,q⟩:=q1;cases r1;exact wpAny_truthy_bool ⟨H1,I1,q⟩
theorem z1q{e:Expr}{t:TE}(h:PE X e t)(D:∀whole,isTrue e X.env whole=(do let v <-whole;standAt e.pos;holding [v] (truthy v)):=by intro _;rfl):PT X e (tB t):=by
 intro pins s σ H Q I J;refine isTrue_plain (thn (h pins s σ H _ I J) λv s1 ⟨x,H1,I1,r1,q1⟩=>?_) (D _);obtain⟨d,rfl,q⟩:=q1;cases r1;exact wpAny_truthy_bool ⟨H1,I1,q⟩
variable {tA tB':TT} {rest:g9}
def tAnd(t u:TT):TT:=λσ H Q=>t σ H λc H1=>if c=true then u σ H1 Q else Q false H1
def tOr(t u:TT):TT:=λσ H Q=>t σ H λc H1=>if c=true then Q true H1 else u σ H1 Q
def tNot(t:TT):TT:=λσ H Q=>t σ H λc H1=>Q (!c) H1
theorem zy6(D:PT X a tA):PW X (.BoolOp .And [a] pos) tA:=by
 intro J pins s σ H Q I h;refine isTrue_and (thn (D pins s σ H Q I h) λc R e=>?_);cases c with
 | true=>exact isTrue_and_nil e
 | false=>exact e
theorem z1r(D:PT X a tA):PW X (.BoolOp .Or [a] pos) tA:=by
 intro J pins s σ H Q I h;refine isTrue_or (thn (D pins s σ H Q I h) λc R e=>?_);cases c with
 | false=>exact isTrue_or_nil e
 | true=>exact e
theorem z1s(D:PT X a tA)(J:PW X (.BoolOp .And (b::rest) pos) tB'):PW X (.BoolOp .And (a::b::rest) pos) (tAnd tA tB'):=by
 intro R pins s σ H Q I h;refine isTrue_and (thn (D pins s σ H _ I h) λc s1 ⟨H1,I1,q1⟩=>?_);cases c with
 | true=>exact J R pins s1 σ H1 Q I1 q1
 | false=>exact⟨H1,I1,q1⟩
theorem z4w(D:PT X a tA)(J:PW X (.BoolOp .Or (b::rest) pos) tB'):PW X (.BoolOp .Or (a::b::rest) pos) (tOr tA tB'):=by
 intro R pins s σ H Q I h;refine isTrue_or (thn (D pins s σ H _ I h) λc s1 ⟨H1,I1,q1⟩=>?_);cases c with
 | true=>exact⟨H1,I1,q1⟩
 | false=>exact J R pins s1 σ H1 Q I1 q1
theorem z1t(D:PT X a tA):PT X (.UnaryOp .Not a pos) (tNot tA):=by
 intro pins s σ H Q I h;exact isTrue_not (D pins s σ H (λc H1=>Q (!c) H1) I h)
def z4x(ta tb:TE):TE:=λσ H Q=>ta σ H λx H1=>∃c,x=.bl c/\if c=true then tb σ H1 Q else Q (.bl false) H1
def z4y(ta:TE):TE:=λσ H Q=>ta σ H λx H1=>∃c,x=.bl c/\Q (.bl (!c)) H1
theorem z1u{op}{t:TE}(h:PE X a t):PE X (.BoolOp op [a] pos) t:=λpins s σ H Q I D=>BoolOp_one (h pins s σ H Q I D)
theorem z1v(J:PE X a ta)(R:PE X (.BoolOp .And (b::rest) pos) tb):PE X (.BoolOp .And (a::b::rest) pos) (z4x ta tb):=by
 intro pins s σ H Q I h;refine BoolOp_and (thn (J pins s σ H _ I h) λv s1 ⟨x,H1,I1,r1,D⟩=>?_);obtain⟨c,rfl,D⟩:=D;cases r1;refine wpAny_truthy_bool ?_;cases c with
 | true=>exact R pins s1 σ H1 Q I1 D
 | false=>exact⟨.bl false,H1,I1,rfl,D⟩
theorem z1w(J:PE X a ta):PE X (.UnaryOp .Not a pos) (z4y ta):=by
 intro pins s σ H Q I h;refine UnaryOp_ (thn (J pins s σ H _ I h) λv s1 ⟨x,H1,I1,r1,D⟩=>?_);obtain⟨c,rfl,D⟩:=D;cases r1;exact not_of (wpAny_truthy_bool ⟨.bl (!c),H1,I1,rfl,D⟩)
end
def SqL(K:h8)(H:Hp)(a:Addr)(xs:ik):Prop :=
 Rd H a (.lst xs) \/
  ∃(o:Obj) (its:ic) (n:Nat),K.lookup a=some o/\o.cls=.type "list"/\o.dict=none/\o.data=.seq its n/\its.size<=sizeLine/\Vals xs its.toList
def SqT(K:h8)(H:Hp)(a:Addr)(xs:ik):Prop :=
 Rd H a (.tup xs) \/
  ∃(o:Obj) (its:ic) (n:Nat),K.lookup a=some o/\o.cls=.type "tuple"/\o.data=.seq its n/\its.size<=sizeLine/\Vals xs its.toList
def absV:Value->Option V
 | .none=>some .non
 | .bool b=>some (.bl b)
 | .int i _=>some (.int i)
 | .str x _=>some (.str x)
 | .bytes b _=>some (.byt b)
 | .float b _=>some (.flt b)
 | .ref a=>some (.ref a)
 | .type n=>some (.ty n)
 | _=>none
theorem RelV.abs{x:V}(r:RelV x u):absV u=some x:=by
 cases x with
 | non=>cases r;rfl
 | bl _=>cases r;rfl
 | int _=>obtain⟨t,rfl⟩:=r;rfl
 | str _=>obtain⟨t,rfl⟩:=r;rfl
 | byt _=>obtain⟨t,rfl⟩:=r;rfl
 | flt _=>obtain⟨t,rfl⟩:=r;rfl
 | ref _=>cases r;rfl
 | ty _=>cases r;rfl
theorem RelV.inj{x y:V}{u:Value}(r:RelV x u)(q:RelV y u):x=y:=bn (r.abs.symm.trans q.abs)
theorem Vals.inj:∀ {xs ys:ik} {us:gr},Vals xs us->Vals ys us->xs=ys
 | _,_,_,.nil,.nil=>rfl
 | _,_,_,.cons r t,.cons r' t'=>by rw[r.inj r',Vals.inj t t']
variable{K:h8}{xs:ik}
theorem SqT.of(h:H a=some (.tup xs)):SqT K H a xs:=.inl (.inl h)
variable{σ:St}
theorem Inv.list(I:Inv X pins σ H s)(h:SqL X.K H a xs):∃its:gr,Vals xs its/\PlainL s.heap a its.toArray/\xs.length<=sizeLine:=by
 rcases h with h | ⟨o,its,n,hk,hc,hd,hs,hz,r⟩
 ·obtain⟨z,its,n,r,e⟩:=h.ok I.hok
  exact⟨its,r,⟨_,n,e,rfl,rfl,rfl⟩,z⟩
 ·refine⟨its.toList,r,⟨o,n,I.kIn a o hk,hc,hd,by simpa using hs⟩,?_⟩
  have e:=r.length;simp only[Array.length_toList] at e
  lia
theorem Inv.tuple(I:Inv X pins σ H s)(h:SqT X.K H a xs):∃its:gr,Vals xs its/\IsTup s.heap a its.toArray/\xs.length<=sizeLine:=by
 rcases h with h | ⟨o,its,n,hk,hc,hs,hz,r⟩
 ·obtain⟨z,its,r,p⟩:=h.ok I.hok
  exact⟨its,r,p,z⟩
 ·refine⟨its.toList,r,⟨o,I.kIn a o hk,hc,n,by simpa using hs⟩,?_⟩
  have e:=r.length;simp only[Array.length_toList] at e
  lia
variable{ys:ik}
theorem Inv.list_inj(I:Inv X pins σ H s)(h:SqL X.K H a xs)(h':SqL X.K H a ys):xs=ys:=by
 obtain⟨its,r,⟨o,n,e,_,_,d⟩,_⟩:=I.list h;obtain⟨its',D,⟨o',J,e',_,_,d'⟩,_⟩:=I.list h';rw[e] at e';cases e';rw[d] at d';injection d' with d1 _;have:its=its':=by simpa using congrArg Array.toList d1
 subst this;exact r.inj D
theorem Inv.tuple_inj(I:Inv X pins σ H s)(h:SqT X.K H a xs)(h':SqT X.K H a ys):xs=ys:=by
 obtain⟨its,r,⟨o,e,_,n,d⟩,_⟩:=I.tuple h;obtain⟨its',D,⟨o',e',_,J,d'⟩,_⟩:=I.tuple h';rw[e] at e';cases e';rw[d] at d';injection d' with d1 _;have:its=its':=by simpa using congrArg Array.toList d1
 subst this;exact r.inj D
abbrev Cx.wish(X:Cx)(E:Value->Shared->Prop):Cx:={ X with xe:=E }
abbrev Cx.nox(X:Cx):Cx:=X.wish λ_ _=>False
theorem Cx.Ok.wish(ok:X.Ok)(E:Value->Shared->Prop):(X.wish E).Ok :=
 ⟨ok.mod,ok.kind,ok.glob,ok.blt,ok.above,ok.inj,ok.has,ok.cab,ok.hd,ok.frames,ok.stk,ok.exf,ok.bs,ok.bsz,ok.noex,ok.exfs,ok.funs,ok.frf⟩
theorem Cx.Ok.unwish(ok:(X.wish E).Ok):X.Ok :=
 ⟨ok.mod,ok.kind,ok.glob,ok.blt,ok.above,ok.inj,ok.has,ok.cab,ok.hd,ok.frames,ok.stk,ok.exf,ok.bs,ok.bsz,ok.noex,ok.exfs,ok.funs,ok.frf⟩
theorem Inv.wish(I:Inv X pins σ H s)(E:Value->Shared->Prop):Inv (X.wish E) pins σ H s:=⟨I.ok.wish E,I.os,I.bare,I.base,I.loc,I.cell,I.free,I.freeC,I.pin,I.hok,I.len⟩
theorem Inv.unwish(I:Inv (X.wish E) pins σ H s):Inv X pins σ H s:=⟨I.ok.unwish,I.os,I.bare,I.base,I.loc,I.cell,I.free,I.freeC,I.pin,I.hok,I.len⟩
theorem SP.unwish{D:Ends}{f:Flow}{s':Shared}(h:SP (X.wish E) pins D f s'):SP X pins D f s':=by
 cases f with
 | next=>obtain⟨J,H',I,q⟩:=h;exact⟨J,H',I.unwish,q⟩
 | brk=>obtain⟨J,H',I,q⟩:=h;exact⟨J,H',I.unwish,q⟩
 | cont=>obtain⟨J,H',I,q⟩:=h;exact⟨J,H',I.unwish,q⟩
 | ret u=>obtain⟨v,J,H',I,r,q⟩:=h;exact⟨v,J,H',I.unwish,r,q⟩
theorem PSs.nox{st:List Stmt}{t:TS}(h:PSs X.nox st t):PSs X st t:=λpins s σ H D I J =>
 wpAny_mono (h pins s σ H D (I.wish _) J) (λ_ _ q=>q.unwish) λ_ _ z=>False.elim z
section
variable {X:Cx} {st:Stmt} {rest:List Stmt} {t u:TS} {e:Expr} {te:TE} {pos:Pos}
def z4z:TS:=λD σ H=>D.nx σ H
def tSeq(t u:TS):TS:=λD σ H=>t { D with nx:=u D } σ H
theorem zy7:PSs X [] z4z:=λ_ _ σ H _ I h=>wpAny_execs_nil ⟨σ,H,I,h⟩
theorem zvm(h1:PS X st t)(h2:PSs X rest u):PSs X (st::rest) (tSeq t u):=by
 intro pins s σ H D I h;refine wpAny_execs_cons (thn (h1 pins s σ H { D with nx:=u D } I h) λf R q=>?_);cases f with
 | next =>
   obtain⟨J,H',S,q⟩:=q;exact h2 pins R J H' D S q
 | ret v=>exact q
 | brk=>exact q
 | cont=>exact q
theorem zy8(h1:PS X st t):PSs X [st] t:=by
 intro pins s σ H D I h;refine wpAny_execs_cons (thn (h1 pins s σ H D I h) λf J q=>?_);cases f with
 | next=>exact wpAny_execs_nil q
 | ret v=>exact q
 | brk=>exact q
 | cont=>exact q
theorem Inv.quiet{pins:ia}{σ:St}{H:Hp}{s:Shared}(I:Inv X pins σ H s):interactive X.env=false:=by simp[interactive,I.ok.kind]
def z40(te:TE):TS:=λD σ H=>te σ H λ_ H1=>D.nx σ H1
theorem zsu(J:PE X e te)(R:swapsWith e none pos.line X.env=pure false:=by rfl):PS X (.Expr e pos) (z40 te):=by
 intro pins s σ H D I h;exact wpAny_Expr_any (thn (J pins s σ H _ I h) λv s1 ⟨x,H1,I1,r1,q1⟩=>⟨σ,H1,I1,q1⟩) I.quiet R
def tRet(te:TE):TS:=λD σ H=>te σ H D.rt
theorem zqg(J:PE X e te):PS X (.Return (some e) pos) (tRet te):=by
 intro pins s σ H D I h;exact wpAny_Return_some (thn (J pins s σ H _ I h) λv s1 ⟨x,H1,I1,r1,q1⟩=>⟨x,σ,H1,I1,r1,q1⟩)
def tIfS(c:TT)(t u:TS):TS:=λD σ H=>c σ H λb H1=>if b=true then t D σ H1 else u D σ H1
theorem z41{c:Expr}{a b:List Stmt}{J:TT}(R:PT X c J)(S:PSs X a t)(U:PSs X b u):PS X (.If c a b pos) (tIfS J t u):=by
 intro pins s σ H D I h;refine wpAny_If (thn (R pins s σ H _ I h) λd s1 ⟨H1,I1,q1⟩=>?_);cases d with
 | true=>exact S pins s1 σ H1 D I1 q1
 | false=>exact U pins s1 σ H1 D I1 q1
def z1x:TS:=λ_ _ _=>False
theorem zvn:PS X st z1x:=λ_ _ _ _ _ _ h=>h.elim
end
abbrev TG:=V->St->Hp->(St->Hp->Prop)->Prop
abbrev TGs:=ik->St->Hp->(St->Hp->Prop)->Prop
def PG(X:Cx)(D:Expr)(t:TG):Prop :=
 ∀(pins:ia) (s:Shared) (σ:St) (H:Hp) (v:V) (u:Value) (Q:St->Hp->Prop),Inv X pins σ H s->RelV v u->t v σ H Q ->
  wpAny (model X.prog X.w) X.A (assign D X.env u) (λ_ s'=>∃I H',Inv X pins I H' s'/\Q I H') X.xe s
def PGs(X:Cx)(ts:g9)(t:TGs):Prop :=
 ∀(pins:ia) (s:Shared) (σ:St) (H:Hp) (vs:ik) (us:gr) (Q:St->Hp->Prop),Inv X pins σ H s->Vals vs us->t vs σ H Q ->
  wpAny (model X.prog X.w) X.A (assignInOrder ((assignEach ts X.env).map (·.2)) us) (λ_ s'=>∃D H',Inv X pins D H' s'/\Q D H') X.xe s
abbrev TSet:=V->V->V->Hp->(Hp->Prop)->Prop
def PSet(X:Cx)(t:TSet):Prop :=
 ∀(pins:ia) (s:Shared) (σ:St) (H:Hp) (o i v:V) (D I u:Value) (Q:Hp->Prop),Inv X pins σ H s->RelV o D->RelV i I->RelV v u->t o i v H Q ->
  wpAny (model X.prog X.w) X.A (setItem D I u) (λ_ s'=>∃H',Inv X pins σ H' s'/\Q H') X.xe s
abbrev TIp:=V->V->Hp->VK->Prop
def PIp(X:Cx)(op:Operator)(t:TIp):Prop :=
 ∀(pins:ia) (s:Shared) (σ:St) (H:Hp) (x y:V) (v u:Value) (Q:VK),Inv X pins σ H s->RelV x v->RelV y u->t x y H Q ->
  wpAny (model X.prog X.w) X.A (inplaceOp op v u) (EP X pins σ Q) X.xe s
def ml(i:Nat):TG:=λv σ H Q=>Q (σ.set i (some v)) H
variable{pos:Pos}
theorem zsv(D:X.N.Nodup)(hi:X.N[i]?=some x)(J:Loc X.env.scope x)(R:X.fn x=true\/X.env.scope.names.lookup x=some .local:=by first | exact .inl rfl | exact .inr rfl | assumption):PG X (.Name x pos) (ml i):=by
 intro pins s σ H v u Q I r h;exact wpAny_assign_Name (zkp I D hi J r (λs' S=>⟨_,H,S,h⟩) R)
def gNil:TGs:=λvs σ H Q=>vs=[]/\Q σ H
def z1y(t:TG)(u:TGs):TGs:=λvs σ H Q=>∃v r,vs=v::r/\t v σ H λD H'=>u r D H' Q
theorem zy9:PGs X [] gNil:=by
 intro pins s σ H vs us Q I r h;obtain⟨e,h⟩:=h;subst e;cases r;exact assignInOrder_nil ⟨σ,H,I,h⟩
variable{es:g9}
theorem zvo{t:TG}{u:TGs}(h1:PG X e t)(h2:PGs X es u)(D:(assignEach (e::es) X.env).map (·.2)=assign e X.env::(assignEach es X.env).map (·.2):=by rfl):PGs X (e::es) (z1y t u):=by
 intro pins s σ H vs us Q I r h;obtain⟨v,R,J,h⟩:=h;subst J;cases r with
 | cons r rr =>
   rw[D];refine assignInOrder_cons (thn (h1 pins s σ H _ _ _ I r h) λ_ s1 ⟨σ1,H1,I1,q1⟩=>?_);exact h2 pins s1 σ1 H1 _ _ Q I1 rr q1
def gTup(K:h8)(n:Nat)(t:TGs):TG:=λv σ H Q=>∃a xs,v=.ref a/\SqT K H a xs/\xs.length=n/\t xs σ H Q
variable{k n:Nat}
theorem zxz{t:TGs}(S:X.calm=true)(h:PGs X es t)(U:(assignEach es X.env).length=n:=by rfl)(D:(assignEach es X.env).findIdx? (·.1)=none:=by rfl):PG X (.Tuple es k pos) (gTup X.K n t):=by
 intro pins s σ H v u Q I r J;obtain⟨a,xs,V,Y,Z,J⟩:=J;subst V;cases r;obtain⟨its,R,c,g⟩:=I.tuple Y;refine assign_Tuple_tuple (I.ok.hd S) c (by simp[U,<-Z,R.length]) D λh' d=>?_;have f:Inv X pins σ H { s with heap:=h' }:=I.kept (t':=s.toks) λb o e=>d b o (bx (az e)) e;exact h pins _ σ H xs _ Q f (by simpa using R) J
def gSub(to ti:TE)(t:TSet):TG:=λv σ H Q=>to σ H λo H1=>ti σ H1 λi H2=>t o i v H2 λD=>Q σ D
variable{to ti:TE}
theorem zqh{o i:Expr}{t:TSet}(D:PE X o to)(hi:PE X i ti)(J:PSet X t)(R:∀v,assign (.Subscript o i pos) X.env v=(do
   let ov <-holding [v] (eval o X.env);let iv <-holding [v,ov] (eval i X.env)
   standAt pos
   holding [v,ov,iv] (setItem ov iv v)
   release [v,ov,iv] []):=by intro _;rfl):PG X (.Subscript o i pos) (gSub to ti t):=by
 intro pins s σ H v u Q I r h;rw[R];refine wpAny_bind (wpAny_holding (thn (D pins s σ H _ I h) λov s1 ⟨x,H1,I1,r1,q1⟩=>?_));refine wpAny_bind (wpAny_holding (thn (hi pins s1 σ H1 _ I1 q1) λiv s2 ⟨y,H2,I2,r2,q2⟩=>?_));refine wpAny_bind (wpAny_standAt (wpAny_bind (wpAny_holding (thn (J pins s2 σ H2 x y v ov iv u _ I2 r1 r2 r q2) λ_ s3 ⟨H3,I3,q3⟩=>?_))));exact wpAny_release ⟨σ,H3,I3,q3⟩
def tAsg(te:TE)(g:TG):TS:=λD σ H=>te σ H λx H1=>g x σ H1 D.nx
variable{tg:Expr}{te:TE}{g:TG}
theorem yk(J:PE X e te)(R:PG X tg g)(S:swapsWithSole [tg] e pos.line X.env=pure false:=by rfl)(U:swappedStores [tg] e X.env=pure none:=by rfl)(h1:(assignEach [tg] X.env).map (·.2)=[assign tg X.env]:=by rfl):PS X (.Assign [tg] e pos) (tAsg te g):=by
 intro pins s σ H D I h;refine wpAny_Assign_stores (thn (J pins s σ H _ I h) λv s1 ⟨x,H1,I1,r1,q1⟩=>?_) S U;rw[h1];exact thn (R pins s1 σ H1 x v _ I1 r1 q1) λ_ s2 q=>q
variable{pos':Pos}
theorem zsw(J:X.N.Nodup)(hi:X.N[i]?=some x)(R:Loc X.env.scope x)(S:PE X e te)(U:swapsWith e (some (.Name x pos')) pos.line X.env=pure false:=by rfl)(V:X.fn x=true\/X.env.scope.names.lookup x=some .local:=by first | exact .inl rfl | exact .inr rfl | assumption) :
  PS X (.Assign [.Name x pos'] e pos) (tAsg te (ml i)):=by
 intro pins s σ H D I h;refine wpAny_Assign_Name (thn (S pins s σ H _ I h) λv s1 ⟨y,H1,I1,r1,q1⟩=>?_) U;exact zkp I1 J hi R r1 (λs2 Y=>⟨_,H1,Y,q1⟩) V
def tAug(i:Nat)(te:TE)(ti:TIp):TS:=λD σ H=>∃x,σ[i]?=some (some x)/\te σ H λy H1=>ti x y H1 λz H2=>D.nx (σ.set i (some z)) H2
variable{op:Operator}
theorem z1z{ti:TIp}(U:X.N.Nodup)(hi:X.N[i]?=some x)(R:Loc X.env.scope x)(V:PE X e te)(Y:PIp X op ti)(Z:X.fn x=true\/X.env.scope.names.lookup x=some .local:=by first | exact .inl rfl | exact .inr rfl | assumption) :
  PS X (.AugAssign (.Name x pos') op e pos) (tAug i te ti):=by
 intro pins s σ H D I h;obtain⟨v,a,h⟩:=h;obtain⟨m,b,d⟩:=I.loc;have S:Vis X.env.scope x:=by rcases R with k | k;exact .inl k;exact .inr (.inl k)
 obtain⟨u,r,l⟩:=d i x v hi a S;refine wpAny_AugAssign_Name ?_;have go:wpAny (model X.prog X.w) X.A (eval e X.env) (λw s₂=>wpAny (model X.prog X.w) X.A (inplaceOp op u w) (λr J=>wpAny (model X.prog X.w) X.A (storeName X.env x r) (λ_=>SP X pins D .next) X.xe J) X.xe s₂) X.xe s:=by
  refine thn (V pins s σ H _ I h) λw s1 ⟨y,H1,I1,r1,q1⟩=>?_;refine thn (Y pins s1 σ H1 v y u w _ I1 r r1 q1) λz s2 ⟨zv,H2,I2,r2,q2⟩=>?_;exact zkp I2 U hi R r2 (λj f=>⟨_,H2,f,q2⟩) Z
 rcases l with⟨hk,g⟩ | ⟨hk,c,hc,hcell⟩
 ·exact wpAny_loadName_local I.ok.kind hk b g go
 ·rcases hk with hk | hk
  ·exact wpAny_loadName_cell I.ok.kind hk hc hcell go
  ·rcases R with k | k
   ·have:X.env.scope.names.lookup x=some .free:=hk
    rw[k] at this;cases this
   ·have:X.env.scope.names.lookup x=some .free:=hk
    rw[k] at this;cases this
def z10(to ti te:TE)(I:V->V->Hp->VK->Prop)(R:TIp)(J:TSet):TS:=λD σ H=>to σ H λo H1=>ti σ H1 λi H2=>I o i H2 λx S=>te σ S λy U=>R x y U λz Y=>J o i z Y λZ=>D.nx σ Z
def PGet(X:Cx)(t:V->V->Hp->VK->Prop):Prop :=
 ∀(pins:ia) (s:Shared) (σ:St) (H:Hp) (o i:V) (D I:Value) (Q:VK),Inv X pins σ H s->RelV o D->RelV i I->t o i H Q ->
  wpAny (model X.prog X.w) X.A (getItem D I) (EP X pins σ Q) X.xe s
variable{i:Int}
theorem zsx{o i:Expr}{J:V->V->Hp->VK->Prop}{Y:TIp}{R:TSet}{Z:Pos}(a:PE X o to)(hi:PE X i ti)(b:PGet X J)(c:PE X e te)(d:PIp X op Y)(f:PSet X R)(g:∀S U new,augStore i S U new=(do holding [new,S,U] (setItem S U new);release [new,S,U] [];pure .next):=by intros;rfl):PS X (.AugAssign (.Subscript o i Z) op e pos) (z10 to ti te J Y R):=by
 intro pins s σ H D I h;refine wpAny_AugAssign_SubscriptAny (thn (a pins s σ H _ I h) λS s1 ⟨x1,H1,I1,r1,q1⟩=>?_) g;refine thn (hi pins s1 σ H1 _ I1 q1) λU s2 ⟨x2,H2,I2,r2,q2⟩=>?_;refine thn (b pins s2 σ H2 x1 x2 S U _ I2 r1 r2 q2) λold s3 ⟨x3,H3,I3,r3,q3⟩=>?_;refine thn (c pins s3 σ H3 _ I3 q3) λv s4 ⟨x4,H4,I4,r4,q4⟩=>?_;refine thn (d pins s4 σ H4 x3 x4 old v _ I4 r3 r4 q4) λnew s5 ⟨x5,H5,I5,r5,q5⟩=>?_;exact thn (f pins s5 σ H5 x1 x2 x5 S U new _ I5 r1 r2 r5 q5) λ_ s6 ⟨H6,I6,q6⟩=>⟨σ,H6,I6,q6⟩
def ipI(f:Int->Int->Int):TIp:=λx y H Q=>∃i j,x=.int i/\y=.int j/\Q (.int (f i j)) H
theorem zx0:PIp X .Add (ipI λi j=>i+j):=by
 intro pins s σ H x y v u Q I D J h;obtain⟨i,j,R,S,q⟩:=h;subst R;subst S;obtain⟨t,rfl⟩:=D;obtain⟨t',rfl⟩:=J;exact iadd_int ⟨.int _,H,I.tok _,⟨_,rfl⟩,q⟩
theorem z11:PIp X .Sub (ipI λi j=>i-j):=by
 intro pins s σ H x y v u Q I D J h;obtain⟨i,j,R,S,q⟩:=h;subst R;subst S;obtain⟨t,rfl⟩:=D;obtain⟨t',rfl⟩:=J;exact isub_int ⟨.int _,H,I.tok _,⟨_,rfl⟩,q⟩
def z12(c:TT)(tb:TS):TS:=λD σ H=>∃W:Nat->St->Hp->Prop,(∃m,W m σ H)/\∀m σ H,W m σ H ->
 c σ H λb H1=>if b=true then ∃N:St->Hp->Prop,(∀I H',N I H'->∃J,J<m/\W J I H')/\tb { D with nx:=N,ct:=N,bk:=D.nx } σ H1 else D.nx σ H1
variable{c:Value}{body:List Stmt}{tb:TS}
theorem zvp{c:Expr}{g:TT}(i:PassesOwn (model X.prog X.w) X.A X.env X.xe)(k:PT X c g)(l:PSs X body tb):PS X (.While c body [] pos) (z12 g tb):=by
 intro pins s σ H D I h;obtain⟨W,⟨m,o⟩,turn⟩:=h;refine wpAny_While (codeAny_whileLoop (λn s'=>∃R H',Inv X pins R H' s'/\W n R H') ?_ m ⟨σ,H,I,o⟩);rintro n p ⟨σ1,H1,I1,w1⟩;refine wpAny_passesOwn i (thn (k pins p σ1 H1 _ I1 (turn n σ1 H1 w1)) λb s2 ⟨H2,I2,U⟩=>?_);cases b with
 | true =>
   obtain⟨N,j,U⟩:=U;rw[if_pos rfl];refine wpAny_passesOwn i (thn (l pins s2 σ1 H2 _ I2 U) λf q V=>?_);cases f with
   | next =>
     obtain⟨J,S,Y,Z⟩:=V;obtain⟨a,d,e⟩:=j J S Z;exact⟨a,d,J,S,Y,e⟩
   | cont =>
     obtain⟨J,S,Y,Z⟩:=V;obtain⟨a,d,e⟩:=j J S Z;exact⟨a,d,J,S,Y,e⟩
   | brk=>exact V
   | ret v=>exact V
 | false =>
   rw[if_neg b8];exact wpAny_execs_nil ⟨σ1,H2,I2,U⟩
structure It where
 go:Nat->Hp->Prop
 yld:Nat->Hp->V->Hp->Prop
 stop:Nat->Hp->Prop
def FpOk(X:Cx)(pins:ia)(H:Hp)(b:Addr):Prop :=
 H b=none/\b≠X.env.locals/\b∉X.fs/\(b∈X.ex\/X.s₀.heap.objs.size<=b)/\(∀x c,X.env.cells.lookup x=some c->c≠b)/\∀p∈X.pn++pins,p.1≠b
theorem Inv.fpOk(I:Inv X pins σ H s)(D:s.heap.objs.size<=b)(J:H' b=none):FpOk X pins H' b:=by
 refine⟨J,ku (aw I.lt D),I.nofs D,.inr (dc I.sz D),λx c e z=>?_,λp R z=>?_⟩
 ·obtain⟨v,q⟩:=I.cell x c e
  exact absurd (aw q.lt (by rw[z];exact D)) (fj _)
 ·exact absurd (aw (az (I.pin p R).1) (by rw[z];exact D)) (fj _)
structure ur (Cm:Cx->Prop) (P:Program) (w:World) (K:h8) (tg:Expr) (J:It) (fp:gu) (it:Addr) (tn:Nat->Heap->Prop):Prop where
 mem:it∈fp
 obj:∀i h,tn i h->∀b∈fp,∃o,h.get? b=some o/\∀v,o.data≠.cell v
 keep:∀i h h',tn i h->(∀b∈fp,∀o,h.get? b=some o->h'.get? b=some o)->tn i h'
 item:∀(X:Cx),X.prog=P->X.w=w->X.K=K->Cm X->∀(i:Nat) (pins:ia) (s:Shared) (σ:St) (H:Hp) (E:Value->Shared->Prop),Inv X pins σ H s->(∀b∈fp,FpOk X pins H b)->tn i s.heap->J.go i H ->
  wpAny (model P w) X.A (pyNext (.ref it)) (λr s1=>∃u,r=some u /\
   wpAny (model P w) X.A (letOwnedTupleGo tg (.ref it) u) (λ_ s2=>∃x H',Inv X pins σ H' s2/\RelV x u/\J.yld i H x H'/\tn (i+1) s2.heap/\∀b∈fp,H' b=none) E s1) E s
 done:∀(X:Cx),X.prog=P->X.w=w->X.K=K->Cm X->∀(i:Nat) (pins:ia) (s:Shared) (σ:St) (H:Hp) (E:Value->Shared->Prop),Inv X pins σ H s->(∀b∈fp,FpOk X pins H b)->tn i s.heap->J.stop i H ->
  wpAny (model P w) X.A (pyNext (.ref it)) (λr s1=>r=none/\Inv X pins σ H s1) E s
 self:∀(A:Around) (i:Nat) (s:Shared) (Q:Value->Shared->Prop) (E:Value->Shared->Prop),tn i s.heap->Q (.ref it) s->wpAny (model P w) A (pyIter (.ref it)) Q E s
abbrev Turn:=ur λX=>X.calm=true
abbrev TI:=St->Hp->(It->Hp->Prop)->Prop
def PIEC(Cm:Cx->Prop)(X:Cx)(pins:ia)(σ:St)(tg:Expr)(R:It->Hp->Prop)(D:Value)(s2:Shared):Prop :=
 ∃(it:Addr) (fp:gu) (I:Nat->Heap->Prop) (J:It) (H':Hp),D=.ref it/\Inv X pins σ H' s2/\ur Cm X.prog X.w X.K tg J fp it I/\I 0 s2.heap/\(∀b∈fp,FpOk X pins H' b)/\R J H'
def PIC(Cm:Cx->Prop)(X:Cx)(tg iter:Expr)(wi:TI):Prop :=
 ∀(pins:ia) (s:Shared) (σ:St) (H:Hp) (R:It->Hp->Prop),Inv X pins σ H s->wi σ H R ->
  wpAny (model X.prog X.w) X.A (eval iter X.env) (λv D=>wpAny (model X.prog X.w) X.A (pyIter v) (PIEC Cm X pins σ tg R) X.xe D) X.xe s
abbrev PI:=PIC λX=>X.calm=true
variable{vs:ik}
theorem zvq{n:String}{vs:ic}(I:s.heap.get? it=some o)(J:o.cls=.type n)(R:o.data=.fields vs)(S:["enumerate", "zip", "dict_itemiterator", "dict_reverseitemiterator", "odict_iterator", "itertools.zip_longest", "itertools.pairwise"].contains n=false)(D:Q () s):wpAny M A (letOwnedTupleGo tg (.ref it) u) Q E s:=by
 unfold letOwnedTupleGo;cases tg <;> first
  | exact wpAny_pure D
  | (cases u <;> first
      | exact wpAny_pure D
      | (refine wpAny_bind (wpAny_load I ?_)
         rw[J,R];show wpAny M A (if (["enumerate", "zip", "dict_itemiterator", "dict_reverseitemiterator", "odict_iterator", "itertools.zip_longest", "itertools.pairwise"].contains n && vs[0]?==some (rawInt _))=true then _ else _) Q E s;rw[if_neg (by intro h;rw[S,Bool.false_and] at h;cases h)];exact wpAny_pure D))
def Itl(K:h8)(a:Addr):It :=
 ⟨λi H=>∃xs x,SqL K H a xs/\xs[i]?=some x,λi H x H'=>H'=H/\∀xs,SqL K H a xs->xs[i]?=some x,λi H=>∃xs,SqL K H a xs/\xs.length<=i⟩
def Itt(K:h8)(a:Addr):It :=
 ⟨λi H=>∃xs x,SqT K H a xs/\xs[i]?=some x,λi H x H'=>H'=H/\∀xs,SqT K H a xs->xs[i]?=some x,λi H=>∃xs,SqT K H a xs/\xs.length<=i⟩
def Itr(lo:Int)(n:Nat):It:=⟨λi _=>i<n,λi H x H'=>H'=H/\x=.int (lo+i),λi _=>n<=i⟩
theorem zsy(a it:Addr):Turn P w K tg (Itl K a) [it] it (λi h=>h.IsListIter it a i) where
 mem:=by simp
 obj:=λi h st b D=>by
  have e:b=it:=by simpa using D
  subst e;obtain⟨o,e,c,d⟩:=st;exact⟨o,e,λv z=>by rw[d] at z;cases z⟩
 keep:=λi h h' st k=>st.at λo e=>k it (by simp) o e
 item:=by
  intro X hP U V q i pins s σ H E I R st Y;subst hP U V;obtain⟨xs,x,S,Z⟩:=Y;obtain⟨its,f,p,r⟩:=I.list S;obtain⟨u,t,y⟩:=f.get Z;obtain⟨g,j,A,l,m,n⟩:=R it (by simp);refine wpAny_pyNext_list_item st p.isList (x:=u) (by simpa using t) λh' J B=>?_;have C:Inv X pins σ H { s with heap:=h' }:=I.turned (t':=s.toks) (λb o D e=>(B.2 b D).trans e) g j l m n;obtain⟨o,e,c,d⟩:=id J;exact⟨u,rfl,zvq (s:={ s with heap:=h' }) e c d (by decide) ⟨x,H,C,y,⟨rfl,λys F=>by rw[I.list_inj F S];exact Z⟩,J,λb D=>(R b D).1⟩⟩
 done:=by
  intro X hP U V q i pins s σ H E I R st Y;subst hP U V;obtain⟨xs,S,Z⟩:=Y;obtain⟨its,f,p,r⟩:=I.list S;obtain⟨g,j,A,l,m,n⟩:=R it (by simp);have L:=f.length;exact wpAny_pyNext_list_end (I.ok.hd q) st p.isList (by simp;lia) λh' G=>⟨rfl,I.turned (t':=s.toks) (λb o D e=>G b o D e) g j l m n⟩
 self:=λ_ _ _ _ _ st h=>wpAny_pyIter_listiter st h
theorem zry(a it:Addr):Turn P w K tg (Itt K a) [it] it (λi h=>h.IsTupleIter it a i) where
 mem:=by simp
 obj:=λi h st b D=>by
  have e:b=it:=by simpa using D
  subst e;obtain⟨o,e,c,d⟩:=st;exact⟨o,e,λv z=>by rw[d] at z;cases z⟩
 keep:=λi h h' st k=>st.at λo e=>k it (by simp) o e
 item:=by
  intro X hP U V q i pins s σ H E I R st Y;subst hP U V;obtain⟨xs,x,S,Z⟩:=Y;obtain⟨its,f,p,r⟩:=I.tuple S;obtain⟨u,t,y⟩:=f.get Z;obtain⟨g,j,A,l,m,n⟩:=R it (by simp);refine wpAny_pyNext_tuple_item st (show s.heap.IsTuple a its.toArray from p) (x:=u) (by simpa using t) λh' J B=>?_;have C:Inv X pins σ H { s with heap:=h' }:=I.turned (t':=s.toks) (λb o D e=>(B.2 b D).trans e) g j l m n;obtain⟨o,e,c,d⟩:=id J;exact⟨u,rfl,zvq (s:={ s with heap:=h' }) e c d (by decide) ⟨x,H,C,y,⟨rfl,λys F=>by rw[I.tuple_inj F S];exact Z⟩,J,λb D=>(R b D).1⟩⟩
 done:=by
  intro X hP U V q i pins s σ H E I R st Y;subst hP U V;obtain⟨xs,S,Z⟩:=Y;obtain⟨its,f,p,r⟩:=I.tuple S;obtain⟨g,j,A,l,m,n⟩:=R it (by simp);have L:=f.length;exact wpAny_pyNext_tuple_end (I.ok.hd q) st (show s.heap.IsTuple a its.toArray from p) (by simp;lia) λh' G=>⟨rfl,I.turned (t':=s.toks) (λb o D e=>G b o D e) g j l m n⟩
 self:=λ_ _ _ _ _ st h=>wpAny_pyIter_tupleiter st h
theorem zh7(it:Addr)(lo:Int)(n:Nat):Turn P w K tg (Itr lo n) [it] it (λi h=>IsRangeIter h it (lo+(i:Nat)*1) ((n:Int)-(i:Nat)) 1) where
 mem:=by simp
 obj:=λi h st b D=>by
  have e:b=it:=by simpa using D
  subst e;exact⟨_,st,λv z=>by
   have g:Data.fields _=Data.cell v:=z;cases g⟩
 keep:=λi h h' st k=>k it (by simp) _ st
 item:=by
  intro X hP S U V i pins s σ H E I R st Y;subst hP S U;obtain⟨Z,a,j,c,d,f⟩:=R it (by simp);have W:=Walks.range (prog:=X.prog) (w:=X.w) (I.ok.hd V) it lo 1 n;refine W.item i s _ _ Y st λv h' tk l J m=>?_;obtain⟨t,rfl⟩:=l;have p:Inv X pins σ H { s with heap:=h',toks:=tk }:=I.turned (λb o D e=>m b o (by simpa using D) e) Z a c d f;refine⟨_,rfl,zvq (s:={ s with heap:=h',toks:=tk }) (n:="range_iterator") J rfl rfl (by decide) ⟨.int (lo+i),H,p,⟨t,?_⟩,⟨rfl,rfl⟩,J,λb D=>(R b D).1⟩⟩;rw[Int.mul_one]
 done:=by
  intro X hP S U V i pins s σ H E I R st Y;subst hP S U;obtain⟨Z,a,j,c,d,f⟩:=R it (by simp);exact wpAny_pyNext_range_end (I.ok.hd V) st (by have:n<=i:=Y;lia) λh' q=>⟨rfl,I.turned (t':=s.toks) (λb o D e=>q b o D e) Z a c d f⟩
 self:=λ_ _ _ _ _ st h=>wpAny_pyIter_rangeiter st h
def z42(K:h8)(tl:TE):TI:=λσ H R=>tl σ H λx H1=>∃a,x=.ref a/\(∃xs,SqL K H1 a xs)/\R (Itl K a) H1
def iTup(K:h8)(tl:TE):TI:=λσ H R=>tl σ H λx H1=>∃a,x=.ref a/\(∃xs,SqT K H1 a xs)/\R (Itt K a) H1
variable{l:Expr}{tl:TE}
theorem zsz(D:PE X l tl):PI X tg l (z42 X.K tl):=by
 intro pins s σ H R I h;refine thn (D pins s σ H _ I h) λv s1 ⟨x,H1,I1,r1,q1⟩=>?_;obtain⟨a,e,⟨xs,J⟩,q⟩:=q1;subst e;cases r1;obtain⟨its,U,p,V⟩:=I1.list J;refine wpAny_pyIter_list p.isList ?_;refine⟨s1.heap.objs.size,[s1.heap.objs.size],_,_,H1,rfl,I1.kept (t':=s1.toks) λb o e=>ao _ e,zsy a _,⟨_,cb _ rfl,rfl,rfl⟩,λb S=>?_,q⟩;have e:b=s1.heap.objs.size:=by simpa using S
 subst e;exact I1.fpOk (b6 _) (I1.hok.fresh (b6 _))
theorem z13(D:PE X l tl):PI X tg l (iTup X.K tl):=by
 intro pins s σ H R I h;refine thn (D pins s σ H _ I h) λv s1 ⟨x,H1,I1,r1,q1⟩=>?_;obtain⟨a,e,⟨xs,J⟩,q⟩:=q1;subst e;cases r1;obtain⟨its,U,p,V⟩:=I1.tuple J;refine wpAny_pyIter_tuple (show s1.heap.IsTuple a its.toArray from p) ?_;refine⟨s1.heap.objs.size,[s1.heap.objs.size],_,_,H1,rfl,I1.kept (t':=s1.toks) λb o e=>ao _ e,zry a _,⟨_,cb _ rfl,rfl,rfl⟩,λb S=>?_,q⟩;have e:b=s1.heap.objs.size:=by simpa using S
 subst e;exact I1.fpOk (b6 _) (I1.hok.fresh (b6 _))
variable{v:Value}{Cm:Cx->Prop}
theorem zvr(hT:∀(it:Addr) (lo:Int) (n:Nat),ur Cm X.prog X.w X.K tg (Itr lo n) [it] it (λi h=>IsRangeIter h it (lo+(i:Nat)*1) ((n:Int)-(i:Nat)) 1)){R:It->Hp->Prop}{lo hi:Int}{t u v:Tok}{tk:Nat}(I:Inv X pins σ H s)(h1:-(2 ^ 62)<=lo)(h2:lo<2 ^ 62)(J:-(2 ^ 62)<=hi)(S:hi<2 ^ 62)(q:R (Itr lo (hi-lo).toNat) H):wpAny (model X.prog X.w) X.A (pyIter (.ref s.heap.objs.size)) (PIEC Cm X pins σ tg R) E { s with heap:=s.heap.push { cls:=.type "range",data:=.fields #[.int lo t,.int hi u,.int 1 v] },toks:=tk }:=by
 refine wpAny_pyIter_range (IsRange.new ..) (small_one h1 h2 J S) ?_;have D:Inv X pins σ H { s with heap:=s.heap.push { cls:=.type "range",data:=.fields #[.int lo t,.int hi u,.int 1 v] },toks:=tk }:=I.kept λb o e=>ao _ e;refine⟨(s.heap.push { cls:=.type "range",data:=.fields #[.int lo t,.int hi u,.int 1 v] }).objs.size,[(s.heap.push { cls:=.type "range",data:=.fields #[.int lo t,.int hi u,.int 1 v] }).objs.size],_,_,H,rfl,
  D.kept (t':=tk) λb o e=>ao _ e,hT _ lo (hi-lo).toNat,?_,λb U=>?_,q⟩
 ·have V:lo+((0:Nat):Int)*1=lo:=by simp
  have Y:(((hi-lo).toNat:Nat):Int)-((0:Nat):Int)=Builtin.Range.rangeSize lo hi 1:=by rw[rangeSize_one];split <;> lia
  show IsRangeIter _ _ (lo+((0:Nat):Int)*1) ((((hi-lo).toNat:Nat):Int)-((0:Nat):Int)) 1;rw[V,Y];exact cb _ rfl
 ·have e:b=(s.heap.push { cls:=.type "range",data:=.fields #[.int lo t,.int hi u,.int 1 v] }).objs.size:=by simpa using U
  subst e;exact D.fpOk (b6 _) (D.hok.fresh (b6 _))
def z43(ta:TA):TI:=λσ H R=>ta σ H λvs H1=>∃j:Int,vs=[.int j]/\-(2 ^ 62)<=j/\j<2 ^ 62/\R (Itr 0 j.toNat) H1
variable{a:Expr}{ta:TE}{p:Pos}
theorem zrz(hT:∀(it:Addr) (lo:Int) (n:Nat),ur Cm X.prog X.w X.K tg (Itr lo n) [it] it (λi h=>IsRangeIter h it (lo+(i:Nat)*1) ((n:Int)-(i:Nat)) 1)){ta:TA}(J:Gl X "range")(S:X.mg "range" = none)(U:PA X [a] ta)(V:starEach [a] X.env=[(false,eval a X.env)]:=by rfl):PIC Cm X tg (.Call (.Name "range" p) [a] [] pos) (z43 ta):=by
 intro pins s σ H R I h;refine Call_ (yl I J S boot_range (sj (thn (U pos pins s σ H _ I h) λus s1 ⟨vs,H1,I1,r1,D⟩=>?_) V rfl));obtain⟨j,e,D,Y,q⟩:=D;subst e;cases r1 with
 | cons r rr =>
   cases rr;obtain⟨t,rfl⟩:=r;exact call_range_1 (zvr hT I1 (by lia) (by lia) D Y (by simpa using q))
def tFor(wi:TI)(g:TG)(tb:TS):TS:=λD σ H=>wi σ H λJ H1=>∃W:Nat->Nat->St->Hp->Prop,(∃m,W 0 m σ H1)/\∀i m σ H,W i m σ H ->
 (J.stop i H/\D.nx σ H)\/(J.go i H/\∃N:St->Hp->Prop,(∀I H',N I H'->∃S,S<m/\W (i+1) S I H')/\∀x H',J.yld i H x H'->g x σ H' λR H2=>tb { D with nx:=N,ct:=N,bk:=D.nx } R H2)
def yj(fp:gu)(h:Heap):ia:=fp.filterMap λb=>(h.get? b).map λo=>(b,o)
variable{fp:gu}
theorem zh8(D:b∈fp)(e:h.get? b=some o):(b,o)∈yj fp h:=mr.mpr ⟨b,D,by rw[e];rfl⟩
theorem zs0{p:Addr×Obj}(D:p∈yj fp h):p.1∈fp/\h.get? p.1=some p.2:=by
 obtain⟨b,I,e⟩:=mr.mp D;cases q:h.get? b with
 | none=>rw[q] at e;cases e
 | some o =>
   rw[q] at e;have e':(b,o)=p:=bn e;subst e';exact⟨I,q⟩
theorem Inv.pinned(I:Inv X pins σ H s)(J:∀b∈fp,FpOk X pins H b)(R:∀b∈fp,∃o,s.heap.get? b=some o/\∀v,o.data≠.cell v):Inv X (pins++yj fp s.heap) σ H s :=
 I.pins_of λp S=>(cw.mp S).elim (λz=>I.pin p (bw _ z)) λz=>by
  obtain⟨D,e⟩:=zs0 z;obtain⟨U,V,Y,_⟩:=J p.1 D;obtain⟨o,e',d⟩:=R p.1 D;rw[e] at e';cases e';exact⟨e,U,V,Y,d⟩
theorem Inv.unpinned{pins pl:ia}(I:Inv X (pins++pl) σ H s):Inv X pins σ H s:=I.pins_of λp D=>I.pin p (bw _ (dy _ D))
theorem zs1{iter:Expr}{wi:TI}(c:PassesOwn (model X.prog X.w) X.A X.env X.xe)(t:X.calm=true)(hi:PI X tg iter wi)(C:PG X tg g)(S:PSs X body tb)(E:∀x,foldedSetIterable iter X.env x=pure x:=by intro _;rfl):PS X (.For tg iter body [] pos) (tFor wi g tb):=by
 intro pins s σ H D I h;refine wpAny_For (thn (hi pins s σ H _ I h) λv s1 h1=>thn h1 λF s2 h2=>?_) E;obtain⟨it,fp,y,J,H2,e,G,T,l,z,W,⟨K,L⟩,turn⟩:=h2;subst e;have U:∀ {H':Hp},(∀b∈fp,H' b=none)->∀b∈fp,FpOk X pins H' b:=λM b S=>⟨M b S,(z b S).2⟩;refine codeAny_forLoop_any (λn s'=>∃i V H',Inv X pins V H' s'/\y i s'.heap/\(∀b∈fp,H' b=none)/\W i n V H') ?_ K ⟨0,σ,H2,G,l,λb S=>(z b S).1,L⟩;rintro n B ⟨i,σ3,H3,I3,st3,fr3,w3⟩;rcases turn i n σ3 H3 w3 with⟨j,O⟩ | ⟨go,N,hN,step⟩
 ·refine wpAny_passesOwn c (thn (T.done X rfl rfl rfl t i pins B σ3 H3 X.xe I3 (U fr3) st3 j) λr s4 ⟨hr,I4⟩=>?_)
  subst hr;exact wpAny_execs_nil ⟨σ3,H3,I4,O⟩
 ·refine wpAny_passesOwn c (thn (T.item X rfl rfl rfl t i pins B σ3 H3 X.xe I3 (U fr3) st3 go) λr s4 ⟨u,hr,h4⟩=>?_)
  subst hr;refine wpAny_passesOwn c (thn h4 λ_ s5 ⟨x,H5,I5,r5,y5,st5,fr5⟩=>?_);have p:=I5.pinned (U fr5) (T.obj _ _ st5);refine wpAny_passesOwn c (thn (C _ s5 σ3 H5 x u _ p r5 (step x H5 y5)) λ_ s6 ⟨σ6,H6,I6,q6⟩=>?_);refine wpAny_passesOwn c (thn (S _ s6 σ6 H6 _ I6 q6) λf q a=>?_);have again:∀ {R:St} {Y:Hp},Inv X (pins++yj fp s5.heap) R Y q->N R Y->∃m,m<n/\∃i V H',Inv X pins V H' q/\y i q.heap/\(∀b∈fp,H' b=none)/\W i m V H':=λ{R Y} Z k=>by
   obtain⟨P,Q,w7⟩:=hN R Y k;refine⟨P,Q,i+1,R,Y,Z.unpinned,T.keep _ _ _ st5 λb S o e=>(Z.pin (b,o) (bw _ (bw _ (zh8 S e)))).1,λb S=>?_,w7⟩;obtain⟨o,e,d⟩:=T.obj _ _ st5 b S;exact(Z.pin (b,o) (bw _ (bw _ (zh8 S e)))).2.1
  cases f with
  | next=>obtain⟨R,Y,Z,k⟩:=a;exact again Z k
  | cont=>obtain⟨R,Y,Z,k⟩:=a;exact again Z k
  | brk=>obtain⟨R,Y,Z,a⟩:=a;exact⟨R,Y,Z.unpinned,a⟩
  | ret v=>obtain⟨x7,R,Y,Z,r7,a⟩:=a;exact⟨x7,R,Y,Z.unpinned,r7,a⟩
abbrev R2:=V->V->Hp->VK->Prop
def OpR(X:Cx)(f:Value->Value->Sem Value)(r:R2):Prop :=
 ∀(pins:ia) (s:Shared) (σ:St) (H:Hp) (x y:V) (v u:Value) (Q:VK),Inv X pins σ H s->RelV x v->RelV y u->r x y H Q ->
  wpAny (model X.prog X.w) X.A (f v u) (EP X pins σ Q) X.xe s
def UnR(X:Cx)(f:Value->Sem Value)(r:V->Hp->VK->Prop):Prop :=
 ∀(pins:ia) (s:Shared) (σ:St) (H:Hp) (x:V) (v:Value) (Q:VK),Inv X pins σ H s->RelV x v->r x H Q ->
  wpAny (model X.prog X.w) X.A (f v) (EP X pins σ Q) X.xe s
def m7(X:Cx)(f:Value)(r:ik->Hp->VK->Prop):Prop :=
 ∀(pins:ia) (s:Shared) (σ:St) (H:Hp) (xs:ik) (us:gr) (Q:VK),Inv X pins σ H s->Vals xs us->r xs H Q ->
  wpAny (model X.prog X.w) X.A (call f us) (EP X pins σ Q) X.xe s
def tOp(r:R2)(ta tb:TE):TE:=λσ H Q=>ta σ H λx H1=>tb σ H1 λy H2=>r x y H2 Q
def tUn(r:V->Hp->VK->Prop)(ta:TE):TE:=λσ H Q=>ta σ H λx H1=>r x H1 Q
def rI(C:Int->Int->Prop)(g:Int->Int->V):R2:=λx y H Q=>∃i j,x=.int i/\y=.int j/\C i j/\Q (g i j) H
def rI0(g:Int->Int->V):R2:=λx y H Q=>∃i j,x=.int i/\y=.int j/\Q (g i j) H
def rU(g:Int->V):V->Hp->VK->Prop:=λx H Q=>∃i,x=.int i/\Q (g i) H
variable{b:Expr}{Q:Value->Shared->Prop}{tb:TE}{f:Value->Value->Sem Value}
theorem binT(J:PE X a ta)(S:PE X b tb){R:V->V->Hp->Prop}(I:Inv X pins σ H s)(h:ta σ H λx H1=>tb σ H1 λy H2=>R x y H2)(U:∀v u s2 x y H2,Inv X pins σ H2 s2->RelV x v->RelV y u->R x y H2->wpAny (model X.prog X.w) X.A (f v u) Q X.xe s2) :
  wpAny (model X.prog X.w) X.A (eval a X.env) (λv D=>wpAny (model X.prog X.w) X.A (eval b X.env) (λu s₂=>wpAny (model X.prog X.w) X.A (f v u) Q X.xe s₂) X.xe D) X.xe s:=by
 refine thn (J pins s σ H _ I h) λv s1 ⟨x,H1,I1,r1,q1⟩=>?_;refine thn (S pins s1 σ H1 _ I1 q1) λu s2 ⟨y,H2,I2,r2,q2⟩=>?_;exact U v u s2 x y H2 I2 r1 r2 q2
variable{r:R2}
theorem zza(D:OpR X (binaryOp op) r)(J:PE X a ta)(R:PE X b tb):PE X (.BinOp a op b pos) (tOp r ta tb):=by
 intro pins s σ H Q I h;exact wpAny_BinOp (binT J R I h λv u s2 x y H2 S U V q=>D pins s2 σ H2 x y v u Q S U V q)
variable{op:CmpOp}
theorem z14{op:UnaryOp}{r:V->Hp->VK->Prop}(D:UnR X (unaryOp op) r)(J:PE X a ta):PE X (.UnaryOp op a pos) (tUn r ta):=by
 intro pins s σ H Q I h;exact UnaryOp_ (thn (J pins s σ H _ I h) λv s1 ⟨x,H1,I1,r1,q1⟩=>D pins s1 σ H1 x v Q I1 r1 q1)
variable{g:Int->Int->Int}{C:Addr}
theorem opI{C:Int->Int->Prop}(rule:∀(i j:Int) (t u:Tok) (s:Shared) (Q:Value->Shared->Prop) (E:Value->Shared->Prop),C i j->Q (.int (g i j) s.toks) { s with toks:=s.toks+1 }->wpAny (model X.prog X.w) X.A (f (.int i t) (.int j u)) Q E s) :
  OpR X f (rI C λi j=>.int (g i j)):=by
 intro pins s σ H x y v u Q I D J h;obtain⟨i,j,rfl,rfl,R,q⟩:=h;obtain⟨t,rfl⟩:=D;obtain⟨t',rfl⟩:=J;exact rule i j t t' s _ _ R ⟨.int (g i j),H,I.tok _,⟨_,rfl⟩,q⟩
theorem opI0(rule:∀(i j:Int) (t u:Tok) (s:Shared) (Q:Value->Shared->Prop) (E:Value->Shared->Prop),Q (.int (g i j) s.toks) { s with toks:=s.toks+1 }->wpAny (model X.prog X.w) X.A (f (.int i t) (.int j u)) Q E s) :
  OpR X f (rI0 λi j=>.int (g i j)):=by
 intro pins s σ H x y v u Q I D J h;obtain⟨i,j,rfl,rfl,q⟩:=h;obtain⟨t,rfl⟩:=D;obtain⟨t',rfl⟩:=J;exact rule i j t t' s _ _ ⟨.int (g i j),H,I.tok _,⟨_,rfl⟩,q⟩
theorem opB0{g:Int->Int->Bool}(rule:∀(i j:Int) (t u:Tok) (s:Shared) (Q:Value->Shared->Prop) (E:Value->Shared->Prop),Q (.bool (g i j)) s->wpAny (model X.prog X.w) X.A (f (.int i t) (.int j u)) Q E s) :
  OpR X f (rI0 λi j=>.bl (g i j)):=by
 intro pins s σ H x y v u Q I D J h;obtain⟨i,j,rfl,rfl,q⟩:=h;obtain⟨t,rfl⟩:=D;obtain⟨t',rfl⟩:=J;exact rule i j t t' s _ _ ⟨.bl (g i j),H,I,rfl,q⟩
def CDiv(i j:Int):Prop:=0<j/\j<1073741824
def CPow(i j:Int):Prop:=0<=j/\j<=1000000/\i.natAbs<2 ^ 64
def CMul(i j:Int):Prop:=(-(2 ^ 64)<i/\i<2 ^ 64)\/(-(2 ^ 64)<j/\j<2 ^ 64)
theorem CMul.ok(h:CMul i j):IntMulOk i j:=by
 rcases h with⟨h1,h2⟩ | ⟨h1,h2⟩
 ·exact .of_left (intBits_le_64 h1 h2)
 ·exact .of_right (intBits_le_64 h1 h2)
theorem z15:OpR X (binaryOp .Add) (rI0 λi j=>.int (i+j)):=opI0 λ_ _ _ _ _ _ _ q=>add_int q
theorem z16:OpR X (binaryOp .Sub) (rI0 λi j=>.int (i-j)):=opI0 λ_ _ _ _ _ _ _ q=>sub_int q
theorem z17:OpR X (binaryOp .Mult) (rI CMul λi j=>.int (i*j)):=opI λ_ _ _ _ _ _ _ D q=>mul_int q D.ok
theorem zzb:OpR X (binaryOp .FloorDiv) (rI CDiv λi j=>.int (i / j)):=opI λi j _ _ _ _ _ D q=>by
 have h1:(0:Int)<j:=D.1;have h2:j<1073741824:=D.2;exact floordiv_int (by lia) (by rw[Int.fdiv_eq_ediv_of_nonneg i (by lia)];exact q) (.inl (PyProof.noPylong_small (by lia)))
theorem z18:OpR X (binaryOp .Mod) (rI (λ_ j=>0<j) λi j=>.int (i % j)):=opI λi j _ _ _ _ _ D q=>by
 have h1:(0:Int)<j:=D;exact mod_int' (by lia) (by rw[Int.fmod_eq_emod_of_nonneg i (by lia)];exact q)
theorem z19:OpR X (binaryOp .Pow) (rI CPow λi j=>.int (i ^ j.toNat)):=opI λ_ _ _ _ _ _ _ D q=>pow_int_small D.1 D.2.1 D.2.2 q
variable{f:Addr}
theorem unI{f:Value->Sem Value}{g:Int->Int}(rule:∀(i:Int) (t:Tok) (s:Shared) (Q:Value->Shared->Prop) (E:Value->Shared->Prop),Q (.int (g i) s.toks) { s with toks:=s.toks+1 }->wpAny (model X.prog X.w) X.A (f (.int i t)) Q E s) :
  UnR X f (rU λi=>.int (g i)):=by
 intro pins s σ H x v Q I D h;obtain⟨i,rfl,q⟩:=h;obtain⟨t,rfl⟩:=D;exact rule i t s _ _ ⟨.int (g i),H,I.tok _,⟨_,rfl⟩,q⟩
theorem zx1:UnR X (unaryOp .USub) (rU λi=>.int (-i)):=unI λ_ _ _ _ _ q=>neg_int q
def scal:V->V->Bool
 | .non,.non=>true | .non,.int _=>true | .int _,.non=>true | .non,.bl _=>true | .bl _,.non=>true | .non,.str _=>true | .str _,.non=>true
 | .int _,.int _=>true | .bl _,.bl _=>true | .str _,.str _=>true | .byt _,.byt _=>true
 | .int _,.str _=>true | .str _,.int _=>true | .bl _,.str _=>true | .str _,.bl _=>true
 | _,_=>false
def rEq:R2:=λx y H Q=>scal x y=true/\Q (.bl (decide (x=y))) H
def rNe:R2:=λx y H Q=>scal x y=true/\Q (.bl (!decide (x=y))) H
theorem zs2:decide (V.int i=V.int j)=(i==j):=by
 rw[lb];simp
theorem zx2{i j:Bool}:decide (V.bl i=V.bl j)=(i==j):=by
 rw[lb];simp
theorem zs3{i j:Str}:decide (V.str i=V.str j)=(i==j):=by
 rw[lb];simp
theorem zs4{i j:Array UInt8}:decide (V.byt i=V.byt j)=(i.toList==j.toList):=by
 rw[lb];cases i;cases j;simp
theorem j3{Q:VK}{k k':Bool}(I:Inv X pins σ H s)(q:Q (.bl k) H)(e:k=k'):EP X pins σ Q (.bool k') s:=by
 subst e;exact⟨.bl k,H,I,rfl,q⟩
theorem z2a:OpR X (compareOp .Eq) rEq:=by
 intro pins s σ H x y v u Q I R D h;obtain⟨J,q⟩:=h;cases x with
 | non =>
   cases R;cases y with
   | non=>cases D;exact PySem.EqNone.eq_none_none (j3 I q (by simp))
   | bl j=>cases D;exact PySem.EqNone.eq_none_bool (j3 I q (by simp))
   | int j=>obtain⟨t',rfl⟩:=D;exact PySem.EqNone.eq_none_int (j3 I q (by simp))
   | str j=>obtain⟨t',rfl⟩:=D;exact PySem.EqNone.eq_none_str (j3 I q (by simp))
   | _=>exact absurd (show false=true from J) b8
 | bl i =>
   cases R;cases y with
   | non=>cases D;exact PySem.EqNone.eq_bool_none (j3 I q (by simp))
   | bl j=>cases D;exact eq_bool (j3 I q zx2)
   | str j=>obtain⟨t',rfl⟩:=D;exact PySem.EqMixed.eq_bool_str (j3 I q (by simp))
   | _=>exact absurd (show false=true from J) b8
 | int i =>
   obtain⟨t,rfl⟩:=R;cases y with
   | non=>cases D;exact PySem.EqNone.eq_int_none (j3 I q (by simp))
   | int j=>obtain⟨t',rfl⟩:=D;exact eq_int (j3 I q zs2)
   | str j=>obtain⟨t',rfl⟩:=D;exact PySem.EqMixed.eq_int_str (j3 I q (by simp))
   | _=>exact absurd (show false=true from J) b8
 | str i =>
   obtain⟨t,rfl⟩:=R;cases y with
   | non=>cases D;exact PySem.EqNone.eq_str_none (j3 I q (by simp))
   | bl j=>cases D;exact PySem.EqMixed.eq_str_bool (j3 I q (by simp))
   | int j=>obtain⟨t',rfl⟩:=D;exact PySem.EqMixed.eq_str_int (j3 I q (by simp))
   | str j=>obtain⟨t',rfl⟩:=D;exact eq_str (j3 I q zs3)
   | _=>exact absurd (show false=true from J) b8
 | byt i =>
   obtain⟨t,rfl⟩:=R;cases y with
   | byt j=>obtain⟨t',rfl⟩:=D;exact PySem.W.eq_bytes (j3 I q zs4)
   | _=>exact absurd (show false=true from J) b8
 | _=>cases y <;> exact absurd (show false=true from J) b8
theorem z44:OpR X (compareOp .NotEq) rNe:=by
 intro pins s σ H x y v u Q I R D h;obtain⟨J,q⟩:=h;cases x with
 | non =>
   cases R;cases y with
   | non=>cases D;exact PySem.EqNone.ne_none_none (j3 I q (by simp))
   | bl j=>cases D;exact PySem.EqNone.ne_none_bool (j3 I q (by simp))
   | int j=>obtain⟨t',rfl⟩:=D;exact PySem.EqNone.ne_none_int (j3 I q (by simp))
   | str j=>obtain⟨t',rfl⟩:=D;exact PySem.EqNone.ne_none_str (j3 I q (by simp))
   | _=>exact absurd (show false=true from J) b8
 | bl i =>
   cases R;cases y with
   | non=>cases D;exact PySem.EqNone.ne_bool_none (j3 I q (by simp))
   | bl j=>cases D;exact ne_bool (j3 I q (congrArg not zx2))
   | str j=>obtain⟨t',rfl⟩:=D;exact PySem.EqMixed.ne_bool_str (j3 I q (by simp))
   | _=>exact absurd (show false=true from J) b8
 | int i =>
   obtain⟨t,rfl⟩:=R;cases y with
   | non=>cases D;exact PySem.EqNone.ne_int_none (j3 I q (by simp))
   | int j=>obtain⟨t',rfl⟩:=D;exact ne_int (j3 I q (congrArg not zs2))
   | str j=>obtain⟨t',rfl⟩:=D;exact PySem.EqMixed.ne_int_str (j3 I q (by simp))
   | _=>exact absurd (show false=true from J) b8
 | str i =>
   obtain⟨t,rfl⟩:=R;cases y with
   | non=>cases D;exact PySem.EqNone.ne_str_none (j3 I q (by simp))
   | bl j=>cases D;exact PySem.EqMixed.ne_str_bool (j3 I q (by simp))
   | int j=>obtain⟨t',rfl⟩:=D;exact PySem.EqMixed.ne_str_int (j3 I q (by simp))
   | str j=>obtain⟨t',rfl⟩:=D;exact ne_str (j3 I q (congrArg not zs3))
   | _=>exact absurd (show false=true from J) b8
 | byt i =>
   obtain⟨t,rfl⟩:=R;cases y with
   | byt j=>obtain⟨t',rfl⟩:=D;exact PySem.W.ne_bytes (j3 I q (congrArg not zs4))
   | _=>exact absurd (show false=true from J) b8
 | _=>cases y <;> exact absurd (show false=true from J) b8
theorem z45:OpR X (compareOp .Lt) (rI0 λi j=>.bl (decide (i<j))):=opB0 λ_ _ _ _ _ _ _ q=>lt_int q
theorem z46:OpR X (compareOp .LtE) (rI0 λi j=>.bl (decide (i<=j))):=opB0 λ_ _ _ _ _ _ _ q=>le_int q
theorem z2b:OpR X (compareOp .Gt) (rI0 λi j=>.bl (decide (j<i))):=opB0 λ_ _ _ _ _ _ _ q=>gt_int q
theorem z47:OpR X (compareOp .GtE) (rI0 λi j=>.bl (decide (j<=i))):=opB0 λ_ _ _ _ _ _ _ q=>ge_int q
theorem tz(b:Expr)(h:op≠.In:=by decide)(h2:op≠.NotIn:=by decide):behindInMarks op b=false:=by
 have D:(op==CmpOp.In)=false:=by cases op <;> first | rfl | exact absurd rfl h
 have I:(op==CmpOp.NotIn)=false:=by cases op <;> first | rfl | exact absurd rfl h2
 cases b <;> simp[behindInMarks,D,I]
theorem zzc(D:OpR X (compareOp op) r)(J:PE X a ta)(R:PE X b tb)(S:behindInMarks op b=false):PE X (.Compare a [op] [b] pos) (tOp r ta tb):=by
 intro pins s σ H Q I h;exact wpAny_Compare1 (binT J R I h λv u s2 x y H2 U V Y q=>D pins s2 σ H2 x y v u Q U V Y q) S
def z2c(t:TE):TT:=λσ H Q=>t σ H λx H'=>∃k,x=.bl k/\Q k H'
theorem zzd(D:OpR X (compareOp op) r)(J:PE X a ta)(R:PE X b tb)(S:behindInMarks op b=false):PT X (.Compare a [op] [b] pos) (z2c (tOp r ta tb)):=by
 intro pins s σ H Q I h;refine wpAny_isTrue_Compare1 (thn (J pins s σ H _ I h) λv s1 ⟨x,H1,I1,r1,q1⟩=>thn (R pins s1 σ H1 _ I1 q1) λu s2 ⟨y,H2,I2,r2,q2⟩ =>
  thn (D pins s2 σ H2 x y v u _ I2 r1 r2 q2) λc s3 ⟨z,H3,I3,r3,k,e,q3⟩=>?_) S
 subst e;cases r3;exact wpAny_truthy_bool ⟨H3,I3,q3⟩
theorem wb:(sizeLine:Nat)<2 ^ 63:=by rw[sizeLine_eq];decide
variable{x:V}{us:gr}
theorem uq(r:Vals [x] us):∃u,us=[u]/\RelV x u:=by
 cases r with
 | cons r1 r2=>cases r2;exact⟨_,rfl,r1⟩
variable{y:V}
theorem zvs(r:Vals [x,y] us):∃u D,us=[u,D]/\RelV x u/\RelV y D:=by
 cases r with
 | cons r1 r2 =>
   cases r2 with
   | cons r3 r4=>cases r4;exact⟨_,_,rfl,r1,r3⟩
theorem zs5(J:X.calm=true):m7 X (.builtin "max") (λxs H Q=>∃i j,xs=[.int i,.int j]/\Q (.int (if j > i then j else i)) H):=by
 intro pins s σ H xs us Q I r h;obtain⟨i,j,rfl,q⟩:=h;obtain⟨u,R,rfl,⟨t,rfl⟩,⟨t',rfl⟩⟩:=zvs r;refine max_two_ints (I.ok.hd J) λh' tk k=>⟨_,H,I.kept k,?_,q⟩;by_cases D:j > i
 ·rw[if_pos D,if_pos D];exact⟨_,rfl⟩
 ·rw[if_neg D,if_neg D];exact⟨_,rfl⟩
theorem zs6(J:X.calm=true):m7 X (.builtin "min") (λxs H Q=>∃i j,xs=[.int i,.int j]/\Q (.int (if j<i then j else i)) H):=by
 intro pins s σ H xs us Q I r h;obtain⟨i,j,rfl,q⟩:=h;obtain⟨u,R,rfl,⟨t,rfl⟩,⟨t',rfl⟩⟩:=zvs r;refine min_two_ints (I.ok.hd J) λh' tk k=>⟨_,H,I.kept k,?_,q⟩;by_cases D:j<i
 ·rw[if_pos D,if_pos D];exact⟨_,rfl⟩
 ·rw[if_neg D,if_neg D];exact⟨_,rfl⟩
theorem zs7:m7 X (.type "int") (λxs H Q=>(∃i,xs=[.int i]/\Q (.int i) H)\/∃k,xs=[.bl k]/\Q (.int (if k then 1 else 0)) H):=by
 intro pins s σ H xs us Q I r h;rcases h with⟨i,rfl,q⟩ | ⟨k,rfl,q⟩
 ·obtain⟨u,rfl,t,rfl⟩:=uq r
  exact call_int_int ⟨.int i,H,I,⟨_,rfl⟩,q⟩
 ·obtain⟨u,rfl,D⟩:=uq r
  cases D;exact call_int_bool ⟨.int (if k then 1 else 0),H,I.tok _,⟨_,rfl⟩,q⟩
structure ObjM (h:Heap) (x dx C:Addr) (mA:Str->gs):Prop where
 obj:h.get? x=some (PySem.W.instObj C dx)
 ns:h.Ns1 dx mA
 ne:dx≠x
variable{dx:Addr}{mA:Str->gs}
theorem zs8(n:h.Ns1 dx mA):∃od,h.get? dx=some od/\∀name,PySem.W.lookIn name od=some (mA name):=by
 obtain⟨o,es,Y,I,J,R,_,S⟩:=n;refine⟨o,I,λname=>?_⟩;have e:=S name;unfold nsFind findBy at e;rw[<-Array.find?_toList] at e;unfold PySem.W.lookIn;rw[J];dsimp only;split
 ·rename_i y q
  rw[q] at e;exact congrArg some e
 ·rename_i q
  rw[q] at e;have a:es.toList.any (·.refKey)=false:=by
   rw[List.any_eq_false];intro y U;obtain⟨z,t,D⟩:=R y (Array.mem_toList_iff.mp U);simp[DictEntry.refKey,D]
  have V:¬es.toList.any (·.refKey)=true:=by rw[a];exact b8
  rw[if_neg V];exact congrArg some e
variable{x:Addr}
theorem ObjM.look(I:ObjM h x dx C mA):∃od,PySem.W.InstAt h x (PySem.W.instObj C dx) C (some od)/\∀name,PySem.W.lookIn name od=some (mA name) :=
 let ⟨od,D,J⟩:=zs8 I.ns
 ⟨od,⟨I.obj,rfl,rfl,D⟩,J⟩
variable{prog:Program}{name:Str}
theorem zze{D:Bool}(X:K.In s.heap)(I:ObjM s.heap x dx C mA)(S:PySem.W.plainGet K C name=true)(U:PySem.W.hasDictIn K C=true)(V:PySem.W.findIn K (.ref C) name=some none)(Y:mA name=some v)(R:PySem.W.handedIn v=true)(h:Q v { s with toks:=s.toks+1 }) :
  wpAny (model prog w) A (getAttr (.ref x) name D) Q E s:=by
 obtain⟨od,J,Z⟩:=I.look;exact PySem.W.get_value X J (l7 S).1 (PySem.W.findObj_own U V rfl (by rw[Z,Y])) R h
theorem zvt{pl:Sem Bool}{Q:Value×gr->Shared->Prop}(X:K.In s.heap)(I:ObjM s.heap x dx C mA)(D:PySem.W.plainGet K C name=true)(R:PySem.W.findIn K (.ref C) name=some (some (.ref f)))(S:PySem.W.isFn K (.ref f)=true)(U:mA name=none)(h:Q (.ref f,[.ref x]) s) :
  wpAny (model prog w) A (getMethod (.ref x) name pl) Q E s:=by
 obtain⟨od,J,V⟩:=I.look;exact PySem.W.method_fn X J (l7 D).1 (l7 D).2 R (beq_iff_eq.mp S) (by show(PySem.W.lookIn name od).map (·.isSome)=some false;rw[V,U];rfl) h
theorem zzf{Z:gj}{Q:Unit->Shared->Prop}(X:K.In s.heap)(I:ObjM s.heap x dx C mA)(c:PySem.W.findIn K (.ref C) "__setattr__" = some (some (.builtin "object.__setattr__")))(d:PySem.W.plainOver K C=true)(e:PySem.W.takerIn K C name=some none)(f:PySem.W.hasDictIn K C=true)(g:PySem.Within mA Z)(i:Z.length<=sizeLine)(h:∀h',ObjM h' x dx C (λy=>if y=name then some v else mA y)->Heap.SameBut dx s.heap h'->Q () { s with heap:=h',toks:=s.toks+2 }) :
  wpAny (model prog w) A (setAttr (.ref x) name v) Q E s:=by
 obtain⟨od,J,n⟩:=I.look;refine PySem.W.set_plain X J c (PySem.W.osa_open (s:={ s with toks:=s.toks+1 }) (r:=none) X J d e λb=>?_);obtain⟨o,j,S⟩:=PySem.W.any_some f;have k:s.heap.get? x=some ⟨.ref C,some dx,.plain,#[]⟩:=I.obj;refine wpAny_bind (wpAny_pure (wpAny_bind (wpAny_bind (wpAny_loadPart k (wpAny_bind (PySem.W.Looks.here (s:={ s with toks:=s.toks+1 }) (PySem.W.looks_clsIn X j) ?_))))));rw[S];refine wpAny_pure (a:=some dx) (wpAny_bind (wpAny_pure (wpAny_bind ?_)));refine wpAny_nsSet1 (s:={ s with toks:=s.toks+1 }) I.ns λh' D R=>?_;obtain⟨p,l,m,U,V,Y⟩:=D.count (PySem.Within.cons name v g);refine wpAny_bind (wpAny_lookBehind U (by rw[V];exact pastItsLine_dict (dc Y (by rw[ak];lia))) ?_);exact wpAny_pure (h _ ⟨(R.2 _ (Ne.symm I.ne)).trans I.obj,D,I.ne⟩ R)
variable{kw:List (Str×Value)}
theorem zvu{R:Result->Shared->Prop}{vs:gr}(X:K.In s.heap)(I:PySem.W.makesIn K C=true)(hi:PySem.W.findIn K (.ref C) "__init__" = some (some (.ref f)))(J:PySem.W.typeIn K (.ref f)=some (.type "function"))(h:codeAny (model prog w) (A.under (.builtin "type.__call__" ⟨.ref C::vs,kw⟩)) (.call (.ref f) ⟨.ref (s.heap.objs.size+1)::vs,kw⟩) (PySem.W.InitBack (s.heap.objs.size+1) R)
   { s with heap:=(s.heap.push PySem.W.emptyDict).push (PySem.W.instObj C s.heap.objs.size) }) :
  codeAny (model prog w) A (.call (.ref C) ⟨vs,kw⟩) R s:=by
 obtain⟨S,g,d,t,os⟩:=s;exact PySem.W.make_core (PySem.W.makes_of X I) (PySem.W.looks_findIn X hi) (λD=>PySem.W.bind_fn X D J) (.inl rfl) h
def putF(f:Str)(v:V):List (Str×V)->List (Str×V)
 | []=>[(f,v)]
 | (g,x)::r=>if g=f then(g,v)::r else(g,x)::putF f v r
theorem zk0(f g:Str)(v:V):∀fs:List (Str×V),(putF f v fs).lookup g=if g=f then some v else fs.lookup g
 | []=>by
   show List.lookup g [(f,v)]=_;by_cases h:g=f
   ·have D:(g==f)=true:=beq_iff_eq.mpr h
    simp only[List.lookup,D,if_pos h]
   ·have D:(g==f)=false:=beq_eq_false_iff_ne.mpr h
    simp only[List.lookup,D,if_neg h]
 | (k,x)::r=>by
   have J:=zk0 f g v r;rw[show putF f v ((k,x)::r)=(if k=f then(k,v)::r else(k,x)::putF f v r) from rfl];by_cases I:k=f
   ·rw[if_pos I]
    by_cases h:g=k
    ·have D:(g==k)=true:=beq_iff_eq.mpr h
     simp only[List.lookup,D,if_pos (h.trans I)]
    ·have D:(g==k)=false:=beq_eq_false_iff_ne.mpr h
     simp only[List.lookup,D,if_neg (λe:g=f=>h (e.trans I.symm))]
   ·rw[if_neg I]
    by_cases h:g=k
    ·have D:(g==k)=true:=beq_iff_eq.mpr h
     simp only[List.lookup,D,if_neg (λe:g=f=>I (h.symm.trans e))]
    ·have D:(g==k)=false:=beq_eq_false_iff_ne.mpr h
     simp only[List.lookup,D];exact J
theorem zk1(f:Str)(v:V):∀fs:List (Str×V),f∈(putF f v fs).map (·.1)/\∀g,g∈fs.map (·.1)->g∈(putF f v fs).map (·.1)
 | []=>⟨by simp[putF],λg h=>by simp at h⟩
 | (k,x)::r=>by
   obtain⟨I,J⟩:=zk1 f v r;rw[show putF f v ((k,x)::r)=(if k=f then(k,v)::r else(k,x)::putF f v r) from rfl];by_cases D:k=f
   ·rw[if_pos D]
    subst D;exact⟨by simp,λg h=>by simpa using h⟩
   ·rw[if_neg D]
    refine⟨?_,λg h=>?_⟩
    ·rw[ci]
     exact av _ I
    ·rw[ci] at h ⊢
     rcases b7.mp h with e | e
     ·exact b7.mpr (.inl e)
     ·exact av _ (J g e)
theorem zk2(f:Str)(v:V):∀fs:List (Str×V),(putF f v fs).length<=fs.length+1
 | []=>by simp[putF]
 | (k,x)::r=>by
   have I:=zk2 f v r;rw[show putF f v ((k,x)::r)=(if k=f then(k,v)::r else(k,x)::putF f v r) from rfl];by_cases D:k=f
   ·rw[if_pos D,ak,ak];lia
   ·rw[if_neg D,ak,ak];lia
variable{o:gs}{v:V}
theorem RelO.some_of(r:RelO (some v) o):∃u,o=some u/\RelV v u:=by
 cases o with
 | none=>exact(show False from r).elim
 | some u=>exact⟨u,rfl,r⟩
theorem RelO.none_of(r:RelO none o):o=none:=by
 cases o with
 | none=>rfl
 | some u=>exact(show False from r).elim
theorem zs9(r:RelV v u):PySem.W.handedIn u=true:=by
 cases v with
 | non=>cases (show u=Value.none from r);rfl
 | bl b=>cases (show u=Value.bool b from r);rfl
 | int i=>obtain⟨t,e⟩:=(show ∃t,u=Value.int i t from r);cases e;rfl
 | str x=>obtain⟨t,e⟩:=(show ∃t,u=Value.str x t from r);cases e;rfl
 | byt b=>obtain⟨t,e⟩:=(show ∃t,u=Value.bytes b t from r);cases e;rfl
 | flt b=>obtain⟨t,e⟩:=(show ∃t,u=Value.float b t from r);cases e;rfl
 | ref a=>cases (show u=Value.ref a from r);rfl
 | ty n=>cases (show u=Value.type n from r);rfl
variable{a:Addr}{fs:List (Str×V)}
theorem zmi(D:HOk P w H h)(e:H a=some (.ins C dx fs)):∃mA,ObjM h a dx C mA/\(∀f,RelO (fs.lookup f) (mA f))/\PySem.Within mA (fs.map (·.1))/\fs.length<=1000/\H dx=some (.own a):=by
 obtain⟨d,z,I,J,mA,n,r,q⟩:=(show ObjOk P w H h a (.ins C dx fs) from D a _ e);exact⟨mA,⟨J,n,I⟩,r,q,z,d⟩
structure Cls (K:h8) (C:Addr):Prop where
 pg:PySem.W.plainGet K C Str.empty=true
 hd:PySem.W.hasDictIn K C=true
 po:PySem.W.plainOver K C=true
 sa:PySem.W.findIn K (.ref C) "__setattr__" = some (some (.builtin "object.__setattr__"))
theorem Cls.get(c:Cls K C)(f:Str):PySem.W.plainGet K C f=true:=c.pg
def NoAttr(K:h8)(C:Addr)(f:Str):Prop:=PySem.W.findIn K (.ref C) f=some none
variable{f:Str}
theorem NoAttr.taker(n:NoAttr K C f):PySem.W.takerIn K C f=some none:=by
 unfold PySem.W.takerIn;rw[show PySem.W.findIn K (.ref C) f=some none from n];rfl
structure Con (K:h8) (C:Addr) (f:Str) (v:V) (u:Value):Prop where
 at_:PySem.W.findIn K (.ref C) f=some (some u)
 rel:RelV v u
 get:PySem.W.specialIn K u "__get__" = some none
 cp:PySem.W.copiedNames.contains f=false
structure Meth (K:h8) (C:Addr) (m:Str) (f:Addr):Prop where
 at_:PySem.W.findIn K (.ref C) m=some (some (.ref f))
 fn:PySem.W.isFn K (.ref f)=true
 kp:PySem.W.keepIn K (.ref f)=true
variable{b:Bool}
theorem zr0(I:Inv X pins σ H s)(e:H a=some (.ins C dx fs))(c:Cls X.K C)(n:NoAttr X.K C f)(l:fs.lookup f=some v)(h:∀u s',Inv X pins σ H s'->RelV v u->Q u s'):wpAny (model X.prog X.w) A (getAttr (.ref a) f b) Q E s:=by
 obtain⟨mA,O,r,_,_,_⟩:=zmi I.hok e;obtain⟨u,J,D⟩:=RelO.some_of (v:=v) (o:=mA f) (by rw[<-l];exact r f);exact zze I.kIn O (c.get f) c.hd n J (zs9 D) (h u _ (I.tok _) D)
theorem zly{m:Str}{g:Addr}{pl:Sem Bool}{Q:Value×gr->Shared->Prop}(I:Inv X pins σ H s)(e:H a=some (.ins C dx fs))(c:Cls X.K C)(k:Meth X.K C m g)(l:fs.lookup m=none)(h:Q (.ref g,[.ref a]) s):wpAny (model X.prog X.w) A (getMethod (.ref a) m pl) Q E s:=by
 obtain⟨mA,O,r,_,_,_⟩:=zmi I.hok e;have D:mA m=none:=RelO.none_of (by rw[<-l];exact r m);exact zvt I.kIn O (c.get m) k.at_ k.fn D h
theorem zr1{Q:Unit->Shared->Prop}(I:Inv X pins σ H s)(e:H a=some (.ins C dx fs))(c:Cls X.K C)(n:NoAttr X.K C f)(Z:fs.length<1000)(J:RelV y u)(h:∀s',Inv X pins σ (upd H a (.ins C dx (putF f y fs))) s'->Q () s'):wpAny (model X.prog X.w) A (setAttr (.ref a) f u) Q E s:=by
 obtain⟨mA,O,r,wi,_,D⟩:=zmi I.hok e;have R:(fs.map (·.1)).length<=sizeLine:=by rw[ae,sizeLine_eq];lia
 refine zzf I.kIn O c.sa c.po n.taker c.hd wi R λh' O' S=>h _ ?_;have U:∃o,h'.get? dx=some o:=let ⟨o,_,_,e',_⟩:=O'.ns;⟨o,e'⟩;refine I.write (x:=a) (e:=dx) (by rw[e];exact True.intro) (.inr D) (λb q V z=>(S.2 b V).trans z) U ?_;refine⟨by rw[gm O.ne];exact D,?_,O.ne,O'.obj,_,O'.ns,λg=>?_,λg Y=>?_⟩
 ·have:=zk2 f y fs;lia
 ·show RelO ((putF f y fs).lookup g) (if g=f then some u else mA g)
  rw[zk0];by_cases q:g=f
  ·rw[if_pos q,if_pos q];exact J
  ·rw[if_neg q,if_neg q];exact r g
 ·by_cases q:g=f
  ·rw[q];exact(zk1 f y fs).1
  ·refine(zk1 f y fs).2 g (wi g λz=>Y ?_)
   show(if g=f then some u else mA g)=none;rw[if_neg q];exact z
theorem Inv.made(I:Inv X pins σ H s):Inv X pins σ (upd (upd H s.heap.objs.size (.own (s.heap.objs.size+1))) (s.heap.objs.size+1) (.ins C s.heap.objs.size []))
  { s with heap:=(s.heap.push PySem.W.emptyDict).push (PySem.W.instObj C s.heap.objs.size) }:=by
 have D:(s.heap.push PySem.W.emptyDict).get? s.heap.objs.size=some PySem.W.emptyDict:=cb s.heap rfl;have R:((s.heap.push PySem.W.emptyDict).push (PySem.W.instObj C s.heap.objs.size)).get? (s.heap.objs.size+1)=some (PySem.W.instObj C s.heap.objs.size):=by
  have:=cb (s.heap.push PySem.W.emptyDict) (o:=PySem.W.instObj C s.heap.objs.size) rfl;rwa [i3] at this
 have S:(s.heap.push PySem.W.emptyDict).Ns s.heap.objs.size (λ_=>none):=⟨PySem.W.emptyDict,#[],_,D,rfl,(λe U=>absurd U (by simp)),λ_=>rfl⟩;have V:=I.laid (a:=s.heap.objs.size) (o:=.own (s.heap.objs.size+1)) (h':=s.heap.push PySem.W.emptyDict) (t':=s.toks) (λb u q=>ao _ q) (b6 _) ⟨_,D⟩;refine V.laid (a:=s.heap.objs.size+1) (o:=.ins C s.heap.objs.size []) (t':=s.toks) (λb u q=>ao _ q) (Nat.le_of_eq (i3 _ _)) ?_;have J:s.heap.objs.size≠s.heap.objs.size+1:=bx (ff _);refine⟨by rw[gm J,j8],fz _,J,R,λ_=>none,(Heap.Ns1.of_empty S).at λo q=>ao _ q,λ_=>True.intro,λy Y=>absurd rfl Y⟩
theorem zzg{env:Env}(I:attributeBase e f env (eval e env)=eval e env)(h:wpAny (model prog w) A (eval e env) (λo D=>wpAny (model prog w) A (getAttr o f true) Q E D) E s):wpAny (model prog w) A (eval (.Attribute e f pos) env) Q E s :=
 Attribute_any_ h (by rw[arm_eval_Attribute,I])
def tFld(K:h8)(ta:TE)(f:Str):TE:=λσ H Q=>ta σ H λx H1=>∃a C dx fs v,x=.ref a/\H1 a=some (.ins C dx fs)/\Cls K C/\NoAttr K C f/\fs.lookup f=some v/\Q v H1
def sFld(K:h8)(ta tv:TE)(f:Str):TS:=λD σ H=>tv σ H λy H1=>ta σ H1 λx H2=>∃a C dx fs,x=.ref a/\H2 a=some (.ins C dx fs)/\Cls K C/\NoAttr K C f/\fs.length<1000 /\
 D.nx σ (upd H2 a (.ins C dx (putF f y fs)))
theorem zx3(D:PE X e ta)(J:attributeBase e f X.env (eval e X.env)=eval e X.env):PE X (.Attribute e f pos) (tFld X.K ta f):=by
 intro pins s σ H Q I h;refine zzg J (thn (D pins s σ H _ I h) λu s1 ⟨x,H1,I1,rx,a,C,dx,fs,v,ex,ea,c,n,l,q⟩=>?_);subst ex;obtain rfl:u=Value.ref a:=rx;exact zr0 I1 ea c n l λU s2 R S=>⟨v,H1,R,S,q⟩
variable{o value:Expr}{tv:TE}
theorem z2d(J:PE X o ta)(R:PE X value tv)(S:swapsWith value (some (.Attribute o f pos')) pos.line X.env=pure false):PS X (.Assign [.Attribute o f pos'] value pos) (sFld X.K ta tv f):=by
 intro pins s σ H D I h;refine plainObj_wpAny_Assign_Attribute (thn (R pins s σ H _ I h) λu s1 ⟨y,H1,I1,ry,q⟩=>thn (J pins s1 σ H1 _ I1 q) λov s2 ⟨x,H2,I2,rx,a,C,dx,fs,ex,ea,c,n,l,q2⟩=>?_) S;subst ex;obtain rfl:ov=Value.ref a:=rx;exact zr1 I2 ea c n l ry λV U=>⟨σ,_,U,q2⟩
inductive TyOf (K:h8) (H:Hp):V->Value->Prop where
 | non:TyOf K H .non (.type "NoneType")
 | bl (x:Bool):TyOf K H (.bl x) (.type "bool")
 | int (i:Int):TyOf K H (.int i) (.type "int")
 | str (x:Str):TyOf K H (.str x) (.type "str")
 | flt (x:UInt64):TyOf K H (.flt x) (.type "float")
 | lst {a:Addr} {xs:ik} (e:H a=some (.lst xs)):TyOf K H (.ref a) (.type "list")
 | frz {a:Addr} {o:Obj} {xs:ik} (e:H a=some (.frz o (.lst xs))):TyOf K H (.ref a) (.type "list")
 | tup {a:Addr} {xs:ik} (e:H a=some (.tup xs)):TyOf K H (.ref a) (.type "tuple")
 | dK {a:Addr} {kvs:List (Key×V)} (e:H a=some (.dK kvs)):TyOf K H (.ref a) (.type "dict")
 | dT {a:Addr} {kvs:List (List Key×V)} (e:H a=some (.dT kvs)):TyOf K H (.ref a) (.type "dict")
 | ins {a C dx:Addr} {fs:List (Str×V)} (e:H a=some (.ins C dx fs)) (cl:Cls K C) (ha:PySem.W.findIn K (.ref C) "__class__" = some (some (.builtin "object.__class__")))
    (hn:PySem.W.specialIn K (.builtin "object.__class__") "__get__" = some (some (.builtin "getset_descriptor.__get__"))) (htk:PySem.W.takesIn K (.builtin "object.__class__")=some true)
    (hm:PySem.W.mroIn K C (.type "object")=some true):TyOf K H (.ref a) (.ref C)
variable{x:Str}
theorem zta{x:V}{t:Value}(I:Inv X pins σ H s)(D:RelV x u)(R:TyOf X.K H x t)(e:PySem.W.kitOne X.K t c=some b)(h:∀tk,Q (.bool b) { s with toks:=tk }) :
  wpAny (model X.prog X.w) A (call (.builtin "isinstance") [u,c]) Q E s:=by
 cases R with
 | non=>cases (show u=Value.none from D);exact d6 PySem.W.kitx_none I.kIn True.intro e (λz=>nomatch z) h
 | bl y=>cases (show u=Value.bool y from D);exact d6 PySem.W.kitx_bool I.kIn True.intro e (λz=>nomatch z) h
 | int i=>obtain⟨t,q⟩:=(show ∃t,u=Value.int i t from D);cases q;exact d6 PySem.W.kitx_int I.kIn True.intro e (λz=>nomatch z) h
 | str y=>obtain⟨t,q⟩:=(show ∃t,u=Value.str y t from D);cases q;exact d6 PySem.W.kitx_str I.kIn True.intro e (λz=>nomatch z) h
 | flt y=>obtain⟨t,q⟩:=(show ∃t,u=Value.float y t from D);cases q;exact d6 PySem.W.kitx_float I.kIn True.intro e (λz=>nomatch z) h
 | @lst a xs ea =>
   cases (show u=Value.ref a from D);obtain⟨_,_,n,_,h1⟩:=(show ObjOk X.prog X.w H s.heap a (.lst xs) from I.hok a _ ea);exact d6 nh I.kIn ⟨_,h1,rfl⟩ e (λz=>nomatch z) h
 | @frz a ob xs ea =>
   cases (show u=Value.ref a from D);obtain⟨_,_,_,n,_,h1⟩:=(show ObjOk X.prog X.w H s.heap a (.frz ob (.lst xs)) from I.hok a _ ea);exact d6 nh I.kIn ⟨_,h1,rfl⟩ e (λz=>nomatch z) h
 | @tup a xs ea =>
   cases (show u=Value.ref a from D);obtain⟨_,_,_,p⟩:=(show ObjOk X.prog X.w H s.heap a (.tup xs) from I.hok a _ ea);obtain⟨o,h1,h2,_⟩:=p;exact d6 PySem.W.kitx_tuple I.kIn ⟨o,h1,h2⟩ e (λz=>nomatch z) h
 | @dK a kvs ea =>
   cases (show u=Value.ref a from D);obtain⟨_,_,vs,_,p⟩:=(show ObjOk X.prog X.w H s.heap a (.dK kvs) from I.hok a _ ea);obtain⟨o,es,S,h1,h2,_⟩:=p;exact d6 PySem.W.kitx_dict I.kIn ⟨o,h1,h2.1⟩ e (λz=>nomatch z) h
 | @dT a kvs ea =>
   cases (show u=Value.ref a from D);obtain⟨_,_,xs,_,o,es,S,h1,h2,_⟩:=(show ObjOk X.prog X.w H s.heap a (.dT kvs) from I.hok a _ ea);exact d6 PySem.W.kitx_dict I.kIn ⟨o,h1,h2.1⟩ e (λz=>nomatch z) h
 | @ins a C dx fs ea cl ha hn htk hm =>
   cases (show u=Value.ref a from D);obtain⟨mA,O,_⟩:=zmi I.hok ea;obtain⟨od,J,_⟩:=O.look;exact d6 (PySem.W.kitx_own (cl.get _) cl.hd ha hn htk hm) I.kIn J e (λz=>nomatch z) h
structure Room (k:Nat) (A:Around):Prop where
 hd:A.handled=none
 dp:A.depth+3*k+5<recursionLimit
 un:A.units+16*k+200<cLine
theorem Room.mono{j:Nat}(r:Room k A)(h:j<=k):Room j A:=⟨r.hd,by have:=r.dp;lia,by have:=r.un;lia⟩
theorem Room.deeper(r:Room (k+1) A)(env:Env):Room k (A.deeper env) :=
 ⟨r.hd,by have:=r.dp;show A.depth+1+3*k+5<_;lia,by have:=r.un;show A.units+3+16*k+200<_;lia⟩
theorem zr2:(A.under (.builtin "type.__call__" ⟨.ref C::us,kw⟩)).depth=A.depth+1:=by
 first | rfl | simp[Around.under,Code.weight,Code.isCreation,Code.isGuard,Code.isCaller,Code.frames,Code.isFrame,guardIds]
theorem zr3:(A.under (.builtin "type.__call__" ⟨.ref C::us,kw⟩)).units=A.units+1:=by
 first | rfl | simp[Around.under,Code.cUnits,Code.frames,Code.isFrame]
theorem Room.make(r:Room (k+1) A)(C:Addr)(us:gr)(kw:List (Str×Value)):Room k (A.under (.builtin "type.__call__" ⟨.ref C::us,kw⟩)) :=
 ⟨r.hd,by have:=r.dp;rw[zr2];lia,by have:=r.un;rw[zr3];lia⟩
theorem Room.depth(r:Room k A):A.depth<recursionLimit:=by have:=r.dp;lia
def tNil:TA:=λ_ H Q=>Q [] H
def z2e(ta:TE)(tr:TA):TA:=λσ H Q=>ta σ H λx H1=>tr σ H1 λxs H2=>Q (x::xs) H2
theorem og:PA X [] tNil:=λ_ _ _ _ H Q I h=>Calls.spliced_nil ⟨[],H,I,.nil,h⟩
theorem md(D:PE X e te)(J:PA X es t)(R:starEach (e::es) X.env=(false,eval e X.env)::starEach es X.env:=by rfl):PA X (e::es) (z2e te t):=by
 intro pos pins s σ H Q I h;rw[R];show wpAny _ _ (spliced ((false,eval e X.env)::backTo pos (starEach es X.env))) _ _ s;refine Calls.spliced_cons (thn (D pins s σ H _ I h) λu s1 ⟨x,H1,I1,r1,q1⟩=>?_);exact thn (J pos pins s1 σ H1 _ I1 q1) λus s2 ⟨xs,H2,I2,r2,q2⟩=>⟨x::xs,H2,I2,.cons r1 r2,q2⟩
def tTup(t:TA):TE:=λσ H Q=>t σ H λxs H1=>xs.length<=sizeLine/\∀p,H1 p=none->Q (.ref p) (upd H1 p (.tup xs))
def tLst(t:TA):TE:=λσ H Q=>t σ H λxs H1=>xs.length<=sizeLine/\∀p,H1 p=none->Q (.ref p) (upd H1 p (.lst xs))
theorem z2f{x1}(h:PA X es t):PE X (.Tuple es x1 pos) (tTup t):=by
 intro pins s σ H Q I D;refine wpAny_Tuple_spliced (thn (h pos pins s σ H _ I D) λus s1 ⟨xs,H1,I1,r,z,q⟩=>⟨by rw[<-r.length];exact z,?_⟩);have J:H1 s1.heap.objs.size=none:=I1.hok.fresh (b6 _);refine⟨.ref s1.heap.objs.size,upd H1 s1.heap.objs.size (.tup xs),I1.laid (t':=s1.toks) (λb u e=>ao _ e) (b6 _) ?_,rfl,q _ J⟩;exact⟨z,us,r,⟨_,cb _ rfl,rfl,_,rfl⟩⟩
theorem zx4(h:PA X es t):PE X (.List es pos) (tLst t):=by
 intro pins s σ H Q I D;refine wpAny_List_spliced (thn (h pos pins s σ H _ I D) λus s1 ⟨xs,H1,I1,r,z,q⟩=>⟨by rw[<-r.length];exact z,?_⟩);have J:H1 s1.heap.objs.size=none:=I1.hok.fresh (b6 _);refine⟨.ref s1.heap.objs.size,upd H1 s1.heap.objs.size (.lst xs),I1.laid (t':=s1.toks) (λb u e=>ao _ e) (b6 _) ?_,rfl,q _ J⟩;exact⟨z,us,0,r,cb _ rfl⟩
abbrev Sp:=ik->Hp->VK->XK->Prop
abbrev CXT:=g8->Hp->Shared->XK->Value->Shared->Prop
structure Env0 (P:Program) (w:World) (K:h8) (mg:Str->gs) (base:Heap) (A:Around) (outer:g8) (s:Shared) (H:Hp):Prop where
 frames:A.frames=some outer
 mod:Mod K mg base
 bs:∀b o,base.get? b=some o->s.heap.get? b=some o/\H b=none
 bsz:base.objs.size<=s.heap.objs.size
 funs:s.heap.FunFrames base outer
 frf:∀b∈frs outer,H b=none
 hok:HOk P w H s.heap
 bare:AllBare s.gens
def CE(outer:g8)(P:Program)(w:World)(H:Hp)(s:Shared)(Q:VK)(u:Value)(s':Shared):Prop :=
 ∃v H',s'.os=s.os/\AllBare s'.gens/\Un (frs outer) [] H H' s.heap s'.heap/\HOk P w H' s'.heap/\RelV v u/\Q v H'
def CR(CX:CXT)(outer:g8)(P:Program)(w:World)(H:Hp)(s:Shared)(Q:VK)(E:XK)(r:Result)(s':Shared):Prop :=
 match r with
 | .ok (.ret u)=>CE outer P w H s Q u s'
 | .ok _=>False
 | .error e=>CX outer H s E e s'
structure FnOk (P:Program) (w:World) (K:h8) (mg:Str->gs) (base:Heap) (CX:CXT) (k:Nat) (f:Addr) (fd:FuncData) (ps:gj) (sp:Sp):Prop where
 len:∀vs H Q E,sp vs H Q E->vs.length=ps.length
 run:∀(A:Around) (outer:g8) (s:Shared) (H:Hp) (args:Args) (us:gr) (vs:ik) (Q:VK) (E:XK),Room k A->Env0 P w K mg base A outer s H->BindsTo s fd args (ps.zip us)->Vals vs us->sp vs H Q E ->
  codeAny (model P w) A (.call (.ref f) args) (CR CX outer P w H s Q E) s
variable{f:Addr}{mg:Str->gs}{base:Heap}{CX:CXT}{fd:FuncData}{ps:gj}{sp:Sp}
theorem FnOk.imp{D:Sp}(F:FnOk P w K mg base CX k f fd ps sp)(h:∀vs H Q E,D vs H Q E->sp vs H Q E):FnOk P w K mg base CX k f fd ps D :=
 ⟨λvs H Q E q=>F.len vs H Q E (h _ _ _ _ q),λA outer s H args us vs Q E I J R S U=>F.run A outer s H args us vs Q E I J R S (h _ _ _ _ U)⟩
variable{outer:g8}
theorem Env0.make(e:Env0 P w K mg base A outer s H)(C:Addr)(us:gr)(kw:List (Str×Value)) :
  Env0 P w K mg base (A.under (.builtin "type.__call__" ⟨.ref C::us,kw⟩)) outer s H:=⟨by first | exact e.frames | (simpa[Around.under,Code.envs,Code.isFrame,pushEnvs] using e.frames),e.mod,e.bs,e.bsz,e.funs,e.frf,e.hok,e.bare⟩
protected theorem Inv.env0(I:Inv X pins σ H s):Env0 X.prog X.w X.K X.mg X.base X.A X.stack s H :=
 ⟨I.ok.frames,I.ok.mod,I.bs,dc I.ok.bsz I.sz,I.stack,I.stkFree,I.hok,I.bare⟩
variable{Q:VK}
theorem Inv.after(I:Inv X pins σ H s)(h:CE X.stack X.prog X.w H s Q u s'):EP X pins σ Q u s':=by
 obtain⟨v,H',os,D,un,J,r,q⟩:=h;obtain⟨S,g,d,t,R⟩:=s';obtain rfl:R=s.os:=os;exact⟨v,H',I.call (h':=S) (g':=g) (d':=d) (t':=t) (ch:=[]) un J D (λb z=>absurd z (by simp)),r,q⟩
def zvv(sp:Sp)(dvs:ik)(E:XK)(t:TA):TE:=λσ H Q=>t σ H λvs H1=>sp (vs++dvs) H1 Q E
def Binds(K:h8)(fd:FuncData)(ps:gj)(ds:gr):Prop :=
 ∀(s:Shared) (us:gr),K.In s.heap->(us++ds).length=ps.length->BindsTo s fd ⟨us,[]⟩ (ps.zip (us++ds))
theorem Binds.all(h:∀us:gr,us.length=ps.length->bindArgs fd ⟨us,[]⟩=pure (ps.zip us)):Binds K fd ps []:=λs us _ D=>by
 rw[de] at D ⊢;exact .of_eq (h us D)
def ztb(CX:CXT)(X:Cx)(E:XK):Prop:=∀(pins:ia) (σ:St) (H:Hp) (s:Shared) (e:Value) (s':Shared),Inv X pins σ H s->CX X.stack H s E e s'->X.xe e s'
variable{E:XK}{dvs:ik}{ds:gr}
theorem z2g(F:FnOk X.prog X.w X.K X.mg X.base CX k f fd ps sp)(R:Room k X.A)(S:Binds X.K fd ps ds)(U:Vals dvs ds)(V:ztb CX X E)(I:Inv X pins σ H s)(r:Vals vs us)(h:sp (vs++dvs) H Q E):wpAny (model X.prog X.w) X.A (call (.ref f) us) (EP X pins σ Q) X.xe s:=by
 have J:Vals (vs++dvs) (us++ds):=r.append U;have Y:(us++ds).length=ps.length:=by rw[<-J.length];exact F.len _ _ _ _ h
 refine wpAny_call (codeAny_mono (F.run X.A X.stack s H ⟨us,[]⟩ (us++ds) (vs++dvs) Q E R I.env0 (S s us I.kIn Y) J h) λr s' D=>?_);cases r with
 | error e=>exact V pins σ H s e s' I D
 | ok fl =>
   cases fl with
   | ret u=>exact I.after D
   | next=>exact False.elim D
   | brk=>exact False.elim D
   | cont=>exact False.elim D
theorem zpc(F:FnOk X.prog X.w X.K X.mg X.base CX k f fd ps sp)(R:Room k X.A)(S:Gl X x)(U:X.mg x=some (.ref f))(V:PySem.W.keepIn X.K (.ref f)=true)(Y:Binds X.K fd ps ds)(Z:Vals dvs ds)(a:ztb CX X E)(b:PA X (e::es) t)(D:(x==("__debug__" : Str))=false:=by decide)(c:starEach (e::es) X.env=(false,eval e X.env)::starEach es X.env:=by rfl)(J:(backTo pos (starEach es X.env)).any (·.1)=false:=by rfl) :
  PE X (.Call (.Name x p) (e::es) [] pos) (zvv sp dvs E t):=by
 intro pins s σ H Q I h;refine wpAny_Call_Name_kw (u4 I S U ?_ D);refine i6 (h₀:=X.base) I.ok.mod.kin V (thn (b pos pins s σ H _ I h) λus s1 ⟨vs,H1,I1,r,q⟩=>⟨I1.kIn,?_⟩) c J;exact z2g F R Y Z a I1 r q
structure Mk (K:h8) (C f:Addr):Prop where
 makes:PySem.W.makesIn K C=true
 init:PySem.W.findIn K (.ref C) "__init__" = some (some (.ref f))
 fn:PySem.W.isFn K (.ref f)=true
 kp:PySem.W.keepIn K (.ref C)=true
def PK(X:Cx)(kws:List Keyword)(t:TA):Prop :=
 ∀(pos:Pos) (pins:ia) (s:Shared) (σ:St) (H:Hp) (Q:ik->Hp->Prop),Inv X pins σ H s->t σ H Q->wpAny (model X.prog X.w) X.A (evalAll ((backToKw pos (keywordEach kws X.env)).map (·.2))) (AP X pins σ Q) X.xe s
section
variable {X:Cx} {CX:CXT} {k:Nat} {f C:Addr} {fd:FuncData} {ps ks:gj} {sp:Sp} {E:XK} {x m:Str} {p pos apos kpos:Pos} {e o:Expr} {es:g9} {kws:List Keyword} {te ta:TE} {t tk:TA} {nm:h6}
theorem z2h:PK X [] tNil:=λ_ _ _ _ H Q I h=>wpAny_evalAll_nil ⟨[],H,I,.nil,h⟩
theorem zzh(D:PE X e te)(J:PK X kws t):PK X (⟨nm,e,kpos⟩::kws) (z2e te t):=by
 intro pos pins s σ H Q I h;show wpAny _ _ (evalAll ((do let v <-eval e X.env;standAt pos;pure v)::(backToKw pos (keywordEach kws X.env)).map (·.2))) _ _ s;refine wpAny_evalAll_cons (wpAny_bind (thn (D pins s σ H _ I h) λu s1 ⟨x,H1,I1,r1,q1⟩=>wpAny_bind (wpAny_standAt (wpAny_pure ?_))));exact thn (J pos pins s1 σ H1 _ I1 q1) λus s2 ⟨xs,H2,I2,r2,q2⟩=>⟨x::xs,H2,I2,.cons r1 r2,q2⟩
structure z6f (K:h8) (fd:FuncData) (ps ks:gj) (g:gr->gr->gr) (gV:ik->ik->ik):Prop where
 to:∀(s:Shared) (us ws:gr),K.In s.heap->(g us ws).length=ps.length->BindsTo s fd ⟨us,ks.zip ws⟩ (ps.zip (g us ws))
 rel:∀ {vs:ik} {us:gr} {zs:ik} {ws:gr},Vals vs us->Vals zs ws->Vals (gV vs zs) (g us ws)
variable {g:gr->gr->gr} {gV:ik->ik->ik}
end
structure o5 (N P:gj) (sc:Scope):Prop where
 kind:sc.kind=.function
 co:sc.isCoroutine=false
 gen:sc.isGenerator=false
 nd:N.Nodup
 pre:N.take P.length=P
 par:∀x∈P,sc.names.lookup x=some .local\/sc.names.lookup x=some .cell
 nofree:∀y∈sc.names,y.2≠.free
theorem znz{kindOf:Str->Option NameKind}{x:Str}:∀ {D:List (Str×Value)} {m:Str->gs},(∀v,(x,v)∉D)->bindL kindOf D m x=m x
 | [],_,_=>rfl
 | (n,v)::r,m,h=>by
   unfold bindL;rw[znz λw I=>h w (av _ I)];split
   ·have:x≠n:=by rintro rfl;exact h v bj
    simp[this]
   ·rfl
theorem zn0{kindOf:Str->Option NameKind}{x:Str}:∀ {D:List (Str×Value)} {m:Str->gs},(∀v,(x,v)∉D)->bindC kindOf D m x=m x
 | [],_,_=>rfl
 | (n,v)::r,m,h=>by
   unfold bindC;rw[zn0 λw I=>h w (av _ I)];split
   ·rfl
   ·have:x≠n:=by rintro rfl;exact h v bj
    simp[this]
theorem zn1{kindOf:Str->Option NameKind}{x:Str}{v:Value}:∀ {P:gj} {vs:gr} {i:Nat} {m:Str->gs},P.Nodup->P[i]?=some x->vs[i]?=some v->kindOf x=some .local ->
  bindL kindOf (P.zip vs) m x=some v
 | [],_,_,_,_,h,_,_=>by simp at h
 | _::_,[],_,_,_,_,h,_=>by simp at h
 | p::P,w::vs,0,m,nd,h1,h2,hk=>by
   simp at h1 h2;subst h1;subst h2;show bindL kindOf ((p,w)::P.zip vs) m p=_;unfold bindL;rw[znz λv D=>(bq.mp nd).1 (jp D).1,if_pos hk];simp
 | p::P,w::vs,i+1,m,nd,h1,h2,hk=>by
   show bindL kindOf ((p,w)::P.zip vs) m x=_;unfold bindL;exact zn1 (i:=i) (bq.mp nd).2 (by simpa using h1) (by simpa using h2) hk
theorem zn2{kindOf:Str->Option NameKind}{x:Str}{v:Value}:∀ {P:gj} {vs:gr} {i:Nat} {m:Str->gs},P.Nodup->P[i]?=some x->vs[i]?=some v->kindOf x≠some .local ->
  bindC kindOf (P.zip vs) m x=some v
 | [],_,_,_,_,h,_,_=>by simp at h
 | _::_,[],_,_,_,_,h,_=>by simp at h
 | p::P,w::vs,0,m,nd,h1,h2,hk=>by
   simp at h1 h2;subst h1;subst h2;show bindC kindOf ((p,w)::P.zip vs) m p=_;unfold bindC;rw[zn0 λv D=>(bq.mp nd).1 (jp D).1,if_neg hk];simp
 | p::P,w::vs,i+1,m,nd,h1,h2,hk=>by
   show bindC kindOf ((p,w)::P.zip vs) m x=_;unfold bindC;exact zn2 (i:=i) (bq.mp nd).2 (by simpa using h1) (by simpa using h2) hk
def start(N:gj)(vs:ik):St:=vs.map some++List.replicate (N.length-vs.length) none
def cxOf(CX:CXT)(P:Program)(w:World)(K:h8)(mg:Str->gs)(base:Heap)(N:gj)(qual:Str)(scope:Scope)(f:Addr)(I:Value)(A:Around)(outer:g8)(s:Shared)(H:Hp)(E:XK):Cx where
 prog:=P
 w:=w
 K:=K
 mg:=mg
 base:=base
 A:=A.deeper (envOfC qual scope s.heap.objs.size f I)
 N:=N
 s₀:=s
 H₀:=H
 env:=envOfC qual scope s.heap.objs.size f I
 outer:=outer
 stack:=envOfC qual scope s.heap.objs.size f I::outer
 ex:=[]
 calm:=true
 fn:=λ_=>true
 pn:=[]
 xe:=λe s'=>wpAny (model P w) (A.deeper (envOfC qual scope s.heap.objs.size f I)) (leaving (envOfC qual scope s.heap.objs.size f I) e) (λ_ D=>CX outer H s E e D) (λe' D=>CX outer H s E e' D) s'
theorem zqi{sc:Scope}(h:sc.names.lookup x=some .cell):∃c,(cellsFrom n sc.names []).lookup x=some c:=by
 have q:=kt sc.names n [] (.inl h);exact ke.mp q
variable{qual:Str}{scope:Scope}
theorem zn3{U:Value}{V:Shared}(S:o5 N ps scope)(d:A.handled=none)(D:Env0 P w K mg base A outer s H)(m:vs.length=ps.length)(r:Vals vs us)(x:InCallC s s.heap.objs.size (bindL (envOfC qual scope s.heap.objs.size f U).kindOf (ps.zip us) λ_=>none) (cellsFrom (s.heap.objs.size+1) scope.names []) (bindC (envOfC qual scope s.heap.objs.size f U).kindOf (ps.zip us) λ_=>none) V) :
  Inv (cxOf CX P w K mg base N qual scope f U A outer s H E) [] (start N vs) H V:=by
 have g:ps.length<=N.length:=by have:=congrArg List.length S.pre;rw[dq] at this;lia
 obtain⟨h1,tk,rfl,Y⟩:=x.done;have I:∀b:Addr,b∉(cxOf CX P w K mg base N qual scope f U A outer s H E).ex:=λb z=>absurd (show b∈([]:gu) from z) (by simp);refine⟨⟨D.mod,S.kind,rfl,rfl,b6 _,λy z c h1 h2=>?_,λy hy=>?_,λy c _ h=>?_,λ_=>d,Around.frames_deeper D.frames,.inr ⟨rfl,rfl⟩,λb z=>absurd z (I b),D.bs,D.bsz,λb _ _=>I b,λb z=>absurd z (I b),D.funs,D.frf⟩,
  rfl,D.bare,Un.kept Y,⟨_,x.toInCall.ns,λi y v h1 h2 o=>?_⟩,λy c h=>⟨_,x.cell y c h⟩,D.hok.fresh (b6 _),λy c h=>?_,λp J=>absurd (show p∈([]:ia) from J) (by simp),D.hok.kept Y,?_⟩
 ·exact name_of_addr x.apart (d7 h1) (d7 h2)
 ·have hy:scope.names.lookup y=some .cell\/scope.names.lookup y=some .free:=hy
  rcases hy with hy | hy
  ·exact zqi hy
  ·exact absurd rfl (S.nofree _ (d7 hy))
 ·exact nj (x.above y c (d7 h))
 ·have hi:i<vs.length:=by
   unfold start at h2;by_cases hi:i<vs.length
   ·exact hi
   ·rw[dg (by simpa using hi)] at h2
    rw[zy] at h2;split at h2 <;> cases h2
  have j:vs[i]?=some v:=by
   unfold start at h2;rw[au (by simpa using hi),bz] at h2;cases e:vs[i]? with
   | none=>rw[e] at h2;cases h2
   | some a=>rw[e] at h2;cases h2;rfl
  obtain⟨u,Z,l⟩:=r.get j;have J:ps[i]?=some y:=by
   rw[<-S.pre,List.getElem?_take_of_lt (by lia)];exact h1
  have R:ps.Nodup:=by rw[<-S.pre];exact S.nd.sublist (List.take_sublist _ _)
  refine⟨u,l,?_⟩;rcases S.par y (ay J) with k | k
  ·exact .inl ⟨k,zn1 R J Z k⟩
  ·obtain⟨c,e⟩:=zqi (n:=s.heap.objs.size+1) k
   refine .inr ⟨.inl k,c,e,?_⟩;have q:=x.cell y c e;rw[zn2 R J Z (by show scope.names.lookup y≠_;rw[k];decide)] at q;exact q
 ·exact D.hok.fresh (nj (x.above y c (d7 h)))
 ·unfold start
  show _=N.length;rw[am,ae,d8]
  lia
theorem z48{D:Arguments}{m kV a p cdv ct oc:Value}{an od:Option Addr}{osl:Array gs}(C:K.lookup f=some ⟨oc,od,.func (PySem.W.fnOf name qual D body scope m kV a p an cdv ct),osl⟩)(h:PySem.W.codeIn K cdv qual=true)(S:o5 N ps scope)(len:∀vs H Q E,sp vs H Q E->vs.length=ps.length)(U:∀(A:Around) (outer:g8) (s:Shared) (H:Hp) (vs:ik) (Q:VK) (E:XK),Room k (A.deeper (envOfC qual scope s.heap.objs.size f cdv))->sp vs H Q E ->
   ∃t,PSs (cxOf CX P w K mg base N qual scope f cdv A outer s H E) body t/\t { nx:=λ_ H'=>Q .non H',rt:=Q } (start N vs) H) :
  FnOk P w K mg base CX (k+1) f (PySem.W.fnOf name qual D body scope m kV a p an cdv ct) ps sp:=by
 refine⟨len,λA outer s H args us vs Q E i c F r d=>?_⟩;have G:=len _ _ _ _ d;have z:K.In s.heap:=c.mod.kin.keeps λb o e=>(c.bs b o e).1;have j:s.heap.NoLimit:=c.mod.nolimit.keeps λb o e=>(c.bs b o e).1;have Y:∀y∈ps.zip us,scope.names.lookup y.1=some .local\/(scope.names.lookup y.1=some .cell/\((cellsFrom (s.heap.objs.size+1) scope.names []).lookup y.1).isSome=true):=λ⟨n,v⟩ hy=>by
  rcases S.par n (jp hy).1 with q | q
  ·exact .inl q
  ·exact .inr ⟨q,kt _ _ _ (.inl q)⟩
 refine codeAny_call_function i.depth (z _ _ C) rfl S.co S.gen rfl (PySem.W.codeRec_of z h) (F _ _ _ _ ?_);refine wpAny_newFunctionEnv_cells S.kind Y λenv L B x=>?_;subst L;refine⟨j.keeps x.toInCall.keep,codeAny_func ?_⟩;obtain⟨t,M,O⟩:=U A outer s H vs Q E (i.deeper _) d;have I:Inv (cxOf CX P w K mg base N qual scope f cdv A outer s H E) [] (start N vs) H B:=zn3 S i.hd c G r x;refine wpAny_mono (M [] B (start N vs) H _ I O) (λfl s' Z=>?_) λe s' Z=>Z;have g:∀ {R:St} {H':Hp} {v:V} {u:Value},Inv (cxOf CX P w K mg base N qual scope f cdv A outer s H E) [] R H' s'->RelV v u->Q v H'->CE outer P w H s Q u s' :=
  λ{R H' v u} J l q=>⟨v,H',J.os,J.bare,J.base,J.hok,l,q⟩
 cases fl with
 | ret u =>
   obtain⟨v,R,H',J,l,q⟩:=Z;exact g J l q
 | next =>
   obtain⟨R,H',J,q⟩:=Z;exact g (v:=V.non) (u:=Value.none) J rfl q
 | brk =>
   obtain⟨_,_,_,q⟩:=Z;exact False.elim q
 | cont =>
   obtain⟨_,_,_,q⟩:=Z;exact False.elim q
def tCB(r:ik->Hp->VK->Prop)(t:TA):TE:=λσ H Q=>t σ H λvs H1=>r vs H1 Q
variable{r:ik->Hp->VK->Prop}{id:String}
theorem xb(R:m7 X (.builtin id) r)(S:Gl X x)(U:X.mg x=none)(V:bootBuiltins x=some (.builtin id))(Y:PA X (e::es) t)(Z:x ≠ "__name__":=by decide)(D:(x==("__debug__" : Str))=false:=by decide)(a:starEach (e::es) X.env=(false,eval e X.env)::starEach es X.env:=by rfl)(J:(backTo pos (starEach es X.env)).any (·.1)=false:=by rfl):PE X (.Call (.Name x p) (e::es) [] pos) (tCB r t):=by
 intro pins s σ H Q I h;refine wpAny_Call_Name_kw (yl I S U V ?_ Z D);exact PyProof.Rows.callWith_builtin1 (thn (Y pos pins s σ H _ I h) λus s1 ⟨vs,H1,I1,r1,q1⟩=>R pins s1 σ H1 vs us Q I1 r1 q1) a J
variable{T:String}
theorem zn4(R:m7 X (.type T) r)(S:Gl X x)(U:X.mg x=none)(V:bootBuiltins x=some (.type T))(Y:PA X (e::es) t)(Z:x ≠ "__name__":=by decide)(D:(x==("__debug__" : Str))=false:=by decide)(a:starEach (e::es) X.env=(false,eval e X.env)::starEach es X.env:=by rfl)(J:(backTo pos (starEach es X.env)).any (·.1)=false:=by rfl):PE X (.Call (.Name x p) (e::es) [] pos) (tCB r t):=by
 intro pins s σ H Q I h;refine wpAny_Call_Name_kw (yl I S U V ?_ Z D);exact sj (thn (Y pos pins s σ H _ I h) λus s1 ⟨vs,H1,I1,r1,q1⟩=>R pins s1 σ H1 vs us Q I1 r1 q1) a J
end L2
namespace HT
open PySem PyProof.Rows
section
open PySem.SeqAt
open PySem.AutoSeq1 (wpAny_loadPart')
open PySem.MeetsSeq PySem.MeetsSeq2 PySem.MeetsSeq3
end
def sIx(n d:Nat):h7->Nat
 | none=>d
 | some v=>if v<0 then(v+(n:Int)).toNat else min v.toNat n
theorem sIx_none(n d:Nat):sIx n d none=d:=rfl
theorem sIx_nat(n d k:Nat):sIx n d (some (k:Int))=min k n:=by
 show(if (k:Int)<0 then((k:Int)+(n:Int)).toNat else min (k:Int).toNat n)=min k n;rw[if_neg (by lia),gg]
end HT
namespace L2
open PySem PySem.Spec PyProof.Rows
abbrev TO:=St->Hp->(h7->Hp->Prop)->Prop
def PO(X:Cx)(e:Option Expr)(t:TO):Prop :=
 ∀(pins:ia) (s:Shared) (σ:St) (H:Hp) (Q:h7->Hp->Prop),Inv X pins σ H s->t σ H Q ->
  wpAny (model X.prog X.w) X.A (evalPart e X.env) (λu s'=>∃o H',Inv X pins σ H' s'/\IsPart u o/\Q o H') X.xe s
def zzi:TO:=λ_ H Q=>Q none H
def z49(t:TE):TO:=λσ H Q=>t σ H λx H1=>∃i,x=.int i/\Q (some i) H1
theorem zr4{D:g7}:∀ {us:gr},Vals (D.map V.int) us->IntsAre us D:=by
 induction D with
 | nil=>intro us r;rw[du] at r;cases r;exact .nil
 | cons n D ih =>
   intro us r;rw[ci] at r;cases r with
   | cons r1 r2 =>
     obtain⟨t,e⟩:=r1;subst e;exact .cons n t (ih r2)
variable{X:Cx}
theorem zzj:PO X none zzi:=by
 intro pins s σ H Q I h;rw[evalPart_none];exact wpAny_pure ⟨none,H,I,.none,h⟩
variable{e:Expr}{te:TE}
theorem zzk(h:PE X e te):PO X (some e) (z49 te):=by
 intro pins s σ H Q I D;rw[evalPart_some];refine thn (h pins s σ H _ I D) λu s1 ⟨x,H1,I1,r1,q1⟩=>?_;obtain⟨i,rfl,q⟩:=q1;obtain⟨t,rfl⟩:=r1;exact⟨some i,H1,I1,.int i t,q⟩
variable{lo hi:Option Expr}
def SlR(X:Cx)(r:V->h7->h7->Hp->VK->Prop):Prop :=
 ∀(pins:ia) (s:Shared) (σ:St) (H:Hp) (x:V) (v D I:Value) (lo hi:h7) (sl:Addr) (Q:VK),Inv X pins σ H s->RelV x v->s.heap.IsSliceOf sl D I .none->IsPart D lo->IsPart I hi->r x lo hi H Q ->
  ∃T id,typeLookup (.type T) "__getitem__" = pure (some (.builtin id))/\s.TypeIs v T/\wpAny (model X.prog X.w) X.A (getItem v (.ref sl)) (EP X pins σ Q) X.xe s
def tSl(r:V->h7->h7->Hp->VK->Prop)(te:TE)(tl th:TO):TE:=λσ H Q=>te σ H λx H1=>tl σ H1 λl H2=>th σ H2 λu D=>r x l u D Q
variable{r:R2}{tl th:TO}{pos p2:Pos}
theorem zvw{r:V->h7->h7->Hp->VK->Prop}(D:SlR X r)(J:PE X e te)(R:PO X lo tl)(S:PO X hi th):PE X (.Subscript e (.Slice lo hi none p2) pos) (tSl r te tl th):=by
 intro pins s σ H Q I h;refine Subscript_ (thn (J pins s σ H _ I h) λv s1 ⟨x,H1,I1,r1,q1⟩=>?_);refine wpAny_Slice (thn (R pins s1 σ H1 _ I1 q1) λvl s2 ⟨l,H2,I2,pl,q2⟩=>thn (S pins s2 σ H2 _ I2 q2) λvu s3 ⟨u,H3,I3,pu,q3⟩=>?_);rw[evalPart_none];refine wpAny_pure ?_;have U:Inv X pins σ H3 { s3 with heap:=s3.heap.push { cls:=.type "slice",data:=.fields #[vl,vu,.none] } }:=I3.kept (t':=s3.toks) λb a q=>ao _ q;obtain⟨T,id,hT,Y,Z⟩:=D pins { s3 with heap:=s3.heap.push { cls:=.type "slice",data:=.fields #[vl,vu,.none] } } σ H3 x v vl vu l u s3.heap.objs.size Q U r1 (Heap.IsSliceOf.new ..) pl pu q3;show wpAny (model X.prog X.w) X.A (subscriptTail e (.Slice lo hi none p2) v (.ref s3.heap.objs.size)) (EP X pins σ Q) X.xe { s3 with heap:=s3.heap.push { cls:=.type "slice",data:=.fields #[vl,vu,.none] } };exact tail_any (ops:=[.ref s3.heap.objs.size,v]) Y hT Z (by with_unfolding_all rfl)
def cutV(xs:ik)(lo hi:h7):ik:=(xs.drop (HT.sIx xs.length 0 lo)).take (HT.sIx xs.length xs.length hi-HT.sIx xs.length 0 lo)
theorem zpd(xs:ik)(lo hi:h7):(cutV xs lo hi).length<=xs.length:=by
 unfold cutV;rw[dq,fg]
 lia
def ixN(n:Nat)(i:Int):Option Nat:=if 0<=i then(if i<n then some i.toNat else none) else if -(n:Int)<=i then some (i+n).toNat else none
variable{α:Type}
def atI(xs:List α)(i:Int):Option α:=(ixN xs.length i).bind λj=>xs[j]?
variable{n j:Nat}{i:Int}
theorem zpe(h:ixN n i=some j):seqIndex? i n=some j/\j<n/\-(n:Int)<=i/\i<n:=by
 unfold ixN at h;by_cases D:0<=i
 ·rw[if_pos D] at h
  by_cases h1:i<n
  ·rw[if_pos h1] at h
   have e:i.toNat=j:=bn h;exact⟨by rw[seqIndex_of D h1,e],by lia,by lia,h1⟩
  ·rw[if_neg h1] at h;cases h
 ·rw[if_neg D] at h
  by_cases h1:-(n:Int)<=i
  ·rw[if_pos h1] at h
   have e:(i+n).toNat=j:=bn h;exact⟨by rw[seqIndex_neg (by lia) h1,e],by lia,h1,by lia⟩
  ·rw[if_neg h1] at h;cases h
theorem zpf{xs:List α}{v:α}(h:atI xs i=some v):∃j,seqIndex? i xs.length=some j/\xs[j]?=some v/\j<xs.length/\-(xs.length:Int)<=i/\i<xs.length:=by
 unfold atI at h;cases e:ixN xs.length i with
 | none=>rw[e] at h;cases h
 | some j =>
   rw[e] at h;obtain⟨h1,h2,D,I⟩:=zpe e;exact⟨j,h1,h,h2,D,I⟩
theorem ztc{xs:List α}{v:α}(h:xs[j]?=some v):atI xs (j:Int)=some v:=by
 have D:j<xs.length:=(ah.mp h).1;have e:ixN xs.length (j:Int)=some j:=by
  unfold ixN;rw[if_pos (by lia),if_pos (by lia)];simp
 unfold atI;rw[e];exact h
theorem zvx(xs:List α)(v:α):atI (xs++[v]) (-1)=some v:=by
 have D:(xs++[v]).length=xs.length+1:=by simp
 have e:ixN (xs++[v]).length (-1)=some xs.length:=by
  unfold ixN;rw[D,if_neg (by decide),if_pos (by lia)];congr 1
  lia
 unfold atI;rw[e];show(xs++[v])[xs.length]?=some v;simp
def uz(b:Expr):Prop:=∀o i,subscripted b false o i=operate [o,i] (getItem o i)
def IxR(X:Cx)(r:R2):Prop :=
 ∀(value D:Expr) (pins:ia) (s:Shared) (σ:St) (H:Hp) (x y:V) (v u:Value) (Q:VK),Inv X pins σ H s->RelV x v->RelV y u->r x y H Q ->
  subscripted D false v u=operate [v,u] (getItem v u)->wpAny (model X.prog X.w) X.A (subscriptTail value D v u) (EP X pins σ Q) X.xe s
def MtR(X:Cx)(id:String)(r:V->ik->Hp->VK->Prop):Prop :=
 ∀(pins:ia) (s:Shared) (σ:St) (H:Hp) (x:V) (xs:ik) (v:Value) (us:gr) (Q:VK),Inv X pins σ H s->RelV x v->Vals xs us->r x xs H Q ->
  wpAny (model X.prog X.w) X.A (call (.builtin id) (v::us)) (EP X pins σ Q) X.xe s
theorem IxR.or{J:R2}(h:IxR X r)(h':IxR X J):IxR X (λx y H Q=>r x y H Q\/J x y H Q):=by
 intro value D pins s σ H x y v u Q I R S q U;rcases q with q | q
 ·exact h value D pins s σ H x y v u Q I R S q U
 ·exact h' value D pins s σ H x y v u Q I R S q U
variable{a b:Expr}{ta tb:TE}
theorem yd(D:IxR X r)(J:PE X a ta)(R:PE X b tb)(S:uz b):PE X (.Subscript a b pos) (tOp r ta tb):=by
 intro pins s σ H Q I h;exact Subscript_ (binT J R I h λv u s2 x y H2 U V Y q=>D a b pins s2 σ H2 x y v u Q U V Y q (S _ _))
def rIxL(K:h8):R2:=λx y H Q=>∃p xs i v,x=.ref p/\y=.int i/\SqL K H p xs/\atI xs i=some v/\Q v H
def rIxT(K:h8):R2:=λx y H Q=>∃p xs i v,x=.ref p/\y=.int i/\SqT K H p xs/\atI xs i=some v/\Q v H
def rIxS:R2:=λx y H Q=>∃z i c,x=.str z/\y=.int i/\z.length<=sizeLine/\atI z.cps.toList i=some c/\Q (.str ⟨#[c]⟩) H
theorem zmj:IxR X (rIxL X.K):=by
 intro value J pins s σ H x y v u Q I Z a h U;obtain⟨p,xs,i,z,rfl,rfl,b,c,q⟩:=h;cases Z;obtain⟨t,rfl⟩:=a;obtain⟨its,r,pl,g⟩:=I.list b;obtain⟨j,h1,h2,k,d,e⟩:=zpf c;obtain⟨w,V,R⟩:=r.get h2;have f:=r.length;have l:=wb;have D:EP X pins σ Q w s:=⟨z,H,I,R,q⟩;by_cases Y:0<=i
 ·have S:i.toNat=j:=by
   rw[seqIndex_of Y e] at h1;exact bn h1
  exact item_listR pl.isList Y (by lia) (by rw[S];simpa using V) D U
 ·have S:(i+(its.toArray.size:Int)).toNat=j:=by
   rw[seqIndex_neg (by lia) d] at h1;rw[bh,<-f];exact bn h1
  exact subscriptTail_builtinR (x:=w) pl.isList.typeIs slot_list_getitem.lookup
   (wpAny_getItem_list_neg (Q:=λr s'=>r=w/\EP X pins σ Q r s') pl.isList (by lia) (by rw[bh] <;> lia) (by lia) (by rw[S];simpa using V) ⟨rfl,D⟩) U
theorem z2i:IxR X (rIxT X.K):=by
 intro value D pins s σ H x y v u Q I S U h V;obtain⟨p,xs,i,z,rfl,rfl,Y,Z,q⟩:=h;cases S;obtain⟨t,rfl⟩:=U;obtain⟨its,r,pl,c⟩:=I.tuple Y;obtain⟨j,h1,h2,d,e,f⟩:=zpf Z;obtain⟨w,a,J⟩:=r.get h2;have b:=r.length;have g:=wb;have R:EP X pins σ Q w s:=⟨z,H,I,J,q⟩;exact subscriptTail_builtinR (x:=w) pl.typeIs slot_tuple_getitem.lookup
  (getItem_tuple (j:=j) (Q:=λr s'=>r=w/\EP X pins σ Q r s') pl (by lia) (by lia) (by rw[bh,<-b];exact h1) (by simpa using a) ⟨rfl,R⟩) V
theorem z2j:IxR X rIxS:=by
 intro value D pins s σ H x y v u Q I J R h S;obtain⟨z,i,c,rfl,rfl,d,U,q⟩:=h;obtain⟨t,rfl⟩:=J;obtain⟨t',rfl⟩:=R;obtain⟨j,h1,h2,e,V,Y⟩:=zpf U;have Z:z.cps.toList.length=z.length:=by simp[Str.length]
 rw[Z] at h1 V Y;have f:=wb;exact tail_any (typeIs_str s z t) slot_str_getitem.lookup (getItem_str (c:=c) (by
  have a:decide (i < -(2 ^ 63:Int))=false:=decide_eq_false (by lia);have b:decide (i >= 2 ^ 63)=false:=decide_eq_false (by lia);rw[a,b,Bool.or_false]) (by rw[h1];simpa using h2) ⟨.str ⟨#[c]⟩,H,I.tok _,⟨_,rfl⟩,q⟩) S
def rIx(K:h8):R2:=λx y H Q=>rIxL K x y H Q\/rIxT K x y H Q\/rIxS x y H Q
theorem zx5:IxR X (rIx X.K):=zmj.or (z2i.or z2j)
theorem zr5(its:gr)(n j:Nat)(u:Value):Obj.mapSeq (·.setIfInBounds j u) { cls:=.type "list",data:=.seq its.toArray n }={ cls:=.type "list",data:=.seq (its.set j u).toArray n }:=by
 simp[Obj.mapSeq]
theorem Inv.lst{pins:ia}{σ:St}{H:Hp}{s:Shared}{p:Addr}{xs:ik}(I:Inv X pins σ H s)(h:H p=some (.lst xs)) :
  ∃(its:gr) (n:Nat),Vals xs its/\s.heap.get? p=some { cls:=.type "list",data:=.seq its.toArray n }/\xs.length<=sizeLine:=by
 obtain⟨z,its,n,r,e⟩:=I.hok p _ h;exact⟨its,n,r,e,z⟩
variable{pins:ia}{σ:St}{H:Hp}{s:Shared}{xs ys:ik}{its its':gr}
theorem Inv.lstUpd{p:Addr}{D:Nat}{f:Obj->Obj}(I:Inv X pins σ H s)(h:H p=some (.lst xs))(R:s.heap.get? p=some { cls:=.type "list",data:=.seq its.toArray n })(J:f { cls:=.type "list",data:=.seq its.toArray n }={ cls:=.type "list",data:=.seq its'.toArray D })(r:Vals ys its')(S:ys.length<=sizeLine)(t:Nat) :
  Inv X pins σ (upd H p (.lst ys)) { s with heap:=s.heap.update p f,toks:=t }:=by
 have e:(s.heap.update p f).get? p=some { cls:=.type "list",data:=.seq its'.toArray D }:=by
  rw[fo f R (by rw[J] <;> rfl),J]
 refine I.write (x:=p) (e:=p) (by rw[h];trivial) (.inl rfl) (λb u U q=>(cf _ _ (Ne.symm U)).trans q) ⟨_,e⟩ ?_;exact⟨S,its',D,r,e⟩
def z2k:V->V->V->Hp->(Hp->Prop)->Prop:=λo i v H Q=>∃p xs k j,o=.ref p/\i=.int k/\H p=some (.lst xs)/\ixN xs.length k=some j/\Q (upd H p (.lst (xs.set j v)))
theorem wz:PSet X z2k:=by
 intro pins s σ H o i v e f u Q I ro a b h;obtain⟨p,xs,k,j,rfl,rfl,S,c,q⟩:=h;cases ro;obtain⟨t,rfl⟩:=a;obtain⟨its,n,r,D,d⟩:=I.lst S;obtain⟨h1,h2,U,V⟩:=zpe c;have J:=r.length;have g:=wb;have Y:Inv X pins σ (upd H p (.lst (xs.set j v))) { s with heap:=s.heap.update p (Obj.mapSeq (·.setIfInBounds j u)) } :=
  I.lstUpd S D (zr5 its n j u) (r.set b j) (by rw[dj];exact d) s.toks
 by_cases Z:0<=k
 ·have R:k.toNat=j:=by
   rw[seqIndex_of Z V] at h1;exact bn h1
  exact PySem.W.ki_setAt D Z (by lia) (by rw[bh,<-J];exact V) (by rw[R];exact⟨_,Y,q⟩)
 ·have R:(k+(its.toArray.size:Int)).toNat=j:=by
   rw[seqIndex_neg (by lia) U] at h1;rw[bh,<-J];exact bn h1
  exact PySem.W.ki_setBack D (by lia) (by rw[bh,<-J];exact U) (by lia) (by rw[R];exact⟨_,Y,q⟩)
theorem zn5(lo hi:h7)(n:Nat):(sliceBounds lo hi none n).1=((HT.sIx n 0 lo:Nat):Int)/\(sliceBounds lo hi none n).2.1=((HT.sIx n n hi:Nat):Int)/\(sliceBounds lo hi none n).2.2=1:=by
 refine⟨?_,?_,rfl⟩
 ·cases lo with
  | none=>simp[sliceBounds,HT.sIx]
  | some i =>
    simp only[sliceBounds,HT.sIx,Option.getD_none,show(1:Int) > 0 by decide,if_true];by_cases h:i<0
    ·simp only[h,if_true] <;> lia
    ·simp only[h,if_false] <;> lia
 ·cases hi with
  | none=>simp[sliceBounds,HT.sIx]
  | some i =>
    simp only[sliceBounds,HT.sIx,Option.getD_none,show(1:Int) > 0 by decide,if_true];by_cases h:i<0
    ·simp only[h,if_true] <;> lia
    ·simp only[h,if_false] <;> lia
theorem zmk(its:gr)(lo hi:h7):slicePick its.toArray lo hi none=((its.drop (HT.sIx its.length 0 lo)).take (HT.sIx its.length its.length hi-HT.sIx its.length 0 lo)).toArray:=by
 obtain⟨h1,h2,D⟩:=zn5 lo hi its.toArray.size;unfold slicePick;rw[h1,h2,D];simp only[sliceRange_one,pick_run,bh] <;> rfl
def rSlL(K:h8):V->h7->h7->Hp->VK->Prop:=λx lo hi H Q=>∃a xs,x=.ref a/\SqL K H a xs/\∀p,H p=none->Q (.ref p) (upd H p (.lst (cutV xs lo hi)))
theorem zzl:SlR X (rSlL X.K):=by
 intro pins s σ H x v Z c lo hi sl Q I R S pl U h;obtain⟨a,xs,rfl,V,q⟩:=h;cases R;obtain⟨its,r,J,Y⟩:=I.list V;have D:=r.length;refine⟨"list",_,slot_list_getitem.lookup,J.isList.typeIs,?_⟩;refine wpAny_getItem_list_slice J.isList S pl U .none (by simp) ?_ (by rw[bh] <;> lia);rw[zmk,<-D];refine⟨.ref s.heap.objs.size,_,I.laid (t':=s.toks) (o:=.lst (cutV xs lo hi)) (λb d q=>ao _ q) (b6 _) ?_,rfl,q _ (I.hok.fresh (b6 _))⟩;exact⟨dc (zpd xs lo hi) Y,_,0,(r.drop (HT.sIx xs.length 0 lo)).take (HT.sIx xs.length xs.length hi-HT.sIx xs.length 0 lo),cb _ rfl⟩
theorem zhl:m7 X (.builtin "len") (λxs H Q=>∃p ys,xs=[.ref p]/\(SqL X.K H p ys\/SqT X.K H p ys)/\Q (.int ys.length) H):=by
 intro pins s σ H xs us Q I r h;obtain⟨p,ys,rfl,hq,q⟩:=h;obtain⟨u,rfl,R⟩:=uq r;cases R;have U:=wb;rcases hq with hq | hq
 ·obtain⟨its,J,pl,S⟩:=I.list hq
  have D:=J.length;exact Calls.call_len_list pl.isList (by simp only[bh] <;> lia) ⟨.int ys.length,H,I.tok _,⟨s.toks+1,by rw[bh,D]⟩,q⟩
 ·obtain⟨its,J,pl,S⟩:=I.tuple hq
  have D:=J.length;exact len_tuple pl (by simp only[bh] <;> lia) ⟨.int ys.length,H,I.tok _,⟨s.toks+1,by rw[bh,D]⟩,q⟩
theorem zn6:m7 X (.type "list") (λxs H Q=>∃p ys,xs=[.ref p]/\(SqL X.K H p ys\/SqT X.K H p ys)/\∀l,H l=none->Q (.ref l) (upd H l (.lst ys))):=by
 intro pins s σ H xs us Q I r h;obtain⟨p,ys,rfl,hq,q⟩:=h;obtain⟨u,rfl,a⟩:=uq r;cases a;have R:∀(its:gr),Vals ys its->ys.length<=sizeLine->∀(h':Heap) (D:Nat),(∀b o',s.heap.get? b=some o'->h'.get? b=some o') ->
   h'.get? s.heap.objs.size=some { cls:=.type "list",dict:=none,data:=.seq its.toArray D,slots:=#[] }->EP X pins σ Q (.ref s.heap.objs.size) { s with heap:=h' }:=λits J S h' D kp e =>
  ⟨.ref s.heap.objs.size,_,I.laid (t':=s.toks) kp (b6 _) (show ObjOk X.prog X.w _ h' _ (.lst ys) from⟨S,its,D,J,e⟩),rfl,q _ (I.hok.fresh (b6 _))⟩
 rcases hq with hq | hq
 ·obtain⟨its,J,pl,S⟩:=I.list hq
  have U:=J.length;obtain⟨o,V,Y,n,Z⟩:=pl.isList;exact call_list_seq p (.inl rfl) V Y Z (λh' D kp e=>R its J S h' D kp e) (by simp only[bh] <;> lia)
 ·obtain⟨its,J,pl,S⟩:=I.tuple hq
  have U:=J.length;obtain⟨o,V,Y,n,Z⟩:=pl;exact call_list_seq p (.inr rfl) V Y Z (λh' D kp e=>R its J S h' D kp e) (by simp only[bh] <;> lia)
theorem zml:m7 X (.type "tuple") (λxs H Q=>∃p ys,xs=[.ref p]/\((SqL X.K H p ys/\∀l,H l=none->Q (.ref l) (upd H l (.tup ys)))\/(SqT X.K H p ys/\Q (.ref p) H))):=by
 intro pins s σ H xs us Q I r h;obtain⟨p,ys,rfl,h⟩:=h;obtain⟨u,rfl,V⟩:=uq r;cases V;rcases h with⟨D,q⟩ | ⟨D,q⟩
 ·obtain⟨its,J,pl,R⟩:=I.list D
  have S:=J.length;refine call_tuple_list pl.isList (λh' kp=>?_) (by simp only[bh] <;> lia);have U:Inv X pins σ H { s with heap:=h' }:=I.kept (t':=s.toks) kp;have Y:Inv X pins σ (upd H h'.objs.size (.tup ys)) { s with heap:=h'.push { cls:=.type "tuple",data:=.seq its.toArray } } :=
   U.laid (t':=s.toks) (λb o e=>ao _ e) (b6 _) (show ObjOk X.prog X.w _ _ _ (.tup ys) from⟨R,its,J,IsTup.new _ _⟩)
  exact⟨.ref h'.objs.size,_,Y,rfl,q _ (U.hok.fresh (b6 _))⟩
 ·obtain⟨its,J,pl,R⟩:=I.tuple D
  exact call_tuple_same pl ⟨.ref p,H,I,rfl,q⟩
def tyV(K:h8)(T:String)(x:V)(H:Hp):Prop:=match x with
 | .str _=>T = "str"
 | .int _=>T = "int"
 | .ref p=>(T = "list"/\∃xs,SqL K H p xs)\/(T = "tuple"/\∃o,K.lookup p=some o/\o.cls=.type "tuple"/\o.dict=none) \/
    (T = "dict"/\((∃D,H p=some (.dK D))\/∃D,H p=some (.dT D)))\/(T = "set"/\∃S n,H p=some (.set S n))
 | _=>False
variable{T:String}
theorem zx6{x:V}{v:Value}(I:Inv X pins σ H s)(r:RelV x v)(J:tyV X.K T x H) :
  s.TypeIs v T/\∀a,v=.ref a->∃Z,s.heap.get? a=some Z/\Z.dict=none:=by
 cases x with
 | str z =>
   obtain⟨t,rfl⟩:=r;cases (show T = "str" from J);exact⟨typeIs_str s z t,λ_ e=>nomatch e⟩
 | int i =>
   obtain⟨t,rfl⟩:=r;cases (show T = "int" from J);exact⟨typeIs_int s i t,λ_ e=>nomatch e⟩
 | ref p =>
   cases r;rcases J with⟨rfl,xs,b⟩ | ⟨rfl,o,D,hc,R⟩ | ⟨rfl,D⟩ | ⟨rfl,S,n,D⟩
   ·obtain⟨its,_,pl,_⟩:=I.list b
    refine⟨pl.isList.typeIs,λa e=>?_⟩;cases e;obtain⟨o,n,e,c,R,_⟩:=pl;exact⟨o,e,R⟩
   ·refine⟨⟨o,I.kIn p o D,hc⟩,λa e=>?_⟩
    cases e;exact⟨o,I.kIn _ o D,R⟩
   ·have z:∃o,s.heap.get? p=some o/\o.ExactDict:=by
     rcases D with⟨U,D⟩ | ⟨U,D⟩
     ·obtain⟨_,_,_,_,o,_,_,e,ex,_⟩:=I.hok p _ D
      exact⟨o,e,ex⟩
     ·obtain⟨_,_,_,_,o,_,_,e,ex,_⟩:=I.hok p _ D
      exact⟨o,e,ex⟩
    obtain⟨o,e,ex⟩:=z;refine⟨⟨o,e,ex.1⟩,λa Y=>?_⟩;cases Y;exact⟨o,e,ex.2.1⟩
   ·obtain⟨o,_,_,_,e,ex,_⟩:=I.hok p _ D
    refine⟨⟨o,e,ex.1⟩,λa Y=>?_⟩;cases Y;exact⟨o,e,ex.2.1⟩
 | _=>exact False.elim J
def tBM0(K:h8)(T:String)(r:V->ik->Hp->VK->Prop)(to:TE):TE:=λσ H Q=>to σ H λx H1=>tyV K T x H1/\r x [] H1 Q
def tBM(K:h8)(T:String)(r:V->ik->Hp->VK->Prop)(to:TE)(t:TA):TE:=λσ H Q=>to σ H λx H1=>tyV K T x H1/\t σ H1 λxs H2=>r x xs H2 Q
variable{r:V->ik->Hp->VK->Prop}{o:Expr}{to:TE}{name:Str}{apos cpos:Pos}{id:String}
theorem zx7(U:PlainAttrs T)(R:Slot T name id)(S:typeOf (.builtin id)=pure (.type "method_descriptor"))(V:MtR X id r)(Y:PE X o to)(D:attributeBase o name X.env (eval o X.env)=eval o X.env:=by rfl)(J:(apos.endLine==cpos.line)=true:=by rfl):PE X (.Call (.Attribute o name apos) [] [] cpos) (tBM0 X.K T r to):=by
 intro pins s σ H Q I h;refine wpAny_Call_method0_late D J (thn (Y pins s σ H _ I h) λv s1 ⟨x,H1,I1,r1,ty,q1⟩=>?_);obtain⟨h1,h2⟩:=zx6 I1 r1 ty;exact⟨T,id,U,R,S,h1,h2,Calls.callWith_builtin rfl (PySem.evalArgs_none (V pins s1 σ H1 x [] v [] Q I1 r1 .nil q1))⟩
variable{es:g9}{t:TA}
theorem zvy(Y:PlainAttrs T)(S:Slot T name id)(V:typeOf (.builtin id)=pure (.type "method_descriptor"))(Z:MtR X id r)(a:PE X o to)(b:PA X (e::es) t)(J:attributeBase o name X.env (eval o X.env)=eval o X.env:=by rfl)(U:((backTo cpos (starEach (e::es) X.env)).all (λx=>!x.1) && (backToKw cpos (keywordEach [] X.env)).all (λx=>x.1.isSome)
   && decide ((e::es).length+([]:List Keyword).length+(if ([]:List Keyword).isEmpty then 0 else 1)<30))=true:=by rfl)(R:(apos.endLine==cpos.line)=true:=by rfl)(c:starEach (e::es) X.env=(false,eval e X.env)::starEach es X.env:=by rfl)(D:(backTo cpos (starEach es X.env)).any (·.1)=false:=by rfl) :
  PE X (.Call (.Attribute o name apos) (e::es) [] cpos) (tBM X.K T r to t):=by
 intro pins s σ H Q I h;refine wpAny_Call_method_late J U R rfl (thn (a pins s σ H _ I h) λv s1 ⟨x,H1,I1,r1,ty,q1⟩=>?_);obtain⟨h1,h2⟩:=zx6 I1 r1 ty;refine⟨T,id,Y,S,V,h1,h2,?_⟩;have hA:=b cpos pins s1 σ H1 _ I1 q1;rw[c] at hA ⊢;refine Calls.callWith_builtin (by show(false || (backTo cpos (starEach es X.env)).any (·.1))=false;rw[D] <;> rfl) (Calls.evalArgs_plain ?_);exact thn hA λus s2 ⟨vs,H2,I2,r2,q2⟩=>Z pins s2 σ H2 x vs v us Q I2 r1 r2 q2
def MtM(X:Cx)(id:String)(r:V->ik->Hp->VK->Prop):Prop :=
 ∀(pins:ia) (s:Shared) (σ:St) (H:Hp) (x:V) (xs:ik) (v:Value) (us:gr) (Q:VK),Inv X pins σ H s->RelV x v->Vals xs us->r x xs H Q ->
  wpAny (model X.prog X.w) X.A (call (.builtin id) (v::us)) (EP X pins σ Q) X.xe s
theorem Vals.one:∀ {x:V} {us:gr},Vals [x] us->∃u,us=[u]/\RelV x u
 | _,_,.cons r .nil=>⟨_,rfl,r⟩
theorem Vals.two:∀ {x y:V} {us:gr},Vals [x,y] us->∃u v,us=[u,v]/\RelV x u/\RelV y v
 | _,_,_,.cons r (.cons q .nil)=>⟨_,_,rfl,r,q⟩
theorem Vals.zero:∀ {us:gr},Vals [] us->us=[]
 | _,.nil=>rfl
theorem Vals.dropLast{us:gr}(h:Vals xs us):Vals xs.dropLast us.dropLast:=by
 induction h with
 | nil=>exact .nil
 | cons r t ih =>
   cases t with
   | nil=>exact .nil
   | cons q t'=>exact .cons r ih
theorem Vals.rep{xs:ik}{us:gr}(h:Vals xs us):∀k:Nat,Vals (List.replicate k xs).flatten (List.replicate k us).flatten
 | 0=>.nil
 | k+1=>by
   rw[fx,fx,cr,cr];exact Vals.append h (Vals.rep h k)
theorem zr6(l:List α):l.eraseIdx (l.length-1)=l.dropLast:=by
 induction l with
 | nil=>rfl
 | cons a r ih =>
   cases r with
   | nil=>rfl
   | cons b r =>
     have e:(a::b::r).length-1=((b::r).length-1)+1:=by
      have h1:(a::b::r).length=r.length+2:=rfl;have h2:(b::r).length=r.length+1:=rfl
      lia
     rw[e,List.eraseIdx_cons_succ,ih];all_goals rfl
theorem zn7(its:gr):∀(k:Nat) (D:gr),
  List.foldl (λI J=>I++J) D.toArray (List.replicate k its.toArray)=(D++(List.replicate k its).flatten).toArray
 | 0,D=>by simp
 | k+1,D=>by
   have e:D.toArray++its.toArray=(D++its).toArray:=by simp
   have R:(D++its)++(List.replicate k its).flatten=D++(List.replicate (k+1) its).flatten:=by
    rw[fx,cr,dh]
   rw[<-R,<-zn7 its k (D++its),<-e,fx,List.foldl_cons]
variable{t':Nat}{l:Addr}
theorem Inv.lset{f:ic->ic}(I:Inv X pins σ H s)(D:H l=some (.lst xs))(e:s.heap.get? l=some { cls:=.type "list",data:=.seq its.toArray n })(J:f its.toArray=its'.toArray)(R:Vals ys its')(S:ys.length<=sizeLine) :
  Inv X pins σ (upd H l (.lst ys)) { s with heap:=s.heap.update l (Obj.mapSeq f),toks:=t' }:=by
 have q:=PySem.IsL.update e f;rw[J] at q;refine I.write (x:=l) (e:=l) (by rw[D];exact trivial) (.inl rfl) (λY u U V=>(cf s.heap (Obj.mapSeq f) (Ne.symm U)).trans V) ⟨_,q⟩ ?_;exact⟨S,its',_,R,q⟩
theorem Inv.lnew(I:Inv X pins σ H s)(D:Vals ys its)(J:ys.length<=sizeLine) :
  Inv X pins σ (upd H s.heap.objs.size (.lst ys)) { s with heap:=s.heap.push { cls:=.type "list",data:=.seq its.toArray },toks:=t' } :=
 I.laid (λ_ _ q=>ao _ q) (b6 _) ⟨J,its,0,D,cb _ rfl⟩
theorem Inv.fresh(I:Inv X pins σ H s):H s.heap.objs.size=none:=I.hok.fresh (b6 _)
theorem Inv.lstM(I:Inv X pins σ H s)(D:H l=some (.lst xs)):xs.length<=sizeLine/\∃(its:gr) (n:Nat),Vals xs its/\xs.length=its.length/\s.heap.get? l=some { cls:=.type "list",data:=.seq its.toArray n }:=by
 obtain⟨z,its,n,r,e⟩:=I.hok l _ D;exact⟨z,its,n,r,r.length,e⟩
theorem zqj(h:n<=sizeLine):Builtin.List.listTooLong n=false:=by
 unfold Builtin.List.listTooLong;exact decide_eq_false (by lia)
def zzm:V->ik->Hp->VK->Prop:=λx vs H Q=>∃l xs y,x=.ref l/\vs=[y]/\H l=some (.lst xs)/\xs.length<sizeLine/\Q .non (upd H l (.lst (xs++[y])))
theorem zn8:MtM X "list.append" zzm:=by
 intro pins s σ H x vs v us Q I J R h;obtain⟨l,xs,y,rfl,rfl,D,U,q⟩:=h;cases J;obtain⟨u,rfl,S⟩:=R.one;obtain⟨z,its,n,r,V,e⟩:=I.lstM D;refine call_meets F.slot_list_append ⟨_,e,rfl⟩ F.entry_list_append (F.args_list_append_2 _ _) (PySem.list_append l its.toArray n u (by rw[bh];lia)) ⟨e,?_⟩;refine⟨.non,_,I.lset (its':=its++[u]) D e (by simp) (r.append (.cons S .nil)) ?_,rfl,q⟩;rw[am,ib]
 lia
def zzn:V->ik->Hp->VK->Prop:=λx vs H Q=>∃l b xs D,x=.ref l/\vs=[.ref b]/\H l=some (.lst xs)/\H b=some (.lst D)/\xs.length+D.length<=sizeLine/\Q .non (upd H l (.lst (xs++D)))
theorem zte:MtM X "list.extend" zzn:=by
 intro pins s σ H x vs v us Q I U V h;obtain⟨l,b,xs,g,rfl,rfl,S,Y,i,q⟩:=h;cases U;obtain⟨u,rfl,Z⟩:=V.one;cases Z;obtain⟨z,its,n,r,j,e⟩:=I.lstM S;obtain⟨k,D,a,c,d,f⟩:=I.lstM Y;have R:its.toArray.size+D.toArray.size<=sizeLine:=by rw[bh,bh];lia
 have J:¬(!its.toArray.isEmpty && Builtin.List.listTooLong (its.toArray.size+D.toArray.size))=true:=by
  rw[zqj R,Bool.and_false];exact b8
 refine call_meets F.slot_list_extend ⟨_,e,rfl⟩ F.entry_list_extend (F.args_list_extend_2 _ _)
  (AutoSeq1.list_extend_list_list_0 l its.toArray n b D.toArray a J (by rw[bh];lia) (by lia)) ⟨e,f,?_⟩
 refine⟨.non,_,I.lset (its':=its++D) S e (by simp) (r.append c) ?_,rfl,q⟩;rw[am]
 lia
def rPop:V->ik->Hp->VK->Prop:=λx vs H Q=>∃l xs y,x=.ref l/\vs=[]/\H l=some (.lst xs)/\xs[xs.length-1]?=some y/\Q y (upd H l (.lst xs.dropLast))
theorem zx8:MtM X "list.pop" rPop:=by
 intro pins s σ H x vs v us Q I S U h;obtain⟨l,xs,y,rfl,rfl,R,V,q⟩:=h;cases S;have D:=U.zero;subst D;obtain⟨z,its,n,r,Y,e⟩:=I.lstM R;obtain⟨u,Z,a⟩:=r.get V;have J:its.toArray[its.toArray.size-1]?=some u:=by
  show its.toArray[its.length-1]?=some u;rw[<-Array.getElem?_toList,<-Y];exact Z
 refine call_meets F.slot_list_pop ⟨_,e,rfl⟩ F.entry_list_pop (F.args_list_pop_1 _) (MeetsSeq.list_pop_last l its.toArray n u J (by rw[bh];lia)) ⟨e,?_⟩;refine⟨y,_,I.lset (its':=its.dropLast) R e ?_ r.dropLast ?_,a,q⟩
 ·show its.toArray.eraseIdxIfInBounds (its.toArray.size-1)=its.dropLast.toArray
  rw[bh,List.eraseIdxIfInBounds_toArray,zr6]
 ·rw[List.length_dropLast]
  lia
def rRep:R2:=λx y H Q=>∃l k xs,x=.ref l/\y=.int k/\H l=some (.lst xs)/\-(2 ^ 63)<=k/\k<2 ^ 63/\xs.length*k.toNat<=sizeLine /\
 ∀p,H p=none->Q (.ref p) (upd H p (.lst (List.replicate k.toNat xs).flatten))
theorem zzo(xs:List α)(k:Nat):(List.replicate k xs).flatten.length=k*xs.length:=by
 induction k with
 | zero=>simp
 | succ k ih=>rw[fx,cr,am,ih,Nat.succ_mul,Nat.add_comm]
theorem z2l:OpR X (binaryOp .Mult) rRep:=by
 intro pins s σ H x y v u Q I c d h;obtain⟨l,k,xs,rfl,rfl,f,h1,h2,b,q⟩:=h;cases c;obtain⟨t,rfl⟩:=d;obtain⟨z,its,n,r,g,e⟩:=I.lstM f;have J:its.toArray.size*k.toNat<=sizeLine:=by rw[bh,<-g];exact b
 have R:¬its.toArray.size*k.toNat > (2 ^ 63-1) / 8:=by
  have:(sizeLine:Nat)<=(2 ^ 63-1) / 8:=by decide
  lia
 have S:¬(!Builtin.List.listFitsIndex k)=true:=by
  rw[fitsIndex_both h1 h2];exact b8
 have D:¬Builtin.List.listTooLong (its.toArray.size*k.toNat)=true:=by
  rw[zqj J];exact b8
 have V:List.foldl (λY Z=>Y++Z) #[] (List.replicate (if its.toArray.isEmpty=true then 0 else k.toNat) its.toArray)=(List.replicate k.toNat its).flatten.toArray:=by
  have i:∀m:Nat,List.foldl (λY Z=>Y++Z) #[] (List.replicate m its.toArray)=(List.replicate m its).flatten.toArray:=λm=>by
   have:=zn7 its m [];rw[qo] at this;exact this
  rw[i];cases its with
  | nil=>simp
  | cons a r'=>rw[if_neg (by simp)]
 refine wpAny_binaryOp_repeat_ref (T:="list") (U:="int") (by decide) ⟨_,e,rfl⟩ (λs'=>typeIs_int s' k t) noFill_list_mul F.fills_int_mul F.slot_int_rmul repeat_list F.slot_int_index.lookup
  (call_meets F.slot_int_rmul (typeIs_int s k t) F.entry_int_rmul (F.args_int_rmul_2 _ _) (int___rmul___int_list k t l its.toArray n)
    ⟨e,rfl,⟨_,e,rfl⟩,call_meets F.slot_list_mul ⟨_,e,rfl⟩ F.entry_list_mul (F.args_list_mul_2 _ _) (AutoListH.list___mul___list_int_3 l its.toArray n k t S R D) ⟨e,?_⟩⟩)
 rw[V];exact⟨.ref _,_,I.lnew (t':=s.toks) (r.rep k.toNat) (by rw[zzo,Nat.mul_comm];exact b),rfl,q _ I.fresh⟩
end L2
namespace Att
open PySem PySem.W PySem.Calls PyProof.Rows
variable{P:Params}{h:Heap}
theorem zk3:∀(D:g7) (vs:gr),WellAll P h vs (D.map WData.int)->IntsAre vs D:=by
 intro D;induction D with
 | nil =>
   intro vs w;rw[du] at w;cases w;exact .nil
 | cons n D ih =>
   intro vs w;rw[ci] at w;cases w with
   | cons a b =>
     cases a;exact .cons _ _ (ih _ b)
variable{l:OpenLaw}{n:Nat}
theorem ztf(b:l.most=some n){args:List WData}{I:gr}(J:l.row.toRowW.claim.pre args=true)(V:WellAll P h I args) :
  ∃a vs D,I=[Value.ref a]/\args=[WData.list (D.map WData.int)]/\h.get? a=some { cls:=.type "list",data:=.seq vs.toArray }/\IntsAre vs D/\D.length<=n:=by
 have Y:WShape.hasAll [] args [.list .int]=true:=(pre_splitW J).1;have Z:l.pre.holds [] { args:=args }=true:=(pre_splitW J).2;obtain⟨d,r,rfl,h1,h2⟩:=hasAllW_cons Y;obtain rfl:=hasAllW_nil h2;obtain⟨xs,rfl,c⟩:=hasW_list h1;obtain⟨D,rfl⟩:=items_int c;have R:D.length<=n:=by
  unfold OpenLaw.pre at Z;have S:(WTm.not (.lt (.lit (.int (n:Int))) (.len (.arg 0)))).holds [] { args:=[.list (D.map .int)] }=true:=by
   have S:=(holds_andW Z).1;rw[b] at S;exact S
  have U:=condW_of S (w_not (w_lt w_lit (w_len_list (w_arg rfl))));rw[ae] at U;refine Nat.le_of_not_lt λq=>?_;have e:(n:Int)<((D.length:Nat):Int):=by lia
  first
   | (rw[decide_eq_true e] at U;exact absurd U (by decide))
   | (simp at U;lia)
 cases V with
 | cons w1 w2 =>
   cases w2;cases w1 with
   | list ho hall=>exact⟨_,_,D,rfl,rfl,ho,zk3 D _ hall,R⟩
theorem ztg(l:OpenLaw)(args:List WData):l.row.toRowW.claim.post args (.bool true) args=true :=
 postW_of (r:=l.row.toRowW) (X:=(true==true))
  (show WShape.has [] (.bool true) .bool=true by first | rfl | decide | simp[WShape.has,WShape.arms,WShape.armsAll])
  (show(WTm.eq .res (.lit (.bool true))).value [] { args:=args,res:=some (.bool true),after:=args }=some (.bool (true==true)) from w_eq_bool (w_res rfl) w_lit) rfl
theorem attach_call{q:Program}{I:gj}{k:(Str->gs)->Heap->Prop}{m:World->Heap->Prop}{d:DefRec}(u:l.most=some n)(c:d.params.defaults=[])(call:∀(w:World) (s₀ D:Shared) (mg e:Str->gs) (fa:Addr) (o:Obj) (g Z J:Value) (a:Addr) (vs:gr) (b:g7),
   Ground q I [] k w s₀ mg e D.heap->m w D.heap ->
   D.heap.get? fa=some o->o.data=.func (docDef d.name d.params d.body d.scope g Z J)->D.heap.CodeRec Z d.name->mg d.name=some (.ref fa) ->
   D.heap.get? a=some { cls:=.type "list",data:=.seq vs.toArray }->IntsAre vs b->b.length<=n->D.gens=#[] ->
   codeAny (model l.prog w) callerA (.call (.ref fa) ⟨[.ref a],[]⟩) (λr s'=>r=.ok (.ret (.bool true))/\OldK D.heap s'.heap/\s'.os=D.os/\AllBare s'.gens) D) :
  WalkO q I k m l.row.toRowW d [] (λf vs=>PySem.call f vs):=by
 intro w s₀ D mg e G Y fa o g Z J v kV x y h p i z args s as S t A j B;obtain rfl:v=.none:=Dflts.none p c;obtain rfl:kV=.none:=Dflts.noKw p;obtain⟨a,vs,b,rfl,rfl,U,R,V⟩:=ztf u S j;refine enter_call (codeAny_mono (call w s₀ D mg e fa o g Z J a vs b G Y x (fd_plain y) h i U R V z) λr s' C=>?_);obtain⟨rfl,h2,E,F⟩:=C;exact⟨.inl ⟨.bool true,.bool true,[],rfl,λ_=>rfl,.bool true,ztg l _,λ_=>⟨List.Pairwise.nil,λ_ H=>(nomatch H)⟩⟩,h2,E,F⟩
end Att
namespace L2
open PySem PySem.Spec PyProof.Rows
theorem zn9:∀ {vs:gr} {D:g7},IntsAre vs D->Vals (D.map V.int) vs
 | _,_,.nil=>.nil
 | _,_,.cons n t h=>.cons ⟨t,rfl⟩ (zn9 h)
def Only(H:Hp):Prop:=∀b,H b=none\/∃o xs,H b=some (.frz o (.lst xs))
variable{K:h8}{k:Nat}{a:Addr}{x:Str}{vs:gr}
theorem zvz{P:Program}{w:World}{mg A:Str->gs}{CX:CXT}{fa:Addr}{fd:FuncData}{sp:Sp}{D:Shared}{Y:g7}(L:K.In D.heap)(Z:D.heap.Ns mainGlobals mg)(J:D.heap.Ns builtinsNs A)(B:∀x:Str,x ≠ "__name__"->A x=bootBuiltins x)(c:D.heap.NoLimit)(T:D.gens=#[])(y:D.heap.get? a=some { cls:=.type "list",data:=.seq vs.toArray })(hi:IntsAre vs Y)(M:Y.length<=sizeLine)(W:Room k callerA)(F:∀base:Heap,K.In base->base.Ns mainGlobals mg->FnOk P w K mg base CX k fa fd [x] sp)(U:∀(s:Shared) (u:Value),BindsTo s fd ⟨[u],[]⟩ [(x,u)])(C:∀H:Hp,Only H->SqL K H a (Y.map V.int)->sp [.ref a] H (λv _=>v=.bl true) λ_ _ _=>False)(E:∀H e s',CX [] H D (λ_ _ _=>False) e s'->False) :
  codeAny (model P w) callerA (.call (.ref fa) ⟨[.ref a],[]⟩) (λr s'=>r=.ok (.ret (.bool true))/\OldK D.heap s'.heap/\s'.os=D.os/\AllBare s'.gens) D:=by
 have N:=zn9 hi;have f:=hi.length;have S:∀H:Hp,Only H->SqL K H a (Y.map V.int)->HOk P w H D.heap->(∀b,H b≠none->b=a)->(H a≠none->K.lookup a=none) ->
   codeAny (model P w) callerA (.call (.ref fa) ⟨[.ref a],[]⟩) (λr s'=>r=.ok (.ret (.bool true))/\OldK D.heap s'.heap/\s'.os=D.os/\AllBare s'.gens) D:=by
  intro H O X g hA hK;have I:∀ {b:Addr} {o:Obj},D.heap.get? b=some o->H b=none->(hidT D.heap H).get? b=some o:=λe n=>zvk e n;have G:∀ {b:Addr} {o:Obj} {es:Array DictEntry} {i:Nat},D.heap.get? b=some o->o.data=.dict es i->H b=none:=λ{b o es i} e d=>by
   cases q:H b with
   | none=>rfl
   | some u =>
     have e':b=a:=hA b (by rw[q];simp);subst e';rw[y] at e;cases e;have d':Data.seq vs.toArray _=Data.dict es i:=d;cases d'
  have R:∀ {b:Addr} {m:Str->gs},D.heap.Ns b m->(hidT D.heap H).Ns b m:=λ{b m} ⟨o,es,i,e,d,r⟩=>⟨o,es,i,I e (G e d),d,r⟩;have j:K.In (hidT D.heap H):=λb o e=>I (L b o e) (by
   cases q:H b with
   | none=>rfl
   | some u =>
     have e':b=a:=hA b (by rw[q];simp);subst e';rw[hK (by rw[q];simp)] at e;cases e)
  have hM:Mod K mg (hidT D.heap H):=⟨j,R Z,⟨A,R J,B⟩,let ⟨mc,h1,h2⟩:=c;⟨mc,R h1,h2⟩⟩;have e0:Env0 P w K mg (hidT D.heap H) callerA [] D H:=⟨rfl,hM,λb o e=>zy4 e,Nat.le_of_eq (zsr _ _),trivial,λb J=>absurd (show b∈([]:gu) from J) (by simp),g,.of_eq T⟩;refine codeAny_mono ((F _ j (R Z)).run callerA [] D H ⟨[.ref a],[]⟩ [.ref a] [.ref a] _ _ W e0 (U D (.ref a)) (.cons rfl .nil) (C H O X)) λr s' h=>?_;cases r with
  | error e=>exact(E H e s' h).elim
  | ok fl =>
    cases fl with
    | next=>exact False.elim h
    | brk=>exact False.elim h
    | cont=>exact False.elim h
    | ret u =>
      obtain⟨v,H',os,l,un,p,r',q⟩:=h;have q':v=.bl true:=q;subst q';obtain rfl:u=Value.bool true:=r';refine⟨rfl,OldK.of_keep λb o e=>?_,os,l⟩;cases q:H b with
      | none=>exact un.keep b o e q (by intro z;exact absurd (show b∈([]:gu) from z) (by simp)) (by simp)
      | some u =>
        rcases O b with z | ⟨ob,xs,z⟩
        ·rw[q] at z;cases z
        ·have z2:=un.frzs b ob _ z
         obtain⟨Q,_⟩:=g b _ z;obtain⟨e2,_⟩:=p b _ z2;rw[e] at Q;cases Q;exact e2
 cases hk:K.lookup a with
 | some o =>
   have e:=L a o hk;rw[y] at e;cases e;refine S (λ_=>none) (λ_=>.inl rfl) (.inr ⟨_,vs.toArray,_,hk,rfl,rfl,rfl,by rw[bh,f];exact M,by simpa using N⟩) (λb u z=>by have t:(none:Option HO)=some u:=z;cases t) (λb z=>absurd rfl z) λz=>absurd rfl z
 | none =>
   refine S (λb=>if b=a then some (.frz { cls:=.type "list",data:=.seq vs.toArray } (.lst (Y.map V.int))) else none) (λb=>?_) (.inl (.inr ⟨{ cls:=.type "list",data:=.seq vs.toArray },if_pos rfl⟩)) (λb u z=>?_) (λb z=>?_) λ_=>hk
   ·by_cases J:b=a
    ·exact .inr ⟨_,_,if_pos J⟩
    ·exact .inl (if_neg J)
   ·by_cases J:b=a
    ·have t:=(if_pos J).symm.trans z
     cases t;subst J;exact⟨y,by rw[ae];exact M,vs,_,N,y⟩
    ·have t:=(if_neg J).symm.trans z
     cases t
   ·by_cases J:b=a
    ·exact J
    ·exact absurd (if_neg J) z
variable{l:Addr}{d:D}
theorem zzp{l:PySem.W.OpenLaw}{n:Nat}{q:Program}{I:gj}{t:(Str->gs)->Heap->Prop}{p:World->Heap->Prop}{d:DefRec}{K:Params->h8}{CX:World->CXT}{sp:World->Sp}(y:l.most=some n)(Z:n<=sizeLine)(c:d.params.defaults=[])(z:Room k callerA)(A:∀(w:World) (h:Heap),p w h->(K w.params).In h)(F:∀(w:World) (mg:Str->gs) (fa:Addr) (h:Heap),(K w.params).In h->h.Ns mainGlobals mg->mg d.name=some (.ref fa) ->
   ∃fd:FuncData,(∀(s:Shared) (u:Value),BindsTo s fd ⟨[u],[]⟩ [(x,u)]) /\
    ∀base:Heap,(K w.params).In base->base.Ns mainGlobals mg->FnOk l.prog w (K w.params) mg base (CX w) k fa fd [x] (sp w))(i:∀(w:World) (H:Hp) (a:Addr) (U:g7),U.length<=n->Only H->SqL (K w.params) H a (U.map V.int)->sp w [.ref a] H (λv _=>v=.bl true) λ_ _ _=>False)(j:∀(w:World) (H:Hp) (s:Shared) (e:Value) (s':Shared),CX w [] H s (λ_ _ _=>False) e s'->False) :
  PySem.W.WalkO q I t p l.row.toRowW d [] (λf vs=>PySem.call f vs):=by
 refine Att.attach_call y c λw s₀ R mg P fa o Q X B a vs U G Y ho hd C m S J D E=>?_;have r:=A w _ Y;obtain⟨fd,L,M⟩:=F w mg fa _ r G.T.g m;exact zvz r G.T.g G.T.b G.T.builtins G.T.nolimit E S J (dc D Z) z M L (λH N O=>i w H a U D N O) λH e s'=>j w H R e s'
def rg(s:Stmt):Arguments:=match s with
 | .FunctionDef _ a _ _ _ _ _ _ _ _=>a
 | _=>{ posonlyargs:=[],args:=[],vararg:=none,kwonlyargs:=[],kw_defaults:=[],kwarg:=none,defaults:=[] }
def lg(s:Stmt):List Stmt:=match s with
 | .FunctionDef _ _ b _ _ _ _ _ _ _=>b
 | _=>[]
def f9(s:Stmt):Scope:=match s with
 | .FunctionDef _ _ _ _ _ _ sc _ _ _=>sc
 | _=>{ kind:=.function,names:=[],isGenerator:=false,isCoroutine:=false }
abbrev CX0:CXT:=λ_ _ _ _ _ _=>False
abbrev E0:XK:=λ_ _ _=>False
variable{X:Cx}
theorem zzq:ztb CX0 X E0:=λ_ _ _ _ _ _ _ h=>h.elim
structure Fun (K:h8) (x qual:Str) (st:Stmt) (f:Addr) (fd:FuncData):Prop where
 ex:∃(oc:Value) (od:Option Addr) (kV doc pm:Value) (an:Option Addr) (cdv ct:Value) (osl:Array gs),
  fd=PySem.W.fnOf x qual (rg st) (lg st) (f9 st) .none kV doc pm an cdv ct/\K.lookup f=some ⟨oc,od,.func fd,osl⟩/\PySem.W.codeIn K cdv qual=true
 kp:PySem.W.keepIn K (.ref f)=true
variable{f:FE}
theorem zth{qual:Str}{st:Stmt}{f:Addr}{oc:Value}{od an:Option Addr}{osl:Array gs}{kV D I cdv ct:Value}(l:K.lookup f=some ⟨oc,od,.func (PySem.W.fnOf x qual (rg st) (lg st) (f9 st) .none kV D I an cdv ct),osl⟩)(c:PySem.W.codeIn K cdv qual=true)(k:PySem.W.keepIn K (.ref f)=true):Fun K x qual st f (PySem.W.fnOf x qual (rg st) (lg st) (f9 st) .none kV D I an cdv ct):=⟨⟨oc,od,kV,D,I,an,cdv,ct,osl,rfl,l,c⟩,k⟩
def Same(H H':Hp):Prop:=∀b o,H b=some o->H' b=some o
theorem Same.refl(H:Hp):Same H H:=λ_ _ h=>h
variable{H H1 H2:Hp}
theorem Same.trans(a:Same H H1)(b:Same H1 H2):Same H H2:=λc o h=>b c o (a c o h)
variable{H':Hp}
theorem Same.free(e:Same H H')(h:H' l=Option.none):H l=Option.none:=by
 cases q:H l with
 | none=>rfl
 | some o =>
   rw[e l o q] at h;cases h
theorem ziz{env:Env}:∀(names:List (Str×NameKind)) (D:List (Str×Addr)),
  (∀y∈names,y.2=.free->∃c,env.cells.lookup y.1=some c)->(∀y c,D.lookup y=some c->env.cells.lookup y=some c) ->
  ∃cl,(forIn names D λ(x:Str×NameKind) (cs:List (Str×Addr))=>if (x.2==NameKind.free)=true then(do let c <-cellOf env x.1;pure (ForInStep.yield ((x.1,c)::cs)):Sem _) else pure (ForInStep.yield cs))=pure cl /\
   (∀y c,cl.lookup y=some c->env.cells.lookup y=some c)/\(∀y c,D.lookup y=some c->∃J,cl.lookup y=some J)/\∀y∈names,y.2=.free->∃c,cl.lookup y.1=some c
 | [],D,_,ha=>⟨D,rfl,ha,λy c e=>⟨c,e⟩,λ_ h=>nomatch h⟩
 | (n,k)::r,D,hn,ha=>by
   by_cases S:k=.free
   ·subst S
    obtain⟨c,V⟩:=hn (n,.free) bj rfl;obtain⟨cl,e,h1,h2,U⟩:=ziz r ((n,c)::D) (λy hy=>hn y (av _ hy)) (λy J e=>by
     rw[cg] at e;cases hq:y==n with
     | true=>rw[hq] at e;cases e;rw[eq_of_beq hq];exact V
     | false=>rw[hq] at e;exact ha y J e)
    have I:List.lookup n ((n,c)::D)=some c:=by simp[cg]
    refine⟨cl,?_,h1,λy J e'=>?_,λy hy R=>?_⟩
    ·rw[List.forIn_cons]
     have Y:cellOf env n=pure c:=by unfold cellOf;rw[V]
     simp only[beq_self_eq_true,if_true,Y,pure_bind];exact e
    ·cases hq:y==n with
     | true=>rw[eq_of_beq hq];exact h2 n c I
     | false=>exact h2 y J (by rw[cg,hq];exact e')
    ·rcases b7.mp hy with rfl | hy
     ·exact h2 n c I
     ·exact U y hy R
   ·obtain⟨cl,e,h1,h2,U⟩:=ziz r D (λy hy=>hn y (av _ hy)) ha
    refine⟨cl,?_,h1,h2,λy hy R=>?_⟩
    ·rw[List.forIn_cons]
     have Z:(k==NameKind.free)=false:=by cases k <;> first | rfl | exact absurd rfl S
     simp only[Z,dm,if_false,pure_bind];exact e
    ·rcases b7.mp hy with rfl | hy
     ·exact absurd R S
     ·exact U y hy R
variable{sc:Scope}{env:DE0}
theorem zlz{env:Env}(h:∀y∈sc.names,y.2=.free->∃c,env.cells.lookup y.1=some c) :
  ∃cl,closureFor sc env=pure cl/\(∀y c,cl.lookup y=some c->env.cells.lookup y=some c)/\∀y∈sc.names,y.2=.free->∃c,cl.lookup y.1=some c:=by
 obtain⟨cl,e,h1,_,D⟩:=ziz (env:=env) sc.names [] h (λy c e=>by simp at e);refine⟨cl,?_,h1,D⟩;unfold closureFor;rw[show(pure cl:Sem _)=(pure cl >>= λcs=>pure cs) by rw[pure_bind],<-e]
theorem zdi{env:Env}:∀ {names:List (Str×NameKind)} {x:Str} {k:NameKind},
  (names.map λ(n,k)=>if (k==NameKind.free && env.scope.kind==.function && env.kindOf n==some .cell) then(n,NameKind.cell) else(n,k)).lookup x=some k ->
  names.lookup x=some k\/(names.lookup x=some .free/\k=.cell)
 | (n,k0)::r,x,k,h=>by
   have I:=@zdi env r x k;have h:List.lookup x ((if (k0==NameKind.free && env.scope.kind==.function && env.kindOf n==some .cell)=true then(n,NameKind.cell) else(n,k0))::_)=_:=h;cases hx:x==n with
   | true =>
     by_cases D:(k0==NameKind.free && env.scope.kind==.function && env.kindOf n==some .cell)=true
     ·rw[if_pos D] at h
      simp only[cg,hx] at h ⊢;simp only[ek,beq_iff_eq] at D;cases h;exact .inr ⟨by rw[D.1.1],rfl⟩
     ·rw[if_neg D] at h
      simp only[cg,hx] at h ⊢;exact .inl h
   | false =>
     by_cases D:(k0==NameKind.free && env.scope.kind==.function && env.kindOf n==some .cell)=true
     ·rw[if_pos D] at h
      simp only[cg,hx] at h ⊢;exact I h
     ·rw[if_neg D] at h
      simp only[cg,hx] at h ⊢;exact I h
theorem zcc{env:Env}:∀ {names:List (Str×NameKind)} {x:Str},names.lookup x=some .free ->
  (names.map λ(n,k)=>if (k==NameKind.free && env.scope.kind==.function && env.kindOf n==some .cell) then(n,NameKind.cell) else(n,k)).lookup x=some .cell \/
  (names.map λ(n,k)=>if (k==NameKind.free && env.scope.kind==.function && env.kindOf n==some .cell) then(n,NameKind.cell) else(n,k)).lookup x=some .free
 | (n,k0)::r,x,h=>by
   have I:=@zcc env r x;show List.lookup x ((if (k0==NameKind.free && env.scope.kind==.function && env.kindOf n==some .cell)=true then(n,NameKind.cell) else(n,k0))::_)=_\/List.lookup x ((if (k0==NameKind.free && env.scope.kind==.function && env.kindOf n==some .cell)=true then(n,NameKind.cell) else(n,k0))::_)=_;cases hx:x==n with
   | true =>
     simp only[cg,hx] at h;cases h;by_cases D:(NameKind.free==NameKind.free && env.scope.kind==.function && env.kindOf n==some .cell)=true
     ·rw[if_pos D];simp only[cg,hx];exact .inl trivial
     ·rw[if_neg D];simp only[cg,hx];exact .inr trivial
   | false =>
     simp only[cg,hx] at h;by_cases D:(k0==NameKind.free && env.scope.kind==.function && env.kindOf n==some .cell)=true
     ·rw[if_pos D];simp only[cg,hx];exact I h
     ·rw[if_neg D];simp only[cg,hx];exact I h
def i8(X:Cx)(x:Str)(N':gj)(sc:Scope)(cl:List (Str×Addr))(C:Addr)(s₂:Shared)(H₂:Hp)(fp:gu):Cx :=
 { X with N:=x::N',s₀:=s₂,H₀:=H₂,env:=compEnvC sc cl C X.env,outer:=X.stack,stack:=X.stack,ex:=fp,fn:=λ_=>false,pn:=[],xe:=λ_ _=>False }
def PIfs(X:Cx)(ifs:g9)(tt:TT):Prop :=
 ∀(pins:ia) (s:Shared) (σ:St) (H:Hp) (Q:Bool->Hp->Prop),Inv X pins σ H s->tt σ H Q ->
  wpAny (model X.prog X.w) X.A (forIn ifs true λc r=>if r=true then do let ok <-isTrue c X.env (eval c X.env);pure (ForInStep.yield ok) else pure (ForInStep.yield r)) (TP X pins σ Q) X.xe s
def tYes:TT:=λ_ H Q=>Q true H
theorem zv0:PIfs X [] tYes:=λ_ _ _ H _ I h=>wpAny_tests_nil ⟨H,I,h⟩
theorem zv1{c:Expr}{D:TT}(h:PT X c D):PIfs X [c] D:=λpins s σ H Q I q=>wpAny_tests_one (h pins s σ H Q I q)
def vz(wi:TI)(ix:g0)(tt:TT)(te:TE):TE:=λσ H Q=>wi σ H λJ H1=>∃W:Nat->Nat->Hp->ik->Prop,(∃m,W 0 m H1 [])/\∀i m H ys,W i m H ys ->
 (J.stop i H/\ys.length<=sizeLine/\∀D,H D=none->Q (.ref D) (upd H D (.lst ys))) \/
 (J.go i H/\∀x H',J.yld i H x H'->tt (some x::ix.map (λj=>σ.getD j none)) H' λb H2 =>
   if b=true then te (some x::ix.map (λj=>σ.getD j none)) H2 λv R=>ys.length<sizeLine/\∃I,I<m/\W (i+1) I R (ys++[v]) else ∃I,I<m/\W (i+1) I H2 ys)
abbrev lobj(ys:gr):Obj:={ cls:=.type "list",data:=.seq ys.toArray ys.length }
variable{pins:ia}{σ:St}{s2:Shared}{fp:gu}{cl:List (Str×Addr)}{h₁:Heap}{m₁:Str->gs}{ix:g0}{N':gj}
theorem zti{tk:Nat}(n:N'=ix.map λi=>X.N.getD i ("" : Str))(H:sc.kind=.function)(U:∀y∈sc.names,y.2≠.cell)(V:∀y∈sc.names,y.2=.free->X.env.kindOf y.1=some .cell\/X.env.kindOf y.1=some .free)(r:∀y∈N',sc.names.lookup y=some .free)(h1:∀y c,cl.lookup y=some c->X.env.cells.lookup y=some c)(G:∀y∈sc.names,y.2=.free->∃c,cl.lookup y.1=some c)(I:Inv X pins σ H2 s2)(l:∀b∈fp,FpOk X pins H2 b)(s:∀b∈fp,∃o,s2.heap.get? b=some o)(S:∀b o,s2.heap.get? b=some o->h₁.get? b=some o)(t:h₁.Ns (s2.heap.objs.size+1) m₁)(K:h₁.get? s2.heap.objs.size=some (lobj [])) :
  Inv (i8 X x N' sc cl (s2.heap.objs.size+1) s2 H2 fp) [(s2.heap.objs.size,lobj [])] (none::ix.map (λj=>σ.getD j none)) H2 { s2 with heap:=h₁,toks:=tk }:=by
 have A:∀b∈fp,b<s2.heap.objs.size:=λb R=>by obtain⟨o,e⟩:=s b R;exact az e
 have Z:∀b,s2.heap.objs.size<=b->b∉frs X.stack:=λb R z=>by
  rcases b7.mp (I.stkSub b z) with e | z
  ·exact absurd (aw I.lt (e ▸ R)) (fj _)
  ·exact I.nofs R z
 refine⟨⟨I.ok.mod,H,I.ok.glob,I.ok.blt,o8 _,λy z c J D=>I.ok.inj y z c (h1 _ _ J) (h1 _ _ D),λy L=>?_,λy c z _=>(by cases z),I.ok.hd,I.ok.frames,.inl rfl,λb R=>⟨?_,λy c e=>?_⟩,I.bs,dc I.ok.bsz I.sz,λb o e R=>?_,λb R z=>?_,I.stack,I.stkFree⟩,
  rfl,I.bare,Un.kept S,⟨m₁,t,λi y v J D W=>?_⟩,λy c e=>?_,I.hok.fresh (o8 _),λy c e=>I.freeC y c (h1 y c e),λp B=>?_,I.hok.kept S,?_⟩
 ·have C:(relabel sc X.env).names.lookup y=some .cell\/(relabel sc X.env).names.lookup y=some .free:=L
  have M:sc.names.lookup y=some .free:=by
   rcases C with q | q
   ·rcases zdi q with q | ⟨q,_⟩
    ·exact absurd rfl (U _ (d7 q))
    ·exact q
   ·rcases zdi q with q | ⟨_,q⟩
    ·exact q
    ·cases q
  exact G (y,.free) (d7 M) rfl
 ·exact bx (gf (A b R))
 ·exact(l b R).2.2.2.2.1 y c (h1 y c e)
 ·rcases(l b R).2.2.2.1 with z | z
  ·exact I.ok.noex b o e z
  ·exact absurd (aw (az e) (dc I.ok.bsz z)) (fj _)
 ·have z:b∈frs X.stack:=z
  rcases b7.mp (I.stkSub b z) with e | z
  ·exact(l b R).2.1 e
  ·exact(l b R).2.2.1 z
 ·cases i with
  | zero=>simp at D
  | succ j =>
    have J:N'[j]?=some y:=by simpa[i8] using J
    have D:(ix.map (λj=>σ.getD j none))[j]?=some (some v):=by simpa using D
    rw[n,bz] at J;rw[bz] at D;cases q:ix[j]? with
    | none=>rw[q] at J;cases J
    | some k =>
      rw[q] at J D;have J:X.N.getD k "" = y:=bn J;have D:σ.getD k none=some v:=bn D;have a:σ[k]?=some (some v):=by
       rw[bu] at D;cases q2:σ[k]? with
       | none=>rw[q2] at D;cases D
       | some z=>rw[q2] at D;rw[show z=some v from D]
      have d:k<X.N.length:=by rw[<-I.len];exact(ah.mp a).1
      have E:X.N[k]?=some y:=by
       rw[bu,bi d] at J;rw[bi d];exact congrArg some J
      have F:y∈N':=by
       rw[n,<-J];exact fy.mpr ⟨k,ay q,rfl⟩
      have Y:=r y F;have f:=V (y,.free) (d7 Y) rfl;have g:Vis X.env.scope y:=by
       rcases f with z | z
       ·exact .inr (.inl z)
       ·exact .inr (.inr z)
      obtain⟨m,hn,O⟩:=I.loc;obtain⟨u,P,Q⟩:=O k y v E a g;refine⟨u,P,.inr ⟨?_,?_⟩⟩
      ·exact zcc Y
      ·rcases Q with⟨z,_⟩ | ⟨_,c,hc,hcv⟩
       ·rcases f with w | w <;> rw[show X.env.kindOf y=_ from w] at z <;> cases z
       ·obtain⟨T,h⟩:=G (y,.free) (d7 Y) rfl
        have:=h1 y T h;rw[hc] at this;cases this;exact⟨c,h,hcv.keeps S⟩
 ·obtain⟨v,q⟩:=I.cell y c (h1 y c e)
  exact⟨v,q.keeps S⟩
 ·have B:p∈[(s2.heap.objs.size,lobj [])]:=B
  rw[cj.mp B];exact⟨K,I.hok.fresh (b6 _),bx (ff _),Z _ (b6 _),λv z=>by cases z⟩
 ·simp[i8,n]
variable{ys:ik}{y:Str}
theorem Vals.snoc{y:V}{u:Value}(h:Vals ys vs)(r:RelV y u):Vals (ys++[y]) (vs++[u]):=Vals.append h (.cons r .nil)
theorem ztj(vs:gr)(u:Value):({ cls:=.type "list",data:=.seq (vs.toArray.push u) (vs.length+1) }:Obj)=lobj (vs++[u]):=LCg.lst_snoc vs u
theorem zqk{d:St}{U:Shared}{h':Heap}(I:Inv X pins σ H2 s2)(j:∀b∈fp,FpOk X pins H2 b)(k:∀b∈fp,∃o,s2.heap.get? b=some o)(J:Inv (i8 X x N' sc cl (s2.heap.objs.size+1) s2 H2 fp) [(s2.heap.objs.size,lobj vs)] d H' U)(l:Vals ys vs)(m:ys.length<=sizeLine)(Z:Heap.SameBut (s2.heap.objs.size+1) U.heap h') :
  Inv X pins σ (upd H' s2.heap.objs.size (.lst ys)) { U with heap:=h' }:=by
 have h:=J.pin (s2.heap.objs.size,lobj vs) (bw _ bj);have V:H' s2.heap.objs.size=none:=h.2.1;have Y:H' (s2.heap.objs.size+1)=none:=J.free;have R:Un (frs X.stack) fp H2 H' s2.heap U.heap:=J.base;have a:∀b o,s2.heap.get? b=some o->b≠s2.heap.objs.size/\b≠s2.heap.objs.size+1:=λb o e=>by
  have:=az e;exact⟨bx this,bx (gf this)⟩
 have p:∀b,s2.heap.objs.size<=b->H2 b=none:=λb D=>I.hok.fresh D;have f:∀b o,H2 b=some o->b≠s2.heap.objs.size:=λb o e z=>by rw[z,p _ (b6 _)] at e;cases e
 have r:Un (frs X.stack) fp H2 (upd H' s2.heap.objs.size (.lst ys)) s2.heap h':=by
  refine⟨λb o e n D S=>(Z.2 b (a b o e).2).trans (R.keep b o e n D S),λb o e n D S=>?_,λb o e n S=>?_,λb o e S=>?_,λb xs e=>?_,λb o u e=>?_,λb ps e=>?_⟩
  ·obtain⟨sl,q⟩:=R.slot b o e n D S
   exact⟨sl,(Z.2 b (a b o e).2).trans q⟩
  ·rw[gm (a b o e).1];exact R.free b o e n S
  ·obtain⟨o',q⟩:=R.there b o e S
   exact⟨o',(Z.2 b (a b o e).2).trans q⟩
  ·rw[gm (f b _ e)];exact R.tups b xs e
  ·rw[gm (f b _ e)];exact R.frzs b o u e
  ·rw[gm (f b _ e)];exact R.tbls b ps e
 have i:∀b u,b≠s2.heap.objs.size+1->U.heap.get? b=some u->h'.get? b=some u:=λb u D q=>(Z.2 b D).trans q;have g:HOk X.prog X.w (upd H' s2.heap.objs.size (.lst ys)) h':=λb u e=>by
  by_cases D:b=s2.heap.objs.size
  ·subst D
   rw[j8] at e;cases e;exact⟨m,vs,vs.length,l,i _ _ (bx (ff _)) h.1⟩
  ·rw[gm D] at e
   have s:b≠s2.heap.objs.size+1:=λz=>by rw[z,Y] at e;cases e
   refine(J.hok b u e).stay (λc v hc q=>i c v ?_ q) (λc q=>?_) λc xs q=>?_
   ·rcases hc with rfl | hc
    ·exact s
    ·intro z;rw[z,Y] at hc;cases hc
   ·rw[gm (λz=>by rw[z,V] at q;cases q)];exact q
   ·rw[gm (λz=>by rw[z,V] at q;cases q)];exact q
 refine I.call' (s':={ U with heap:=h' }) (ch:=fp) J.os r g J.bare λb D=>?_;obtain⟨_,t,_,y,A,B⟩:=j b D;exact⟨y,t,A,B⟩
variable{Q:Unit->Shared->Prop}{W:Addr->Prop}{Cm:Cx->Prop}{px pos:Pos}{iter elt:Expr}{ifs:g9}{tt:TT}{te:TE}
theorem zoa{it:Addr}{G:Nat->Heap->Prop}{J:It}{Q:VK}{R:Result->Shared->Prop}{m0:Nat}{W:Nat->Nat->Hp->ik->Prop}(hc:∀cl C s₂ H₂ fp pins σ,Inv X pins σ H₂ s₂->(∀b∈fp,FpOk X pins H₂ b)->Cm (i8 X x N' sc cl C s₂ H₂ fp))(a5:∀cl C s₂ H₂ fp,Cm (i8 X x N' sc cl C s₂ H₂ fp)->PIfs (i8 X x N' sc cl C s₂ H₂ fp) ifs tt)(a6:∀cl C s₂ H₂ fp,Cm (i8 X x N' sc cl C s₂ H₂ fp)->PE (i8 X x N' sc cl C s₂ H₂ fp) elt te)(hN:N'=ix.map λi=>X.N.getD i ("" : Str))(a7:(x::N').Nodup)(hk:sc.kind=.function)(hx:sc.names.lookup x=some .local)(L:∀y∈sc.names,y.2≠.cell)(a4:∀y∈sc.names,y.2=.local->sc.names.lookup y.1=some .local)(M:∀y∈sc.names,y.2=.free->X.env.kindOf y.1=some .cell\/X.env.kindOf y.1=some .free)(a8:∀y∈N',sc.names.lookup y=some .free)(h1:∀y c,cl.lookup y=some c->X.env.cells.lookup y=some c)(h3:∀y∈sc.names,y.2=.free->∃c,cl.lookup y.1=some c)(f:Inv X pins σ H2 s2)(T:ur Cm X.prog X.w X.K (.Name x px) J fp it G)(aa:G 0 s2.heap)(s:∀b∈fp,FpOk X pins H2 b)(w0:W 0 m0 H2 [])(turn:∀i m H ys,W i m H ys ->
   (J.stop i H/\ys.length<=sizeLine/\∀D,H D=none->Q (.ref D) (upd H D (.lst ys))) \/
   (J.go i H/\∀x H',J.yld i H x H'->tt (some x::ix.map (λj=>σ.getD j none)) H' λb H2 =>
     if b=true then te (some x::ix.map (λj=>σ.getD j none)) H2 λv H3=>ys.length<sizeLine/\∃g,g<m/\W (i+1) g H3 (ys++[v]) else ∃g,g<m/\W (i+1) g H2 ys))(ab:∀b o,s2.heap.get? b=some o->h₁.get? b=some o)(h:h₁.Ns (s2.heap.objs.size+1) m₁)(ag:h₁.get? s2.heap.objs.size=some (lobj []))(hR:∀P t ys vs k,Inv (i8 X x N' sc cl (s2.heap.objs.size+1) s2 H2 fp) [(s2.heap.objs.size,lobj vs)] k t P->Vals ys vs->ys.length<=sizeLine->(∀D,t D=none->Q (.ref D) (upd t D (.lst ys)))->R (.ok .next) P) :
  codeAny (model X.prog X.w) X.A (.compStart (.ListComp elt [⟨.Name x px,iter,ifs,0⟩] sc pos) 0 (.ref it) (.ref s2.heap.objs.size) (compEnvC sc cl (s2.heap.objs.size+1) X.env)) R { s2 with heap:=h₁,toks:=s2.toks+([]:List (Str×Value)).length }:=by
 have al:∀b∈fp,∃o,s2.heap.get? b=some o:=λb I=>by obtain⟨o,e,_⟩:=T.obj _ _ aa b I;exact⟨o,e⟩
 have O:∀b∈fp,b<s2.heap.objs.size:=λb I=>by obtain⟨o,e⟩:=al b I;exact az e
 have I3:=zti (x:=x) (tk:=s2.toks+([]:List (Str×Value)).length) hN hk L M a8 h1 h3 f s al ab h ag;have an:G 0 h₁:=T.keep _ _ _ aa λb I o e=>ab b o e;generalize U:i8 X x N' sc cl (s2.heap.objs.size+1) s2 H2 fp=X' at I3;have eP:X'.prog=X.prog:=by rw[<-U];rfl
 have eW:X'.w=X.w:=by rw[<-U];rfl
 have eK:X'.K=X.K:=by rw[<-U];rfl
 have eA:X'.A=X.A:=by rw[<-U];rfl
 have B:X'.env=compEnvC sc cl (s2.heap.objs.size+1) X.env:=by rw[<-U];rfl
 have eC:Cm X':=by rw[<-U];exact hc _ _ _ _ _ _ _ f s
 have ap:X'.pn=[]:=by rw[<-U];rfl
 have ar:X'.xe=λ_ _=>False:=by rw[<-U];rfl
 have a0:X'.fs=frs X.stack:=by rw[<-U];rfl
 have a9:X'.ex=fp:=by rw[<-U];rfl
 have eN:X'.N=x::N':=by rw[<-U];rfl
 have eS:X'.s₀=s2:=by rw[<-U];rfl
 have ba:∀b∈fp,b∉frs X.stack:=λb I z=>by
  rcases b7.mp (f.stkSub b z) with e | z
  ·exact(s b I).2.1 e
  ·exact(s b I).2.2.1 z
 have a1:s2.heap.objs.size∉frs X.stack:=λz=>by
  rcases b7.mp (f.stkSub _ z) with e | z
  ·exact absurd (e ▸ f.lt) (fj _)
  ·exact f.nofs (b6 _) z
 have Z:∀ {H':Hp} {vs:gr},(∀b∈fp,H' b=none)->∀b∈fp,FpOk X' [(s2.heap.objs.size,lobj vs)] H' b:=λ{H' vs} hn b I=>by
  refine⟨hn b I,?_,?_,.inl (by rw[a9];exact I),λy c e=>?_,λp l=>?_⟩
  ·rw[B];exact bx (gf (O b I))
  ·rw[a0];exact ba b I
  ·rw[B] at e;exact(s b I).2.2.2.2.1 y c (h1 y c e)
  ·rw[ap] at l
   rw[cj.mp (show p∈[(s2.heap.objs.size,lobj vs)] from l)];exact ku (O b I)
 have E:∀S:Shared,S={ s2 with heap:=h₁,toks:=s2.toks+([]:List (Str×Value)).length } ->
   codeAny (model X.prog X.w) X.A (.compLoop (.ListComp elt [⟨.Name x px,iter,ifs,0⟩] sc pos) 0 (.ref it) (.ref s2.heap.objs.size) (compEnvC sc cl (s2.heap.objs.size+1) X.env))
    (R) S:=by
  rintro S rfl;refine codeAny_compLoop_tests (λn s'=>∃i Y H' ys vs,Inv X' [(s2.heap.objs.size,lobj vs)] (Y::ix.map (λj=>σ.getD j none)) H' s'/\Vals ys vs/\G i s'.heap/\(∀b∈fp,H' b=none)/\W i n H' ys) ?_ m0
   ⟨0,none,H2,[],[],I3,.nil,an,λb I=>(s b I).1,w0⟩
  rintro n s4 ⟨i,Y,t,ys,vs,I4,hv4,st4,fr4,w4⟩;rcases turn i n t ys w4 with⟨a2,hl,qn⟩ | ⟨go,step⟩
  ·have D:=T.done X' eP eW eK eC i _ s4 _ t (notedBy (model X.prog X.w) X.A (compEnvC sc cl (s2.heap.objs.size+1) X.env) λe s'=>R (.error e) s') I4 (Z fr4) st4 a2
   rw[eA] at D;refine thn D λr P ⟨hr,I5⟩=>?_;subst hr;exact hR P t ys vs _ (U ▸ I5) hv4 hl qn
  ·have D:=T.item X' eP eW eK eC i _ s4 _ t (notedBy (model X.prog X.w) X.A (compEnvC sc cl (s2.heap.objs.size+1) X.env) λe s'=>R (.error e) s') I4 (Z fr4) st4 go
   rw[eA] at D;refine thn D λr P ⟨u,hr,h5⟩=>?_;subst hr;have bb:wpAny (model X.prog X.w) X.A (letOwnedTupleGo (.Name x px) (.ref it) u >>= λ_=>assign (.Name x px) (compEnvC sc cl (s2.heap.objs.size+1) X.env) u) (λ_ s₂ =>
     wpAny (model X.prog X.w) X.A (forIn ifs true λc r=>if r=true then do let ok <-isTrue c (compEnvC sc cl (s2.heap.objs.size+1) X.env) (eval c (compEnvC sc cl (s2.heap.objs.size+1) X.env));pure (ForInStep.yield ok) else pure (ForInStep.yield r)) (λok S =>
      if ok=true then wpAny (model X.prog X.w) X.A (eval elt (compEnvC sc cl (s2.heap.objs.size+1) X.env)) (λx a3 =>
       wpAny (model X.prog X.w) X.A (call (.builtin "list.append") [.ref s2.heap.objs.size,x]) (λ_ F=>∃m,m<n/\∃i Y H' ys vs,Inv X' [(s2.heap.objs.size,lobj vs)] (Y::ix.map (λj=>σ.getD j none)) H' F/\Vals ys vs/\G i F.heap/\(∀b∈fp,H' b=none)/\W i m H' ys)
        (notedBy (model X.prog X.w) X.A (compEnvC sc cl (s2.heap.objs.size+1) X.env) λe s'=>R (.error e) s') a3)
       (notedBy (model X.prog X.w) X.A (compEnvC sc cl (s2.heap.objs.size+1) X.env) λe s'=>R (.error e) s') S
      else ∃m,m<n/\∃i Y H' ys vs,Inv X' [(s2.heap.objs.size,lobj vs)] (Y::ix.map (λj=>σ.getD j none)) H' S/\Vals ys vs/\G i S.heap/\(∀b∈fp,H' b=none)/\W i m H' ys)
      (notedBy (model X.prog X.w) X.A (compEnvC sc cl (s2.heap.objs.size+1) X.env) λe s'=>R (.error e) s') s₂)
     (notedBy (model X.prog X.w) X.A (compEnvC sc cl (s2.heap.objs.size+1) X.env) λe s'=>R (.error e) s') P:=by
    refine wpAny_bind (thn h5 λ_ s6 ⟨z,H6,I6,r6,y6,st6,fr6⟩=>?_);have bd:=I6.pinned (Z fr6) (T.obj _ _ st6);have q6:=step z H6 y6;refine wpAny_assign_Name (?_:wpAny _ _ (storeName (compEnvC sc cl (s2.heap.objs.size+1) X.env) x u) _ _ s6);rw[<-B];refine zkp (i:=0) bd (by rw[eN];exact a7) (by rw[eN];rfl) (.inl (by rw[B];exact lookup_relabel_local hx)) r6 (λs7 I7=>?_) (.inr (by rw[B];exact lookup_relabel_local hx));have t7:=(U ▸ a5 cl (s2.heap.objs.size+1) s2 H2 fp (hc _ _ _ _ _ _ _ f s):PIfs X' ifs tt) _ s7 _ H6 _ I7 q6;rw[eP,eW,eA] at t7;refine wpAny_mono t7 (λb s8 ⟨H8,I8,q8⟩=>?_) (λe s' z=>by rw[ar] at z;exact z.elim);have a:∀ {s':Shared} {H':Hp} {k:St},Inv X' ([(s2.heap.objs.size,lobj vs)]++yj fp s6.heap) k H' s'->G (i+1) s'.heap/\∀b∈fp,H' b=none:=λ{s' H' k} J'=>by
     refine⟨T.keep _ _ _ st6 λb I o e=>(J'.pin (b,o) (bw _ (bw _ (zh8 I e)))).1,λb I=>?_⟩;obtain⟨o,e,d⟩:=T.obj _ _ st6 b I;exact(J'.pin (b,o) (bw _ (bw _ (zh8 I e)))).2.1
    cases b with
    | false =>
      rw[if_neg b8] at q8 ⊢;obtain⟨g,hm,w8⟩:=q8;obtain⟨k1,k2⟩:=a I8;exact⟨g,hm,i+1,some z,H8,ys,vs,I8.unpinned,hv4,k1,k2,w8⟩
    | true =>
      rw[if_pos rfl] at q8 ⊢;have t8:=(U ▸ a6 cl (s2.heap.objs.size+1) s2 H2 fp (hc _ _ _ _ _ _ _ f s):PE X' elt te) _ s8 _ H8 _ I8 q8;rw[eP,eW,eA] at t8;refine wpAny_mono t8 (λv s9 ⟨y,H9,I9,r9,hsz,g,hm,w9⟩=>?_) (λe s' z=>by rw[ar] at z;exact z.elim);have pD:=I9.pin (s2.heap.objs.size,lobj vs) (bw _ (dy _ bj));obtain⟨k1,k2⟩:=a I9;have bm:=hv4.length;refine append_at (D:=s2.heap.objs.size) (its:=vs.toArray) (n:=vs.length) pD.1 (λh' sb hD=>?_) (by rw[bh];lia);have be:Inv X' [] (some z::ix.map (λj=>σ.getD j none)) H9 s9:=I9.pins_of λp l=>nomatch l;have cne:∀y c,X'.env.cells.lookup y=some c->c≠s2.heap.objs.size:=λy c e=>by
       rw[B] at e;obtain⟨v',q⟩:=f.cell y c (h1 y c e);exact bx q.lt
      have bk:Inv X' [] (some z::ix.map (λj=>σ.getD j none)) H9 { s9 with heap:=h' }:=be.turned (t':=s9.toks) (it:=s2.heap.objs.size) (λb o I e=>(sb.2 b I).trans e) pD.2.1 (by rw[B];exact bx (ff _)) (.inr (by rw[eS];exact b6 _)) cne (λp l=>by rw[ap] at l;exact nomatch l);have bl:Inv X' [(s2.heap.objs.size,lobj (vs++[v]))] (some z::ix.map (λj=>σ.getD j none)) H9 { s9 with heap:=h' }:=bk.pins_of λp l=>by
       rw[cj.mp l];exact⟨hD.trans (congrArg some (ztj vs v)),pD.2.1,by rw[B];exact bx (ff _),by rw[a0];exact a1,λv' z'=>by cases z'⟩
      exact⟨g,hm,i+1,some z,H9,ys++[y],vs++[v],bl,hv4.snoc r9,T.keep _ _ _ k1 (λb I o e=>(sb.2 b (bx (O b I))).trans e),k2,w9⟩
   exact bb
 exact codeAny_compStart_list (E _ rfl) (T.self X.A 0 _ _ _ an (E _ rfl))
variable{h:Heap}
theorem Heap.SameBut.rf(e:∃o,h.get? a=some o):Heap.SameBut a h h:=by
 first | exact⟨rfl,λ_ _=>rfl⟩ | exact⟨e,λ_ _=>rfl⟩
structure ztk (X:Cx) (x:Str) (N':gj) (ix:g0) (sc:Scope):Prop where
 nm:N'=ix.map λi=>X.N.getD i ("" : Str)
 nd:(x::N').Nodup
 kind:sc.kind=.function
 hx:sc.names.lookup x=some .local
 cell:∀y∈sc.names,y.2≠.cell
 names:∀y∈sc.names,y.2=.local->sc.names.lookup y.1=some .local
 free:∀y∈sc.names,y.2=.free->X.env.kindOf y.1=some .cell\/X.env.kindOf y.1=some .free
 fv:∀y∈N',sc.names.lookup y=some .free
variable{wi:TI}
theorem zpg(c:ztk X x N' ix sc)(p:∀cl C s₂ H₂ fp pins σ,Inv X pins σ H₂ s₂->(∀b∈fp,FpOk X pins H₂ b)->Cm (i8 X x N' sc cl C s₂ H₂ fp))(hi:PIC Cm X (.Name x px) iter wi)(Y:∀cl C s₂ H₂ fp,Cm (i8 X x N' sc cl C s₂ H₂ fp)->PIfs (i8 X x N' sc cl C s₂ H₂ fp) ifs tt)(Z:∀cl C s₂ H₂ fp,Cm (i8 X x N' sc cl C s₂ H₂ fp)->PE (i8 X x N' sc cl C s₂ H₂ fp) elt te)(q:∀v,foldedSetIterable iter X.env v=pure v:=by intro _;rfl) :
  PE X (.ListComp elt [⟨.Name x px,iter,ifs,0⟩] sc pos) (vz wi ix tt te):=by
 intro pins s σ H Q I h;obtain⟨cl,a,h1,r⟩:=zlz (sc:=sc) (env:=X.env) (λy d t=>I.ok.has y.1 (c.free y d t));rw[eval_ListComp];refine wpAny_comprehension_free (use:=none) rfl q a c.kind c.names (thn (hi pins s σ H _ I h) λv L u=>thn u λw s2 h2=>?_);obtain⟨it,fp,M,J,H2,rfl,m,T,S,n,W,⟨N,z⟩,turn⟩:=h2;refine wpAny_newObj_type (wpAny_newFunctionEnv c.cell (by intro y d;simp at d) (λh₁ R D=>?_) c.kind);dsimp only at R D ⊢;have U:(s2.heap.push { cls:=.type "list",dict:=none,data:=.seq ([]:gr).toArray }).objs.size=s2.heap.objs.size+1:=i3 ..;rw[U] at R D ⊢;have f:∀b o,s2.heap.get? b=some o->h₁.get? b=some o:=λb o e=>D.extBut b o (bx (gf (az e))) (ao _ (ao _ e));have V:h₁.get? s2.heap.objs.size=some (lobj []):=D.extBut _ _ (bx (ff _)) (ao _ (cb _ rfl));have g:∀b∈fp,∃o,s2.heap.get? b=some o:=λb A=>by obtain⟨o,e,_⟩:=T.obj _ _ S b A;exact⟨o,e⟩
 refine zoa p Y Z c.nm c.nd c.kind c.hx c.cell c.names c.free c.fv h1 r m T S n z turn f R V λO P ys vs B i j E F=>?_;obtain⟨G,k,_⟩:=i.loc;refine⟨G,k,λh' K=>?_⟩;have l:=(i.pin (s2.heap.objs.size,lobj vs) (bw _ bj)).2.1;exact⟨.ref s2.heap.objs.size,_,zqk m n g i j E K,rfl,F _ l⟩
variable{i:Nat}
theorem zmm{py spos:Pos}(c:ztk X x N' ix sc)(hc:∀cl C s₂ H₂ fp pins σ,Inv X pins σ H₂ s₂->(∀b∈fp,FpOk X pins H₂ b)->Cm (i8 X x N' sc cl C s₂ H₂ fp))(k:X.N.Nodup)(l:X.N[i]?=some y)(n:Loc X.env.scope y)(hi:PIC Cm X (.Name x px) iter wi)(q:∀cl C s₂ H₂ fp,Cm (i8 X x N' sc cl C s₂ H₂ fp)->PIfs (i8 X x N' sc cl C s₂ H₂ fp) ifs tt)(r:∀cl C s₂ H₂ fp,Cm (i8 X x N' sc cl C s₂ H₂ fp)->PE (i8 X x N' sc cl C s₂ H₂ fp) elt te)(t:swapsWith (.ListComp elt [⟨.Name x px,iter,ifs,0⟩] sc pos) (some (.Name y py)) spos.line X.env=pure true)(u:X.fn y=true\/X.env.scope.names.lookup y=some .local:=by first | exact .inl rfl | exact .inr rfl | assumption)(hs:∀v,foldedSetIterable iter X.env v=pure v:=by intro _;rfl) :
  PS X (.Assign [.Name y py] (.ListComp elt [⟨.Name x px,iter,ifs,0⟩] sc pos) spos) (tAsg (vz wi ix tt te) (ml i)):=by
 intro pins s σ H Dn I h;have h:vz wi ix tt te σ H λv H1=>Dn.nx (σ.set i (some v)) H1:=h;obtain⟨cl,w,h1,h3⟩:=zlz (sc:=sc) (env:=X.env) (λy B u=>I.ok.has y.1 (c.free y B u));rw[exec_Assign_Name_used _ _ _ _ t];refine wpAny_bind (wpAny_standAt (wpAny_bind ?_));show wpAny _ X.A (do let _ <-comprehension (.ListComp elt [⟨.Name x px,iter,ifs,0⟩] sc pos) sc X.env _ (newList []) false (eval iter X.env) (some (assign (.Name y py) X.env))) _ _ s;refine wpAny_bind (wpAny_mono (wpAny_comprehension_free (use:=some (assign (.Name y py) X.env)) (Q:=λ_ s'=>SP X pins Dn .next s') rfl hs w c.kind c.names
  (thn (hi pins s σ H _ I h) λv s1 g1=>thn g1 λaa s2 h2=>?_)) (λ_ s' hq=>wpAny_pure (wpAny_pure hq)) λ_ _ e=>e)
 obtain⟨it,fp,tn,J,H2,rfl,V,T,Y,P,W,⟨m0,w0⟩,turn⟩:=h2;refine wpAny_newObj_type (wpAny_newFunctionEnv c.cell (by intro y B;simp at B) (λh₁ R D=>?_) c.kind);dsimp only at R D ⊢;have Z:(s2.heap.push { cls:=.type "list",dict:=none,data:=.seq ([]:gr).toArray }).objs.size=s2.heap.objs.size+1:=i3 ..;rw[Z] at R D ⊢;have E:∀b o,s2.heap.get? b=some o->h₁.get? b=some o:=λb o e=>D.extBut b o (bx (gf (az e))) (ao _ (ao _ e));have d:h₁.get? s2.heap.objs.size=some (lobj []):=D.extBut _ _ (bx (ff _)) (ao _ (cb _ rfl));have F:∀b∈fp,∃o,s2.heap.get? b=some o:=λb G=>by obtain⟨o,e,_⟩:=T.obj _ _ Y b G;exact⟨o,e⟩
 refine zoa (Q:=λv H1=>Dn.nx (σ.set i (some v)) H1) hc q r c.nm c.nd c.kind c.hx c.cell c.names c.free c.fv h1 h3 V T Y P w0 turn E R d λf H4 ys vs ab g K hl qn=>?_;obtain⟨m5,S,_⟩:=g.loc;have S:f.heap.Ns (s2.heap.objs.size+1) m5:=S;have L:=(g.pin (s2.heap.objs.size,lobj vs) (bw _ bj)).2.1;have oC:∃o,f.heap.get? (s2.heap.objs.size+1)=some o:=let ⟨o,_,_,e,_⟩:=S;⟨o,e⟩;have I6:Inv X pins σ (upd H4 s2.heap.objs.size (.lst ys)) { f with heap:=f.heap }:=zqk V P F g K hl (Heap.SameBut.rf oC);show wpAny _ X.A (assign (.Name y py) X.env (.ref s2.heap.objs.size)) _ _ f;have HC:upd H4 s2.heap.objs.size (.lst ys) (s2.heap.objs.size+1)=none:=by rw[gm (ku (ff _))];exact g.free
 have U:∀a o,s2.heap.get? a=some o->s2.heap.objs.size+1≠a:=λa o e=>ku (gf (az e));have oL:∃o,s2.heap.get? X.env.locals=some o:=let ⟨m,hn,_⟩:=V.loc;let ⟨o,_,_,e,_⟩:=hn;⟨o,e⟩;have cL:s2.heap.objs.size+1≠X.env.locals:=let ⟨o,e⟩:=oL;U _ o e;have cC:∀z j,X.env.cells.lookup z=some j->j≠s2.heap.objs.size+1:=λz j e=>by
  obtain⟨v',o,e',_⟩:=V.cell z j e;exact Ne.symm (U _ o e')
 refine wpAny_assign_Name (zkz (v:=.ref s2.heap.objs.size) I6 k l n rfl (λs7 I7 ⟨a,sb,ha⟩=>?_) u);have M:s2.heap.objs.size+1≠a:=by
  rcases ha with rfl | ha
  ·exact cL
  ·exact Ne.symm (cC _ _ ha)
 refine⟨m5,S.sameBut sb M,λh' O=>?_⟩;refine⟨_,_,I7.turned (t':=s7.toks) (it:=s2.heap.objs.size+1) (λb o G e=>(O.2 b G).trans e) HC cL (.inr ?_) cC (λp hp=>?_),qn _ L⟩
 ·exact Nat.le_succ_of_le V.sz
 ·exact Ne.symm (U _ _ (V.pin p hp).1)
def zzr(X:Cx)(xs N':gj)(sc:Scope)(cl:List (Str×Addr))(C:Addr)(s₂:Shared)(H₂:Hp)(fp:gu):Cx :=
 { X with N:=xs++N',s₀:=s₂,H₀:=H₂,env:=compEnvC sc cl C X.env,outer:=X.stack,stack:=X.stack,ex:=fp,fn:=λ_=>false,pn:=[],xe:=λ_ _=>False }
structure z5a (X:Cx) (xs N':gj) (ix:g0) (sc:Scope):Prop where
 nm:N'=ix.map λi=>X.N.getD i ("" : Str)
 nd:(xs++N').Nodup
 kind:sc.kind=.function
 hx:∀y∈xs,sc.names.lookup y=some .local
 cell:∀y∈sc.names,y.2≠.cell
 names:∀y∈sc.names,y.2=.local->sc.names.lookup y.1=some .local
 free:∀y∈sc.names,y.2=.free->X.env.kindOf y.1=some .cell\/X.env.kindOf y.1=some .free
 fv:∀y∈N',sc.names.lookup y=some .free
inductive D where
 | non | bl (b:Bool) | int (i:Int) | str (s:Str) | tup (ds:List D) | lst (ds:List D)
 | dct (ks:g7) (ds:List D)
 | exc (a:Addr)
abbrev i0:=List D
abbrev ka:=Option D
inductive Im where
 | t (vs:ik) | d (kvs:List (Key×V))
@[reducible] def Im.out:Im->HO | .t vs=>.tup vs | .d kvs=>.dK kvs
def dkv(ks:g7)(vs:ik):List (Key×V):=ks.zipWith (λk v=>(Sum.inl k,v)) vs
def KL(K:h8)(a:Addr)(xs:ik):Prop :=
 ∃(o:Obj) (its:ic) (n:Nat),K.lookup a=some o/\o.cls=.type "list"/\o.dict=none/\o.data=.seq its n/\its.size<=sizeLine/\Vals xs its.toList
mutual
inductive Rep (K:h8) (H:Hp) (O:Addr->Prop):D->V->Prop
 | non:Rep K H O .non .non
 | bl (b:Bool):Rep K H O (.bl b) (.bl b)
 | int (i:Int):Rep K H O (.int i) (.int i)
 | str (s:Str):Rep K H O (.str s) (.str s)
 | tup {a:Addr} {vs:ik} {ds:i0}:H a=some (.tup vs)->Reps K H O ds vs->Rep K H O (.tup ds) (.ref a)
 | lst {a:Addr} {vs:ik} {ds:i0}:O a->Rd H a (.lst vs)->Reps K H O ds vs->Rep K H O (.lst ds) (.ref a)
 | klst {a:Addr} {vs:ik} {ds:i0}:KL K a vs->Reps K H O ds vs->Rep K H O (.lst ds) (.ref a)
 | dct {a:Addr} {ks:g7} {vs:ik} {ds:i0}:H a=some (.dK (dkv ks vs))->Reps K H O ds vs->Rep K H O (.dct ks ds) (.ref a)
 | exc (a:Addr):Rep K H O (.exc a) (.ref a)
inductive Reps (K:h8) (H:Hp) (O:Addr->Prop):i0->ik->Prop
 | nil:Reps K H O [] []
 | cons {d:D} {v:V} {ds:i0} {vs:ik}:Rep K H O d v->Reps K H O ds vs->Reps K H O (d::ds) (v::vs)
end
mutual
theorem Rep.mono (I:∀a (u:Im),H a=some u.out->H' a=some u.out) (J:∀a vs,O a->Rd H a (.lst vs)->O' a/\Rd H' a (.lst vs)):∀ {d:D} {v:V},Rep K H O d v->Rep K H' O' d v
 | _,_,.non=>.non
 | _,_,.bl b=>.bl b
 | _,_,.int i=>.int i
 | _,_,.str s=>.str s
 | _,_,.tup h r=>.tup (I _ (.t _) h) (Reps.mono I J r)
 | _,_,.lst o h r=>.lst (J _ _ o h).1 (J _ _ o h).2 (Reps.mono I J r)
 | _,_,.klst h r=>.klst h (Reps.mono I J r)
 | _,_,.dct h r=>.dct (I _ (.d _) h) (Reps.mono I J r)
 | _,_,.exc a=>.exc a
theorem Reps.mono (I:∀a (u:Im),H a=some u.out->H' a=some u.out) (J:∀a vs,O a->Rd H a (.lst vs)->O' a/\Rd H' a (.lst vs)):∀ {ds:i0} {vs:ik},Reps K H O ds vs->Reps K H' O' ds vs
 | _,_,.nil=>.nil
 | _,_,.cons r t=>.cons (Rep.mono I J r) (Reps.mono I J t)
end
variable{O:Addr->Prop}
theorem Reps.length:∀ {ds:i0} {vs:ik},Reps K H O ds vs->ds.length=vs.length
 | _,_,.nil=>rfl
 | _,_,.cons _ t=>by rw[ak,ak,Reps.length t]
theorem Reps.get:∀ {ds:i0} {vs:ik} {i:Nat} {d:D},Reps K H O ds vs->ds[i]?=some d->∃v,vs[i]?=some v/\Rep K H O d v
 | _,_,0,_,.cons r _,e=>by simp at e;subst e;exact⟨_,rfl,r⟩
 | _,_,i+1,d,.cons _ t,e=>by
   obtain⟨u,h1,h2⟩:=Reps.get (i:=i) (d:=d) t (by simpa using e);exact⟨u,by simpa using h1,h2⟩
theorem Reps.append:∀ {ds es:i0} {vs ws:ik},Reps K H O ds vs->Reps K H O es ws->Reps K H O (ds++es) (vs++ws)
 | _,_,_,_,.nil,s=>s
 | _,_,_,_,.cons r t,s=>.cons r (Reps.append t s)
theorem Reps.take:∀ {ds:i0} {vs:ik} (n:Nat),Reps K H O ds vs->Reps K H O (ds.take n) (vs.take n)
 | _,_,0,_=>.nil
 | _,_,_+1,.nil=>.nil
 | _,_,n+1,.cons r t=>.cons r (Reps.take n t)
theorem Reps.drop:∀ {ds:i0} {vs:ik} (n:Nat),Reps K H O ds vs->Reps K H O (ds.drop n) (vs.drop n)
 | _,_,0,r=>r
 | _,_,_+1,.nil=>.nil
 | _,_,n+1,.cons _ t=>Reps.drop n t
theorem Reps.set{d:D}{v:V}(r:Rep K H O d v):∀ {ds:i0} {vs:ik} (i:Nat),Reps K H O ds vs->Reps K H O (ds.set i d) (vs.set i v)
 | _,_,_,.nil=>.nil
 | _,_,0,.cons _ t=>.cons r t
 | _,_,i+1,.cons q t=>.cons q (Reps.set r i t)
theorem Reps.dropLast:∀ {ds:i0} {vs:ik},Reps K H O ds vs->Reps K H O ds.dropLast vs.dropLast
 | _,_,.nil=>.nil
 | _,_,.cons _ .nil=>.nil
 | _,_,.cons r (.cons q t)=>.cons r (Reps.dropLast (.cons q t))
variable{v:V}
theorem Rep.int_{i:Int}(h:Rep K H O (.int i) v):v=.int i:=by cases h;rfl
theorem Rep.bl_{i:Bool}(h:Rep K H O (.bl i) v):v=.bl i:=by cases h;rfl
theorem Rep.exc_(h:Rep K H O (.exc a) v):v=.ref a:=by cases h;rfl
theorem Rep.non_(h:Rep K H O .non v):v=.non:=by cases h;rfl
variable{ds:i0}
theorem Rep.tup_(h:Rep K H O (.tup ds) v):∃a vs,v=.ref a/\H a=some (.tup vs)/\Reps K H O ds vs:=by cases h with | tup a b=>exact⟨_,_,rfl,a,b⟩
def LsOk(K:h8)(H:Hp)(O:Addr->Prop)(a:Addr)(vs:ik):Prop:=(O a/\Rd H a (.lst vs))\/KL K a vs
variable{vs:ik}
theorem LsOk.sq(h:LsOk K H O a vs):SqL K H a vs:=h.elim (λz=>.inl z.2) .inr
theorem Rep.lst_(h:Rep K H O (.lst ds) v):∃a vs,v=.ref a/\LsOk K H O a vs/\Reps K H O ds vs:=by
 cases h with
 | lst o a b=>exact⟨_,_,rfl,.inl ⟨o,a⟩,b⟩
 | klst a b=>exact⟨_,_,rfl,.inr a,b⟩
inductive Mo where
 | l (vs:ik) | i (C dx:Addr) (fs:List (Str×V))
@[reducible] def Mo.out:Mo->HO | .l vs=>.lst vs | .i C dx fs=>.ins C dx fs
inductive Pt where
 | d (d:D) | o (ds:i0)
abbrev kb:=List Pt
inductive AK where
 | ls | ins (b:Bool) (c:Str) (fs:gj)
inductive Sl where
 | sh (d:D) | ow (ds:i0) | o2 (dss:List i0) | ag (k:AK) (r:Option Nat) (ps:kb) | al (r j:Nat) | ro (k:AK) (ps:kb)
abbrev kf:=Option Sl
structure Gd where
 g:Addr->Prop
 r:Nat->gu
instance:CoeFun Gd (λ_=>Addr->Prop):=⟨Gd.g⟩
abbrev gd(g:Addr->Prop):Gd:=⟨g,λ_=>[]⟩
abbrev DE0:=List kf
def Ow(G:Gd)(W:Addr->Prop):Addr->Prop:=λa=>G a/\¬W a
def Inn(K:h8)(G:Gd)(W:Addr->Prop)(H:Hp)(dss:List i0)(ls:gu):Prop :=
 ls.length=dss.length/\∀(j:Nat) (ds:i0) (a:Addr),dss[j]?=some ds->ls[j]?=some a->W a/\∃vs,H a=some (.lst vs)/\Reps K H (Ow G W) ds vs
inductive PtsOk (K:h8) (G:Gd) (W:Addr->Prop) (H:Hp):kb->gu->ik->Prop
 | nil:PtsOk K G W H [] [] []
 | d {d:D} {v:V} {ps:kb} {as:gu} {us:ik}:Rep K H (Ow G W) d v->PtsOk K G W H ps as us->PtsOk K G W H (.d d::ps) as (v::us)
 | o {ds:i0} {a:Addr} {vs:ik} {ps:kb} {as:gu} {us:ik}:W a->H a=some (.lst vs)->Reps K H (Ow G W) ds vs->PtsOk K G W H ps as us->PtsOk K G W H (.o ds::ps) (a::as) (.ref a::us)
inductive PtsRo (K:h8) (G:Gd) (W:Addr->Prop) (H:Hp):kb->ik->Prop
 | nil:PtsRo K G W H [] []
 | d {d:D} {v:V} {ps:kb} {us:ik}:Rep K H (Ow G W) d v->PtsRo K G W H ps us->PtsRo K G W H (.d d::ps) (v::us)
 | o {ds:i0} {a:Addr} {vs:ik} {ps:kb} {us:ik}:¬W a->H a=some (.lst vs)->Reps K H (Ow G W) ds vs->PtsRo K G W H ps us->PtsRo K G W H (.o ds::ps) (.ref a::us)
def AkOk(K:h8)(H:Hp):AK->Addr->ik->Prop
 | .ls,p,us=>H p=some (.lst us)
 | .ins _ c fs,p,us=>∃C dx,PySem.W.nsIn K mainGlobals c=some (some (.ref C))/\H p=some (.ins C dx (fs.zip us))/\fs.length=us.length
def Lab:AK->gu->Addr->gu->Prop
 | .ins true _ _,l,p,_=>l=[p]
 | _,l,p,as=>l=p::as
def SlOk(K:h8)(G:Gd)(W:Addr->Prop)(H:Hp):Sl->V->Prop
 | .sh d,v=>Rep K H (Ow G W) d v
 | .ow ds,v=>∃l vs,v=.ref l/\W l/\H l=some (.lst vs)/\Reps K H (Ow G W) ds vs
 | .o2 dss,v=>∃(l:Addr) (ls:gu),v=.ref l/\W l/\H l=some (.lst (ls.map V.ref))/\(l::ls).Nodup/\Inn K G W H dss ls
 | .ag k r ps,v=>∃(p:Addr) (as:gu) (us:ik),v=.ref p/\W p/\(p::as).Nodup/\(∀n,r=some n->Lab k (G.r n) p as)/\AkOk K H k p us/\PtsOk K G W H ps as us
 | .al r j,v=>∃p as a,G.r r=p::as/\as[j]?=some a/\v=.ref a
 | .ro k ps,v=>∃(p:Addr) (us:ik),v=.ref p/\¬W p/\AkOk K H k p us/\PtsRo K G W H ps us
def zv2:kb->ik->Addr->Prop:=λps us a=>∃(j:Nat) (ds:i0),ps[j]?=some (.o ds)/\us[j]?=some (.ref a)
def AkH(H:Hp):AK->Addr->ik->Prop
 | .ls,p,us=>H p=some (.lst us)
 | .ins _ _ fs,p,us=>fs.length=us.length/\∃C dx,H p=some (.ins C dx (fs.zip us))
def Owns(H:Hp):Sl->V->Addr->Prop
 | .sh _,_,_=>False
 | .ow _,v,a=>v=.ref a
 | .o2 _,v,a=>v=.ref a\/∃(l:Addr) (ls:gu),v=.ref l/\H l=some (.lst (ls.map V.ref))/\a∈ls
 | .ag k _ ps,v,a=>v=.ref a\/∃(p:Addr) (us:ik),v=.ref p/\AkH H k p us/\zv2 ps us a
 | .al _ _,_,_=>False
 | .ro _ _,_,_=>False
structure Ok (K:h8) (G:Gd) (H0:Hp) (W:Addr->Prop) (env:DE0) (σ:St) (H:Hp):Prop where
 stay:Same H0 H
 good:∀a,H0 a=none->G a
 wl:∀l,W l->H0 l=none/\∃m:Mo,H l=some m.out
 slot:∀(i:Nat) (s:Sl),env[i]?=some (some s)->∃v,σ[i]?=some (some v)/\SlOk K G W H s v
 uniq:∀(i j:Nat) (s s':Sl) (v v':V) (a:Addr),env[i]?=some (some s)->env[j]?=some (some s')->σ[i]?=some (some v)->σ[j]?=some (some v')->Owns H s v a->Owns H s' v' a->i=j
 len:env.length=σ.length
variable{ls:gu}
theorem ve{D:gu}(h:ls.map V.ref=D.map V.ref):ls=D:=by
 induction ls generalizing D with
 | nil=>cases D with | nil=>rfl | cons b r=>cases h
 | cons a t ih=>cases D with | nil=>cases h | cons b r=>simp[List.cons.injEq,V.ref.injEq] at h;rw[h.1,ih h.2]
variable{G:Gd}{ps:kb}{as:gu}{us:ik}
theorem PtsOk.own(h:PtsOk K G W H ps as us)(ha:a∈as):W a/\∃vs,H a=some (.lst vs):=by
 induction h with
 | nil=>cases ha
 | d _ _ ih=>exact ih ha
 | o hW hl _ _ ih =>
   rcases b7.mp ha with rfl | ha
   ·exact⟨hW,_,hl⟩
   ·exact ih ha
theorem PtsOk.parts_iff(h:PtsOk K G W H ps as us):zv2 ps us a↔a∈as:=by
 induction h with
 | nil=>exact⟨λ⟨j,ds,e,_⟩=>by simp at e,λz=>by cases z⟩
 | d _ _ ih =>
   rw[<-ih];constructor
   ·rintro⟨j,ds,I,D⟩
    cases j with
    | zero=>simp at I
    | succ j=>exact⟨j,ds,by simpa using I,by simpa using D⟩
   ·rintro⟨j,ds,I,D⟩
    exact⟨j+1,ds,by simpa using I,by simpa using D⟩
 | o _ _ _ _ ih =>
   rw[b7,<-ih];constructor
   ·rintro⟨j,ds,I,D⟩
    cases j with
    | zero=>simp at D;exact .inl D.symm
    | succ j=>exact .inr ⟨j,ds,by simpa using I,by simpa using D⟩
   ·rintro(rfl | ⟨j,ds,I,D⟩)
    ·exact⟨0,_,rfl,rfl⟩
    ·exact⟨j+1,ds,by simpa using I,by simpa using D⟩
variable{G':Gd}{W':Addr->Prop}
protected theorem PtsOk.step(h:PtsOk K G W H ps as us)(k:∀a vs,a∈as->H a=some (.lst vs)->W' a/\H' a=some (.lst vs))(r:∀d v,Rep K H (Ow G W) d v->Rep K H' (Ow G' W') d v)(D:∀ds vs,Reps K H (Ow G W) ds vs->Reps K H' (Ow G' W') ds vs):PtsOk K G' W' H' ps as us:=by
 induction h with
 | nil=>exact .nil
 | d q _ ih=>exact .d (r _ _ q) (ih k)
 | o hW hl q _ ih =>
   obtain⟨I,J⟩:=k _ _ bj hl;exact .o I J (D _ _ q) (ih λa vs R=>k a vs (av _ R))
protected theorem PtsRo.step(h:PtsRo K G W H ps us)(k:∀a vs,¬W a->H a=some (.lst vs)->¬W' a/\H' a=some (.lst vs))(r:∀d v,Rep K H (Ow G W) d v->Rep K H' (Ow G' W') d v)(D:∀ds vs,Reps K H (Ow G W) ds vs->Reps K H' (Ow G' W') ds vs):PtsRo K G' W' H' ps us:=by
 induction h with
 | nil=>exact .nil
 | d q _ ih=>exact .d (r _ _ q) ih
 | o hW hl q _ ih=>obtain⟨I,J⟩:=k _ _ hW hl;exact .o I J (D _ _ q) ih
variable{j:Nat}
theorem PtsRo.get(h:PtsRo K G W H ps us)(e:ps[j]?=some (.o ds)):∃a vs,us[j]?=some (.ref a)/\¬W a/\H a=some (.lst vs)/\Reps K H (Ow G W) ds vs:=by
 induction h generalizing j with
 | nil=>simp at e
 | d _ _ ih =>
   cases j with
   | zero=>simp at e
   | succ j=>obtain⟨a,vs,h1,h2⟩:=ih (j:=j) (by simpa using e);exact⟨a,vs,by simpa using h1,h2⟩
 | @o _ a vs _ _ hW hl r _ ih =>
   cases j with
   | zero=>simp at e;subst e;exact⟨a,vs,rfl,hW,hl,r⟩
   | succ j=>obtain⟨a,vs,h1,h2⟩:=ih (j:=j) (by simpa using e);exact⟨a,vs,by simpa using h1,h2⟩
theorem PtsRo.getD(h:PtsRo K G W H ps us)(e:ps[j]?=some (.d d)):∃v,us[j]?=some v/\Rep K H (Ow G W) d v:=by
 induction h generalizing j with
 | nil=>simp at e
 | d q _ ih =>
   cases j with
   | zero=>simp at e;subst e;exact⟨_,rfl,q⟩
   | succ j=>obtain⟨a,h1,h2⟩:=ih (j:=j) (by simpa using e);exact⟨a,by simpa using h1,h2⟩
 | o _ _ _ _ ih =>
   cases j with
   | zero=>simp at e
   | succ j=>obtain⟨a,h1,h2⟩:=ih (j:=j) (by simpa using e);exact⟨a,by simpa using h1,h2⟩
variable{k:AK}{p:Addr}
theorem ux{D:ik}(h:AkOk K H k p us)(h':AkH H k p D):D=us:=by
 cases k with
 | ls=>have h:H p=_:=h;have h':H p=_:=h';rw[h] at h';cases h';rfl
 | ins b c fs =>
   obtain⟨C,dx,_,I,R⟩:=h;obtain⟨l',S,J,e⟩:=h';rw[I] at e;have e:fs.zip us=fs.zip D:=by injection e with e;injection e
   have:=congrArg (List.map Prod.snd) e;rw[List.map_snd_zip (by lia),List.map_snd_zip (by lia)] at this;exact this.symm
protected theorem AkOk.o{K:h8}{H:Hp}{k:AK}{p:Addr}{us:ik}(h:AkOk K H k p us):AkH H k p us:=by
 cases k with
 | ls=>exact h
 | ins b c fs=>obtain⟨C,dx,_,D,I⟩:=h;exact⟨I,C,dx,D⟩
theorem AkOk.mo(h:AkOk K H k p us):∃m:Mo,H p=some m.out/\∀H',H' p=some m.out->AkOk K H' k p us:=by
 cases k with
 | ls=>exact⟨.l us,h,λH' e=>e⟩
 | ins b c fs=>obtain⟨C,dx,D,I,J⟩:=h;exact⟨.i C dx (fs.zip us),I,λH' e=>⟨C,dx,D,e,J⟩⟩
variable{s:Sl}
theorem SlOk.owns(h:SlOk K G W H s v)(o:Owns H s v a):W a:=by
 cases s with
 | sh d=>exact o.elim
 | ow ds=>obtain⟨l,vs,e,D,_⟩:=h;rw[show v=.ref a from o] at e;cases e;exact D
 | o2 dss =>
   obtain⟨l,ls,e,D,S,U,hi⟩:=h;rcases o with o | ⟨l',ls',e',hl',ha⟩
   ·rw[o] at e;cases e;exact D
   ·rw[e] at e';cases e'
    rw[S] at hl';have:=ve (by simpa using hl');subst this;obtain⟨j,J,V⟩:=l8 ha;have I:j<dss.length:=by rw[<-hi.1];exact J
    exact(hi.2 j dss[j] a (by simp[I]) (by simp[J,V])).1
 | ag k r ps =>
   obtain⟨p,as,us,e,D,U,Z,Y,R⟩:=h;rcases o with o | ⟨p',us',e',hk',ha⟩
   ·rw[o] at e;cases e;exact D
   ·rw[e] at e';cases e'
    rw[ux Y hk'] at ha;exact(R.own (R.parts_iff.mp ha)).1
 | al _ _=>exact o.elim
 | ro _ _=>exact o.elim
theorem SlOk.back(h:SlOk K G W H s v)(k:∀l,v=.ref l->W l->∀m:Mo,H l=some m.out->H' l=some m.out)(o:Owns H' s v a):Owns H s v a:=by
 cases s with
 | sh d=>exact o.elim
 | ow ds=>exact o
 | o2 dss =>
   obtain⟨l,ls,e,D,I,R,hi⟩:=h;rcases o with o | ⟨l',ls',e',hl',ha⟩
   ·exact .inl o
   ·rw[e] at e';cases e'
    rw[k l e D (.l _) I] at hl';have:=ve (by simpa using hl');subst this;exact .inr ⟨l,ls,e,I,ha⟩
 | ag q r ps =>
   obtain⟨p,as,us,e,D,R,V,J,Y⟩:=h;rcases o with o | ⟨p',us',e',hk',ha⟩
   ·exact .inl o
   ·rw[e] at e';cases e'
    obtain⟨m,S,U⟩:=J.mo;rw[ux (U H' (k p e D m S)) hk'] at ha;exact .inr ⟨p,us,e,J.o,ha⟩
 | al _ _=>exact o.elim
 | ro _ _=>exact o.elim
structure Step (W:Addr->Prop) (H:Hp) (W':Addr->Prop) (H':Hp):Prop where
 keep:∀b o,H b=some o->¬W b->H' b=some o
 ws:∀l,W' l->W l\/H l=none
theorem Step.refl:Step W H W H:=⟨λ_ _ e _=>e,λ_ h=>.inl h⟩
theorem Step.trans{W1 D:Addr->Prop}(a:Step W H W1 H1)(b:Step W1 H1 D H2):Step W H D H2 where
 keep:=λc o e n=>b.keep c o (a.keep c o e n) λz=>(a.ws c z).elim n λq=>by rw[q] at e;cases e
 ws:=λl h=>by
  rcases b.ws l h with z | z
  ·exact a.ws l z
  ·by_cases n:W l
   ·exact .inl n
   ·cases e:H l with
    | none=>exact .inr rfl
    | some o=>rw[a.keep l o e n] at z;cases z
theorem Step.same(h:Same H H'):Step W H W H':=⟨λb o e _=>h b o e,λ_ h=>.inl h⟩
variable{H0:Hp}
theorem Ok.wkeep(ok:Ok K G H0 W env σ H)(st:Step W H W' H'):∀b o,H b=some o->(∀m:Mo,o≠m.out)->H' b=some o:=λb o e n =>
 st.keep b o e λz=>by obtain⟨_,m,q⟩:=ok.wl b z;rw[e] at q;exact n m (bn q)
theorem Rd.keep{u:HO}(h:Rd H a u)(k:∀o,H a=some o->H' a=some o):Rd H' a u:=by
 rcases h with h | ⟨o,h⟩
 ·exact .inl (k _ h)
 ·exact .inr ⟨o,k _ h⟩
theorem Ok.tstep(ok:Ok K G H0 W env σ H)(st:Step W H W' H'):∀a vs,H a=some (.tup vs)->H' a=some (.tup vs):=λ_ _ h=>ok.wkeep st _ _ h λm z=>by cases m <;> cases z
theorem Ok.istep(ok:Ok K G H0 W env σ H)(st:Step W H W' H'):∀a (u:Im),H a=some u.out->H' a=some u.out:=λ_ u h=>ok.wkeep st _ _ h λm z=>by cases u <;> cases m <;> cases z
theorem Ok.lstep(ok:Ok K G H0 W env σ H)(st:Step W H W' H'):∀a vs,Ow G W a->Rd H a (.lst vs)->Ow G W' a/\Rd H' a (.lst vs):=λa vs o h=>by
 refine⟨⟨o.1,λz=>?_⟩,h.keep λu e=>st.keep a u e o.2⟩;rcases st.ws a z with q | q
 ·exact o.2 q
 ·rcases h with h | ⟨_,h⟩ <;> rw[q] at h <;> cases h
theorem Ok.lsstep(ok:Ok K G H0 W env σ H)(st:Step W H W' H')(h:LsOk K H (Ow G W) a vs):LsOk K H' (Ow G W') a vs:=h.elim (λz=>.inl (ok.lstep st a vs z.1 z.2)) .inr
theorem Ok.rep(ok:Ok K G H0 W env σ H)(st:Step W H W' H')(r:Rep K H (Ow G W) d v):Rep K H' (Ow G W') d v:=r.mono (ok.istep st) (ok.lstep st)
theorem Ok.reps(ok:Ok K G H0 W env σ H)(st:Step W H W' H'){d:i0}{v:ik}(r:Reps K H (Ow G W) d v):Reps K H' (Ow G W') d v:=r.mono (ok.istep st) (ok.lstep st)
theorem Ok.slstep(ok:Ok K G H0 W env σ H)(st:Step W H W' H')(h:SlOk K G W H s v)(k:∀a (m:Mo),Owns H s v a->H a=some m.out->W' a/\H' a=some m.out):SlOk K G W' H' s v:=by
 cases s with
 | sh d=>exact ok.rep st h
 | ow ds =>
   obtain⟨l,vs,e,I,R,r⟩:=h;obtain⟨h1,h2⟩:=k l (.l vs) e R;exact⟨l,vs,e,h1,h2,ok.reps st r⟩
 | o2 dss =>
   obtain⟨l,ls,e,I,R,Y,hi⟩:=h;obtain⟨h1,h2⟩:=k l (.l _) (.inl e) R;have f:∀a vs,a∈ls->H a=some (.lst vs)->W' a/\H' a=some (.lst vs):=λa vs J D=>k a (.l vs) (.inr ⟨l,ls,e,R,J⟩) D;refine⟨l,ls,e,h1,h2,Y,hi.1,λj ds a g D=>?_⟩;obtain⟨_,vs,J,i⟩:=hi.2 j ds a g D;obtain⟨k1,k2⟩:=f a vs (ay D) J;exact⟨k1,vs,k2,ok.reps st i⟩
 | ag q r ps =>
   obtain⟨p,as,us,e,I,Y,t,S,U⟩:=h;obtain⟨m,V,Z⟩:=S.mo;obtain⟨h1,h2⟩:=k p m (.inl e) V;exact⟨p,as,us,e,h1,Y,t,Z H' h2,U.step (λa vs J D=>k a (.l vs) (.inr ⟨p,us,e,S.o,U.parts_iff.mpr J⟩) D) (λ_ _ r=>ok.rep st r) λ_ _ r=>ok.reps st r⟩
 | al _ _=>exact h
 | ro q ps =>
   obtain⟨p,us,e,I,S,U⟩:=h;have b:∀a o,¬W a->H a=some o->¬W' a:=λa o n e z=>(st.ws a z).elim n λy=>by rw[y] at e;cases e
   obtain⟨m,V,Z⟩:=S.mo;exact⟨p,us,e,b p _ I V,Z H' (st.keep p _ V I),U.step (λa vs c D=>⟨b a _ c D,st.keep a _ D c⟩) (λ_ _ r=>ok.rep st r) λ_ _ r=>ok.reps st r⟩
theorem Ok.same(ok:Ok K G H0 W env σ H)(s:Same H H'):Ok K G H0 W env σ H':=by
 have st:Step W H W H':=Step.same s;have bk:∀ {i:Nat} {sl:Sl} {v:V} {a:Addr},env[i]?=some (some sl)->σ[i]?=some (some v)->Owns H' sl v a->Owns H sl v a:=λ{i sl v a} e I o=>by
  obtain⟨Z,D,h⟩:=ok.slot i sl e;rw[I] at D;cases D;exact h.back (λl _ _ vs q=>s l _ q) o
 refine⟨ok.stay.trans s,ok.good,λl h=>?_,λi sl e=>?_,λi j S s2 v1 v2 a I D J R U Y=>ok.uniq i j S s2 v1 v2 a I D J R (bk I J U) (bk D R Y),ok.len⟩
 ·obtain⟨a,vs,b⟩:=ok.wl l h
  exact⟨a,vs,s _ _ b⟩
 ·obtain⟨v,I,h⟩:=ok.slot i sl e
  exact⟨v,I,ok.slstep st h λa vs o D=>⟨h.owns o,s _ _ D⟩⟩
theorem wy{o:HO}(h:H a=none):Same H (upd H a o):=λb u e=>by rw[gm (m4 e h)];exact e
def addW(W:Addr->Prop)(l:Addr):Addr->Prop:=λa=>W a\/a=l
theorem Ok.fresh0(ok:Ok K G H0 W env σ H)(s:Same H H')(D:H l=none)(I:H' l=some (.lst vs)) :
  ¬W l/\H0 l=none/\Ok K G H0 (addW W l) env σ H'/\Step W H (addW W l) H':=by
 have R:H0 l=none:=ok.stay.free D;have S:¬W l:=λz=>by obtain⟨_,vs,q⟩:=ok.wl l z;rw[D] at q;cases q
 have st:Step W H (addW W l) H':=⟨λb o e _=>s b o e,λa z=>z.elim .inl λq=>.inr (by rw[q];exact D)⟩;have J:=ok.same s;refine⟨S,R,⟨ok.stay.trans s,ok.good,λa z=>?_,λi sl e=>?_,J.uniq,ok.len⟩,st⟩
 ·rcases z with z | rfl
  ·obtain⟨q,us,b⟩:=ok.wl a z
   exact⟨q,us,s _ _ b⟩
  ·exact⟨R,.l vs,I⟩
 ·obtain⟨v,U,h⟩:=ok.slot i sl e
  exact⟨v,U,ok.slstep st h λa vs o V=>⟨.inl (h.owns o),s _ _ V⟩⟩
theorem Ok.fresh(ok:Ok K G H0 W env σ H)(s:Same H H')(D:H l=none)(I:H' l=some (.lst vs))(r:Reps K H' (λa=>(Ow G W a\/H a=none)/\a≠l) ds vs) :
  ¬W l/\H0 l=none/\Ok K G H0 (addW W l) env σ H'/\Reps K H' (Ow G (addW W l)) ds vs/\Step W H (addW W l) H':=by
 have R:H0 l=none:=ok.stay.free D;have S:¬W l:=λz=>by obtain⟨_,vs,q⟩:=ok.wl l z;rw[D] at q;cases q
 have st:Step W H (addW W l) H':=⟨λb o e _=>s b o e,λa z=>z.elim .inl λq=>.inr (by rw[q];exact D)⟩;have U:∀a,W a->H a≠none:=λa z q=>by obtain⟨_,vs,e⟩:=ok.wl a z;rw[q] at e;cases e
 have J:=ok.same s;refine⟨S,R,⟨ok.stay.trans s,ok.good,λa z=>?_,λi sl e=>?_,J.uniq,ok.len⟩,r.mono (λ_ _ h=>h) λa us o h=>⟨⟨?_,?_⟩,h⟩,st⟩
 ·rcases z with z | rfl
  ·obtain⟨q,us,b⟩:=ok.wl a z
   exact⟨q,us,s _ _ b⟩
  ·exact⟨R,.l vs,I⟩
 ·obtain⟨v,V,h⟩:=ok.slot i sl e
  exact⟨v,V,ok.slstep st h λa vs o Y=>⟨.inl (h.owns o),s _ _ Y⟩⟩
 ·rcases o.1 with q | q
  ·exact q.1
  ·exact ok.good a (ok.stay.free q)
 ·rintro(z | z)
  ·rcases o.1 with q | q
   ·exact q.2 z
   ·exact U a z q
  ·exact o.2 z
theorem Ok.noOwn(ok:Ok K G H0 W env σ H)(I:¬W l):∀(j:Nat) (s:Sl) (v:V),env[j]?=some (some s)->σ[j]?=some (some v)->¬Owns H s v l:=λj s v e J o=>by
 obtain⟨R,D,h⟩:=ok.slot j s e;rw[J] at D;cases D;exact I (h.owns o)
variable{α:Type}
theorem zmn{N:List α}(D:N.Nodup){x:α}(a:N[i]?=some x)(b:N[j]?=some x):i=j:=by
 obtain⟨h1,I⟩:=ah.mp a;obtain⟨h2,J⟩:=ah.mp b;exact(List.getElem_inj D).mp (I.trans J.symm)
theorem m3{xs:List α}{x y:α}(h:(xs.set i x)[j]?=some y):(i=j/\y=x/\i<xs.length)\/(i≠j/\xs[j]?=some y):=by
 by_cases D:i=j
 ·subst D
  by_cases hi:i<xs.length
  ·rw[dz hi] at h;cases h;exact .inl ⟨rfl,rfl,hi⟩
  ·rw[cx (by rw[dj];lia)] at h;cases h
 ·rw[db D] at h;exact .inr ⟨D,h⟩
theorem Ok.put(ok:Ok K G H0 W env σ H)(h:SlOk K G W H s v)(Z:∀(j:Nat) (s':Sl) (b:V) (a:Addr),env[j]?=some (some s')->σ[j]?=some (some b)->Owns H s v a->¬Owns H s' b a) :
  Ok K G H0 W (env.set i (some s)) (σ.set i (some v)) H:=by
 refine⟨ok.stay,ok.good,ok.wl,λj sl e=>?_,λj k c s2 v1 v2 a S d D I U Y=>?_,by rw[dj,dj,ok.len]⟩
 ·rcases m3 e with⟨rfl,q,hi⟩ | ⟨hj,q⟩
  ·cases q
   exact⟨v,dz (by rw[<-ok.len];exact hi),h⟩
  ·obtain⟨u,S,r⟩:=ok.slot j sl q
   exact⟨u,by rw[db hj];exact S,r⟩
 ·rcases m3 S with⟨a1,b1,c1⟩ | ⟨a1,b1⟩ <;> rcases m3 d with⟨J,R,f⟩ | ⟨J,R⟩
  ·rw[<-a1,<-J]
  ·subst a1
   cases b1;rw[dz (by rw[<-ok.len];exact c1)] at D;cases D;rw[db J] at I;exact absurd Y (Z k s2 v2 a R I U)
  ·subst J
   cases R;rw[dz (by rw[<-ok.len];exact f)] at I;cases I;rw[db a1] at D;exact absurd U (Z j c v1 a b1 D Y)
  ·rw[db a1] at D
   rw[db J] at I;exact ok.uniq j k c s2 v1 v2 a b1 R D I U Y
theorem Ok.set(ok:Ok K G H0 W env σ H)(r:Rep K H (Ow G W) d v):Ok K G H0 W (env.set i (some (.sh d))) (σ.set i (some v)) H :=
 ok.put (s:=.sh d) r λ_ _ _ _ _ _ o=>o.elim
theorem Ok.setO(ok:Ok K G H0 W env σ H)(D:W l)(I:H l=some (.lst vs))(r:Reps K H (Ow G W) ds vs)(J:∀(j:Nat) (s:Sl) (v:V),env[j]?=some (some s)->σ[j]?=some (some v)->¬Owns H s v l) :
  Ok K G H0 W (env.set i (some (.ow ds))) (σ.set i (some (.ref l))) H :=
 ok.put (s:=.ow ds) ⟨l,vs,rfl,D,I,r⟩ λj s' R a e S o=>by
  have:l=a:=by have o:V.ref l=V.ref a:=o;simpa using o
  subst this;exact J j s' R e S
theorem Ok.let(ok:Ok K G H0 W env σ H)(e:env[i]?=some (some s))(U:σ[i]?=some (some v))(W':Addr->Prop)(I:∀a,W' a↔W a/\¬Owns H s v a)(r:Rep K H (Ow G W') d v) :
  Step W H W' H/\Ok K G H0 W' (env.set i (some (.sh d))) σ H:=by
 have st:Step W H W' H:=⟨λb o q _=>q,λa z=>.inl ((I a).mp z).1⟩;refine⟨st,⟨ok.stay,ok.good,λa z=>ok.wl a ((I a).mp z).1,λj sl q=>?_,λj k c s2 v1 v2 a f J g l V Y=>?_,by rw[dj,ok.len]⟩⟩
 ·rcases m3 q with⟨rfl,D,_⟩ | ⟨hj,D⟩
  ·cases D
   exact⟨v,U,r⟩
  ·obtain⟨u,Z,h⟩:=ok.slot j sl D
   exact⟨u,Z,ok.slstep st h λa vs o J=>⟨(I a).mpr ⟨h.owns o,λz=>hj (ok.uniq i j s sl v u a e D U Z z o)⟩,J⟩⟩
 ·rcases m3 f with⟨_,R,_⟩ | ⟨a1,R⟩
  ·cases R;exact V.elim
  ·rcases m3 J with⟨_,S,_⟩ | ⟨a2,S⟩
   ·cases S;exact Y.elim
   ·exact ok.uniq j k c s2 v1 v2 a R S g l V Y
theorem Ok.share(ok:Ok K G H0 W env σ H)(e:env[i]?=some (some (.ow ds))) :
  ∃W' v,σ[i]?=some (some v)/\Step W H W' H/\Ok K G H0 W' (env.set i (some (.sh (.lst ds)))) σ H/\Rep K H (Ow G W') (.lst ds) v:=by
 obtain⟨v,I,l,vs,rfl,R,S,r⟩:=ok.slot i _ e;have J:Rep K H (Ow G λa=>W a/\¬Owns H (.ow ds) (.ref l) a) (.lst ds) (.ref l) :=
  .lst ⟨ok.good l (ok.wl l R).1,λz=>z.2 rfl⟩ (.inl S) (r.mono (λ_ _ h=>h) λa us o h=>⟨⟨o.1,λz=>o.2 z.1⟩,h⟩)
 obtain⟨st,D⟩:=ok.let e I _ (λa=>Iff.rfl) J;exact⟨_,.ref l,I,st,D,J⟩
theorem zmo:∀ {dss:List i0} {ls:gu},Inn K G W H dss ls->(∀a,a∈ls->W a->G a/\¬W' a)->(∀ds vs,Reps K H (Ow G W) ds vs->Reps K H (Ow G W') ds vs)->Reps K H (Ow G W') (dss.map D.lst) (ls.map V.ref)
 | [],[],_,_,_=>.nil
 | ds::dss,a::ls,h,g,r=>by
   obtain⟨R,vs,S,U⟩:=h.2 0 ds a rfl rfl;refine .cons (.lst (g a bj R) (.inl S) (r _ _ U)) (zmo (dss:=dss) (ls:=ls) ⟨Nat.succ.inj h.1,λj ds' I Y Z=>h.2 (j+1) ds' I (by simpa using Y) (by simpa using Z)⟩ (λI J=>g I (av _ J)) r)
variable{dss:List i0}
theorem Ok.share2(ok:Ok K G H0 W env σ H)(e:env[i]?=some (some (.o2 dss))) :
  ∃W' v,σ[i]?=some (some v)/\Step W H W' H/\Ok K G H0 W' (env.set i (some (.sh (.lst (dss.map D.lst))))) σ H/\Rep K H (Ow G W') (.lst (dss.map D.lst)) v:=by
 obtain⟨v,J,l,ls,rfl,U,R,Z,hi⟩:=ok.slot i _ e;have S:Rep K H (Ow G λa=>W a/\¬Owns H (.o2 dss) (.ref l) a) (.lst (dss.map D.lst)) (.ref l) :=
  .lst ⟨ok.good l (ok.wl l U).1,λz=>z.2 (.inl rfl)⟩ (.inl R) (zmo hi (λa V Y=>⟨ok.good a (ok.wl a Y).1,λz=>z.2 (.inr ⟨l,ls,rfl,R,V⟩)⟩) λds vs r=>r.mono (λ_ _ h=>h) λa us o h=>⟨⟨o.1,λz=>o.2 z.1⟩,h⟩)
 obtain⟨st,I⟩:=ok.let e J _ (λa=>Iff.rfl) S;exact⟨_,.ref l,J,st,I,S⟩
theorem Ok.chg(ok:Ok K G H0 W env σ H){s':Sl}(J:Mo)(e:env[i]?=some (some s))(f:σ[i]?=some (some v))(t:Owns H s v a)(w:SlOk K G W (upd H a J.out) s' v)(g:∀b,Owns (upd H a J.out) s' v b->Owns H s v b):Ok K G H0 W (env.set i (some s')) σ (upd H a J.out)/\Step W H W (upd H a J.out):=by
 have Y:W a:=by obtain⟨L,Z,h⟩:=ok.slot i s e;rw[f] at Z;cases Z;exact h.owns t
 have st:Step W H W (upd H a J.out):=⟨λb o q n=>by rw[gm (λz:b=a=>n (by rw[z];exact Y))];exact q,λb z=>.inl z⟩;have r:∀ {j:Nat} {sl:Sl} {u:V} {b:Addr},i≠j->env[j]?=some (some sl)->σ[j]?=some (some u)->Owns H sl u b->b≠a:=λ{j sl u b} hj q D o z=>by
  subst z;exact hj (ok.uniq i j s sl v u b e q f D t o)
 have bk:∀ {j:Nat} {sl:Sl} {u:V} {b:Addr},i≠j->env[j]?=some (some sl)->σ[j]?=some (some u)->Owns (upd H a J.out) sl u b->Owns H sl u b:=λ{j sl u b} hj q D o=>by
  obtain⟨M,R,h⟩:=ok.slot j sl q;rw[D] at R;cases R;cases sl with
  | sh d=>exact o.elim
  | ow ds=>exact o
  | o2 dss=>exact h.back (λl S _ vs U=>by rw[gm (r hj q D (.inl S))];exact U) o
  | ag k p ps=>exact h.back (λl S _ vs U=>by rw[gm (r hj q D (.inl S))];exact U) o
  | al _ _=>exact o.elim
  | ro _ _=>exact o.elim
 refine⟨⟨λb o q=>?_,ok.good,λb z=>?_,λj sl q=>?_,λj k N s2 v1 v2 b D R S U x o2=>?_,by rw[dj,ok.len]⟩,st⟩
 ·rw[gm (λz=>by rw[z,(ok.wl a Y).1] at q;cases q)];exact ok.stay b o q
 ·obtain⟨q,us,g⟩:=ok.wl b z
  by_cases h:b=a
  ·exact⟨q,J,by rw[h,j8]⟩
  ·exact⟨q,us,by rw[gm h];exact g⟩
 ·rcases m3 q with⟨rfl,I,_⟩ | ⟨hj,I⟩
  ·cases I
   exact⟨v,f,w⟩
  ·obtain⟨u,Z,h⟩:=ok.slot j sl I
   exact⟨u,Z,ok.slstep st h λb vs o R=>⟨h.owns o,by rw[gm (r hj I Z o)];exact R⟩⟩
 ·have back:∀ {m:Nat} {sl:Sl} {u:V},(env.set i (some s'))[m]?=some (some sl)->σ[m]?=some (some u)->Owns (upd H a J.out) sl u b->∃c,env[m]?=some (some c)/\Owns H c u b:=λ{m sl u} q D o=>by
   rcases m3 q with⟨rfl,I,_⟩ | ⟨hj,I⟩
   ·cases I
    rw[f] at D;cases D;exact⟨s,e,g b o⟩
   ·exact⟨sl,I,bk hj I D o⟩
  obtain⟨y,A,B⟩:=back D S x;obtain⟨C,E,F⟩:=back R U o2;exact ok.uniq j k y C v1 v2 b A E S U B F
variable{ds':i0}{vs':ik}
theorem Ok.turn(ok:Ok K G H0 W env σ H)(e:env[i]?=some (some (.ow ds)))(I:σ[i]?=some (some (.ref l)))(r:Reps K H (Ow G W) ds' vs') :
  Ok K G H0 W (env.set i (some (.ow ds'))) σ (upd H l (.lst vs'))/\Step W H W (upd H l (.lst vs')):=by
 obtain⟨v,D,l',vs,rfl,J,R,_⟩:=ok.slot i _ e;rw[I] at D;cases D;have st:Step W H W (upd H l (.lst vs')):=⟨λb o q n=>by rw[gm (λz:b=l=>n (by rw[z];exact J))];exact q,λb z=>.inl z⟩;exact ok.chg (.l vs') e I (show Owns H (.ow ds) (.ref l) l from rfl) ⟨l,vs',rfl,J,j8,ok.reps st r⟩ λb o=>o
theorem Ok.turn2(ok:Ok K G H0 W env σ H)(e:env[i]?=some (some (.o2 dss)))(m:σ[i]?=some (some (.ref l)))(S:H l=some (.lst (ls.map V.ref)))(s:dss[j]?=some ds)(U:ls[j]?=some a)(r:Reps K H (Ow G W) ds' vs'):Ok K G H0 W (env.set i (some (.o2 (dss.set j ds')))) σ (upd H a (.lst vs'))/\Step W H W (upd H a (.lst vs')):=by
 obtain⟨v,D,l',Z,rfl,t,I,c,hi⟩:=ok.slot i _ e;rw[m] at D;cases D;rw[S] at I;have:=ve (by simpa using I);subst this;have p:a∈ls:=ay U;have J:W a:=(hi.2 j ds a s U).1;have st:Step W H W (upd H a (.lst vs')):=⟨λb o q n=>by rw[gm (λz:b=a=>n (by rw[z];exact J))];exact q,λb z=>.inl z⟩;have d:l≠a:=λz=>by subst z;exact(bq.mp c).1 p
 have R:upd H a (.lst vs') l=some (.lst (ls.map V.ref)):=by rw[gm d];exact S
 refine ok.chg (.l vs') e m (.inr ⟨l,ls,rfl,S,p⟩) ⟨l,ls,rfl,t,R,c,by rw[dj];exact hi.1,λk es b u Y=>?_⟩ λb o=>?_
 ·rcases m3 u with⟨rfl,z,_⟩ | ⟨hk,q'⟩
  ·cases z
   rw[U] at Y;cases Y;exact⟨J,vs',j8,ok.reps st r⟩
  ·obtain⟨f,us,g,w⟩:=hi.2 k es b q' Y
   refine⟨f,us,?_,ok.reps st w⟩;have h:b≠a:=λz=>hk (by
    subst z;exact zmn (bq.mp c).2 U Y)
   rw[gm h];exact g
 ·rcases o with o | ⟨l',Z,z,q,g⟩
  ·exact .inl o
  ·cases z
   rw[R] at q;have:=ve (by simpa using q);subst this;exact .inr ⟨l,ls,rfl,S,g⟩
theorem PtsOk.get(h:PtsOk K G W H ps as us)(e:ps[j]?=some (.o ds)):∃a vs,us[j]?=some (.ref a)/\a∈as/\W a/\H a=some (.lst vs)/\Reps K H (Ow G W) ds vs:=by
 induction h generalizing j with
 | nil=>simp at e
 | d _ _ ih =>
   cases j with
   | zero=>simp at e
   | succ j=>obtain⟨a,vs,h1,h2⟩:=ih (j:=j) (by simpa using e);exact⟨a,vs,by simpa using h1,h2⟩
 | @o _ a vs _ _ _ hW hl r _ ih =>
   cases j with
   | zero=>simp at e;subst e;exact⟨a,vs,rfl,bj,hW,hl,r⟩
   | succ j=>obtain⟨a,vs,h1,h2,D⟩:=ih (j:=j) (by simpa using e);exact⟨a,vs,by simpa using h1,av _ h2,D⟩
theorem PtsOk.getD(h:PtsOk K G W H ps as us)(e:ps[j]?=some (.d d)):∃v,us[j]?=some v/\Rep K H (Ow G W) d v:=by
 induction h generalizing j with
 | nil=>simp at e
 | d q _ ih =>
   cases j with
   | zero=>simp at e;subst e;exact⟨_,rfl,q⟩
   | succ j=>obtain⟨a,h1,h2⟩:=ih (j:=j) (by simpa using e);exact⟨a,by simpa using h1,h2⟩
 | o _ _ _ _ ih =>
   cases j with
   | zero=>simp at e
   | succ j=>obtain⟨a,h1,h2⟩:=ih (j:=j) (by simpa using e);exact⟨a,by simpa using h1,h2⟩
theorem PtsOk.set(st:Step W H W (upd H a (.lst vs')))(ok:Ok K G H0 W env σ H)(h:PtsOk K G W H ps as us)(I:as.Nodup)(e:ps[j]?=some (.o ds))(D:us[j]?=some (.ref a))(r:Reps K H (Ow G W) ds' vs') :
  PtsOk K G W (upd H a (.lst vs')) (ps.set j (.o ds')) as us:=by
 induction h generalizing j with
 | nil=>simp at e
 | d q t ih =>
   cases j with
   | zero=>simp at e
   | succ j=>exact .d (ok.rep st q) (ih I (by simpa using e) (by simpa using D))
 | @o es b vs ps' as' us' hW hl q t ih =>
   cases j with
   | zero =>
     simp at D;subst D;refine .o hW j8 (ok.reps st r) (t.step (λb vs J D=>⟨(t.own J).1,?_⟩) (λ_ _ r=>ok.rep st r) λ_ _ r=>ok.reps st r);rw[gm (λz:b=_=>by subst z;exact(bq.mp I).1 J)];exact D
   | succ j =>
     have R:a∈as':=t.parts_iff.mp ⟨j,ds,e,D⟩;have S:b≠a:=λz=>by subst z;exact(bq.mp I).1 R
     exact .o hW (by rw[gm S];exact hl) (ok.reps st q) (ih (bq.mp I).2 e D)
variable{b:Expr}
theorem ztl{b:Addr}(e:ps[j]?=some (.o ds))(h:zv2 (ps.set j (.o ds')) us b):zv2 ps us b:=by
 obtain⟨i,es,h1,h2⟩:=h;rcases m3 h1 with⟨rfl,_,_⟩ | ⟨_,z⟩
 ·exact⟨j,ds,e,h2⟩
 ·exact⟨i,es,z,h2⟩
variable{r:Option Nat}
theorem Ok.turnP(ok:Ok K G H0 W env σ H)(e:env[i]?=some (some (.ag k r ps)))(g:σ[i]?=some (some (.ref p)))(J:AkOk K H k p us)(R:ps[j]?=some (.o ds))(S:us[j]?=some (.ref a))(s:Reps K H (Ow G W) ds' vs') :
  Ok K G H0 W (env.set i (some (.ag k r (ps.set j (.o ds'))))) σ (upd H a (.lst vs'))/\Step W H W (upd H a (.lst vs')):=by
 obtain⟨v,D,p',as,U,rfl,t,V,u,Y,Z⟩:=ok.slot i _ e;rw[g] at D;cases D;have:=ux Y J.o;subst this;have h:a∈as:=Z.parts_iff.mp ⟨j,ds,R,S⟩;have c:=(Z.own h).1;have st:Step W H W (upd H a (.lst vs')):=⟨λb o q n=>by rw[gm (λz:b=a=>n (by rw[z];exact c))];exact q,λb z=>.inl z⟩;have d:p≠a:=λz=>by subst z;exact(bq.mp V).1 h
 have f:=PtsOk.set st ok Z (bq.mp V).2 R S s;obtain⟨m,w,x⟩:=J.mo;have I:AkOk K (upd H a (.lst vs')) k p us:=x _ (by rw[gm d];exact w);refine ok.chg (.l vs') e g (.inr ⟨p,us,rfl,J.o,j,ds,R,S⟩) ⟨p,as,us,rfl,t,V,u,I,f⟩ λb o=>?_;rcases o with o | ⟨p',U,z,q,hb⟩
 ·exact .inl o
 ·cases z
  rw[ux I q] at hb;exact .inr ⟨p,us,rfl,J.o,ztl R hb⟩
theorem Ok.turnD(ok:Ok K G H0 W env σ H){d':D}{I:V}(e:env[i]?=some (some (.ag .ls r ps)))(k:σ[i]?=some (some (.ref p)))(s:H p=some (.lst us))(w:ps[j]?=some (.d d))(x:Rep K H (Ow G W) d' I) :
  Ok K G H0 W (env.set i (some (.ag .ls r (ps.set j (.d d'))))) σ (upd H p (.lst (us.set j I)))/\Step W H W (upd H p (.lst (us.set j I))):=by
 obtain⟨v,S,p',as,R,rfl,Y,u,y,J,c⟩:=ok.slot i _ e;rw[k] at S;cases S;have J:H p=some (.lst R):=J;rw[s] at J;cases J;have st:Step W H W (upd H p (.lst (us.set j I))):=⟨λb o q n=>by rw[gm (λz:b=p=>n (by rw[z];exact Y))];exact q,λb z=>.inl z⟩;have f:=ok.rep st x;have g:PtsOk K G W (upd H p (.lst (us.set j I))) ps as us:=c.step (λb vs Z A=>⟨(c.own Z).1,by rw[gm (λz:b=p=>by subst z;exact(bq.mp u).1 Z)];exact A⟩) (λ_ _ r=>ok.rep st r) λ_ _ r=>ok.reps st r;have go:∀ {a:kb} {bs:gu} {ws:ik} (m:Nat),PtsOk K G W (upd H p (.lst (us.set j I))) a bs ws->a[m]?=some (.d d)->PtsOk K G W (upd H p (.lst (us.set j I))) (a.set m (.d d')) bs (ws.set m I):=by
  intro a bs ws m h;induction h generalizing m with
  | nil=>intro e;simp at e
  | d q t ih =>
    intro e;cases m with
    | zero=>exact .d f t
    | succ m=>exact .d q (ih m (by simpa using e))
  | o Y hl q t ih =>
    intro e;cases m with
    | zero=>simp at e
    | succ m=>exact .o Y hl q (ih m (by simpa using e))
 have U:=go j g w;refine ok.chg (.l (us.set j I)) e k (.inl rfl) ⟨p,as,us.set j I,rfl,Y,u,y,j8,U⟩ λb o=>?_;rcases o with o | ⟨p',R,z,q,Z⟩
 ·exact .inl o
 ·cases z
  have q:upd H p (.lst (us.set j I)) p=some (.lst R):=q;rw[j8] at q;cases q;exact .inr ⟨p,us,rfl,s,c.parts_iff.mpr (U.parts_iff.mp Z)⟩
structure At (X:Cx) (i:Nat) (x:Str):Prop where
 n:X.N[i]?=some x
 v:Vis X.env.scope x
 d:(x==("__debug__" : Str))=false
 c:(x==("__classdict__" : Str))=false
theorem At.pe(h:At X i x):PE X (.Name x pos) (tVar i):=z1p h.n h.v h.d h.c
structure To (X:Cx) (i:Nat) (x:Str):Prop where
 nd:X.N.Nodup
 n:X.N[i]?=some x
 l:Loc X.env.scope x
 f:X.fn x=true\/X.env.scope.names.lookup x=some .local
structure Bn (X:Cx) (x:Str):Prop where
 g:Gl X x
 m:X.mg x=none
structure Ats (N cs:gj) (X:Cx):Prop where
 n:X.N=N
 get:∀i x,N[i]?=some x->At X i x
 ck:∀u∈cs,X.env.kindOf u=some .cell\/X.env.kindOf u=some .free
structure Tos (N:gj) (X:Cx):Prop where
 to:∀i x,N[i]?=some x->To X i x
variable{N cs:gj}
protected theorem Ats.a(h:Ats N cs X)(e:N[i]?=some x):At X i x:=h.get i x e
protected theorem Tos.t(h:Tos N X)(e:N[i]?=some x):To X i x:=h.to i x e
theorem Ats.nox(h:Ats N cs X):Ats N cs X.nox:=⟨h.n,λi x e=>let z:=h.get i x e;⟨z.n,z.v,z.d,z.c⟩,h.ck⟩
theorem Tos.nox(h:Tos N X):Tos N X.nox:=⟨λi x e=>let z:=h.to i x e;⟨z.nd,z.n,z.l,z.f⟩⟩
def okN(x:Str):Bool:=!(x==("__debug__" : Str)) && !(x==("__classdict__" : Str))
theorem q9(h:okN x=true):(x==("__debug__" : Str))=false/\(x==("__classdict__" : Str))=false:=by
 unfold okN at h;rwa [ek,j6,j6] at h
theorem sy{o:Option NameKind}{k:NameKind}(h:(o==some k)=true):o=some k:=by
 cases o with
 | none=>cases h
 | some a=>cases a <;> cases k <;> first | rfl | cases h
def subN(N:gj)(ix:g0):gj:=ix.map λi=>N.getD i ("" : Str)
def om(N cs:gj)(ix:g0)(y:Str)(sc:Scope):Bool:=decide ((y::subN N ix).Nodup) && decide (sc.kind=.function) && (sc.names.lookup y==some .local) && decide (∀z∈sc.names,z.2≠.cell) && decide (∀z∈sc.names,z.2=.local->sc.names.lookup z.1=some .local) && decide (∀z∈sc.names,z.2=.free->z.1∈subN N ix) && (subN N ix).all (λu=>(sc.names.lookup u==some .free) && cs.elem u) && (y::subN N ix).all okN
theorem gl_d(h:X.env.scope.names.lookup x=some .globalImplicit):Gl X x:=h
variable{s:Shared}{C:Addr}
theorem z2m(h:sc.names.lookup x=some .local):Vis (i8 X y N' sc cl C s H fp).env.scope x:=.inl (lookup_relabel_local h)
theorem z2n(h:sc.names.lookup x=some .free):Vis (i8 X y N' sc cl C s H fp).env.scope x:=.inr (zcc h)
theorem u9(hA:Ats N cs X)(h:om N cs ix y sc=true):ztk X y (subN N ix) ix sc:=by
 unfold om at h;simp only[ek,decide_eq_true_eq,gk] at h;obtain⟨⟨⟨⟨⟨⟨⟨h1,h2⟩,I⟩,J⟩,R⟩,S⟩,D⟩,_⟩:=h;exact⟨by rw[hA.n];rfl,h1,h2,sy I,J,R,λz U V=>hA.ck z.1 (List.mem_of_elem_eq_true (D z.1 (S z U V)).2),λu Y=>sy (D u Y).1⟩
variable{s₂:Shared}{H₂:Hp}
theorem rq(h:om N cs ix y sc=true):Ats (y::subN N ix) (subN N ix) (i8 X y (subN N ix) sc cl C s₂ H₂ fp):=by
 unfold om at h;simp only[ek,decide_eq_true_eq,gk] at h;obtain⟨⟨⟨⟨⟨⟨⟨h1,h2⟩,J⟩,S⟩,U⟩,V⟩,D⟩,I⟩:=h;refine⟨rfl,λi x e=>⟨e,?_,(q9 (I x (ay e))).1,(q9 (I x (ay e))).2⟩,λu R=>?_⟩
 ·rcases b7.mp (ay e) with rfl | hm
  ·exact z2m (sy J)
  ·exact z2n (sy (D x hm).1)
 ·exact zcc (env:=X.env) (sy (D u R).1)
abbrev FE:=DE0->Option (D×DE0)
abbrev FT:=DE0->Option (Bool×DE0)
abbrev FA:=DE0->Option (i0×DE0)
def tD(K:h8)(G:Gd)(H0:Hp)(f:FE):TE:=λσ H Q=>∃W env d env',Ok K G H0 W env σ H/\f env=some (d,env') /\
 ∀W' v H',Step W H W' H'->Ok K G H0 W' env' σ H'->Rep K H' (Ow G W') d v->Q v H'
def tDT(K:h8)(G:Gd)(H0:Hp)(f:FT):TT:=λσ H Q=>∃W env b env',Ok K G H0 W env σ H/\f env=some (b,env') /\
 ∀W' H',Step W H W' H'->Ok K G H0 W' env' σ H'->Q b H'
def tDA(K:h8)(G:Gd)(H0:Hp)(f:FA):TA:=λσ H Q=>∃W env ds env',Ok K G H0 W env σ H/\f env=some (ds,env') /\
 ∀W' vs H',Step W H W' H'->Ok K G H0 W' env' σ H'->Reps K H' (Ow G W') ds vs->Q vs H'
def tDF(K:h8)(G:Gd)(H0:Hp)(f:FA):TE:=λσ H Q=>∃W env ds env',Ok K G H0 W env σ H/\f env=some (ds,env') /\
 ∀W' l vs H',Step W H (addW W' l) H'->Ok K G H0 W' env' σ H'->Ok K G H0 (addW W' l) env' σ H'->¬W' l->H' l=some (.lst vs)->Reps K H' (Ow G (addW W' l)) ds vs->Q (.ref l) H'
structure DEx (X:Cx) (G:Gd) (H0:Hp) (e:Expr) (f:FE):Prop where
 out:PE X e (tD X.K G H0 f)
structure DTx (X:Cx) (G:Gd) (H0:Hp) (e:Expr) (f:FT):Prop where
 out:PT X e (tDT X.K G H0 f)
structure DAx (X:Cx) (G:Gd) (H0:Hp) (es:g9) (f:FA):Prop where
 out:PA X es (tDA X.K G H0 f)
structure DFx (X:Cx) (G:Gd) (H0:Hp) (e:Expr) (f:FA):Prop where
 out:PE X e (tDF X.K G H0 f)
variable{e:Expr}{t:TE}
theorem PE.imp{t':TE}(h:PE X e t)(i:∀σ H Q,t' σ H Q->t σ H Q):PE X e t':=λpins s σ H Q I q=>h pins s σ H Q I (i σ H Q q)
theorem PT.imp{t t':TT}(h:PT X e t)(i:∀σ H Q,t' σ H Q->t σ H Q):PT X e t':=λpins s σ H Q I q=>h pins s σ H Q I (i σ H Q q)
theorem PA.imp{e:g9}{t t':TA}(h:PA X e t)(i:∀σ H Q,t' σ H Q->t σ H Q):PA X e t':=λpos pins s σ H Q I q=>h pos pins s σ H Q I (i σ H Q q)
@[simp] def fVar(i:Nat):FE:=λe=>match e[i]? with
 | some (some (.sh d))=>some (d,e)
 | some (some (.ow ds))=>some (.lst ds,e.set i (some (.sh (.lst ds))))
 | some (some (.o2 dss))=>some (.lst (dss.map D.lst),e.set i (some (.sh (.lst (dss.map D.lst)))))
 | _=>none
@[simp] def fC(d:D):FE:=λe=>some (d,e)
@[simp] def fBin(op:D->D->ka)(f g:FE):FE:=λe=>(f e).bind λr=>(g r.2).bind λq=>(op r.1 q.1).map λd=>(d,q.2)
@[simp] def fUn(op:D->ka)(f:FE):FE:=λe=>(f e).bind λr=>(op r.1).map λd=>(d,r.2)
@[simp] def fAnd(f g:FT):FT:=λe=>(f e).bind λr=>if r.1=true then g r.2 else some (false,r.2)
@[simp] def fOr(f g:FT):FT:=λe=>(f e).bind λr=>if r.1=true then some (true,r.2) else g r.2
@[simp] def fNot(f:FT):FT:=λe=>(f e).map λr=>(!r.1,r.2)
@[simp] def fTst(f:FE):FT:=λe=>(f e).bind λr=>match r.1 with | .bl b=>some (b,r.2) | _=>none
@[simp] def qu(f g:FE):FE:=λe=>(f e).bind λr=>match r.1 with | .bl true=>g r.2 | .bl false=>some (.bl false,r.2) | _=>none
@[simp] def zzs(f:FE):FE:=λe=>(f e).bind λr=>match r.1 with | .bl b=>some (.bl (!b),r.2) | _=>none
@[simp] def fNil:FA:=λe=>some ([],e)
@[simp] def aq(f:FE)(g:FA):FA:=λe=>(f e).bind λr=>(g r.2).bind λq=>some (r.1::q.1,q.2)
@[simp] def fTup(g:FA):FE:=λe=>(g e).bind λr=>if r.1.length<=64 then some (.tup r.1,r.2) else none
@[simp] def f7(g:FA):FA:=λe=>(g e).bind λr=>if r.1.length<=64 then some (r.1,r.2) else none
@[simp] def fLst(g:FA):FE:=λe=>(g e).map λr=>(.lst r.1,r.2)
@[simp] def il:D->D->ka | .int i,.int j=>some (.int (i+j)) | _,_=>none
@[simp] def dSub:D->D->ka | .int i,.int j=>some (.int (i-j)) | _,_=>none
def li(i:Int):Prop:=-(2 ^ 64)<i/\i<2 ^ 64
noncomputable instance (i:Int):Decidable (li i):=Classical.propDecidable _
def Few(n:Nat):Prop:=n<=2 ^ 20
noncomputable instance (n:Nat):Decidable (Few n):=Classical.propDecidable _
def Bnd(lo hi i:Int):Prop:=lo<=i/\i<hi
noncomputable instance (lo hi i:Int):Decidable (Bnd lo hi i):=Classical.propDecidable _
def dMul:D->D->ka | .int i,.int j=>if li i\/li j then some (.int (i*j)) else none | _,_=>none
def dMod:D->D->ka | .int i,.int j=>if 0<j then some (.int (i % j)) else none | _,_=>none
def dDiv:D->D->ka | .int i,.int j=>if Bnd 1 1073741824 j then some (.int (i / j)) else none | _,_=>none
@[simp] def dNeg:D->ka | .int i=>some (.int (-i)) | _=>none
@[simp] def dLt:D->D->ka | .int i,.int j=>some (.bl (decide (i<j))) | _,_=>none
@[simp] def dLe:D->D->ka | .int i,.int j=>some (.bl (decide (i<=j))) | _,_=>none
@[simp] def dGt:D->D->ka | .int i,.int j=>some (.bl (decide (j<i))) | _,_=>none
@[simp] def dGe:D->D->ka | .int i,.int j=>some (.bl (decide (j<=i))) | _,_=>none
@[simp] def dEq:D->D->ka
 | .int i,.int j=>some (.bl (decide (i=j))) | .str i,.str j=>some (.bl (decide (i=j))) | .bl i,.bl j=>some (.bl (decide (i=j))) | _,_=>none
@[simp] def dNe:D->D->ka
 | .int i,.int j=>some (.bl (!decide (i=j))) | .str i,.str j=>some (.bl (!decide (i=j))) | .bl i,.bl j=>some (.bl (!decide (i=j))) | _,_=>none
@[simp] def dIx:D->D->ka | .tup ds,.int i=>atI ds i | .lst ds,.int i=>atI ds i | _,_=>none
def OpD(X:Cx)(G:Gd)(H0:Hp)(r:R2)(op:D->D->ka):Prop :=
 ∀W env σ H x y d1 d2 d (Q:VK),Ok X.K G H0 W env σ H->Rep X.K H (Ow G W) d1 x->Rep X.K H (Ow G W) d2 y->op d1 d2=some d ->
  (∀v H',Step W H W H'->Ok X.K G H0 W env σ H'->Rep X.K H' (Ow G W) d v->Q v H')->r x y H Q
variable{r:R2}{op:D->D->ka}{g:FE}
theorem zv3(S:OpD X G H0 r op):∀σ H Q,tD X.K G H0 (fBin op f g) σ H Q->tOp r (tD X.K G H0 f) (tD X.K G H0 g) σ H Q:=by
 rintro σ H Q ⟨W,env,d,env',ok,e,k⟩;cases e1:f env with
 | none=>simp[e1] at e
 | some r1 =>
   cases e2:g r1.2 with
   | none=>simp[e1,e2] at e
   | some r2 =>
     have e:(op r1.1 r2.1).map (λd=>(d,r2.2))=some (d,env'):=by simpa[fBin,e1,e2] using e
     cases e3:op r1.1 r2.1 with
     | none=>rw[e3] at e;cases e
     | some d' =>
       rw[e3] at e;have U:(d',r2.2)=(d,env'):=bn e;cases U;refine⟨W,env,r1.1,r1.2,ok,e1,λW1 v1 H1 V D p1=>⟨W1,r1.2,r2.1,r2.2,D,e2,λR v2 H2 s2 I p2=>?_⟩⟩;exact S R _ σ H2 v1 v2 _ _ _ Q I (D.rep s2 p1) p2 e3 λv Y Z J a=>k R v Y ((V.trans s2).trans Z) J a
variable{a:Expr}{p:D->D->ka}
theorem wj{op:Operator}(D:OpR X (binaryOp op) r)(I:OpD X G H0 r p)(J:DEx X G H0 a f)(R:DEx X G H0 b g):DEx X G H0 (.BinOp a op b pos) (fBin p f g) :=
 ⟨(zza D J.out R.out).imp (zv3 I)⟩
theorem zx9{op:CmpOp}(D:OpR X (compareOp op) r)(I:OpD X G H0 r p)(J:DEx X G H0 a f)(R:DEx X G H0 b g)(S:behindInMarks op b=false):DEx X G H0 (.Compare a [op] [b] pos) (fBin p f g) :=
 ⟨(zzc D J.out R.out S).imp (zv3 I)⟩
theorem z2o(D:IxR X r)(I:OpD X G H0 r p)(J:DEx X G H0 a f)(R:DEx X G H0 b g)(S:uz b):DEx X G H0 (.Subscript a b pos) (fBin p f g) :=
 ⟨(yd D J.out R.out S).imp (zv3 I)⟩
theorem z2p(h:∀σ H Q,tD X.K G H0 f σ H Q->t σ H Q):∀σ H Q,tDT X.K G H0 (fTst f) σ H Q->z2c t σ H Q:=by
 rintro σ H Q ⟨W,env,b,env',ok,e,k⟩;refine h σ H _ ?_;cases e1:f env with
 | none=>simp[e1] at e
 | some r1 =>
   obtain⟨d,D⟩:=r1;cases d with
   | bl b' =>
     have e:some (b',D)=some (b,env'):=by simpa[fTst,e1] using e
     cases e;exact⟨W,env,_,_,ok,e1,λW1 v1 H1 J I p1=>⟨_,p1.bl_,k W1 H1 J I⟩⟩
   | _=>simp[e1] at e
theorem wg{op:CmpOp}(D:OpR X (compareOp op) r)(I:OpD X G H0 r p)(J:DEx X G H0 a f)(R:DEx X G H0 b g)(S:behindInMarks op b=false):DTx X G H0 (.Compare a [op] [b] pos) (fTst (fBin p f g)) :=
 ⟨(zzd D J.out R.out S).imp (z2p (zv3 I))⟩
variable{g:Int->Int->Int}
theorem od_I{C:Int->Int->Prop}(h:∀D I d,op D I=some d->∃i j,D=.int i/\I=.int j/\C i j/\d=.int (g i j)):OpD X G H0 (rI C λi j=>.int (g i j)) op:=by
 intro W env σ H x y D I d Q ok p1 p2 e k;obtain⟨i,j,rfl,rfl,J,rfl⟩:=h _ _ _ e;exact⟨i,j,p1.int_,p2.int_,J,k _ H Step.refl ok (.int _)⟩
theorem z2q(h:∀D I d,op D I=some d->∃i j,D=.int i/\I=.int j/\d=.int (g i j)):OpD X G H0 (rI0 λi j=>.int (g i j)) op:=by
 intro W env σ H x y D I d Q ok p1 p2 e k;obtain⟨i,j,rfl,rfl,rfl⟩:=h _ _ _ e;exact⟨i,j,p1.int_,p2.int_,k _ H Step.refl ok (.int _)⟩
variable{g:FE}
theorem zv4{g:Int->Int->Bool}(h:∀D I d,op D I=some d->∃i j,D=.int i/\I=.int j/\d=.bl (g i j)):OpD X G H0 (rI0 λi j=>.bl (g i j)) op:=by
 intro W env σ H x y D I d Q ok p1 p2 e k;obtain⟨i,j,rfl,rfl,rfl⟩:=h _ _ _ e;exact⟨i,j,p1.int_,p2.int_,k _ H Step.refl ok (.bl _)⟩
theorem z2r:OpD X G H0 (rI0 λi j=>.int (i+j)) il:=z2q λD I d e=>by
 cases D <;> cases I <;> first | (cases e;done) | exact⟨_,_,rfl,rfl,(bn e).symm⟩
theorem z2s:OpD X G H0 (rI0 λi j=>.int (i-j)) dSub:=z2q λD I d e=>by
 cases D <;> cases I <;> first | (cases e;done) | exact⟨_,_,rfl,rfl,(bn e).symm⟩
theorem z2t:OpD X G H0 (rI CMul λi j=>.int (i*j)) dMul:=od_I λD I d e=>by
 cases D <;> cases I <;> first
  | (cases e;done)
  | (rename_i i j
     by_cases h:li i\/li j
     ·simp only[dMul,if_pos h] at e;exact⟨_,_,rfl,rfl,h,(bn e).symm⟩
     ·simp only[dMul,if_neg h] at e;cases e)
theorem z2u:OpD X G H0 (rI (λ_ j=>0<j) λi j=>.int (i % j)) dMod:=od_I λD I d e=>by
 cases D <;> cases I <;> first
  | (cases e;done)
  | (rename_i i j
     by_cases h:0<j
     ·simp only[dMod,if_pos h] at e;exact⟨_,_,rfl,rfl,h,(bn e).symm⟩
     ·simp only[dMod,if_neg h] at e;cases e)
theorem z2v:OpD X G H0 (rI CDiv λi j=>.int (i / j)) dDiv:=od_I λD I d e=>by
 cases D <;> cases I <;> first
  | (cases e;done)
  | (rename_i i j
     by_cases h:Bnd 1 1073741824 j
     ·simp only[dDiv,if_pos h] at e;exact⟨_,_,rfl,rfl,⟨by have:=h.1;lia,h.2⟩,(bn e).symm⟩
     ·simp only[dDiv,if_neg h] at e;cases e)
theorem z5b:OpD X G H0 (rI0 λi j=>.bl (decide (i<j))) dLt:=zv4 λD I d e=>by
 cases D <;> cases I <;> first | (cases e;done) | exact⟨_,_,rfl,rfl,(bn e).symm⟩
theorem z5c:OpD X G H0 (rI0 λi j=>.bl (decide (i<=j))) dLe:=zv4 λD I d e=>by
 cases D <;> cases I <;> first | (cases e;done) | exact⟨_,_,rfl,rfl,(bn e).symm⟩
theorem z2w:OpD X G H0 (rI0 λi j=>.bl (decide (j<i))) dGt:=zv4 λD I d e=>by
 cases D <;> cases I <;> first | (cases e;done) | exact⟨_,_,rfl,rfl,(bn e).symm⟩
theorem z5d:OpD X G H0 (rI0 λi j=>.bl (decide (j<=i))) dGe:=zv4 λD I d e=>by
 cases D <;> cases I <;> first | (cases e;done) | exact⟨_,_,rfl,rfl,(bn e).symm⟩
theorem zya(i j:Int):decide (V.int i=V.int j)=decide (i=j):=by simp
theorem zyb(i j:Str):decide (V.str i=V.str j)=decide (i=j):=by simp
theorem z2x(i j:Bool):decide (V.bl i=V.bl j)=decide (i=j):=by simp
theorem z2y:OpD X G H0 rEq dEq:=by
 intro W env σ H x y D I d Q ok p1 p2 e k;cases D <;> cases I <;> first
  | (cases e;done)
  | (cases e;cases p1;cases p2
     refine⟨rfl,?_⟩;first
      | (rw[zya];exact k _ H Step.refl ok (.bl _))
      | (rw[zyb];exact k _ H Step.refl ok (.bl _))
      | (rw[z2x];exact k _ H Step.refl ok (.bl _)))
theorem z5e:OpD X G H0 rNe dNe:=by
 intro W env σ H x y D I d Q ok p1 p2 e k;cases D <;> cases I <;> first
  | (cases e;done)
  | (cases e;cases p1;cases p2
     refine⟨rfl,?_⟩;first
      | (rw[zya];exact k _ H Step.refl ok (.bl _))
      | (rw[zyb];exact k _ H Step.refl ok (.bl _))
      | (rw[z2x];exact k _ H Step.refl ok (.bl _)))
theorem wn{i:Int}(r:Reps K H O ds vs)(h:atI ds i=some d):∃v,atI vs i=some v/\Rep K H O d v:=by
 unfold atI at h ⊢;rw[<-r.length];cases q:ixN ds.length i with
 | none=>rw[q] at h;cases h
 | some j=>rw[q] at h;exact r.get h
theorem z5f:OpD X G H0 (rIx X.K) dIx:=by
 intro W env σ H x y J R d Q ok p1 p2 e k;cases J <;> first
  | (cases e;done)
  | (cases R <;> first
      | (cases e;done)
      | (cases p2
         first
          | (obtain⟨a, vs, rfl, h, r⟩ := p1.tup_
             obtain⟨v,D,I⟩:=wn r e;exact .inr (.inl ⟨a,vs,_,v,rfl,rfl,SqT.of h,D,k _ H Step.refl ok I⟩))
          | (obtain⟨a, vs, rfl, h, r⟩ := p1.lst_
             obtain⟨v,D,I⟩:=wn r e;exact .inl ⟨a,vs,_,v,rfl,rfl,h.sq,D,k _ H Step.refl ok I⟩)))
theorem kr(D:DEx X G H0 a f)(I:DEx X G H0 b g):DEx X G H0 (.BinOp a .Add b pos) (fBin il f g):=wj z15 z2r D I
theorem km(D:DEx X G H0 a f)(I:DEx X G H0 b g):DEx X G H0 (.BinOp a .Sub b pos) (fBin dSub f g):=wj z16 z2s D I
theorem p9(D:DEx X G H0 a f)(I:DEx X G H0 b g):DEx X G H0 (.BinOp a .Mult b pos) (fBin dMul f g):=wj z17 z2t D I
theorem ma(D:DEx X G H0 a f)(I:DEx X G H0 b g):DEx X G H0 (.BinOp a .Mod b pos) (fBin dMod f g):=wj z18 z2u D I
theorem tx(D:DEx X G H0 a f)(I:DEx X G H0 b g):DEx X G H0 (.BinOp a .FloorDiv b pos) (fBin dDiv f g):=wj zzb z2v D I
theorem z5g(D:DEx X G H0 a f)(I:DEx X G H0 b g):DEx X G H0 (.Compare a [.Gt] [b] pos) (fBin dGt f g):=zx9 z2b z2w D I (tz _)
theorem zv5(D:DEx X G H0 a f)(I:DEx X G H0 b g):DEx X G H0 (.Compare a [.Eq] [b] pos) (fBin dEq f g):=zx9 z2a z2y D I (tz _)
theorem my(D:DEx X G H0 a f)(I:DEx X G H0 b g):DTx X G H0 (.Compare a [.Lt] [b] pos) (fTst (fBin dLt f g)):=wg z45 z5b D I (tz _)
theorem z2z(D:DEx X G H0 a f)(I:DEx X G H0 b g):DTx X G H0 (.Compare a [.LtE] [b] pos) (fTst (fBin dLe f g)):=wg z46 z5c D I (tz _)
theorem lz(D:DEx X G H0 a f)(I:DEx X G H0 b g):DTx X G H0 (.Compare a [.Gt] [b] pos) (fTst (fBin dGt f g)):=wg z2b z2w D I (tz _)
theorem vy(D:DEx X G H0 a f)(I:DEx X G H0 b g):DTx X G H0 (.Compare a [.GtE] [b] pos) (fTst (fBin dGe f g)):=wg z47 z5d D I (tz _)
theorem js(D:DEx X G H0 a f)(I:DEx X G H0 b g):DTx X G H0 (.Compare a [.Eq] [b] pos) (fTst (fBin dEq f g)):=wg z2a z2y D I (tz _)
theorem vw(D:DEx X G H0 a f)(I:DEx X G H0 b g):DTx X G H0 (.Compare a [.NotEq] [b] pos) (fTst (fBin dNe f g)):=wg z44 z5e D I (tz _)
theorem jy(D:DEx X G H0 a f)(I:DEx X G H0 b g)(J:uz b:=by intro _ _;rfl):DEx X G H0 (.Subscript a b pos) (fBin dIx f g):=z2o zx5 z5f D I J
theorem bg{Nn Cn:gj}(an:Ats Nn Cn X)(J:Nn[i]?=some x:=by rfl):DEx X G H0 (.Name x pos) (fVar i):=⟨((an.a J).pe).imp λσ H Q R=>by
 obtain⟨W,env,d,env',ok,e,k⟩:=R;unfold fVar at e;cases q:env[i]? with
 | none=>rw[q] at e;cases e
 | some o =>
   cases o with
   | none=>rw[q] at e;cases e
   | some sl =>
     cases sl with
     | sh d' =>
       rw[q] at e;cases e;obtain⟨v,I,r⟩:=ok.slot i _ q;exact⟨v,I,k W v H Step.refl ok r⟩
     | ow ds =>
       rw[q] at e;cases e;obtain⟨W',v,I,st,D,r⟩:=ok.share q;exact⟨v,I,k W' v H st D r⟩
     | o2 dss =>
       rw[q] at e;cases e;obtain⟨W',v,I,st,D,r⟩:=ok.share2 q;exact⟨v,I,k W' v H st D r⟩
     | ag _ _ _=>rw[q] at e;cases e
     | al _ _=>rw[q] at e;cases e
     | ro _ _=>rw[q] at e;cases e⟩
theorem de_c(h:PE X e (tC v))(r:∀H O,Rep X.K H O d v):DEx X G H0 e (fC d):=⟨h.imp λσ H Q D=>by
 obtain⟨W,env,d',env',ok,q,k⟩:=D;cases q;exact k W v H Step.refl ok (r _ _)⟩
theorem ce{i:Int}:DEx X G H0 (.Constant (.int i) j pos) (fC (.int i)):=de_c ym λ_ _=>.int _
theorem qt{i:Bool}:DEx X G H0 (.Constant (.bool i) j pos) (fC (.bl i)):=de_c z4v λ_ _=>.bl _
theorem gi{i:Str}:DEx X G H0 (.Constant (.str i) j pos) (fC (.str i)):=de_c zxy λ_ _=>.str _
theorem oa(R:DEx X G H0 a f):DEx X G H0 (.UnaryOp .USub a pos) (fUn dNeg f):=⟨(z14 zx1 R.out).imp λσ H Q S=>by
 obtain⟨W,env,d',env',ok,q,k⟩:=S;cases e1:f env with
 | none=>simp[e1] at q
 | some r =>
   obtain⟨d,I⟩:=r;cases d with
   | int i =>
     have q:some (D.int (-i),I)=some (d',env'):=by simpa[fUn,e1,dNeg] using q
     cases q;exact⟨W,env,_,_,ok,e1,λW1 v1 H1 U J p1=>⟨i,p1.int_,k W1 _ H1 U J (.int _)⟩⟩
   | _=>simp[e1] at q⟩
section
variable {X:Cx} {G:Gd} {H0:Hp} {a b c e:Expr} {es rest:g9} {f g:FE} {F:FA} {p q:FT} {pos:Pos}
structure DWx (X:Cx) (G:Gd) (H0:Hp) (e:Expr) (f:FT):Prop where
 out:PW X e (tDT X.K G H0 f)
theorem PW.imp{X:Cx}{e:Expr}{t t':TT}(h:PW X e t)(i:∀σ H Q,t' σ H Q->t σ H Q):PW X e t':=λw pins s σ H Q I q=>h w pins s σ H Q I (i σ H Q q)
theorem dt_w(h:DWx X G H0 e p):DTx X G H0 e p:=⟨PW.pt h.out⟩
theorem oz(h:DTx X G H0 a p):DWx X G H0 (.BoolOp .And [a] pos) p:=⟨zy6 h.out⟩
theorem mz(h:DTx X G H0 a p):DWx X G H0 (.BoolOp .Or [a] pos) p:=⟨z1r h.out⟩
theorem oq(h:DTx X G H0 a p)(h2:DWx X G H0 (.BoolOp .And (b::rest) pos) q):DWx X G H0 (.BoolOp .And (a::b::rest) pos) (fAnd p q):=⟨(z1s h.out h2.out).imp λσ H Q S=>by
 obtain⟨W,env,d,env',ok,e,k⟩:=S;cases e1:p env with
 | none=>simp[e1] at e
 | some r =>
   obtain⟨t,D⟩:=r;refine⟨W,env,t,D,ok,e1,λW1 H1 R I=>?_⟩;cases t with
   | true =>
     exact⟨W1,D,d,env',I,by simpa[fAnd,e1] using e,λU H2 s2 J=>k U H2 (R.trans s2) J⟩
   | false =>
     have e:some (false,D)=some (d,env'):=by simpa[fAnd,e1] using e
     cases e;exact k W1 H1 R I⟩
theorem l9(h:DTx X G H0 a p)(h2:DWx X G H0 (.BoolOp .Or (b::rest) pos) q):DWx X G H0 (.BoolOp .Or (a::b::rest) pos) (fOr p q):=⟨(z4w h.out h2.out).imp λσ H Q S=>by
 obtain⟨W,env,d,env',ok,e,k⟩:=S;cases e1:p env with
 | none=>simp[e1] at e
 | some r =>
   obtain⟨t,D⟩:=r;refine⟨W,env,t,D,ok,e1,λW1 H1 R I=>?_⟩;cases t with
   | false =>
     exact⟨W1,D,d,env',I,by simpa[fOr,e1] using e,λU H2 s2 J=>k U H2 (R.trans s2) J⟩
   | true =>
     have e:some (true,D)=some (d,env'):=by simpa[fOr,e1] using e
     cases e;exact k W1 H1 R I⟩
theorem p8(h:DTx X G H0 a p):DTx X G H0 (.UnaryOp .Not a pos) (fNot p):=⟨(z1t h.out).imp λσ H Q I=>by
 obtain⟨W,env,d,env',ok,e,k⟩:=I;cases e1:p env with
 | none=>simp[e1] at e
 | some r =>
   have e:some (!r.1,r.2)=some (d,env'):=by simpa[fNot,e1] using e
   cases e;exact⟨W,env,_,_,ok,e1,λW1 H1 J D=>k W1 H1 J D⟩⟩
theorem m8(h:DEx X G H0 a f)(D:∀whole,isTrue a X.env whole=(do let v <-whole;standAt a.pos;holding [v] (truthy v)):=by intro _;rfl):DTx X G H0 a (fTst f):=⟨(z1q h.out D).imp (z2p λ_ _ _ z=>z)⟩
theorem ztm{op:BoolOp}(h:DEx X G H0 a f):DEx X G H0 (.BoolOp op [a] pos) f:=⟨z1u h.out⟩
theorem zql(h:DEx X G H0 a f)(h2:DEx X G H0 (.BoolOp .And (b::rest) pos) g):DEx X G H0 (.BoolOp .And (a::b::rest) pos) (qu f g):=⟨(z1v h.out h2.out).imp λσ H Q U=>by
 obtain⟨W,env,d,env',ok,e,k⟩:=U;cases e1:f env with
 | none=>simp[e1] at e
 | some r =>
   obtain⟨t,I⟩:=r;refine⟨W,env,t,I,ok,e1,λW1 v1 H1 S J p1=>?_⟩;cases t with
   | bl t =>
     refine⟨t,p1.bl_,?_⟩;cases t with
     | true =>
       exact⟨W1,I,d,env',J,by simpa[qu,e1] using e,λV v2 H2 s2 R p2=>k V v2 H2 (S.trans s2) R p2⟩
     | false =>
       have e:some (D.bl false,I)=some (d,env'):=by simpa[qu,e1] using e
       cases e;exact k W1 _ H1 S J (.bl _)
   | _=>simp[e1] at e⟩
theorem z20(h:DEx X G H0 a f):DEx X G H0 (.UnaryOp .Not a pos) (zzs f):=⟨(z1w h.out).imp λσ H Q R=>by
 obtain⟨W,env,d,env',ok,e,k⟩:=R;cases e1:f env with
 | none=>simp[e1] at e
 | some r =>
   obtain⟨t,I⟩:=r;refine⟨W,env,t,I,ok,e1,λW1 v1 H1 S J p1=>?_⟩;cases t with
   | bl t =>
     have e:some (D.bl (!t),I)=some (d,env'):=by simpa[zzs,e1] using e
     cases e;exact⟨t,p1.bl_,k W1 _ H1 S J (.bl _)⟩
   | _=>simp[e1] at e⟩
theorem cy  : DAx X G H0 [] fNil:=⟨og.imp λσ H Q D=>by
 obtain⟨W,env,ds,env',ok,e,k⟩:=D;cases e;exact k W [] H Step.refl ok .nil⟩
theorem bf(R:DEx X G H0 e f)(S:DAx X G H0 es F)(U:starEach (e::es) X.env=(false,eval e X.env)::starEach es X.env:=by rfl):DAx X G H0 (e::es) (aq f F):=⟨(md R.out S.out U).imp λσ H Q V=>by
 obtain⟨W,env,ds,env',ok,q,k⟩:=V;cases e1:f env with
 | none=>simp[e1] at q
 | some r =>
   obtain⟨d,D⟩:=r;cases e2:F D with
   | none=>simp[e1,e2] at q
   | some r2 =>
     have q:some (d::r2.1,r2.2)=some (ds,env'):=by simpa[aq,e1,e2] using q
     cases q;exact⟨W,env,d,D,ok,e1,λW1 v1 H1 Y I p1=>⟨W1,D,_,_,I,e2,λZ vs H2 s2 J p2=>k Z _ H2 (Y.trans s2) J (.cons (I.rep s2 p1) p2)⟩⟩⟩
theorem le64{n:Nat}(h:n<=64):n<=sizeLine:=dc h (by rw[sizeLine_eq];decide)
theorem ki{k1}(h:DAx X G H0 es F):DEx X G H0 (.Tuple es k1 pos) (fTup F):=⟨(z2f h.out).imp λσ H Q S=>by
 obtain⟨W,env,d,env',ok,q,k⟩:=S;cases e1:F env with
 | none=>simp[e1] at q
 | some r =>
   obtain⟨ds,I⟩:=r;by_cases R:ds.length<=64
   ·have q:some (D.tup ds,I)=some (d,env'):=by simpa[fTup,e1,R] using q
    cases q;refine⟨W,env,ds,_,ok,e1,λW1 vs H1 U J p1=>⟨by rw[<-p1.length];exact le64 R,λl V=>?_⟩⟩;have sm:Same H1 (upd H1 l (.tup vs)):=wy V;have st:Step W1 H1 W1 (upd H1 l (.tup vs)):=Step.same sm;exact k W1 _ _ (U.trans st) (J.same sm) (.tup j8 (J.reps st p1))
   ·simp[e1,R] at q⟩
theorem tw{W:Addr->Prop}{env:DE0}{σ:St}{H:Hp}{l:Addr}{vs:ik}{ds:i0}(ok:Ok X.K G H0 W env σ H)(r:Reps X.K H (Ow G W) ds vs)(hn:H l=none) :
  Step W H (addW W l) (upd H l (.lst vs))/\Ok X.K G H0 W env σ (upd H l (.lst vs))/\Ok X.K G H0 (addW W l) env σ (upd H l (.lst vs))/\¬W l/\upd H l (.lst vs) l=some (.lst vs)/\Reps X.K (upd H l (.lst vs)) (Ow G (addW W l)) ds vs:=by
 have sm:Same H (upd H l (.lst vs)):=wy hn;obtain⟨h1,h2,h3,h4,h5⟩:=ok.fresh (l:=l) (vs:=vs) (ds:=ds) sm hn j8 ((r.mono (O':=λa=>(Ow G W a\/H a=none)/\a≠l) (λ_ _ h=>sm _ _ h) λa us o h=>⟨⟨.inl o,λz=>by
  subst z;have h2:Rd H a (.lst us):=h;rcases h2 with h2 | ⟨_,h2⟩ <;> rw[hn] at h2 <;> cases h2⟩,h.keep λo e=>sm _ o e⟩))
 exact⟨h5,ok.same sm,h3,h1,j8,h4⟩
theorem jb(h:DAx X G H0 es F):DFx X G H0 (.List es pos) (f7 F):=⟨(zx4 h.out).imp λσ H Q R=>by
 obtain⟨W,env,d,env',ok,q,k⟩:=R;cases e1:F env with
 | none=>simp[e1] at q
 | some r =>
   obtain⟨ds,D⟩:=r;by_cases I:ds.length<=64
   ·have q:some (ds,D)=some (d,env'):=by simpa[f7,e1,I] using q
    cases q;refine⟨W,env,_,_,ok,e1,λW1 vs H1 S J p1=>⟨by rw[<-p1.length];exact le64 I,λl U=>?_⟩⟩;obtain⟨h1,h2,V,Y,Z,a⟩:=tw J p1 U;exact k W1 l vs _ (S.trans h1) h2 V Y Z a
   ·simp[e1,I] at q⟩
theorem gc(h:DFx X G H0 e F):DEx X G H0 e (fLst F):=⟨h.out.imp λσ H Q S=>by
 obtain⟨W,env,d,env',ok,q,k⟩:=S;cases e1:F env with
 | none=>simp[e1] at q
 | some r =>
   have q:some (D.lst r.1,r.2)=some (d,env'):=by simpa[fLst,e1] using q
   cases q;refine⟨W,env,_,_,ok,e1,λW1 l vs H1 R I J U V Y=>k W1 _ H1 ⟨R.keep,λa z=>R.ws a (.inl z)⟩ I (.lst ⟨I.good l (J.wl l (.inr rfl)).1,U⟩ (.inl V) (Y.mono (λ_ _ h=>h) λa us o h=>⟨⟨o.1,λz=>o.2 (.inl z)⟩,h⟩))⟩⟩
def Cal(P:Program)(w:World)(K:h8)(mg:Str->gs)(base:Heap)(CX:CXT)(x:Str)(k:Nat)(sp:Sp):Prop :=
 ∃fa fd ps,FnOk P w K mg base CX k fa fd ps sp/\mg x=some (.ref fa)/\PySem.W.keepIn K (.ref fa)=true/\Binds K fd ps []/\(x==("__debug__" : Str))=false
def dSp(K:h8)(m:i0->ka):Sp:=λvs H Q _=>∃O ds d,Reps K H O ds vs/\m ds=some d/\∀v H',Same H H'->Rep K H' (λa=>O a\/H a=none) d v->Q v H'
def fSp(K:h8)(m:i0->Option i0):Sp:=λvs H Q _=>∃O ds I,Reps K H O ds vs/\m ds=some I/\∀l us H',Same H H'->H l=none->H' l=some (.lst us)->Reps K H' (λa=>(O a\/H a=none)/\a≠l) I us->Q (.ref l) H'
@[simp] def d5(m:i0->ka)(F:FA):FE:=λe=>(F e).bind λr=>(m r.1).map λd=>(d,r.2)
@[simp] def jk(m:i0->Option i0)(F:FA):FA:=λe=>(F e).bind λr=>(m r.1).map λd=>(d,r.2)
theorem z21{m:i0->ka}{E:XK}:∀σ H Q,tD X.K G H0 (d5 m F) σ H Q->zvv (dSp X.K m) [] E (tDA X.K G H0 F) σ H Q:=λσ H Q R=>by
 obtain⟨W,env,d,env',ok,q,k⟩:=R;cases e1:F env with
 | none=>simp[e1] at q
 | some r =>
   obtain⟨ds,J⟩:=r;cases e2:m ds with
   | none=>simp[e1,e2] at q
   | some d' =>
     have q:some (d',J)=some (d,env'):=by simpa[d5,e1,e2] using q
     cases q;refine⟨W,env,ds,_,ok,e1,λW1 vs H1 S I p1=>?_⟩;show dSp X.K m (vs++[]) H1 Q E;rw[de];refine⟨Ow G W1,ds,_,p1,e2,λv H2 sm U=>?_⟩;refine k W1 v H2 (S.trans (Step.same sm)) (I.same sm) (U.mono (λ_ _ h=>h) λa us o h=>⟨?_,h⟩);rcases o with o | o
     ·exact o
     ·exact⟨I.good a (I.stay.free o),λz=>by obtain⟨_,us,q⟩:=I.wl a z;rw[o] at q;cases q⟩
theorem zzt{m:i0->Option i0}{E:XK}:∀σ H Q,tDF X.K G H0 (jk m F) σ H Q->zvv (fSp X.K m) [] E (tDA X.K G H0 F) σ H Q:=λσ H Q S=>by
 obtain⟨W,env,d,env',ok,q,k⟩:=S;cases e1:F env with
 | none=>simp[e1] at q
 | some r =>
   obtain⟨ds,I⟩:=r;cases e2:m ds with
   | none=>simp[e1,e2] at q
   | some d' =>
     have q:some (d',I)=some (d,env'):=by simpa[jk,e1,e2] using q
     cases q;refine⟨W,env,ds,_,ok,e1,λW1 vs H1 U J p1=>?_⟩;show fSp X.K m (vs++[]) H1 Q E;rw[de];refine⟨Ow G W1,ds,_,p1,e2,λl us H2 sm V R Y=>?_⟩;obtain⟨h1,h2,Z,a,b⟩:=J.fresh sm V R Y;exact k W1 l us H2 (U.trans b) (J.same sm) Z h1 R a
variable {CX:CXT} {k:Nat} {fa:Addr} {fd:FuncData} {ps:gj} {m:i0->ka} {mF:i0->Option i0} {x:Str} {p':Pos} {E:XK}
theorem gq{jr:Nat}(c:Cal X.prog X.w X.K X.mg X.base CX0 x k (dSp X.K m))(R:Room jr X.A)(S:DAx X G H0 (e::es) F)(D:k<=jr:=by decide)(U:Gl X x:=by walk_at "g")(V:starEach (e::es) X.env=(false,eval e X.env)::starEach es X.env:=by rfl)(I:(backTo pos (starEach es X.env)).any (·.1)=false:=by rfl) :
  DEx X G H0 (.Call (.Name x p') (e::es) [] pos) (d5 m F):=let ⟨_,_,_,Y,Z,a,b,J⟩:=c;⟨(zpc Y (R.mono D) U Z a b .nil zzq S.out J V I).imp z21⟩
theorem ztn{jr:Nat}(c:Cal X.prog X.w X.K X.mg X.base CX0 x k (fSp X.K mF))(R:Room jr X.A)(S:DAx X G H0 (e::es) F)(D:k<=jr:=by decide)(U:Gl X x:=by walk_at "g")(V:starEach (e::es) X.env=(false,eval e X.env)::starEach es X.env:=by rfl)(I:(backTo pos (starEach es X.env)).any (·.1)=false:=by rfl) :
  DFx X G H0 (.Call (.Name x p') (e::es) [] pos) (jk mF F):=let ⟨_,_,_,Y,Z,a,b,J⟩:=c;⟨(zpc Y (R.mono D) U Z a b .nil zzq S.out J V I).imp zzt⟩
end
section
variable {X:Cx} {G:Gd} {H0:Hp} {a b c e:Expr} {es rest:g9} {f g:FE} {F:FA} {p q:FT} {pos p':Pos} {x:Str}
def qr(X:Cx)(G:Gd)(H0:Hp)(r:ik->Hp->VK->Prop)(op:i0->ka):Prop :=
 ∀W env σ H vs ds d (Q:VK),Ok X.K G H0 W env σ H->Reps X.K H (Ow G W) ds vs->op ds=some d ->
  (∀v H',Step W H W H'->Ok X.K G H0 W env σ H'->Rep X.K H' (Ow G W) d v->Q v H')->r vs H Q
def zto(X:Cx)(G:Gd)(H0:Hp)(r:ik->Hp->VK->Prop)(op:i0->Option i0):Prop :=
 ∀W env σ H vs ds rs (Q:VK),Ok X.K G H0 W env σ H->Reps X.K H (Ow G W) ds vs->op ds=some rs ->
  (∀l us H',Step W H (addW W l) H'->Ok X.K G H0 W env σ H'->Ok X.K G H0 (addW W l) env σ H'->¬W l->H' l=some (.lst us)->Reps X.K H' (Ow G (addW W l)) rs us->Q (.ref l) H')->r vs H Q
theorem z22{r:ik->Hp->VK->Prop}{op:i0->ka}(S:qr X G H0 r op):∀σ H Q,tD X.K G H0 (d5 op F) σ H Q->tCB r (tDA X.K G H0 F) σ H Q:=λσ H Q U=>by
 obtain⟨W,env,d,env',ok,q,k⟩:=U;cases e1:F env with
 | none=>simp[e1] at q
 | some z =>
   obtain⟨ds,I⟩:=z;cases e2:op ds with
   | none=>simp[e1,e2] at q
   | some d' =>
     have q:some (d',I)=some (d,env'):=by simpa[d5,e1,e2] using q
     cases q;exact⟨W,env,ds,_,ok,e1,λW1 vs H1 Y J p1=>S W1 _ σ H1 vs ds _ Q J p1 e2 λv H2 s2 R p2=>k W1 v H2 (Y.trans s2) R p2⟩
theorem z23{r:ik->Hp->VK->Prop}{op:i0->Option i0}(U:zto X G H0 r op):∀σ H Q,tDF X.K G H0 (jk op F) σ H Q->tCB r (tDA X.K G H0 F) σ H Q:=λσ H Q Y=>by
 obtain⟨W,env,d,env',ok,q,k⟩:=Y;cases e1:F env with
 | none=>simp[e1] at q
 | some z =>
   obtain⟨ds,I⟩:=z;cases e2:op ds with
   | none=>simp[e1,e2] at q
   | some d' =>
     have q:some (d',I)=some (d,env'):=by simpa[jk,e1,e2] using q
     cases q;exact⟨W,env,ds,_,ok,e1,λW1 vs H1 Z J p1=>U W1 _ σ H1 vs ds _ Q J p1 e2 λl us H2 s2 R S a b c=>k W1 l us H2 (Z.trans s2) R S a b c⟩
variable {id T:String} {r:ik->Hp->VK->Prop} {op:i0->ka} {opF:i0->Option i0}
theorem zkq(J:m7 X (.builtin id) r)(R:qr X G H0 r op)(S:Gl X x)(U:X.mg x=none)(V:bootBuiltins x=some (.builtin id))(Y:DAx X G H0 (e::es) F)(Z:x ≠ "__name__":=by decide)(D:(x==("__debug__" : Str))=false:=by decide)(a:starEach (e::es) X.env=(false,eval e X.env)::starEach es X.env:=by rfl)(I:(backTo pos (starEach es X.env)).any (·.1)=false:=by rfl):DEx X G H0 (.Call (.Name x p') (e::es) [] pos) (d5 op F):=⟨(xb J S U V Y.out Z D a I).imp (z22 R)⟩
theorem zqm(J:m7 X (.type T) r)(R:qr X G H0 r op)(S:Gl X x)(U:X.mg x=none)(V:bootBuiltins x=some (.type T))(Y:DAx X G H0 (e::es) F)(Z:x ≠ "__name__":=by decide)(D:(x==("__debug__" : Str))=false:=by decide)(a:starEach (e::es) X.env=(false,eval e X.env)::starEach es X.env:=by rfl)(I:(backTo pos (starEach es X.env)).any (·.1)=false:=by rfl):DEx X G H0 (.Call (.Name x p') (e::es) [] pos) (d5 op F):=⟨(zn4 J S U V Y.out Z D a I).imp (z22 R)⟩
theorem zv6(J:m7 X (.type T) r)(R:zto X G H0 r opF)(S:Gl X x)(U:X.mg x=none)(V:bootBuiltins x=some (.type T))(Y:DAx X G H0 (e::es) F)(Z:x ≠ "__name__":=by decide)(D:(x==("__debug__" : Str))=false:=by decide)(a:starEach (e::es) X.env=(false,eval e X.env)::starEach es X.env:=by rfl)(I:(backTo pos (starEach es X.env)).any (·.1)=false:=by rfl):DFx X G H0 (.Call (.Name x p') (e::es) [] pos) (jk opF F):=⟨(zn4 J S U V Y.out Z D a I).imp (z23 R)⟩
theorem pk{K:h8}{H:Hp}{O:Addr->Prop}{d:D}{vs:ik}(h:Reps K H O [d] vs):∃v,vs=[v]/\Rep K H O d v:=by
 cases h with | cons r t=>cases t;exact⟨_,rfl,r⟩
theorem z24{K:h8}{H:Hp}{O:Addr->Prop}{d d':D}{vs:ik}(h:Reps K H O [d,d'] vs):∃v I,vs=[v,I]/\Rep K H O d v/\Rep K H O d' I:=by
 cases h with | cons r t=>cases t with | cons r' t=>cases t;exact⟨_,_,rfl,r,r'⟩
@[simp] def bLen:i0->ka | [.tup ds]=>some (.int ds.length) | [.lst ds]=>some (.int ds.length) | _=>none
theorem z25:qr X G H0 (λxs H Q=>∃p ys,xs=[.ref p]/\(SqL X.K H p ys\/SqT X.K H p ys)/\Q (.int ys.length) H) bLen:=by
 intro W env σ H vs ds d Q ok r e k;unfold bLen at e;split at e
 ·rename_i ds
  cases e;obtain⟨v,rfl,D⟩:=pk r;have r:=D;obtain⟨a,us,rfl,h,r⟩:=r.tup_;exact⟨a,us,rfl,.inr (SqT.of h),by rw[<-r.length];exact k _ H Step.refl ok (.int _)⟩
 ·rename_i ds
  cases e;obtain⟨v,rfl,D⟩:=pk r;have r:=D;obtain⟨a,us,rfl,h,r⟩:=r.lst_;exact⟨a,us,rfl,.inl h.sq,by rw[<-r.length];exact k _ H Step.refl ok (.int _)⟩
 ·cases e
theorem uw(I:DAx X G H0 [e] F)(D:Bn X "len":=by walk_at "b")(J:starEach [e] X.env=(false,eval e X.env)::starEach [] X.env:=by rfl):DEx X G H0 (.Call (.Name "len" p') [e] [] pos) (d5 bLen F) :=
 zkq zhl z25 D.g D.m uh I (by decide) (by decide) J rfl
@[simp] def bInt:i0->ka | [.int i]=>some (.int i) | [.bl k]=>some (.int (if k then 1 else 0)) | _=>none
theorem z26:qr X G H0 (λxs H Q=>(∃i,xs=[.int i]/\Q (.int i) H)\/∃k,xs=[.bl k]/\Q (.int (if k then 1 else 0)) H) bInt:=by
 intro W env σ H vs ds d Q ok r e k;unfold bInt at e;split at e
 ·cases e
  obtain⟨v,rfl,D⟩:=pk r;have r:=D;exact .inl ⟨_,by rw[r.int_],k _ H Step.refl ok (.int _)⟩
 ·cases e
  obtain⟨v,rfl,D⟩:=pk r;have r:=D;exact .inr ⟨_,by rw[r.bl_],k _ H Step.refl ok (.int _)⟩
 ·cases e
theorem ztp:bootBuiltins "int" = some (.type "int"):=by decide +kernel
theorem zzu(I:DAx X G H0 [e] F)(D:Bn X "int":=by walk_at "b")(J:starEach [e] X.env=(false,eval e X.env)::starEach [] X.env:=by rfl):DEx X G H0 (.Call (.Name "int" p') [e] [] pos) (d5 bInt F) :=
 zqm zs7 z26 D.g D.m ztp I (by decide) (by decide) J rfl
@[simp] def bMax:i0->ka | [.int i,.int j]=>some (.int (if j > i then j else i)) | _=>none
@[simp] def bMin:i0->ka | [.int i,.int j]=>some (.int (if j<i then j else i)) | _=>none
theorem z27:qr X G H0 (λxs H Q=>∃i j,xs=[.int i,.int j]/\Q (.int (if j > i then j else i)) H) bMax:=by
 intro W env σ H vs ds d Q ok r e k;unfold bMax at e;split at e
 ·cases e
  obtain⟨v,J,rfl,D,I⟩:=z24 r;have r:=D;exact⟨_,_,by rw[r.int_,I.int_],k _ H Step.refl ok (.int _)⟩
 ·cases e
theorem z28:qr X G H0 (λxs H Q=>∃i j,xs=[.int i,.int j]/\Q (.int (if j<i then j else i)) H) bMin:=by
 intro W env σ H vs ds d Q ok r e k;unfold bMin at e;split at e
 ·cases e
  obtain⟨v,J,rfl,D,I⟩:=z24 r;have r:=D;exact⟨_,_,by rw[r.int_,I.int_],k _ H Step.refl ok (.int _)⟩
 ·cases e
theorem zyc(J:DAx X G H0 [a,b] F)(R:X.calm=true:=by rfl)(I:Bn X "max":=by walk_at "b")(S:starEach [a,b] X.env=(false,eval a X.env)::starEach [b] X.env:=by rfl)(D:(backTo pos (starEach [b] X.env)).any (·.1)=false:=by rfl):DEx X G H0 (.Call (.Name "max" p') [a,b] [] pos) (d5 bMax F) :=
 zkq (zs5 R) z27 I.g I.m boot_max J (by decide) (by decide) S D
theorem z29(J:DAx X G H0 [a,b] F)(R:X.calm=true:=by rfl)(I:Bn X "min":=by walk_at "b")(S:starEach [a,b] X.env=(false,eval a X.env)::starEach [b] X.env:=by rfl)(D:(backTo pos (starEach [b] X.env)).any (·.1)=false:=by rfl):DEx X G H0 (.Call (.Name "min" p') [a,b] [] pos) (d5 bMin F) :=
 zkq (zs6 R) z28 I.g I.m boot_min J (by decide) (by decide) S D
def ints?:i0->Option g7
 | []=>some []
 | .int i::r=>(ints? r).map (i::·)
 | _::_=>none
theorem zkr:∀ {ds:i0} {I:g7},ints? ds=some I->ds=I.map D.int
 | [],I,h=>by cases h;rfl
 | .int i::r,I,h=>by
   unfold ints? at h;cases q:ints? r with
   | none=>rw[q] at h;cases h
   | some ms=>rw[q] at h;cases h;rw[zkr q];rfl
 | .str _::_,_,h=>by cases h
theorem ztq(I:g7):ints? (I.map D.int)=some I:=by
 induction I with
 | nil=>rfl
 | cons n r ih=>show(ints? (r.map D.int)).map (n::·)=_;rw[ih];rfl
theorem zjg{K:h8}{H:Hp}{O:Addr->Prop}:∀ {I:g7} {vs:ik},Reps K H O (I.map D.int) vs->vs=I.map V.int
 | [],_,h=>by cases h;rfl
 | n::r,_,h=>by cases h with | cons a t=>rw[zjg t,a.int_];rfl
theorem zoc(U:X.calm=true):m7 X (.builtin "sum") (λxs H Q=>∃p,∃D:g7,xs=[.ref p]/\SqL X.K H p (D.map V.int)/\Q (.int D.sum) H):=by
 intro pins s σ H xs us Q I r h;obtain⟨p,D,rfl,Y,q⟩:=h;obtain⟨u,rfl,Z⟩:=uq r;cases Z;obtain⟨its,a,pl,d⟩:=I.list Y;have hi:IntsAre its D:=zr4 a;have R:=pl.isList;obtain⟨xs,J⟩:=hi.allInts.items;rw[J] at R;refine sum_intListG (I.ok.hd U) R λh' tk t' b=>⟨.int D.sum,H,I.kept b,⟨t',?_⟩,q⟩;have c:numsOf its=D:=hi.numsOf;have S:numsOf (intItems xs).toList=D:=by rw[<-J];exact c
 rw[nums_intItems] at S;rw[preSum_eq,gv (by simp),S]
def bSum:i0->ka | [.lst ds]=>(ints? ds).map λI=>.int I.sum | _=>none
theorem z3a:qr X G H0 (λxs H Q=>∃p,∃D:g7,xs=[.ref p]/\SqL X.K H p (D.map V.int)/\Q (.int D.sum) H) bSum:=by
 intro W env σ H vs ds d Q ok r e k;unfold bSum at e;split at e
 ·rename_i ds
  cases q:ints? ds with
  | none=>rw[q] at e;cases e
  | some D =>
    rw[q] at e;cases e;obtain⟨v,rfl,I⟩:=pk r;have r:=I;obtain⟨a,us,rfl,h,r⟩:=r.lst_;rw[zkr q] at r;rw[zjg r] at h;exact⟨a,D,rfl,h.sq,k _ H Step.refl ok (.int _)⟩
 ·cases e
theorem qz(I:DAx X G H0 [e] F)(J:X.calm=true:=by rfl)(D:Bn X "sum":=by walk_at "b")(R:starEach [e] X.env=(false,eval e X.env)::starEach [] X.env:=by rfl):DEx X G H0 (.Call (.Name "sum" p') [e] [] pos) (d5 bSum F) :=
 zkq (zoc J) z3a D.g D.m boot_sum I (by decide) (by decide) R rfl
@[simp] def sx:i0->Option i0 | [.lst ds]=>some ds | [.tup ds]=>some ds | _=>none
theorem zzv:zto X G H0 (λxs H Q=>∃p ys,xs=[.ref p]/\(SqL X.K H p ys\/SqT X.K H p ys)/\∀l,H l=none->Q (.ref l) (upd H l (.lst ys))) sx:=by
 intro W env σ H vs ds V Q ok r e k;unfold sx at e;split at e
 ·cases e
  obtain⟨v,rfl,D⟩:=pk r;have r:=D;obtain⟨a,us,rfl,h,r⟩:=r.lst_;refine⟨a,us,rfl,.inl h.sq,λl I=>?_⟩;obtain⟨h1,h2,J,R,S,U⟩:=tw ok r I;exact k l us _ h1 h2 J R S U
 ·cases e
  obtain⟨v,rfl,D⟩:=pk r;have r:=D;obtain⟨a,us,rfl,h,r⟩:=r.tup_;refine⟨a,us,rfl,.inr (SqT.of h),λl I=>?_⟩;obtain⟨h1,h2,J,R,S,U⟩:=tw ok r I;exact k l us _ h1 h2 J R S U
 ·cases e
theorem zsa:bootBuiltins "list" = some (.type "list"):=by decide +kernel
theorem ztr(I:DAx X G H0 [e] F)(D:Bn X "list":=by walk_at "b")(J:starEach [e] X.env=(false,eval e X.env)::starEach [] X.env:=by rfl):DFx X G H0 (.Call (.Name "list" p') [e] [] pos) (jk sx F) :=
 zv6 zn6 zzv D.g D.m zsa I (by decide) (by decide) J rfl
end
section
variable {X:Cx} {G:Gd} {H0:Hp} {a b c e:Expr} {es rest:g9} {f g:FE} {F:FA} {p q:FT} {pos p' p1 pos1:Pos} {x:Str}
def rngL(lo hi:Int):g7:=(List.range (hi-lo).toNat).map λ(k:Nat)=>lo+(k:Int)
def z6h(ds:i0):Option i0:=match ds with
 | [.int j]=>if Bnd (-(2 ^ 62)) (2 ^ 20+1) j then some ((rngL 0 j).map D.int) else none
 | _=>none
theorem zho{K:h8}{H:Hp}{O:Addr->Prop}:∀(I:g7),Reps K H O (I.map D.int) (I.map V.int)
 | []=>.nil
 | n::r=>.cons (.int n) (zho r)
abbrev FO:=DE0->Option (h7×DE0)
def tDO(K:h8)(G:Gd)(H0:Hp)(f:FO):TO:=λσ H Q=>∃W env o env',Ok K G H0 W env σ H/\f env=some (o,env')/\∀W' H',Step W H W' H'->Ok K G H0 W' env' σ H'->Q o H'
structure DOx (X:Cx) (G:Gd) (H0:Hp) (e:Option Expr) (f:FO):Prop where
 out:PO X e (tDO X.K G H0 f)
theorem PO.imp{X:Cx}{e:Option Expr}{t t':TO}(h:PO X e t)(i:∀σ H Q,t' σ H Q->t σ H Q):PO X e t':=λpins s σ H Q I q=>h pins s σ H Q I (i σ H Q q)
@[simp] def fO0:FO:=λe=>some (none,e)
@[simp] def fO1(f:FE):FO:=λe=>(f e).bind λr=>match r.1 with | .int i=>some (some i,r.2) | _=>none
theorem u8  : DOx X G H0 none fO0:=⟨zzj.imp λσ H Q ⟨W,env,o,env',ok,q,k⟩=>by cases q;exact k W H Step.refl ok⟩
theorem re(h:DEx X G H0 e f):DOx X G H0 (some e) (fO1 f):=⟨(zzk h.out).imp λσ H Q J=>by
 obtain⟨W,env,o,env',ok,q,k⟩:=J;cases e1:f env with
 | none=>simp[e1] at q
 | some r =>
   obtain⟨d,D⟩:=r;cases d with
   | int i =>
     have q:some (some i,D)=some (o,env'):=by simpa[fO1,e1] using q
     cases q;exact⟨W,env,_,_,ok,e1,λW1 v1 H1 R I p1=>⟨i,p1.int_,k W1 H1 R I⟩⟩
   | _=>simp[e1] at q⟩
def cutD(xs:i0)(lo hi:h7):i0:=(xs.drop (HT.sIx xs.length 0 lo)).take (HT.sIx xs.length xs.length hi-HT.sIx xs.length 0 lo)
theorem Reps.cut{K:h8}{H:Hp}{O:Addr->Prop}{ds:i0}{vs:ik}(r:Reps K H O ds vs)(lo hi:h7):Reps K H O (cutD ds lo hi) (cutV vs lo hi):=by
 unfold cutD cutV;rw[r.length];exact(r.drop _).take _
@[simp] def fSl(f:FE)(l h:FO):FA:=λe=>(f e).bind λr=>(l r.2).bind λD=>(h D.2).bind λI=>match r.1 with | .lst ds=>some (cutD ds D.1 I.1,I.2) | _=>none
theorem sw{lo hi:Option Expr}{fl S:FO}{sp:Pos}(c:DEx X G H0 a f)(e:DOx X G H0 lo fl)(g:DOx X G H0 hi S) :
  DFx X G H0 (.Subscript a (.Slice lo hi none sp) pos) (fSl f fl S):=⟨(zvw zzl c.out e.out g.out).imp λσ H Q i=>by
 obtain⟨W,env,d,env',ok,q,k⟩:=i;cases e1:f env with
 | none=>simp[e1] at q
 | some r =>
   obtain⟨j,D⟩:=r;cases e2:fl D with
   | none=>simp[e1,e2] at q
   | some r2 =>
     obtain⟨Y,I⟩:=r2;cases e3:S I with
     | none=>simp[e1,e2,e3] at q
     | some r3 =>
       obtain⟨Z,J⟩:=r3;cases j with
       | lst ds =>
         have q:some (cutD ds Y Z,J)=some (d,env'):=by simpa[fSl,e1,e2,e3] using q
         cases q;refine⟨W,env,_,_,ok,e1,λW1 v1 H1 m R p1=>⟨W1,D,_,_,R,e2,λn H2 s2 U=>⟨n,I,_,_,U,e3,λo w b V=>?_⟩⟩⟩;obtain⟨l,us,rfl,h,r⟩:=(R.rep (s2.trans b) p1).lst_;refine⟨l,us,rfl,h.sq,λl' p=>?_⟩;obtain⟨h1,h2,s,t,u,v⟩:=tw V (r.cut Y Z) p;exact k o l' _ _ (((m.trans s2).trans b).trans h1) h2 s t u v
       | _=>simp[e1,e2,e3] at q⟩
def z5h(K:h8):R2:=λx y H Q=>∃l b xs D,x=.ref l/\y=.ref b/\SqL K H l xs/\SqL K H b D/\xs.length+D.length<=sizeLine/\∀p,H p=none->Q (.ref p) (upd H p (.lst (xs++D)))
theorem zzw:OpR X (binaryOp .Add) (z5h X.K):=by
 intro pins s σ H x y v u Q I d e h;obtain⟨l,b,xs,p,rfl,rfl,f,g,t,q⟩:=h;cases d;cases e;obtain⟨its,r,⟨⟨cls,dd,data,sl⟩,n,Z,i,S,j⟩,z⟩:=I.list f;obtain⟨D,a,⟨⟨c,k,data2,U⟩,m,J,V,R,Y⟩,w⟩:=I.list g;subst i j V Y S R;have A:=r.length;have o:=a.length;refine concat_meets ⟨_,Z,rfl⟩ ⟨_,J,rfl⟩ noFill_list_add seq_list_add PySem.F.slot_list_add PySem.F.entry_list_add (PySem.F.args_list_add_2 _ _) (list_addW l b its.toArray D.toArray n m none none sl U (by simp;lia)) ⟨Z,J,?_⟩;have ea:its.toArray++D.toArray=(its++D).toArray:=by simp
 rw[ea];exact⟨.ref _,_,I.lnew (t':=s.toks) (r.append a) (by rw[am];lia),rfl,q _ I.fresh⟩
@[simp] def fCat(f g:FE):FA:=λe=>(f e).bind λr=>(g r.2).bind λq=>match r.1,q.1 with | .lst ds,.lst es=>if Few (ds.length+es.length) then some (ds++es,q.2) else none | _,_=>none
theorem l6(Y:DEx X G H0 a f)(Z:DEx X G H0 b g):DFx X G H0 (.BinOp a .Add b pos) (fCat f g):=⟨(zza zzw Y.out Z.out).imp λσ H Q c=>by
 obtain⟨W,env,d,env',ok,q,k⟩:=c;cases e1:f env with
 | none=>simp[e1] at q
 | some r =>
   obtain⟨e,D⟩:=r;cases e2:g D with
   | none=>simp[e1,e2] at q
   | some r2 =>
     obtain⟨i,I⟩:=r2;cases e with
     | lst ds =>
       cases i with
       | lst es =>
         by_cases R:Few (ds.length+es.length)
         ·have q:some (ds++es,I)=some (d,env'):=by simpa only[fCat,e1,e2,ac,if_pos R] using q
          cases q;refine⟨W,env,_,_,ok,e1,λW1 v1 H1 j J p1=>⟨W1,D,_,_,J,e2,λm v2 H2 s2 S p2=>?_⟩⟩;obtain⟨l,us,rfl,h,r⟩:=(J.rep s2 p1).lst_;obtain⟨l',U,rfl,h',V⟩:=p2.lst_;refine⟨l,l',us,U,rfl,rfl,h.sq,h'.sq,?_,λn o=>?_⟩
          ·rw[<-r.length,<-V.length];exact dc R (by rw[sizeLine_eq];decide)
          ·obtain⟨h1,h2,p,s,t,u⟩:=tw S (r.append V) o
           exact k m n _ _ ((j.trans s2).trans h1) h2 p s t u
         ·simp only[fCat,e1,e2,ac,if_neg R] at q;cases q
       | _=>simp[e1,e2] at q
     | _=>simp[e1,e2] at q⟩
@[simp] def jd(i:Nat):FE:=λe=>match e[i]? with
 | some (some (.ow ds))=>some (.int ds.length,e)
 | some (some (.sh (.lst ds)))=>some (.int ds.length,e)
 | some (some (.sh (.tup ds)))=>some (.int ds.length,e)
 | _=>none
theorem kx{Nn Cn:gj}{i:Nat}(an:Ats Nn Cn X)(R:Bn X "len":=by walk_at "b")(J:Nn[i]?=some x:=by rfl)(S:starEach [.Name x p1] X.env=(false,eval (.Name x p1) X.env)::starEach [] X.env:=by rfl):DEx X G H0 (.Call (.Name "len" p') [.Name x p1] [] pos) (jd i) :=
 ⟨(xb zhl R.g R.m uh (md ((an.a J).pe) og S) (by decide) (by decide) S rfl).imp λσ H Q U=>by
  obtain⟨W,env,d,env',ok,q,k⟩:=U;unfold jd at q;split at q
  ·rename_i ds D
   cases q;obtain⟨v,I,l,vs,rfl,Y,V,r⟩:=ok.slot i _ D;exact⟨_,I,l,vs,rfl,.inl (.inl (.inl V)),by rw[<-r.length];exact k W _ H Step.refl ok (.int _)⟩
  ·rename_i ds D
   cases q;obtain⟨v,I,r⟩:=ok.slot i _ D;obtain⟨l,us,rfl,h,r⟩:=Rep.lst_ r;exact⟨_,I,l,us,rfl,.inl h.sq,by rw[<-r.length];exact k W _ H Step.refl ok (.int _)⟩
  ·rename_i ds D
   cases q;obtain⟨v,I,r⟩:=ok.slot i _ D;obtain⟨l,us,rfl,h,r⟩:=Rep.tup_ r;exact⟨_,I,l,us,rfl,.inr (SqT.of h),by rw[<-r.length];exact k W _ H Step.refl ok (.int _)⟩
  ·cases q⟩
@[simp] def ixSl:D->Option kf->ka
 | .int k,some (some (.ow ds))=>atI ds k
 | .int k,some (some (.sh (.lst ds)))=>atI ds k
 | .int k,some (some (.sh (.tup ds)))=>atI ds k
 | _,_=>none
@[simp] def fIxV(i:Nat)(g:FE):FE:=λe=>match e[i]? with
 | some (some _)=>(g e).bind λr=>(ixSl r.1 r.2[i]?).map λd=>(d,r.2)
 | _=>none
theorem fb{Nn Cn:gj}{i:Nat}(m:DEx X G H0 b g)(an:Ats Nn Cn X)(n:uz b:=by intro _ _;rfl)(Z:Nn[i]?=some x:=by rfl):DEx X G H0 (.Subscript (.Name x p1) b pos) (fIxV i g) :=
 ⟨(yd zx5 ((an.a Z).pe) m.out n).imp λσ H Q o=>by
  obtain⟨W,env,d,env',ok,q,k⟩:=o;unfold fIxV at q;split at q;case h_2=>cases q
  rename_i s c;obtain⟨v,Y,_⟩:=ok.slot i _ c;cases e1:g env with
  | none=>rw[e1] at q;cases q
  | some r =>
    obtain⟨f,J⟩:=r;rw[e1,ac] at q;cases e3:ixSl f J[i]? with
    | none=>rw[e3] at q;cases q
    | some d' =>
      rw[e3] at q;cases q;refine⟨v,Y,W,env,f,_,ok,e1,λW1 v1 H1 e D p1=>?_⟩;unfold ixSl at e3;split at e3
      ·rename_i R ds S
       obtain⟨j,I,l,vs,rfl,t,p,r⟩:=D.slot i _ S;rw[Y] at I;cases I;obtain⟨u,U,V⟩:=wn r e3;exact .inl ⟨l,vs,R,u,rfl,p1.int_,.inl (.inl p),U,k W1 _ H1 e D V⟩
      ·rename_i R ds S
       obtain⟨j,I,r⟩:=D.slot i _ S;rw[Y] at I;cases I;obtain⟨l,us,rfl,h,r⟩:=Rep.lst_ r;obtain⟨u,U,V⟩:=wn r e3;exact .inl ⟨l,us,R,u,rfl,p1.int_,h.sq,U,k W1 _ H1 e D V⟩
      ·rename_i R ds S
       obtain⟨j,I,r⟩:=D.slot i _ S;rw[Y] at I;cases I;obtain⟨l,us,rfl,h,r⟩:=Rep.tup_ r;obtain⟨u,U,V⟩:=wn r e3;exact .inr (.inl ⟨l,us,R,u,rfl,p1.int_,SqT.of h,U,k W1 _ H1 e D V⟩)
      ·cases e3⟩
end
section
variable {X:Cx} {G:Gd} {H0:Hp} {a b c e:Expr} {es rest:g9} {f g:FE} {F:FA} {p q:FT} {pos p' p1 pos1:Pos} {x:Str}
@[simp] def tyD:D->String | .non=>"NoneType" | .bl _=>"bool" | .int _=>"int" | .str _=>"str" | .tup _=>"tuple" | .lst _=>"list" | .dct _ _=>"dict" | .exc _=>"exc"
@[simp] def isiT(t T:String):Bool:=t==T || (t=="bool" && T=="int")
def zts(T:String):Bool:=T=="int" || T=="bool" || T=="str" || T=="tuple" || T=="list"
theorem zv7(K:h8)(d:D)(T:String)(h:zts T=true)(I:∀a,d≠.exc a):PySem.W.kitOne K (.type (tyD d)) (.type T)=some (isiT (tyD d) T):=by
 simp only[zts,Bool.or_eq_true,beq_iff_eq] at h;rcases h with(((rfl | rfl) | rfl) | rfl) | rfl <;> cases d <;> first | rfl | exact absurd rfl (I _)
theorem zv8:m7 X (.builtin "isinstance") (λxs H Q=>∃x T t b,xs=[x,.ty T]/\(TyOf X.K H x t\/(t=.type "list"/\∃a us,x=.ref a/\SqL X.K H a us))/\PySem.W.kitOne X.K t (.type T)=some b/\Q (.bl b) H):=by
 intro pins s σ H xs us Q I r h;obtain⟨x,T,t,b,rfl,D,e,q⟩:=h;obtain⟨u,R,rfl,J,rt⟩:=zvs r;cases (show R=Value.type T from rt);rcases D with D | ⟨rfl,a,ws,rfl,hq⟩
 ·exact zta I J D e λtk=>⟨.bl b,H,I.tok tk,rfl,q⟩
 ·cases (show u=Value.ref a from J)
  obtain⟨its,_,⟨o,n,h1,h2,_⟩,_⟩:=I.list hq;exact d6 nh I.kIn ⟨o,h1,h2⟩ e (λz=>nomatch z) λtk=>⟨.bl b,H,I.tok tk,rfl,q⟩
theorem z3b{K:h8}{H:Hp}{O:Addr->Prop}{d:D}{v:V}(r:Rep K H O d v)(I:∀a,d≠.exc a):TyOf K H v (.type (tyD d))\/(Value.type (tyD d)=.type "list"/\∃a us,v=.ref a/\SqL K H a us):=by
 cases r with
 | non=>exact .inl .non
 | bl b=>exact .inl (.bl b)
 | int i=>exact .inl (.int i)
 | str s=>exact .inl (.str s)
 | tup h _=>exact .inl (.tup h)
 | lst o h _=>exact .inr ⟨rfl,_,_,rfl,.inl h⟩
 | klst h _=>exact .inr ⟨rfl,_,_,rfl,.inr h⟩
 | dct h _=>exact .inl (.dK h)
 | exc a=>exact absurd rfl (I a)
theorem zqn:bootBuiltins "isinstance" = some (.builtin "isinstance"):=by decide +kernel
@[simp] def fIsi(T:String)(f:FE):FE:=λe=>(f e).bind λr=>match r.1 with | .exc _=>none | d=>some (.bl (isiT (tyD d) T),r.2)
structure Ty (x:Str) (T:String):Prop where
 b:bootBuiltins x=some (.type T)
 k:zts T=true
 d:(x==("__debug__" : Str))=false
 n:x ≠ "__name__"
theorem uv{T:String}(D:Ty x T)(c:DEx X G H0 a f)(V:Bn X "isinstance":=by walk_at "b")(I:Gl X x:=by walk_at "g")(J:X.mg x=none:=by assumption)(Y:starEach [a,.Name x p1] X.env=(false,eval a X.env)::starEach [.Name x p1] X.env:=by rfl)(R:starEach [.Name x p1] X.env=(false,eval (.Name x p1) X.env)::starEach [] X.env:=by rfl)(S:(backTo pos (starEach [.Name x p1] X.env)).any (·.1)=false:=by rfl) :
  DEx X G H0 (.Call (.Name "isinstance" p') [a,.Name x p1] [] pos) (fIsi T f) :=
 ⟨(xb zv8 V.g V.m zqn (md c.out (md (zst (v:=.ty T) I J D.b rfl D.n D.d) og R) Y) (by decide) (by decide) Y S).imp λσ H Q e=>by
  obtain⟨W,env,d,env',ok,q,k⟩:=e;cases e1:f env with
  | none=>simp[e1] at q
  | some r =>
    unfold fIsi at q;rw[e1,ac] at q;split at q
    ·cases q
    ·rename_i Z
     cases q;exact⟨W,env,_,_,ok,e1,λW1 v1 H1 h U p1=>⟨v1,T,_,_,rfl,z3b p1 Z,zv7 X.K _ T D.k Z,k W1 _ H1 h U (.bl _)⟩⟩⟩
abbrev FI:=DE0->Option (i0×DE0)
structure Walk (K:h8) (G:Gd) (J:It) (W:Addr->Prop) (H:Hp) (ds:i0):Prop where
 go:∀W' H' (i:Nat) d,Step W H W' H'->ds[i]?=some d->J.go i H'/\∀x H'',J.yld i H' x H''->H''=H'/\Rep K H' (Ow G W') d x
 stop:∀W' H',Step W H W' H'->J.stop ds.length H'
def tDI(K:h8)(G:Gd)(H0:Hp)(f:FI):TI:=λσ H R=>∃W env ds env',Ok K G H0 W env σ H/\f env=some (ds,env') /\
 ∀W' J H',Step W H W' H'->Ok K G H0 W' env' σ H'->Walk K G J W' H' ds->R J H'
structure DIC (Cm:Cx->Prop) (X:Cx) (G:Gd) (H0:Hp) (tg:Expr) (e:Expr) (f:FI):Prop where
 out:PIC Cm X tg e (tDI X.K G H0 f)
abbrev DIx:=DIC λX=>X.calm=true
theorem PI.imp{X:Cx}{tg e:Expr}{t t':TI}(h:PI X tg e t)(i:∀σ H Q,t' σ H Q->t σ H Q):PI X tg e t':=λpins s σ H Q I q=>h pins s σ H Q I (i σ H Q q)
theorem PIC.imp{Cm:Cx->Prop}{X:Cx}{tg e:Expr}{t t':TI}(h:PIC Cm X tg e t)(i:∀σ H Q,t' σ H Q->t σ H Q):PIC Cm X tg e t':=λpins s σ H Q I q=>h pins s σ H Q I (i σ H Q q)
theorem zof{W:Addr->Prop}{H:Hp}{a:Addr}{vs:ik}{ds:i0}{env:DE0}{σ:St}(ok:Ok X.K G H0 W env σ H)(h:LsOk X.K H (Ow G W) a vs)(r:Reps X.K H (Ow G W) ds vs):Walk X.K G (Itl X.K a) W H ds where
 go:=λW' H' i d st e=>by
  obtain⟨v,I,J⟩:=(ok.reps st r).get e;have h':=(ok.lsstep st h).sq;exact⟨⟨vs,v,h',I⟩,λx H'' ⟨e2,y⟩=>⟨e2,by have:=y vs h';rw[I] at this;cases this;exact J⟩⟩
 stop:=λW' H' st=>⟨vs,(ok.lsstep st h).sq,by rw[r.length];exact b6 _⟩
theorem zv9{W:Addr->Prop}{H:Hp}{a:Addr}{vs:ik}{ds:i0}{env:DE0}{σ:St}(ok:Ok X.K G H0 W env σ H)(h:H a=some (.tup vs))(r:Reps X.K H (Ow G W) ds vs):Walk X.K G (Itt X.K a) W H ds where
 go:=λW' H' i d st e=>by
  obtain⟨v,I,J⟩:=(ok.reps st r).get e;have h':=ok.tstep st a vs h;exact⟨⟨vs,v,SqT.of h',I⟩,λx H'' ⟨e2,y⟩=>⟨e2,by have:=y vs (SqT.of h');rw[I] at this;cases this;exact J⟩⟩
 stop:=λW' H' st=>⟨vs,SqT.of (ok.tstep st a vs h),by rw[r.length];exact b6 _⟩
theorem zwa{W:Addr->Prop}{H:Hp}{lo:Int}{n:Nat}:Walk X.K G (Itr lo n) W H ((List.range n).map λ(k:Nat)=>D.int (lo+(k:Int))) where
 go:=λW' H' i d st e=>by
  rw[bz] at e;have hi:i<n:=by
   have:=(ah.mp (show((List.range n).map λ(k:Nat)=>D.int (lo+(k:Int)))[i]?=some d by rw[bz];exact e)).1;simpa using this
  rw[List.getElem?_range hi] at e;cases e;exact⟨hi,λx H'' ⟨e2,y⟩=>⟨e2,by rw[y];exact .int _⟩⟩
 stop:=λW' H' st=>by rw[ae,j5];exact b6 _
@[simp] def fiS(f:FE):FI:=λe=>(f e).bind λr=>match r.1 with | .lst ds=>some (ds,r.2) | .tup ds=>some (ds,r.2) | _=>none
theorem PI.or{tg:Expr}{t t':TI}(h:PI X tg e t)(h':PI X tg e t'):PI X tg e (λσ H R=>t σ H R\/t' σ H R):=λpins s σ H R I q=>q.elim (h pins s σ H R I) (h' pins s σ H R I)
theorem kq{tg:Expr}(h:DEx X G H0 e f):DIx X G H0 tg e (fiS f):=⟨((zsz h.out).or (z13 h.out)).imp λσ H R S=>by
 obtain⟨W,env,ds,env',ok,q,k⟩:=S;cases e1:f env with
 | none=>simp[e1] at q
 | some r =>
   obtain⟨d,I⟩:=r;cases d with
   | lst ds' =>
     have q:some (ds',I)=some (ds,env'):=by simpa[fiS,e1] using q
     cases q;refine .inl ⟨W,env,_,_,ok,e1,λW1 v1 H1 J D p1=>?_⟩;obtain⟨a,vs,rfl,h.out,r⟩:=p1.lst_;exact⟨a,rfl,⟨vs,h.out.sq⟩,k W1 _ H1 J D (zof D h.out r)⟩
   | tup ds' =>
     have q:some (ds',I)=some (ds,env'):=by simpa[fiS,e1] using q
     cases q;refine .inr ⟨W,env,_,_,ok,e1,λW1 v1 H1 J D p1=>?_⟩;obtain⟨a,vs,rfl,h.out,r⟩:=p1.tup_;exact⟨a,rfl,⟨vs,SqT.of h.out⟩,k W1 _ H1 J D (zv9 D h.out r)⟩
   | _=>simp[e1] at q⟩
def rngD(lo:Int)(n:Nat):i0:=(List.range n).map λ(k:Nat)=>D.int (lo+(k:Int))
def iR1(ds:i0):Option i0:=match ds with | [.int j]=>if Bnd (-(2 ^ 62)) (2 ^ 62) j then some (rngD 0 j.toNat) else none | _=>none
theorem zl2{Cm:Cx->Prop}{tg:Expr}(hT:∀(it:Addr) (lo:Int) (n:Nat),ur Cm X.prog X.w X.K tg (Itr lo n) [it] it (λi h=>IsRangeIter h it (lo+(i:Nat)*1) ((n:Int)-(i:Nat)) 1))(U:DAx X G H0 [a] F)(J:Bn X "range":=by walk_at "b")(V:starEach [a] X.env=[(false,eval a X.env)]:=by rfl):DIC Cm X G H0 tg (.Call (.Name "range" p') [a] [] pos) (jk iR1 F) :=
 ⟨PIC.imp (zrz hT J.g J.m U.out V) λσ H R Y=>by
  obtain⟨W,env,ds,env',ok,q,k⟩:=Y;cases e1:F env with
  | none=>simp[e1] at q
  | some z =>
    obtain⟨as,D⟩:=z;cases e2:iR1 as with
    | none=>simp[e1,e2] at q
    | some d' =>
      have q:some (d',D)=some (ds,env'):=by simpa[jk,e1,e2] using q
      cases q;refine⟨W,env,as,_,ok,e1,λW1 vs H1 Z I p1=>?_⟩;unfold iR1 at e2;split at e2
      ·rename_i j
       split at e2
       ·rename_i S
        cases e2;obtain⟨v,rfl,b⟩:=pk p1;cases b;exact⟨j,rfl,S.1,S.2,k W1 _ H1 Z I zwa⟩
       ·cases e2
      ·cases e2⟩
theorem ub{tg:Expr}(D:DAx X G H0 [a] F)(I:Bn X "range":=by walk_at "b")(J:starEach [a] X.env=[(false,eval a X.env)]:=by rfl):DIx X G H0 tg (.Call (.Name "range" p') [a] [] pos) (jk iR1 F):=zl2 (λit lo n=>zh7 it lo n) D I J
def capt:kf->kf | some (.sh d)=>some (.sh d) | _=>none
def lu(tt:FT)(te:FE)(base:DE0):i0->Option i0
 | []=>some []
 | d::r=>(tt (some (.sh d)::base)).bind λb=>if b.1=true then(te b.2).bind λv=>(lu tt te base r).map (v.1::·) else lu tt te base r
def iq(fi:FI)(ix:g0)(tt:FT)(te:FE):FA:=λe=>(fi e).bind λr=>if Few r.1.length then(lu tt te (ix.map λj=>capt (r.2.getD j none)) r.1).map λds=>(ds,r.2) else none
@[simp] def fYes:FT:=λe=>some (true,e)
def tDxT(K:h8)(f:FT):TT:=λσ H Q=>∃G H0,tDT K G H0 f σ H Q
def tDx(K:h8)(f:FE):TE:=λσ H Q=>∃G H0,tD K G H0 f σ H Q
def NoW:Addr->Prop:=λ_=>False
theorem zms{W:Addr->Prop}{env:DE0}{σ:St}{H:Hp}{ix:g0}{d:D}{v:V}(ok:Ok X.K G H0 W env σ H)(r:Rep X.K H (Ow G W) d v) :
  Ok X.K (gd λa=>Ow G W a\/H a=none) H NoW (some (.sh d)::ix.map λj=>capt (env.getD j none)) (some v::ix.map λj=>σ.getD j none) H:=by
 have R:∀ {d:D} {v:V},Rep X.K H (Ow G W) d v->Rep X.K H (Ow (gd λa=>Ow G W a\/H a=none) NoW) d v:=λr=>r.mono (λ_ _ h=>h) λa us o h=>⟨⟨.inl o,λz=>z⟩,h⟩;have I:∀(i:Nat) (s:Sl),(some (Sl.sh d)::ix.map λj=>capt (env.getD j none))[i]?=some (some s)->∃d',s=.sh d':=λi s z=>by
  cases i with
  | zero=>exact⟨d,by simpa using z.symm⟩
  | succ i =>
    simp only[ai,bz] at z;cases q:ix[i]? with
    | none=>rw[q] at z;cases z
    | some j =>
      rw[q] at z;have z:capt (env.getD j none)=some s:=bn z;unfold capt at z;split at z
      ·cases z;exact⟨_,rfl⟩
      ·cases z
 refine⟨Same.refl _,λa z=>.inr z,λl z=>z.elim,λi s e=>?_,λi j S s2 v1 v2 a J _ _ _ o _=>by obtain⟨d',rfl⟩:=I i S J;exact o.elim,by simp⟩;cases i with
 | zero =>
   cases e;exact⟨v,rfl,R r⟩
 | succ i =>
   simp only[ai,bz] at e ⊢;cases q:ix[i]? with
   | none=>rw[q] at e;cases e
   | some j =>
     rw[q] at e;have e:capt (env.getD j none)=some s:=bn e;rw[bu] at e;cases q2:env[j]? with
     | none=>rw[q2] at e;cases e
     | some o =>
       rw[q2] at e;have e:capt o=some s:=e;unfold capt at e;split at e
       ·rename_i d'
        cases e;obtain⟨u,J,U⟩:=ok.slot j _ q2;exact⟨u,by simp only[aj];rw[bu,J];rfl,R U⟩
       ·cases e
theorem zqo{fi:FI}{ix:g0}{tt:FT}{te:FE}:∀σ H Q,tDF X.K G H0 (iq fi ix tt te) σ H Q->vz (tDI X.K G H0 fi) ix (tDxT X.K tt) (tDx X.K te) σ H Q:=λσ H Q u=>by
 obtain⟨W,env,d,env',ok,q,k⟩:=u;cases e1:fi env with
 | none=>simp[iq,e1] at q
 | some z =>
   obtain⟨ds,V⟩:=z;by_cases c:Few ds.length
   ·simp only[iq,e1,ac,if_pos c] at q
    cases e2:lu tt te (ix.map λj=>capt (V.getD j none)) ds with
    | none=>rw[e2] at q;cases q
    | some outs =>
      rw[e2] at q;cases q;refine⟨W,env,ds,_,ok,e1,λW1 J H1 A f s=>?_⟩;refine⟨λi m H' ys=>∃rest D,m=ds.length-i/\i<=ds.length/\Same H1 H'/\Reps X.K H' (Ow G W1) D ys/\D.length<=i/\lu tt te (ix.map λj=>capt (env'.getD j none)) (ds.drop i)=some rest/\d=D++rest,⟨ds.length,d,[],rfl,fz _,Same.refl _,.nil,b6 _,e2,rfl⟩,?_⟩;rintro i m H' ys ⟨rest,D,rfl,hi,sm,rp,hd,ec,rfl⟩;have st:Step W1 H1 W1 H':=Step.same sm;have I:Ok X.K G H0 W1 env' σ H':=f.same sm;by_cases S:i<ds.length
      ·have B:ds.drop i=ds[i]::ds.drop (i+1):=em S
       rw[B] at ec;obtain⟨C,E⟩:=s.go W1 H' i ds[i] st (by simp[S]);refine .inr ⟨C,λx g y=>?_⟩;obtain⟨rfl,F⟩:=E x g y;have n:=zms (ix:=ix) I F;unfold lu at ec;cases e3:tt (some (.sh ds[i])::ix.map λj=>capt (env'.getD j none)) with
       | none=>rw[e3] at ec;cases ec
       | some bb =>
         obtain⟨b,R⟩:=bb;rw[e3,ac] at ec;refine⟨_,_,NoW,_,b,R,n,e3,λL H2 s2 U=>?_⟩;have p:Same H1 H2:=sm.trans U.stay;have r:Reps X.K H2 (Ow G W1) D ys:=I.reps (Step.same U.stay) rp;cases b with
         | false =>
           exact⟨ds.length-(i+1),by lia,rest,D,rfl,S,p,r,by lia,ec,rfl⟩
         | true =>
           cases e4:te R with
           | none=>simp only[e4] at ec;cases ec
           | some vv =>
             obtain⟨t,Y⟩:=vv;simp only[e4,ac] at ec;cases e5:lu tt te (ix.map λj=>capt (env'.getD j none)) (ds.drop (i+1)) with
             | none=>rw[e5] at ec;cases ec
             | some rest' =>
               rw[e5] at ec;cases ec;refine⟨_,_,L,R,t,Y,U,e4,λW3 v H3 s3 Z r3=>⟨?_,ds.length-(i+1),by lia,rest',D++[t],rfl,S,sm.trans Z.stay,?_,by rw[am,ib];lia,by first | exact e5 | rfl,by simp⟩⟩
               ·have:ys.length<2 ^ 20:=by rw[<-rp.length];have:ds.length<=2 ^ 20:=c;lia
                exact aw this (by rw[sizeLine_eq];decide)
               ·refine(I.reps (Step.same Z.stay) rp).append (.cons (r3.mono (λ_ _ h=>h) λa us o h=>⟨?_,h⟩) .nil)
                rcases o.1 with z | z
                ·exact z
                ·exact⟨I.good a (I.stay.free z),λw=>by obtain⟨_,us,q⟩:=I.wl a w;rw[z] at q;cases q⟩
      ·have e:i=ds.length:=by lia
       subst e;rw[ip] at ec;cases ec;refine .inl ⟨s.stop W1 H' st,by rw[<-rp.length];exact dc hd (dc c (by rw[sizeLine_eq];decide)),λl M=>?_⟩;obtain⟨h1,h2,N,O,P,T⟩:=tw I rp M;rw[de] at k;exact k W1 l _ _ ((A.trans st).trans h1) h2 N O P T
   ·simp only[iq,e1,ac,if_neg c] at q;cases q
theorem yc{D:Cx}(R:D.K=X.K):PIfs D [] (tDxT X.K fYes):=λpins s σ H Q I J=>by
 obtain⟨G,H0,W,env,b,env',ok,e,k⟩:=J;cases e;exact zv0 pins s σ H Q I (k W H Step.refl ok)
theorem if_x{D:Cx}{tt:FT}(J:D.K=X.K)(h:∀G H0,DTx D G H0 c tt):PIfs D [c] (tDxT X.K tt):=λpins s σ H Q I ⟨G,H0,q⟩=>zv1 (h G H0).out pins s σ H Q I (by rw[J];exact q)
theorem el_x{D:Cx}{te:FE}(J:D.K=X.K)(h:∀G H0,DEx D G H0 e te):PE D e (tDx X.K te):=λpins s σ H Q I ⟨G,H0,q⟩=>(h G H0).out pins s σ H Q I (by rw[J];exact q)
theorem rd{Nn Cn:gj}{ix:g0}{sc:Scope}{px:Pos}{fi:FI}{te:FE}(an:Ats Nn Cn X)(hi:DIx X G H0 (.Name x px) a fi)(I:∀cl C s₂ H₂ fp G H0,Ats (x::(subN Nn ix)) (subN Nn ix) (i8 X x (subN Nn ix) sc cl C s₂ H₂ fp)->DEx (i8 X x (subN Nn ix) sc cl C s₂ H₂ fp) G H0 e te)(D:om Nn Cn ix x sc=true:=by decide +kernel)(J:X.calm=true:=by rfl)(R:∀v,foldedSetIterable a X.env v=pure v:=by intro _;rfl) :
  DFx X G H0 (.ListComp e [⟨.Name x px,a,[],0⟩] sc pos) (iq fi ix fYes te) :=
 ⟨(zpg (u9 an D) (λ_ _ _ _ _ _ _ _ _=>J) hi.out (λcl C s₂ H₂ fp _=>yc (X:=X) rfl) (λcl C s₂ H₂ fp _=>el_x (X:=X) rfl (λG H0=>I cl C s₂ H₂ fp G H0 (rq D))) R).imp zqo⟩
theorem zog{Nn Cn:gj}{ix:g0}{sc:Scope}{px:Pos}{fi:FI}{te:FE}{tt:FT}{R:Expr}(an:Ats Nn Cn X)(hi:DIx X G H0 (.Name x px) a fi)(I:∀cl C s₂ H₂ fp G H0,Ats (x::(subN Nn ix)) (subN Nn ix) (i8 X x (subN Nn ix) sc cl C s₂ H₂ fp)->DTx (i8 X x (subN Nn ix) sc cl C s₂ H₂ fp) G H0 R tt)(J:∀cl C s₂ H₂ fp G H0,Ats (x::(subN Nn ix)) (subN Nn ix) (i8 X x (subN Nn ix) sc cl C s₂ H₂ fp)->DEx (i8 X x (subN Nn ix) sc cl C s₂ H₂ fp) G H0 e te)(D:om Nn Cn ix x sc=true:=by decide +kernel)(S:X.calm=true:=by rfl)(U:∀v,foldedSetIterable a X.env v=pure v:=by intro _;rfl) :
  DFx X G H0 (.ListComp e [⟨.Name x px,a,[R],0⟩] sc pos) (iq fi ix tt te) :=
 ⟨(zpg (u9 an D) (λ_ _ _ _ _ _ _ _ _=>S) hi.out (λcl C s₂ H₂ fp _=>if_x (X:=X) rfl (λG H0=>I cl C s₂ H₂ fp G H0 (rq D))) (λcl C s₂ H₂ fp _=>el_x (X:=X) rfl (λG H0=>J cl C s₂ H₂ fp G H0 (rq D))) U).imp zqo⟩
end
def Here(h h':Heap):Prop:=∀b o,h.get? b=some o->∃o',h'.get? b=some o'
theorem Here.trans{a b c:Heap}(x:Here a b)(y:Here b c):Here a c:=λp o q=>let ⟨o',e⟩:=x p o q;y p o' e
theorem zmt{a:Addr}{f:Obj->Obj}(D:∀o,h.get? a=some o->(h.update a f).get? a=some (f o)):Here h (h.update a f):=λb o q=>by
 by_cases e:a=b
 ·subst e;exact⟨_,D o q⟩
 ·exact⟨o,(cf _ _ e).trans q⟩
structure XOk (B:Heap) (l:g8) (e:Addr) (cls fl:Value) (h:Heap):Prop where
 stay:B.StaysIn h
 new:B.get? e=none
 fr:h.FunFrames B l
 tr:∃oe vs T oT ts,h.get? e=some oe/\oe.cls=cls/\oe.dict=none/\oe.data=.fields vs/\vs[1]?=some (.ref T)/\vs[2]?=some .none/\B.get? T=none/\T≠e/\h.get? T=some oT/\oT.data=.fields ts/\ts[3]?=some fl
theorem ztu(o:Obj)(f:ic->ic):(o.mapFields f).dict=o.dict:=by obtain⟨c,d,D,sl⟩:=o;cases D <;> rfl
variable{env:Env}{e L:Addr}{M:Model}{A:Around}{E:Value->Shared->Prop}{B:Heap}{outer:g8}
theorem zyd{D:Obj}{vs:ic}{g:Value}{nx:Bool}(p:A.frames=some (env::outer))(U:s.heap.FunFrames B (env::outer))(r:env.frame=some L)(V:s.heap.get? e=some D)(gd:D.dict=none)(I:D.data=.fields vs)(i:1<vs.size)(t:vs[2]?=some .none)(k1:B.StaysIn s.heap)(k2:B.get? e=none)(h:∀h',XOk B (env::outer) e D.cls (rawInt L) h'->s.heap.UpToSlots h'->Here s.heap h'->Q () { s with heap:=h' }) :
  wpAny M A (do let a <-frameOf env;let pl <-entryPlaceOf L nx;let b <-EntryCells.newEntry g a .none (rawInt L) .none pl;setField (.ref e) 1 b) Q E s:=by
 have Y:e∉(env::outer).filterMap (·.frame):=λz=>by
  obtain⟨_,o,j,u⟩:=U.mem z;rw[V] at j;cases j;exact u vs I
 refine wpAny_bind (wpAny_frameOf_fun p U r λh1 J=>?_);refine wpAny_bind (wpAny_entryPlaceOf λpl R=>?_);refine wpAny_bind (wpAny_newObj_type ?_ (R.sizeOk5 _ _ _ _ _));have k:h1.get? e=some D:=(J.2.1 e Y).trans V;have l:B.StaysIn h1:=λb o q=>(J.2.1 b λz=>by rw[(U.mem z).1] at q;cases q).trans (k1 b o q);generalize S:({ cls:=.type "traceback",dict:=none,data:=.fields ([g,.ref L,.none,rawInt L,.none]++(if pl.isEmpty then List.replicate 6 Value.none else pl)).toArray }:Obj)=ob;have Z:∃ts,ob.data=.fields ts/\ts[3]?=some (rawInt L):=by subst S;exact⟨_,rfl,by first | (simp;done) | (rcases R with rfl | ⟨_,_,_,_,_,_,_,rfl⟩ <;> simp)⟩
 have c:ob.isFreed=false:=by subst S;rfl
 have d:=ao (h:=h1) ob k;have m:h1.objs.size≠e:=ku (az k);have f:=Obj.data_mapFields I (·.setIfInBounds 1 (Value.ref h1.objs.size));refine wpAny_setField d I i (h _ ?_ ?_ ?_)
 ·refine⟨λb o q=>?_,k2,U.of_keeps λb o q n=>?_,?_⟩
  ·rw[cf _ _ (λz:e=b=>by rw[<-z,k2] at q;cases q)]
   exact ao _ (l b o q)
  ·obtain⟨sl,z⟩:=J.2.2 b o q
   refine⟨{ o with slots:=sl },?_,rfl⟩;rw[cf _ _ (λy:e=b=>by rw[<-y,V] at q;cases q;exact n vs I)];exact ao _ z
  ·obtain⟨ts,v,w⟩:=Z
   refine⟨_,_,h1.objs.size,ob,ts,fo _ d (Obj.isFreed_of_fields f),Obj.cls_mapFields _ _,(ztu _ _).trans gd,f,by simp[i],by rw[Array.getElem?_setIfInBounds_ne (by decide)];exact t,l.fresh,m,?_,v,w⟩;rw[cf _ _ (Ne.symm m)];exact cb h1 c
 ·intro b o q n
  obtain⟨sl,z⟩:=J.2.2 b o q;refine⟨sl,?_⟩;rw[cf _ _ (λy:e=b=>by rw[<-y,V] at q;cases q;exact n vs I)];exact ao _ z
 ·intro b o q
  obtain⟨sl,z⟩:=J.2.2 b o q;exact zmt (λo q=>fo _ q (by rw[d] at q;cases q;exact Obj.isFreed_of_fields f)) b _ (ao _ z)
variable{l:g8}{cls fl:Value}
theorem zph(x:XOk B l e cls fl s.heap)(h:∀h',XOk B l e cls .none h'->s.heap.UpToSlots h'->Here s.heap h'->Q () { s with heap:=h' }):wpAny M A (setFlight (.ref e) none) Q E s:=by
 obtain⟨d,vs,T,g,ts,R,Z,gd,S,U,a,V,Y,D,I,c⟩:=x.tr;have sz:3<ts.size:=(j2.mp c).1;unfold setFlight;refine wpAny_bind (wpAny_field R S U ?_);have J:=Obj.data_mapFields I (·.setIfInBounds 3 ((none:Option Addr).elim Value.none λf=>rawInt f));refine wpAny_setField D I sz (h _ ⟨λb o q=>?_,x.new,x.fr.of_keeps λb o q n=>⟨o,?_,rfl⟩,_,vs,T,_,_,(cf _ _ Y).trans R,Z,gd,S,U,a,V,Y,fo _ D (Obj.isFreed_of_fields J),J,by simp[sz]⟩ (λb o q n=>⟨o.slots,?_⟩) (zmt λo q=>fo _ q (by rw[D] at q;cases q;exact Obj.isFreed_of_fields J)))
 ·exact(cf _ _ λz=>by rw[<-z,V] at q;cases q).trans (x.stay b o q)
 ·exact(cf _ _ λz=>by rw[<-z,D] at q;cases q;exact n ts I).trans q
 ·exact(cf _ _ λz=>by rw[<-z,D] at q;cases q;exact n ts I).trans q
theorem z5i(Z:A.frames=some (env::outer))(J:env.frame=some L)(x:XOk B (env::outer) e cls .none s.heap)(h:∀h',XOk B (env::outer) e cls (rawInt L) h'->s.heap.UpToSlots h'->Here s.heap h'->Q () { s with heap:=h' }):wpAny M A (noteFrame (.ref e) env) Q E s:=by
 obtain⟨g,vs,T,i,ts,R,a,gd,S,U,c,d,f,D,I,V⟩:=x.tr;subst a;unfold noteFrame;simp only[J];refine wpAny_bind (wpAny_field R S U ?_);refine wpAny_bind (wpAny_field D I V ?_);refine wpAny_bind (wpAny_setField D I (j2.mp V).1 ?_);have Y:∀b o,s.heap.get? b=some o->(∀vs,o.data≠.fields vs)->(s.heap.update T (Obj.mapFields (·.setIfInBounds 3 Value.none))).get? b=some o:=λb o q n =>
  (cf _ _ λz=>by rw[<-z,D] at q;cases q;exact n ts I).trans q
 refine zyd Z (x.fr.of_keeps λb o q n=>⟨o,Y b o q n,rfl⟩) J ((cf _ _ f).trans R) gd S (j2.mp U).1 c (λb o q=>(cf _ _ λz=>by rw[<-z,d] at q;cases q).trans (x.stay b o q)) x.new λh' y u w=>h h' y (λb o q n=>u b o (Y b o q n) n) (Here.trans (zmt λo q=>fo _ q (by rw[D] at q;cases q;exact Obj.isFreed_of_fields (Obj.data_mapFields I _))) w)
theorem z5j(D:A.frames=some (env::outer))(I:env.frame=some L)(x:XOk B (env::outer) e cls .none s.heap)(h:∀h',XOk B (env::outer) e cls .none h'->s.heap.UpToSlots h'->Here s.heap h'->Q () { s with heap:=h' }):wpAny M A (noteFrame (.ref e) env) (λ_ J=>wpAny M A (setFlight (.ref e) none) Q E J) E s :=
 z5i D I x λh1 R S U=>zph R λh2 V Y Z=>h h2 V (S.trans Y) (U.trans Z)
theorem z3c{D:Heap}{args:gr}(R:A.frames=some (env::outer))(S:D.FunFrames B (env::outer))(I:env.frame=some L)(k1:B.StaysIn D)(m:Heap.MadeExcOf D s.heap e cls args)(h:∀h',XOk B (env::outer) e cls .none h'->s.heap.UpToSlots h'->Here s.heap h'->Q () { s with heap:=h' }):wpAny M A (noteFrame (.ref e) env) (λ_ U=>wpAny M A (setFlight (.ref e) none) Q E U) E s:=by
 obtain⟨t,J,_,_⟩:=m.there;have k2:B.get? e=none:=by
  cases q:B.get? e with
  | none=>rfl
  | some o=>have:=k1 e o q;rw[m.new] at this;cases this
 unfold noteFrame;simp only[I];refine wpAny_bind (wpAny_field J rfl (x:=Value.none) rfl ?_);exact zyd R (S.of_keeps λb o q _=>⟨o,m.keeps b o q,rfl⟩) I J rfl rfl (by simp) rfl (λb o q=>m.keeps b o (k1 b o q)) k2 λh1 V Y Z=>zph V λh2 a c d=>h h2 a (Y.trans c) (Z.trans d)
end L2
namespace L2
open PySem PySem.Spec PyProof.Rows PySem.W
def Cl(K:h8)(c:Str)(C:Addr):Prop:=PySem.W.nsIn K mainGlobals c=some (some (.ref C))
def Fly(P:Program)(w:World)(l:g8)(H:Hp)(s:Shared)(C e:Addr)(H':Hp)(s':Shared):Prop :=
 ∃B,XOk B l e (.ref C) .none s'.heap/\(∀b o,s.heap.get? b=some o->H b=none->b∉frs l->B.get? b=some o)/\HOk P w H' B/\Un (frs l) [] H H' s.heap s'.heap/\s'.os=s.os/\AllBare s'.gens
abbrev CXr(P:Program)(w:World):CXT:=λl H s E e s'=>∃ea C H',e=.ref ea/\Fly P w l H s C ea H' s'/\E (.ref C) none H'
def XS(X:Cx)(pins:ia)(σ:St)(H:Hp)(C e:Addr)(s':Shared):Prop :=
 (∃s H1,Inv X pins σ H1 s/\Fly X.prog X.w X.stack H1 s C e H s')\/∃s args,Inv X pins σ H s/\Heap.MadeExcOf s.heap s'.heap e (.ref C) args/\s'={ s with heap:=s'.heap }
variable{CX:CXT}{P:Program}{w:World}{K:h8}{mg:Str->gs}{base:Heap}{x qual:Str}{st:Stmt}{f:Addr}{fd:FuncData}{N ps:gj}{k:Nat}{sp:Sp}
theorem Fun.okX(F:Fun K x qual st f fd)(S:o5 N ps (f9 st))(len:∀vs H Q E,sp vs H Q E->vs.length=ps.length)(D:∀(cdv:Value) (A:Around) (outer:g8) (s:Shared) (H:Hp) (vs:ik) (Q:VK) (E:XK),Room k (A.deeper (envOfC qual (f9 st) s.heap.objs.size f cdv))->sp vs H Q E ->
   ∃t,PSs (cxOf CX P w K mg base N qual (f9 st) f cdv A outer s H E) (lg st) t/\t { nx:=λ_ H'=>Q .non H',rt:=Q } (start N vs) H):FnOk P w K mg base CX (k+1) f fd ps sp:=by
 obtain⟨oc,od,kV,R,Z,an,cdv,ct,osl,rfl,U,I⟩:=F.ex;exact z48 U I S len λA outer s H vs Q E Y J=>D cdv A outer s H vs Q E Y J
theorem Fun.okC(F:Fun K x qual st f fd)(S:o5 N ps (f9 st))(len:∀vs H Q E,sp vs H Q E->vs.length=ps.length)(D:∀(cdv:Value) (A:Around) (outer:g8) (s:Shared) (H:Hp) (vs:ik) (Q:VK) (E:XK),Room k (A.deeper (envOfC qual (f9 st) s.heap.objs.size f cdv))->sp vs H Q E ->
   ∃t,PSs (cxOf CX P w K mg base N qual (f9 st) f cdv A outer s H E).nox (lg st) t/\t { nx:=λ_ H'=>Q .non H',rt:=Q } (start N vs) H):FnOk P w K mg base CX (k+1) f fd ps sp :=
 F.okX S len λcdv A outer s H vs Q E I h=>let ⟨t,p,q⟩:=D cdv A outer s H vs Q E I h;⟨t,p.nox,q⟩
variable{X:Cx}{pins:ia}{σ:St}{H H':Hp}{s s':Shared}{C e:Addr}
theorem Fly.inv(I:Inv X pins σ H s)(f:Fly X.prog X.w X.stack H s C e H' s'):Inv X pins σ H' s':=by
 obtain⟨B,x,_,D,un,os,J⟩:=f;exact I.call' (ch:=[]) os un (D.kept x.stay) J λb z=>absurd z (by simp)
theorem XS.come{E:Value->Shared->Prop}{Q:Unit->Shared->Prop}(h:XS X pins σ H' C e s')(R:X.stack=X.env::X.outer)(j:X.env.frame=some X.env.locals)(k:∀h2 D H1,Inv X pins σ H1 D->Fly X.prog X.w X.stack H1 D C e H' { s' with heap:=h2 }->Q () { s' with heap:=h2 }):wpAny (model X.prog X.w) X.A (noteFrame (.ref e) X.env) (λ_ D=>wpAny (model X.prog X.w) X.A (setFlight (.ref e) none) Q E D) E s':=by
 rcases h with⟨D,H1,I,f⟩ | ⟨D,args,I,m,es⟩
 ·obtain⟨B,x,l,p,un,os,r⟩:=f
  have st:=I.stack;rw[R] at x st;refine z5j (I.ok.frames.trans (by rw[R])) j x λh2 S Y U=>k h2 D H1 I ⟨B,R ▸ S,l,p,⟨λb o q n J _=>S.stay b o (l b o q n J),λb o q n J Z=>?_,un.free,λb o q Z=>?_,un.tups,un.frzs,un.tbls⟩,os,r⟩
  ·obtain⟨sl,z⟩:=un.slot b o q n J Z
   rw[R] at J;obtain⟨_,s,y,d⟩:=st.mem J;rw[q] at y;cases y;obtain⟨g,t⟩:=Y b _ z d;exact⟨g,t⟩
  ·obtain⟨o',z⟩:=un.there b o q Z
   exact U b o' z
 ·have st:=I.stack
  have v:∀b∈frs X.stack,H' b=none:=I.stkFree;have V:∀b o,H' b=some o->b∉frs X.stack:=λb o q z=>by rw[v b z] at q;cases q
  have i:HOk X.prog X.w H' (hideAll D.heap (frs X.stack)):=λb o q =>
   (I.hok b o q).stay (λc u hc z=>hideAll_get _ z (by rcases hc with rfl | hc;exact V _ _ q;exact V _ _ hc)) (λ_ z=>z) λ_ _ z=>z
  have F:D.heap.FunFrames (hideAll D.heap (frs X.stack)) (X.env::X.outer):=R ▸ funFrames_hide (as:=frs X.stack) st λenv U a G=>mr.mpr ⟨env,U,G⟩;refine z3c (B:=hideAll D.heap (frs X.stack)) (I.ok.frames.trans (by rw[R])) F j (λb o q=>of_hideAll _ q) m λh2 S Y U=>k h2 D H' I ⟨_,R ▸ S,λb o q n J=>hideAll_get _ q J,i,⟨λb o q n J _=>S.stay b o (hideAll_get _ q J),λb o q n J _=>?_,λ_ _ _ n _=>n,λb o q _=>U b o (m.keeps b o q),λ_ _ z=>z,λ_ _ _ z=>z,λ_ ps z=>⟨#[],by rw[Array.append_empty];exact z⟩⟩,by rw[es],by rw[es];exact I.bare⟩;obtain⟨_,s,y,d⟩:=st.mem J;rw[q] at y;cases y;exact Y b o (m.keeps b o q) d
theorem zjx{scope:Scope}{D:Value}{A:Around}{outer:g8}{s₀:Shared}{H₀:Hp}{E:XK}(h:XS (cxOf (CXr P w) P w K mg base N qual scope f D A outer s₀ H₀ E) pins σ H' C e s')(S:E (.ref C) none H'):(cxOf (CXr P w) P w K mg base N qual scope f D A outer s₀ H₀ E).xe (.ref e) s':=by
 refine wpAny_bind (h.come rfl rfl λh2 Y H1 I f=>⟨e,C,H',rfl,?_,S⟩);have J:=f.inv I;obtain⟨B,x,U,V,_⟩:=f;refine⟨B,⟨x.stay,x.new,x.fr.2.2,x.tr⟩,λb o q n R=>?_,V,J.base,J.os,J.bare⟩;refine U b o (I.base.keep b o q n R (by simp[cxOf])) (I.base.free b o q n (by simp[cxOf])) λz=>?_;rcases b7.mp (show b∈s₀.heap.objs.size::frs outer from z) with z | z
 ·rw[z] at q;exact absurd (az q) (fj _)
 ·exact R z
end L2
namespace L2
open PySem PySem.Spec PyProof.Rows
inductive Fl where
 | nx | bk | ct | rt (d:D) | rf (ds:i0) | r2 (dss:List i0) | xc (c:Str) | ra (k:AK) (ps:kb)
abbrev FS:=DE0->Option (Fl×DE0)
structure N2 (K:h8) (G:Gd) (H0 H:Hp) (l:Addr) (ls:gu) (dss:List i0):Prop where
 nd:(l::ls).Nodup
 new:∀a∈l::ls,H0 a=none
 top:H l=some (.lst (ls.map V.ref))
 len:ls.length=dss.length
 inn:∀(j:Nat) (ds:i0) (a:Addr),dss[j]?=some ds->ls[j]?=some a->∃vs,H a=some (.lst vs)/\Reps K H (λb=>G b/\b∉l::ls) ds vs
def EndOk(X:Cx)(G:Gd)(H0:Hp)(W:Addr->Prop)(H:Hp)(Dn:Ends)(env':DE0):Fl->Prop
 | .nx=>∀W' D H',Step W H W' H'->Ok X.K G H0 W' env' D H'->Dn.nx D H'
 | .bk=>∀W' D H',Step W H W' H'->Ok X.K G H0 W' env' D H'->Dn.bk D H'
 | .ct=>∀W' D H',Step W H W' H'->Ok X.K G H0 W' env' D H'->Dn.ct D H'
 | .rt d=>∀W' D v H',Step W H W' H'->Ok X.K G H0 W' env' D H'->Rep X.K H' (Ow G W') d v->Dn.rt v H'
 | .rf ds=>∀l vs H',Same H0 H'->H0 l=none->H' l=some (.lst vs)->Reps X.K H' (λa=>G a/\a≠l) ds vs->Dn.rt (.ref l) H'
 | .r2 dss=>∀l ls H',Same H0 H'->N2 X.K G H0 H' l ls dss->Dn.rt (.ref l) H'
 | .xc c=>∀W' D H' C,Cl X.K c C->Step W H W' H'->Ok X.K G H0 W' env' D H'->∀pins e s',XS X pins D H' C e s'->X.xe (.ref e) s'
 | .ra k ps=>∀W' D p H',Step W H W' H'->Ok X.K G H0 W' env' D H'->SlOk X.K G W' H' (.ag k none ps) (.ref p)->Dn.rt (.ref p) H'
def tDS(X:Cx)(G:Gd)(H0:Hp)(g:FS):TS:=λDn σ H=>∃W env fl env',Ok X.K G H0 W env σ H/\g env=some (fl,env')/\EndOk X G H0 W H Dn env' fl
structure DSx (X:Cx) (G:Gd) (H0:Hp) (s:Stmt) (g:FS):Prop where
 out:PS X s (tDS X G H0 g)
structure DBx (X:Cx) (G:Gd) (H0:Hp) (s:List Stmt) (g:FS):Prop where
 out:PSs X s (tDS X G H0 g)
variable{X:Cx}{e:Expr}{t t':TS}
theorem PS.imp{e:Stmt}(h:PS X e t)(i:∀D σ H,t' D σ H->t D σ H):PS X e t':=λpins s σ H D I q=>h pins s σ H D I (i D σ H q)
theorem PSs.imp{e:List Stmt}(h:PSs X e t)(i:∀D σ H,t' D σ H->t D σ H):PSs X e t':=λpins s σ H D I q=>h pins s σ H D I (i D σ H q)
variable{G:Gd}{W W1:Addr->Prop}{H0 H H1:Hp}{Dn:Ends}{env':DE0}{fl:Fl}
protected theorem EndOk.step(st:Step W H W1 H1)(h:EndOk X G H0 W H Dn env' fl):EndOk X G H0 W1 H1 Dn env' fl:=by
 cases fl with
 | nx=>exact λW' D H' s o=>h W' D H' (st.trans s) o
 | bk=>exact λW' D H' s o=>h W' D H' (st.trans s) o
 | ct=>exact λW' D H' s o=>h W' D H' (st.trans s) o
 | rt d=>exact λW' D v H' s o=>h W' D v H' (st.trans s) o
 | rf ds=>exact h
 | r2 dss=>exact h
 | xc c=>exact λW' D H' C z s o=>h W' D H' C z (st.trans s) o
 | ra k ps=>exact λW' D p H' s o=>h W' D p H' (st.trans s) o
def Fl.out:Fl->Bool | .rt _=>true | .rf _=>true | .r2 _=>true | .xc _=>true | .ra _ _=>true | _=>false
variable{Dn':Ends}
protected theorem EndOk.go(I:fl.out=true)(h:EndOk X G H0 W H Dn env' fl)(e:Dn'.rt=Dn.rt)(st:Step W H W1 H1):EndOk X G H0 W1 H1 Dn' env' fl:=by
 cases fl with
 | nx=>cases I
 | bk=>cases I
 | ct=>cases I
 | rt d=>intro W' D v H' s o r;rw[e];exact h W' D v H' (st.trans s) o r
 | rf ds=>intro v vs H' s n l r;rw[e];exact h v vs H' s n l r
 | r2 dss=>intro v ls H' s n;rw[e];exact h v ls H' s n
 | xc c=>exact λW' D H' C z s o=>h W' D H' C z (st.trans s) o
 | ra k ps=>intro W' D p H' s o r;rw[e];exact h W' D p H' (st.trans s) o r
@[simp] def sNil:FS:=λe=>some (.nx,e)
@[simp] def sSeq(g h:FS):FS:=λe=>(g e).bind λr=>match r.1 with | .nx=>h r.2 | _=>some r
@[simp] def sSet(i:Nat)(f:FE):FS:=λe=>(f e).map λr=>(.nx,r.2.set i (some (.sh r.1)))
@[simp] def sOwn(i:Nat)(f:FA):FS:=λe=>(f e).map λr=>(.nx,r.2.set i (some (.ow r.1)))
@[simp] def sRet(f:FE):FS:=λe=>(f e).map λr=>(.rt r.1,r.2)
@[simp] def sIf(c:FT)(g h:FS):FS:=λe=>(c e).bind λr=>if r.1=true then g r.2 else h r.2
@[simp] def ja(f:FE):FS:=λe=>(f e).map λr=>(.nx,r.2)
@[simp] def zqp:FS:=λ_=>none
def forL(i:Nat)(g:FS):i0->DE0->Option (Fl×DE0)
 | [],e=>some (.nx,e)
 | d::r,e=>(g (e.set i (some (.sh d)))).bind λq=>match q.1 with | .nx=>forL i g r q.2 | .ct=>forL i g r q.2 | .bk=>some (.nx,q.2) | .rt d=>some (.rt d,q.2) | .rf ds=>some (.rf ds,q.2) | .r2 ds=>some (.r2 ds,q.2) | .xc c=>some (.xc c,q.2) | .ra k ps=>some (.ra k ps,q.2)
@[simp] def sFor(i:Nat)(fi:FI)(g:FS):FS:=λe=>(fi e).bind λr=>forL i g r.1 r.2
def l4(c:FT)(g:FS):Nat->DE0->Option (Fl×DE0)
 | 0,_=>none
 | n+1,e=>(c e).bind λr=>if r.1=true then(g r.2).bind λq=>match q.1 with | .nx=>l4 c g n q.2 | .ct=>l4 c g n q.2 | .bk=>some (.nx,q.2) | .rt d=>some (.rt d,q.2) | .rf ds=>some (.rf ds,q.2) | .r2 ds=>some (.r2 ds,q.2) | .xc c=>some (.xc c,q.2) | .ra k ps=>some (.ra k ps,q.2) else some (.nx,r.2)
section
variable {X:Cx} {G:Gd} {H0:Hp} {a b c e:Expr} {es rest:g9} {f g:FE} {F:FA} {p q:FT} {s:Stmt} {ss:List Stmt} {u v:FS} {pos p' p1 pos1:Pos} {x:Str} {i:Nat}
theorem ie  : DBx X G H0 [] sNil:=⟨zy7.imp λDn σ H D=>by
 obtain⟨W,env,fl,env',ok,q,k⟩:=D;cases q;exact k W σ H Step.refl ok⟩
theorem di(h1:DSx X G H0 s u)(h2:DBx X G H0 ss v):DBx X G H0 (s::ss) (sSeq u v):=⟨(zvm h1.out h2.out).imp λDn σ H R=>by
 obtain⟨W,env,fl,env',ok,q,k⟩:=R;cases e1:u env with
 | none=>simp[e1] at q
 | some r =>
   obtain⟨I,D⟩:=r;refine⟨W,env,I,D,ok,e1,?_⟩;cases I with
   | nx =>
     have q:v D=some (fl,env'):=by simpa[sSeq,e1] using q
     exact λW1 S H1 U J=>⟨W1,D,fl,env',J,q,k.step U⟩
   | bk =>
     have q:some (Fl.bk,D)=some (fl,env'):=by simpa[sSeq,e1] using q
     cases q;exact k
   | ct =>
     have q:some (Fl.ct,D)=some (fl,env'):=by simpa[sSeq,e1] using q
     cases q;exact k
   | rt d =>
     have q:some (Fl.rt d,D)=some (fl,env'):=by simpa[sSeq,e1] using q
     cases q;exact k
   | rf d =>
     have q:some (Fl.rf d,D)=some (fl,env'):=by simpa[sSeq,e1] using q
     cases q;exact k
   | r2 d =>
     have q:some (Fl.r2 d,D)=some (fl,env'):=by simpa[sSeq,e1] using q
     cases q;exact k
   | xc d =>
     have q:some (Fl.xc d,D)=some (fl,env'):=by simpa[sSeq,e1] using q
     cases q;exact k
   | ra d d' =>
     have q:some (Fl.ra d d',D)=some (fl,env'):=by simpa[sSeq,e1] using q
     cases q;exact k⟩
theorem dw(h:DSx X G H0 s u):DBx X G H0 [s] u:=⟨zy8 h.out⟩
theorem z3d(R:X.N.Nodup)(hi:X.N[i]?=some x:=by rfl)(S:DEx X G H0 e f)(ps:PS X (.Assign [.Name x p'] e pos) (tAsg (tD X.K G H0 f) (ml i))):DSx X G H0 (.Assign [.Name x p'] e pos) (sSet i f):=⟨ps.imp λDn σ H I=>by
 obtain⟨W,env,fl,env',ok,q,k⟩:=I;cases e1:f env with
 | none=>simp[e1] at q
 | some r =>
   have q:some (Fl.nx,r.2.set i (some (Sl.sh r.1)))=some (fl,env'):=by simpa[sSet,e1] using q
   cases q;exact⟨W,env,_,_,ok,e1,λW1 v1 H1 J D p1=>k W1 _ H1 J (D.set p1)⟩⟩
theorem qy(ps:PS X (.Assign [.Name x p'] e pos) (tAsg (tDF X.K G H0 F) (ml i))):DSx X G H0 (.Assign [.Name x p'] e pos) (sOwn i F):=⟨ps.imp λDn σ H J=>by
 obtain⟨W,env,fl,env',ok,q,k⟩:=J;cases e1:F env with
 | none=>simp[e1] at q
 | some r =>
   have q:some (Fl.nx,r.2.set i (some (Sl.ow r.1)))=some (fl,env'):=by simpa[sOwn,e1] using q
   cases q;exact⟨W,env,_,_,ok,e1,λW1 l vs H1 R D I S U V=>k (addW W1 l) _ H1 R (I.setO (.inr rfl) U V (D.noOwn S))⟩⟩
theorem ft(I:DEx X G H0 e f):DSx X G H0 (.Return (some e) pos) (sRet f):=⟨(zqg I.out).imp λDn σ H J=>by
 obtain⟨W,env,fl,env',ok,q,k⟩:=J;cases e1:f env with
 | none=>simp[e1] at q
 | some r =>
   have q:some (Fl.rt r.1,r.2)=some (fl,env'):=by simpa[sRet,e1] using q
   cases q;exact⟨W,env,_,_,ok,e1,λW1 v1 H1 R D p1=>k W1 σ v1 H1 R D p1⟩⟩
def fOwn(i:Nat):FA:=λe=>match e[i]? with | some (some (.ow ds))=>some (ds,e.set i none) | _=>none
@[simp] def zwb(i:Nat):FS:=λe=>match e[i]? with | some (some (.ow ds))=>some (.rf ds,e) | _=>none
theorem zzx{Nn Cn:gj}{i:Nat}(an:Ats Nn Cn X)(D:Nn[i]?=some x:=by rfl):DSx X G H0 (.Return (some (.Name x p')) pos) (zwb i):=⟨(zqg ((an.a D).pe)).imp λDn σ H J=>by
 obtain⟨W,env,fl,env',ok,q,k⟩:=J;unfold zwb at q;split at q
 ·rename_i ds R
  cases q;obtain⟨v,S,l,vs,rfl,I,U,r⟩:=ok.slot i _ R;exact⟨_,S,k l vs H ok.stay (ok.wl l I).1 U (r.mono (λ_ _ h=>h) λa us o h=>⟨⟨o.1,λz=>o.2 (z ▸ I)⟩,h⟩)⟩
 ·cases q⟩
theorem gz{J R:List Stmt}(U:DTx X G H0 c p)(V:DBx X G H0 J u)(Y:DBx X G H0 R v):DSx X G H0 (.If c J R pos) (sIf p u v):=⟨(z41 U.out V.out Y.out).imp λDn σ H Z=>by
 obtain⟨W,env,fl,env',ok,q,k⟩:=Z;cases e1:p env with
 | none=>simp[e1] at q
 | some r =>
   obtain⟨t,D⟩:=r;refine⟨W,env,t,D,ok,e1,λW1 H1 S I=>?_⟩;cases t with
   | true=>rw[if_pos rfl];exact⟨W1,D,fl,env',I,by simpa[sIf,e1] using q,k.step S⟩
   | false=>rw[if_neg b8];exact⟨W1,D,fl,env',I,by simpa[sIf,e1] using q,k.step S⟩⟩
theorem zmu  : DSx X G H0 s zqp:=⟨zvn.imp λDn σ H ⟨W,env,fl,env',ok,q,k⟩=>by cases q⟩
theorem ju(I:DEx X G H0 e f)(J:swapsWith e none pos.line X.env=pure false:=by rfl):DSx X G H0 (.Expr e pos) (ja f):=⟨(zsu I.out J).imp λDn σ H R=>by
 obtain⟨W,env,fl,env',ok,q,k⟩:=R;cases e1:f env with
 | none=>simp[e1] at q
 | some r =>
   have q:some (Fl.nx,r.2)=some (fl,env'):=by simpa[ja,e1] using q
   cases q;exact⟨W,env,_,_,ok,e1,λW1 v1 H1 S D p1=>k W1 σ H1 S D⟩⟩
theorem ny{tg:Str}{px:Pos}{body:List Stmt}{fi:FI}(hi:DIx X G H0 (.Name tg px) a fi)(g:PG X (.Name tg px) (ml i))(o:DBx X G H0 body u)(p:PassesOwn (model X.prog X.w) X.A X.env X.xe:=by passes_own)(s:X.calm=true:=by rfl)(t:∀x,foldedSetIterable a X.env x=pure x:=by intro _;rfl):DSx X G H0 (.For (.Name tg px) a body [] pos) (sFor i fi u):=⟨(zs1 p s hi.out g o.out t).imp λDn σ H v=>by
 obtain⟨W,env,fl,env',ok,q,k⟩:=v;cases e1:fi env with
 | none=>simp[e1] at q
 | some z =>
   obtain⟨ds,U⟩:=z;have q:forL i u ds U=some (fl,env'):=by simpa[sFor,e1] using q
   refine⟨W,env,ds,U,ok,e1,λW1 J H1 Z h l=>?_⟩;refine⟨λn m b H'=>∃W' I,m=ds.length-n/\n<=ds.length/\Step W1 H1 W' H'/\Ok X.K G H0 W' I b H'/\forL i u (ds.drop n) I=some (fl,env'),⟨ds.length,W1,U,rfl,fz _,Step.refl,h,q⟩,?_⟩;rintro n m b H' ⟨W',I,rfl,hn,st,ok',ef⟩;by_cases c:n<ds.length
   ·have B:ds.drop n=ds[n]::ds.drop (n+1):=em c
    rw[B] at ef;obtain⟨g,C⟩:=l.go W' H' n ds[n] st (by simp[c]);unfold forL at ef;cases e3:u (I.set i (some (.sh ds[n]))) with
    | none=>rw[e3] at ef;cases ef
    | some r =>
      obtain⟨f,V⟩:=r;rw[e3,ac] at ef;refine .inr ⟨g,λS H2=>∃Y R,Step W1 H1 Y H2/\Ok X.K G H0 Y R S H2/\forL i u (ds.drop (n+1)) R=some (fl,env'),λS H2 ⟨Y,R,s2,D,e4⟩=>⟨ds.length-(n+1),by lia,Y,R,rfl,c,s2,D,e4⟩,λx j y=>?_⟩;obtain⟨rfl,E⟩:=C x j y;refine⟨W',_,f,V,ok'.set E,e3,?_⟩;cases f with
      | nx=>exact λY S H2 s2 D=>⟨Y,V,st.trans s2,D,ef⟩
      | ct=>exact λY S H2 s2 D=>⟨Y,V,st.trans s2,D,ef⟩
      | bk =>
        cases ef;exact λY S H2 s2 D=>k Y S H2 ((Z.trans st).trans s2) D
      | rt d=>cases ef;exact k.go rfl rfl (Z.trans st)
      | rf d=>cases ef;exact k.go rfl rfl (Z.trans st)
      | r2 d=>cases ef;exact k.go rfl rfl (Z.trans st)
      | xc d=>cases ef;exact k.go rfl rfl (Z.trans st)
      | ra d d'=>cases ef;exact k.go rfl rfl (Z.trans st)
   ·have e:n=ds.length:=by lia
    subst e;rw[ip] at ef;cases ef;exact .inl ⟨l.stop W' H' st,k W' b H' (Z.trans st) ok'⟩⟩
theorem zmv{body:List Stmt}{n:Nat}(g:DTx X G H0 c p)(h:DBx X G H0 body u)(i:PassesOwn (model X.prog X.w) X.A X.env X.xe:=by passes_own):DSx X G H0 (.While c body [] pos) (l4 p u n):=⟨(zvp i g.out h.out).imp λDn σ H j=>by
 obtain⟨W,env,fl,env',ok,q,k⟩:=j;refine⟨λm Y H'=>∃W' D,Step W H W' H'/\Ok X.K G H0 W' D Y H'/\l4 p u m D=some (fl,env'),⟨n,W,env,Step.refl,ok,q⟩,?_⟩;rintro m Y H' ⟨W',D,st,ok',ew⟩;cases m with
 | zero=>cases ew
 | succ m =>
   unfold l4 at ew;cases e1:p D with
   | none=>rw[e1] at ew;cases ew
   | some r =>
     obtain⟨t,S⟩:=r;rw[e1,ac] at ew;refine⟨W',D,t,S,ok',e1,λf H2 s2 b=>?_⟩;cases t with
     | false =>
       cases ew;exact k f Y H2 (st.trans s2) b
     | true =>
       cases e3:u S with
       | none=>simp only[e3] at ew;cases ew
       | some r =>
         obtain⟨e,U⟩:=r;simp[e3] at ew;refine⟨λR Z=>∃V J,Step W H V Z/\Ok X.K G H0 V J R Z/\l4 p u m J=some (fl,env'),λR Z ⟨V,J,a,I,e5⟩=>⟨m,ff _,V,J,a,I,e5⟩,f,S,e,U,b,e3,?_⟩;cases e with
         | nx=>exact λV R Z a I=>⟨V,U,(st.trans s2).trans a,I,ew⟩
         | ct=>exact λV R Z a I=>⟨V,U,(st.trans s2).trans a,I,ew⟩
         | bk=>cases ew;exact λV R Z a I=>k V R Z ((st.trans s2).trans a) I
         | rt d=>cases ew;exact k.go rfl rfl (st.trans s2)
         | rf d=>cases ew;exact k.go rfl rfl (st.trans s2)
         | r2 d=>cases ew;exact k.go rfl rfl (st.trans s2)
         | xc d=>cases ew;exact k.go rfl rfl (st.trans s2)
         | ra d d'=>cases ew;exact k.go rfl rfl (st.trans s2)⟩
end
variable{n:Nat}
theorem lt20(h:n<2 ^ 20):n<sizeLine:=aw h (by rw[sizeLine_eq];decide)
@[simp] def yb(d:D)(e:DE0)(i:Nat):Option (D×DE0):=match e[i]? with
 | some (some (.ow ds))=>if Few (ds.length+1) then some (.non,e.set i (some (.ow (ds++[d])))) else none
 | _=>none
@[simp] def qd(i:Nat)(f:FE):FE:=λe=>match e[i]? with
 | some (some (.ow _))=>(f e).bind λr=>yb r.1 r.2 i
 | _=>none
variable{Nn Cn:gj}{i:Nat}{a:Expr}{f:FE}{pos p' p1:Pos}{x:Str}
theorem zjj(h:DEx X G H0 a f)(an:Ats Nn Cn X)(V:Nn[i]?=some x:=by rfl)(D:attributeBase (.Name x p') "append" X.env (eval (.Name x p') X.env)=eval (.Name x p') X.env:=by rfl)(J:((backTo pos (starEach [a] X.env)).all (λx=>!x.1) && (backToKw pos (keywordEach [] X.env)).all (λx=>x.1.isSome)
   && decide ([a].length+([]:List Keyword).length+(if ([]:List Keyword).isEmpty then 0 else 1)<30))=true:=by rfl)(I:(p1.endLine==pos.line)=true:=by rfl)(c:starEach [a] X.env=(false,eval a X.env)::starEach [] X.env:=by rfl) :
  DEx X G H0 (.Call (.Attribute (.Name x p') "append" p1) [a] [] pos) (qd i f):=⟨(zvy fq xz xy zn8 ((an.a V).pe) (md h.out og c) D J I c rfl).imp λσ H Q j=>by
 obtain⟨W,env,d,env',ok,q,k⟩:=j;unfold qd at q;split at q;case h_2=>cases q
 rename_i m Y;obtain⟨v,Z,l,n,rfl,o,b,_⟩:=ok.slot i _ Y;cases e1:f env with
 | none=>rw[e1] at q;cases q
 | some r =>
   obtain⟨p,R⟩:=r;rw[e1,ac] at q;unfold yb at q;split at q;case h_2=>cases q
   rename_i ds e;split at q;case isFalse=>cases q
   rename_i S;cases q;refine⟨_,Z,.inl ⟨rfl,_,.inl (.inl b)⟩,W,env,p,R,ok,e1,λW1 v1 H1 s U t=>?_⟩;obtain⟨A,g,l',vs,u,B,w,r⟩:=U.slot i _ e;rw[Z] at g;cases g;cases u;obtain⟨y,z⟩:=U.turn e Z (r.append (.cons t .nil));exact⟨l,vs,v1,rfl,rfl,w,by rw[<-r.length];exact lt20 (ni S),k W1 _ _ (s.trans z) y .non⟩⟩
@[simp] def fPop(i:Nat):FE:=λe=>match e[i]? with
 | some (some (.ow ds))=>(ds[ds.length-1]?).map λd=>(d,e.set i (some (.ow ds.dropLast)))
 | _=>none
theorem z3e(an:Ats Nn Cn X)(J:Nn[i]?=some x:=by rfl)(D:attributeBase (.Name x p') "pop" X.env (eval (.Name x p') X.env)=eval (.Name x p') X.env:=by rfl)(I:(p1.endLine==pos.line)=true:=by rfl) :
  DEx X G H0 (.Call (.Attribute (.Name x p') "pop" p1) [] [] pos) (fPop i):=⟨(zx7 fq PySem.F.slot_list_pop PySem.F.type_list_pop zx8 ((an.a J).pe) D I).imp λσ H Q Y=>by
 obtain⟨W,env,d,env',ok,q,k⟩:=Y;unfold fPop at q;split at q;case h_2=>cases q
 rename_i ds R;obtain⟨v,S,l,vs,rfl,e,U,r⟩:=ok.slot i _ R;cases e1:ds[ds.length-1]? with
 | none=>rw[e1] at q;cases q
 | some d' =>
   rw[e1] at q;cases q;obtain⟨u,Z,b⟩:=r.get e1;obtain⟨c,V⟩:=ok.turn R S r.dropLast;exact⟨_,S,.inl ⟨rfl,_,.inl (.inl U)⟩,l,vs,u,rfl,rfl,U,by rw[<-r.length];exact Z,k W _ _ V c (ok.rep V b)⟩⟩
def z5k(k:D)(e:DE0)(i:Nat):Option (D×DE0):=match k,e[i]? with
 | .int k,some (some (.ow ds))=>if Few ds.length then(ixN ds.length k).bind λj=>(ds[j]?).map λd=>(d,e.set i (some (.ow (ds.eraseIdx j)))) else none
 | _,_=>none
def z3f(i:Nat)(f:FE):FE:=λe=>match e[i]? with
 | some (some (.ow _))=>(f e).bind λr=>z5k r.1 r.2 i
 | _=>none
@[simp] def zzy(d k:D)(e:DE0)(i:Nat):Option (Fl×DE0):=match k,e[i]? with
 | .int k,some (some (.ow ds))=>(ixN ds.length k).map λj=>(.nx,e.set i (some (.ow (ds.set j d))))
 | _,_=>none
@[simp] def zqq(i:Nat)(D I:FE):FS:=λe=>(I e).bind λr=>match r.2[i]? with
 | some (some (.ow _))=>(D r.2).bind λq=>zzy r.1 q.1 q.2 i
 | _=>none
variable{b:Expr}{g:FE}
theorem zwc(m:DEx X G H0 b g)(n:DEx X G H0 e f)(an:Ats Nn Cn X)(U:Nn[i]?=some x:=by rfl)(o:swapsWithSole [.Subscript (.Name x p') b p1] e pos.line X.env=pure false:=by rfl)(p:swappedStores [.Subscript (.Name x p') b p1] e X.env=pure none:=by rfl)(h1:(assignEach [.Subscript (.Name x p') b p1] X.env).map (·.2)=[assign (.Subscript (.Name x p') b p1) X.env]:=by rfl)(J:∀v,assign (.Subscript (.Name x p') b p1) X.env v=(do
   let ov <-holding [v] (eval (.Name x p') X.env);let iv <-holding [v,ov] (eval b X.env)
   standAt p1
   holding [v,ov,iv] (setItem ov iv v)
   release [v,ov,iv] []):=by intro _;rfl) :
  DSx X G H0 (.Assign [.Subscript (.Name x p') b p1] e pos) (zqq i g f):=⟨(yk n.out (zqh ((an.a U).pe) m.out wz J) o p h1).imp λDn σ H s=>by
 obtain⟨W,env,fl,env',ok,q,k⟩:=s;cases e1:f env with
 | none=>simp[e1] at q
 | some r =>
   obtain⟨t,D⟩:=r;simp only[zqq,e1,ac] at q;split at q;case h_2=>cases q
   rename_i u V;cases e2:g D with
   | none=>rw[e2] at q;cases q
   | some Y =>
     obtain⟨M,R⟩:=Y;rw[e2,ac] at q;unfold zzy at q;dsimp only at q;split at q;case h_2=>cases q
     rename_i c ds d;cases e3:ixN ds.length c with
     | none=>rw[e3] at q;cases q
     | some j =>
       rw[e3] at q;cases q;refine⟨W,env,t,D,ok,e1,λW1 v1 H1 w I y=>?_⟩;obtain⟨v,Z,l,z,rfl,A,B,_⟩:=I.slot i _ V;refine⟨_,Z,W1,D,_,R,I,e2,λC v2 H2 s2 S Y=>?_⟩;obtain⟨N,h,l',vs,E,O,F,r⟩:=S.slot i _ d;rw[Z] at h;cases h;cases E;obtain⟨K,L⟩:=S.turn d Z (Reps.set (I.rep s2 y) j r);exact⟨l,vs,c,j,rfl,Y.int_,F,by rw[<-r.length];exact e3,k C _ _ ((w.trans s2).trans L) K⟩⟩
def je(n:Nat)(ds:i0):DE0:=ds.map (λd=>some (Sl.sh d))++List.replicate (n-ds.length) none
def runD(n ar:Nat)(g:FS):i0->ka:=λds=>if ds.length=ar then(match g (je n ds) with | some (.rt d,_)=>some d | some (.nx,_)=>some .non | _=>none) else none
def runF(n ar:Nat)(g:FS):i0->Option i0:=λds=>if ds.length=ar then(match g (je n ds) with | some (.rf d,_)=>some d | _=>none) else none
theorem zic:∀ {n:Nat} {ds:i0} {i:Nat} {s:Sl},(je n ds)[i]?=some (some s)->∃d,ds[i]?=some d/\s=.sh d:=λ{n ds i s} h=>by
 unfold je at h;by_cases hi:i<ds.length
 ·rw[au (by simpa using hi),bz] at h
  cases e:ds[i]? with
  | none=>rw[e] at h;cases h
  | some d=>rw[e] at h;cases h;exact⟨d,rfl,rfl⟩
 ·rw[dg (by simpa using hi),zy] at h
  split at h <;> cases h
variable{O:Addr->Prop}{ds:i0}{vs:ik}{N:gj}{K:h8}
theorem t9(r:Reps K H O ds vs):Ok K (gd λa=>O a\/H a=none) H NoW (je N.length ds) (start N vs) H:=by
 refine⟨Same.refl _,λa z=>.inr z,λl z=>z.elim,λi s e=>?_,λi j R s2 v1 v2 a D _ _ _ o _=>?_,?_⟩
 ·obtain⟨d,D,rfl⟩:=zic e
  obtain⟨v,I,J⟩:=r.get D;refine⟨v,?_,J.mono (λ_ _ h=>h) λa us o h=>⟨⟨.inl o,λz=>z⟩,h⟩⟩;unfold start;rw[au (by simpa using(ah.mp I).1),bz,I];rfl
 ·obtain⟨d,_,z⟩:=zic D
  subst z;exact o.elim
 ·unfold je start
  rw[am,am,ae,ae,d8,d8,r.length]
variable{f:Addr}{CX:CXT}{qual:Str}{st:Stmt}{fd:FuncData}{ps:gj}{k ar:Nat}{P:Program}{w:World}{mg:Str->gs}{base:Heap}
theorem fn_D{g:FS}(F:Fun K x qual st f fd)(S:o5 N ps (f9 st))(U:n=N.length)(V:ar=ps.length)(D:∀(cdv:Value) (A:Around) (outer:g8) (s:Shared) (H:Hp) (E:XK) (G:Gd) (H0:Hp),Room k (A.deeper (envOfC qual (f9 st) s.heap.objs.size f cdv)) ->
   DBx (cxOf CX P w K mg base N qual (f9 st) f cdv A outer s H E).nox G H0 (lg st) g):FnOk P w K mg base CX (k+1) f fd ps (dSp K (runD n ar g)):=by
 subst U V;refine F.okC S (λvs H Q E h=>?_) (λcdv A outer s H vs Q E Y h=>?_)
 ·obtain⟨O,ds,d,r,e,_⟩:=h
  rw[<-r.length];unfold runD at e;split at e
  ·assumption
  ·cases e
 ·obtain⟨O,ds,d,r,e,k⟩:=h
  refine⟨_,(D cdv A outer s H E (gd λa=>O a\/H a=none) H Y).out,?_⟩;unfold runD at e;split at e;case isFalse=>cases e
  split at e
  ·rename_i d' env' J
   cases e;exact⟨NoW,_,_,env',t9 r,J,λW' R v H' st I Z=>k v H' I.stay (Z.mono (λ_ _ h=>h) λa us o h=>⟨o.1,h⟩)⟩
  ·rename_i env' J
   cases e;exact⟨NoW,_,_,env',t9 r,J,λW' R H' st I=>k .non H' I.stay .non⟩
  ·cases e
theorem fn_F{g:FS}(F:Fun K x qual st f fd)(S:o5 N ps (f9 st))(I:n=N.length)(J:ar=ps.length)(D:∀(cdv:Value) (A:Around) (outer:g8) (s:Shared) (H:Hp) (E:XK) (G:Gd) (H0:Hp),Room k (A.deeper (envOfC qual (f9 st) s.heap.objs.size f cdv)) ->
   DBx (cxOf CX P w K mg base N qual (f9 st) f cdv A outer s H E).nox G H0 (lg st) g):FnOk P w K mg base CX (k+1) f fd ps (fSp K (runF n ar g)):=by
 subst I J;refine F.okC S (λvs H Q E h=>?_) (λcdv A outer s H vs Q E R h=>?_)
 ·obtain⟨O,ds,d,r,e,_⟩:=h
  rw[<-r.length];unfold runF at e;split at e
  ·assumption
  ·cases e
 ·obtain⟨O,ds,d,r,e,k⟩:=h
  refine⟨_,(D cdv A outer s H E (gd λa=>O a\/H a=none) H R).out,?_⟩;unfold runF at e;split at e;case isFalse=>cases e
  split at e
  ·rename_i d' env' U
   cases e;exact⟨NoW,_,_,env',t9 r,U,λl vs' H' sm V Y Z=>k l vs' H' sm V Y Z⟩
  ·cases e
def zqr(K:h8):Sp:=λvs H Q _=>∃(a:Addr) (D:g7),vs=[.ref a]/\SqL K H a (D.map V.int)/\D.length<=63/\∀H',Q (.bl true) H'
theorem z5l{m:i0->ka}(F:FnOk P w K mg base CX k f fd ps (dSp K m))(h:∀I:g7,I.length<=63->m [.lst (I.map D.int)]=some (.bl true)) :
  FnOk P w K mg base CX k f fd ps (zqr K):=F.imp λvs H Q E J=>by
 obtain⟨a,I,e,R,S,q⟩:=J;subst e;exact⟨λ_=>True,[.lst (I.map D.int)],.bl true,.cons (R.elim (λz=>.lst trivial z (zho I)) λz=>.klst z (zho I)) .nil,h I S,λv H' _ r=>by rw[r.bl_];exact q H'⟩
variable{F:FA}
theorem fr_D:∀σ H Q,tD X.K G H0 (fLst F) σ H Q->tDF X.K G H0 F σ H Q:=λσ H Q S=>by
 obtain⟨W,env,d,env',ok,q,k⟩:=S;cases e1:F env with
 | none=>simp[e1] at q
 | some r =>
   have q:some (D.lst r.1,r.2)=some (d,env'):=by simpa[fLst,e1] using q
   cases q;refine⟨W,env,_,_,ok,e1,λW1 l vs H1 R I J U V Y=>k W1 _ H1 ⟨R.keep,λa z=>R.ws a (.inl z)⟩ I (.lst ⟨I.good l (J.wl l (.inr rfl)).1,U⟩ (.inl V) (Y.mono (λ_ _ h=>h) λa us o h=>⟨⟨o.1,λz=>o.2 (.inl z)⟩,h⟩))⟩
variable{f:FE}
theorem fu(I:Tos Nn X)(J:DEx X G H0 e f)(D:Nn[i]?=some x:=by rfl)(R:swapsWith e (some (.Name x p')) pos.line X.env=pure false:=by rfl):DSx X G H0 (.Assign [.Name x p'] e pos) (sSet i f):=z3d (I.t D).nd (I.t D).n J (zsw (I.t D).nd (I.t D).n (I.t D).l J.out R (I.t D).f)
theorem ztw(ps:PS X (.Assign [.Name x p'] e pos) (tAsg (tDF X.K G H0 F) (ml i))):DSx X G H0 (.Assign [.Name x p'] e pos) (sSet i (fLst F)):=⟨(PS.imp ps (t':=tAsg (tD X.K G H0 (fLst F)) (ml i)) λDn σ H h=>fr_D σ H _ h).imp λDn σ H I=>by
 obtain⟨W,env,fl,env',ok,q,k⟩:=I;cases e1:fLst F env with
 | none=>simp only[sSet,e1,ky] at q;cases q
 | some r =>
   have q:some (Fl.nx,r.2.set i (some (Sl.sh r.1)))=some (fl,env'):=by simpa only[sSet,e1,aj] using q
   cases q;exact⟨W,env,_,_,ok,e1,λW1 v1 H1 J D p1=>k W1 _ H1 J (D.set p1)⟩⟩
variable{y:Str}{ix:g0}{sc:Scope}{px py spos:Pos}{fi:FI}{te:FE}
theorem zmw(an:Ats Nn Cn X)(R:Tos Nn X)(hi:DIx X G H0 (.Name x px) a fi)(S:∀cl C s₂ H₂ fp G H0,Ats (x::(subN Nn ix)) (subN Nn ix) (i8 X x (subN Nn ix) sc cl C s₂ H₂ fp)->DEx (i8 X x (subN Nn ix) sc cl C s₂ H₂ fp) G H0 e te)(J:om Nn Cn ix x sc=true:=by decide +kernel)(V:X.calm=true:=by rfl)(I:Nn[i]?=some y:=by rfl)(U:swapsWith (.ListComp e [⟨.Name x px,a,[],0⟩] sc pos) (some (.Name y py)) spos.line X.env=pure true:=by rfl)(Y:∀v,foldedSetIterable a X.env v=pure v:=by intro _;rfl) :
  PS X (.Assign [.Name y py] (.ListComp e [⟨.Name x px,a,[],0⟩] sc pos) spos) (tAsg (tDF X.K G H0 (iq fi ix fYes te)) (ml i)) :=
 (zmm (u9 an J) (λ_ _ _ _ _ _ _ _ _=>V) (R.t I).nd (R.t I).n (R.t I).l hi.out (λcl C s₂ H₂ fp _=>yc (X:=X) rfl) (λcl C s₂ H₂ fp _=>el_x (X:=X) rfl (λG H0=>S cl C s₂ H₂ fp G H0 (rq J))) U (R.t I).f Y).imp λD σ H h=>zqo σ H _ h
variable{tt:FT}
theorem zpi{Cm:Cx->Prop}{S:Expr}(c:∀cl C s₂ H₂ fp pins σ,Inv X pins σ H₂ s₂->(∀b∈fp,FpOk X pins H₂ b)->Cm (i8 X x (subN Nn ix) sc cl C s₂ H₂ fp))(an:Ats Nn Cn X)(R:Tos Nn X)(hi:DIC Cm X G H0 (.Name x px) a fi)(U:∀cl C s₂ H₂ fp G H0,Cm (i8 X x (subN Nn ix) sc cl C s₂ H₂ fp)->Ats (x::(subN Nn ix)) (subN Nn ix) (i8 X x (subN Nn ix) sc cl C s₂ H₂ fp)->DTx (i8 X x (subN Nn ix) sc cl C s₂ H₂ fp) G H0 S tt)(V:∀cl C s₂ H₂ fp G H0,Cm (i8 X x (subN Nn ix) sc cl C s₂ H₂ fp)->Ats (x::(subN Nn ix)) (subN Nn ix) (i8 X x (subN Nn ix) sc cl C s₂ H₂ fp)->DEx (i8 X x (subN Nn ix) sc cl C s₂ H₂ fp) G H0 e te)(J:om Nn Cn ix x sc=true:=by decide +kernel)(I:Nn[i]?=some y:=by rfl)(Y:swapsWith (.ListComp e [⟨.Name x px,a,[S],0⟩] sc pos) (some (.Name y py)) spos.line X.env=pure true:=by rfl)(d:∀v,foldedSetIterable a X.env v=pure v:=by intro _;rfl) :
  PS X (.Assign [.Name y py] (.ListComp e [⟨.Name x px,a,[S],0⟩] sc pos) spos) (tAsg (tDF X.K G H0 (iq fi ix tt te)) (ml i)) :=
 (zmm (u9 an J) c (R.t I).nd (R.t I).n (R.t I).l hi.out (λcl C s₂ H₂ fp Z=>if_x (X:=X) rfl (λG H0=>U cl C s₂ H₂ fp G H0 Z (rq J))) (λcl C s₂ H₂ fp Z=>el_x (X:=X) rfl (λG H0=>V cl C s₂ H₂ fp G H0 Z (rq J))) Y (R.t I).f d).imp λD σ H h=>zqo σ H _ h
abbrev FA2:=DE0->Option (List i0×DE0)
def tDF2(K:h8)(G:Gd)(H0:Hp)(f:FA2):TE:=λσ H Q=>∃W env dss env',Ok K G H0 W env σ H/\f env=some (dss,env') /\
 ∀W' l H',Step W H W' H'->Ok K G H0 W' env' σ H'->SlOk K G W' H' (.o2 dss) (.ref l) ->
  (∀(j:Nat) (s:Sl) (v:V) (a:Addr),env'[j]?=some (some s)->σ[j]?=some (some v)->Owns H' (.o2 dss) (.ref l) a->¬Owns H' s v a)->Q (.ref l) H'
structure DF2x (X:Cx) (G:Gd) (H0:Hp) (e:Expr) (f:FA2):Prop where
 out:PE X e (tDF2 X.K G H0 f)
@[simp] def zwd(i:Nat)(f:FA2):FS:=λe=>(f e).map λr=>(.nx,r.2.set i (some (.o2 r.1)))
theorem zzz{D:FA2}(ps:PS X (.Assign [.Name x p'] e pos) (tAsg (tDF2 X.K G H0 D) (ml i))):DSx X G H0 (.Assign [.Name x p'] e pos) (zwd i D):=⟨ps.imp λDn σ H J=>by
 obtain⟨W,env,fl,env',ok,q,k⟩:=J;cases e1:D env with
 | none=>simp[e1] at q
 | some r =>
   have q:some (Fl.nx,r.2.set i (some (Sl.o2 r.1)))=some (fl,env'):=by simpa[zwd,e1] using q
   cases q;exact⟨W,env,_,_,ok,e1,λW1 l H1 R I h1 S=>k W1 _ H1 R (I.put h1 S)⟩⟩
def tu(te:FA)(base:DE0):i0->Option (List i0)
 | []=>some []
 | d::r=>(te (some (.sh d)::base)).bind λv=>(tu te base r).map (v.1::·)
def tq(fi:FI)(ix:g0)(te:FA):FA2:=λe=>(fi e).bind λr=>if Few r.1.length then(tu te (ix.map λj=>capt (r.2.getD j none)) r.1).map λds=>(ds,r.2) else none
def tDxF(K:h8)(f:FA):TE:=λσ H Q=>∃G H0,tDF K G H0 f σ H Q
variable{te:FA}
theorem z5m{D:Cx}(J:D.K=X.K)(h:∀G H0,DFx D G H0 e te):PE D e (tDxF X.K te):=λpins s σ H Q I ⟨G,H0,q⟩=>(h G H0).out pins s σ H Q I (by rw[J];exact q)
theorem zz0:∀σ H Q,tDF2 X.K G H0 (tq fi ix te) σ H Q->vz (tDI X.K G H0 fi) ix (tDxT X.K fYes) (tDxF X.K te) σ H Q:=λσ H Q zq=>by
 obtain⟨W,env,d,env',ok,q,k⟩:=zq;cases e1:fi env with
 | none=>simp[tq,e1] at q
 | some z =>
   obtain⟨ds,n⟩:=z;by_cases F:Few ds.length
   ·simp only[tq,e1,ac,if_pos F] at q
    cases e2:tu te (ix.map λj=>capt (n.getD j none)) ds with
    | none=>rw[e2] at q;cases q
    | some outs =>
      rw[e2] at q;cases q;refine⟨W,env,ds,_,ok,e1,λW1 J H1 s1 Z wk=>?_⟩;refine⟨λi m H' ys=>∃R rest D ls,m=ds.length-i/\i<=ds.length/\Same H1 H'/\Step W1 H1 R H'/\Ok X.K G H0 R env' σ H'/\ys=ls.map V.ref/\Inn X.K G R H' D ls/\ls.Nodup/\(∀a∈ls,H1 a=none)/\D.length<=i /\
       tu te (ix.map λj=>capt (env'.getD j none)) (ds.drop i)=some rest/\d=D++rest,
       ⟨ds.length,W1,d,[],[],rfl,fz _,Same.refl _,Step.refl,Z,rfl,⟨rfl,λj ds a e=>by simp at e⟩,List.nodup_nil,λa h=>by simp at h,b6 _,e2,rfl⟩,?_⟩
      rintro i m H' ys ⟨R,rest,D,ls,rfl,hi,sm,st,ok',rfl,inn,nd,fr,hd,ec,rfl⟩;have I:ls.length=D.length:=inn.1;have p:∀a∈ls,∃vs,H' a=some (.lst vs):=λa t=>by
       obtain⟨j,N,e⟩:=l8 t;have O:j<D.length:=by lia
       obtain⟨_,vs,h,_⟩:=inn.2 j D[j] a (by simp[O]) (by simp[N,e]);exact⟨vs,h⟩
      by_cases c:i<ds.length
      ·have eq:ds.drop i=ds[i]::ds.drop (i+1):=em c
       rw[eq] at ec;obtain⟨hg,hy⟩:=wk.go R H' i ds[i] st (by simp[c]);refine .inr ⟨hg,λx S y=>?_⟩;obtain⟨rfl,rx⟩:=hy x S y;have P:=zms (ix:=ix) ok' rx;unfold tu at ec;cases e4:te (some (.sh ds[i])::ix.map λj=>capt (env'.getD j none)) with
       | none=>rw[e4] at ec;cases ec
       | some vv =>
         obtain⟨dv,u⟩:=vv;rw[e4,ac] at ec;cases e5:tu te (ix.map λj=>capt (env'.getD j none)) (ds.drop (i+1)) with
         | none=>rw[e5] at ec;cases ec
         | some rest' =>
           rw[e5] at ec;cases ec;refine⟨_,_,NoW,_,true,_,P,rfl,λW2 H2 s2 T=>?_⟩;refine⟨_,_,W2,_,dv,u,T,e4,λW3 l vs H3 s3 aa A nW B rp=>⟨?_,ds.length-(i+1),by lia,?_⟩⟩
           ·rw[ae]
            have:ls.length<2 ^ 20:=by have:ds.length<=2 ^ 20:=F;lia
            exact aw this (by rw[sizeLine_eq];decide)
           ·have f:Same S H3:=aa.stay
            have U:S l=none:=(A.wl l (.inr rfl)).1;obtain⟨q1,q2,q3,L,q5⟩:=ok'.fresh f U B (rp.mono (O':=λa=>(Ow G R a\/S a=none)/\a≠l) (λ_ _ h=>h) λa us o h=>⟨⟨o.1,λz=>o.2 (.inr z)⟩,h⟩);have nl:l∉ls:=λz=>by obtain⟨us,h⟩:=p l z;rw[U] at h;cases h
            refine⟨addW R l,rest',D++[dv],ls++[l],rfl,c,sm.trans f,st.trans q5,q3,by simp,⟨by simp[I],λj es a ea Y=>?_⟩,?_,λa t=>?_,by rw[am,ib];lia,by first | exact e5 | rfl,by simp⟩
            ·by_cases N:j<D.length
             ·rw[au N] at ea
              rw[au (by lia)] at Y;obtain⟨w,us,h,r⟩:=inn.2 j es a ea Y;exact⟨.inl w,us,f _ _ h,ok'.reps q5 r⟩
             ·rw[dg (by lia)] at ea
              rw[dg (by lia),I] at Y;have hz:j-D.length=0:=by
               have:=(ah.mp ea).1;simp at this;lia
              rw[hz] at ea Y;simp[Option.some.injEq] at ea Y;subst ea Y;exact⟨.inr rfl,vs,B,L⟩
            ·rw[List.nodup_append]
             exact⟨nd,by simp,λa t b M=>by simp only[cj] at M;subst M;intro z;subst z;exact nl t⟩
            ·rcases cw.mp t with z | z
             ·exact fr a z
             ·rw[cj.mp z];exact sm.free U
      ·have e:i=ds.length:=by lia
       subst e;rw[ip] at ec;cases ec;refine .inl ⟨wk.stop R H' st,by rw[ae,I];exact dc hd (dc F (by rw[sizeLine_eq];decide)),λl U=>?_⟩;have g:Same H' (upd H' l (.lst (ls.map V.ref))):=wy U;obtain⟨q1,q2,q3,L⟩:=ok'.fresh0 (vs:=ls.map V.ref) g U j8;have nl:l∉ls:=λz=>by obtain⟨us,h⟩:=p l z;rw[U] at h;cases h
       have ab:Same H1 (upd H' l (.lst (ls.map V.ref))):=sm.trans g;rw[de] at k;refine k (addW R l) l _ ((s1.trans st).trans L) q3 ⟨l,ls,rfl,.inr rfl,j8,bq.mpr ⟨nl,nd⟩,inn.1,λj es a ea Y=>?_⟩ λj s v a ej ev o1 o2=>?_
       ·obtain⟨w,us,h,r⟩:=inn.2 j es a ea Y
        exact⟨.inl w,us,g _ _ h,ok'.reps L r⟩
       ·obtain⟨v',C,hs⟩:=Z.slot j s ej
        rw[ev] at C;cases C;have ag:Owns H1 s v a:=hs.back (λl' _ _ vs q=>ab _ _ q) o2;have wa:W1 a:=hs.owns ag;have E:H1 a≠none:=λz=>by obtain⟨_,us,q⟩:=Z.wl a wa;rw[z] at q;cases q
        rcases o1 with o1 | ⟨l',ls',z,q,M⟩
        ·cases o1;exact E (sm.free U)
        ·cases z
         rw[j8] at q;have:=ve (by simpa using q);subst this;exact E (fr a M)
   ·simp only[tq,e1,ac,if_neg F] at q;cases q
theorem zwe(an:Ats Nn Cn X)(R:Tos Nn X)(hi:DIx X G H0 (.Name x px) a fi)(S:∀cl C s₂ H₂ fp G H0,Ats (x::(subN Nn ix)) (subN Nn ix) (i8 X x (subN Nn ix) sc cl C s₂ H₂ fp)->DFx (i8 X x (subN Nn ix) sc cl C s₂ H₂ fp) G H0 e te)(J:om Nn Cn ix x sc=true:=by decide +kernel)(V:X.calm=true:=by rfl)(I:Nn[i]?=some y:=by rfl)(U:swapsWith (.ListComp e [⟨.Name x px,a,[],0⟩] sc pos) (some (.Name y py)) spos.line X.env=pure true:=by rfl)(Y:∀v,foldedSetIterable a X.env v=pure v:=by intro _;rfl) :
  PS X (.Assign [.Name y py] (.ListComp e [⟨.Name x px,a,[],0⟩] sc pos) spos) (tAsg (tDF2 X.K G H0 (tq fi ix te)) (ml i)) :=
 (zmm (u9 an J) (λ_ _ _ _ _ _ _ _ _=>V) (R.t I).nd (R.t I).n (R.t I).l hi.out (λcl C s₂ H₂ fp _=>yc (X:=X) rfl) (λcl C s₂ H₂ fp _=>z5m (X:=X) rfl (λG H0=>S cl C s₂ H₂ fp G H0 (rq J))) U (R.t I).f Y).imp λD σ H h=>zz0 σ H _ h
variable{α:Type}{j:Nat}
theorem z3g{xs:List α}{k:Int}{y:α}(h:ixN xs.length k=some j)(h2:xs[j]?=some y):atI xs k=some y:=by
 unfold atI;rw[h];exact h2
variable{env:DE0}{σ:St}{v:V}
theorem zwf{dss:List i0}{k:Int}(ok:Ok X.K G H0 W env σ H)(S:env[i]?=some (some (.o2 dss)))(U:σ[i]?=some (some v))(Y:ixN dss.length k=some j)(J:dss[j]?=some ds) :
  ∃(l:Addr) (ls:gu) (a:Addr) (vs:ik),v=.ref l/\H l=some (.lst (ls.map V.ref))/\ls[j]?=some a/\atI (ls.map V.ref) k=some (.ref a)/\H a=some (.lst vs)/\Reps X.K H (Ow G W) ds vs:=by
 obtain⟨b,R,l,ls,rfl,c,Z,d,hi⟩:=ok.slot i _ S;rw[U] at R;cases R;have I:j<ls.length:=by rw[hi.1];exact(ah.mp J).1
 obtain⟨_,vs,h,r⟩:=hi.2 j ds ls[j] J (by simp[I]);exact⟨l,ls,ls[j],vs,rfl,Z,by simp[I],z3g (j:=j) (by rw[ae,hi.1];exact Y) (by simp[I]),h,r⟩
@[simp] def app2(k d:D)(e:DE0)(i:Nat):Option (D×DE0):=match k,e[i]? with
 | .int k,some (some (.o2 dss))=>(ixN dss.length k).bind λj=>(dss[j]?).bind λds=>if Few (ds.length+1) then some (.non,e.set i (some (.o2 (dss.set j (ds++[d]))))) else none
 | _,_=>none
@[simp] def zwg(i:Nat)(g f:FE):FE:=λe=>match e[i]? with
 | some (some (.o2 _))=>(g e).bind λr=>(f (r.2.map capt)).bind λq=>app2 r.1 q.1 r.2 i
 | _=>none
theorem zdj{env:Env}:∀ {names:List (Str×NameKind)} {x:Str},names.lookup x=some .globalImplicit ->
  (names.map λ(n,k)=>if (k==NameKind.free && env.scope.kind==.function && env.kindOf n==some .cell) then(n,NameKind.cell) else(n,k)).lookup x=some .globalImplicit
 | (n,k)::r,x,h=>by
   have D:=@zdj env r x;show List.lookup x ((if (k==NameKind.free && env.scope.kind==.function && env.kindOf n==some .cell)=true then(n,NameKind.cell) else(n,k))::_)=_;cases hx:x==n with
   | true =>
     simp only[cg,hx] at h;cases h;simp[cg,hx]
   | false =>
     simp only[cg,hx] at h;by_cases I:(k==NameKind.free && env.scope.kind==.function && env.kindOf n==some .cell)=true
     ·rw[if_pos I];simp only[cg,hx];exact D h
     ·rw[if_neg I];simp only[cg,hx];exact D h
variable{N':gj}{cl:List (Str×Addr)}{C:Addr}{s:Shared}{fp:gu}
theorem gl_c(h:sc.names.lookup x=some .globalImplicit):Gl (i8 X y N' sc cl C s H fp) x:=zdj h
theorem z3h:Ty "int" "int":=⟨by decide +kernel,by decide +kernel,by decide +kernel,by decide +kernel⟩
theorem zz1:Ty "bool" "bool":=⟨by decide +kernel,by decide +kernel,by decide +kernel,by decide +kernel⟩
theorem ztx:Ty "str" "str":=⟨by decide +kernel,by decide +kernel,by decide +kernel,by decide +kernel⟩
theorem zqs:Ty "tuple" "tuple":=⟨by decide +kernel,by decide +kernel,by decide +kernel,by decide +kernel⟩
theorem zz2(l:List α)(k:Nat)(y:α):(l.toArray.extract 0 k).push y++l.toArray.extract k=(l.take k++y::l.drop k).toArray:=by
 simp;exact gv (by simp)
def zz3:V->ik->Hp->VK->Prop:=λx vs H Q=>∃(l:Addr) (xs:ik) (i:Int) (y:V),x=.ref l/\vs=[.int i,y]/\H l=some (.lst xs)/\0<=i/\i<=xs.length/\i<2 ^ 62/\xs.length<sizeLine/\Q .non (upd H l (.lst (xs.take i.toNat++y::xs.drop i.toNat)))
theorem Vals.ins{xs:ik}{its:gr}{y:V}{u:Value}(r:Vals xs its)(D:Vals [y] [u])(k:Nat):Vals (xs.take k++y::xs.drop k) (its.take k++u::its.drop k):=by
 have:=(r.take k).append (D.append (r.drop k));simpa using this
theorem zty:MtM X "list.insert" zz3:=by
 intro pins s σ H x vs v us Q I U V h;obtain⟨l,xs,i,y,rfl,rfl,R,Z,h1,h2,a,q⟩:=h;cases U;obtain⟨b,S,rfl,D,J⟩:=V.two;obtain⟨t,rfl⟩:=D;obtain⟨z,its,n,r,c,e⟩:=I.lstM R;refine call_meets F.slot_list_insert ⟨_,e,rfl⟩ F.entry_list_insert (F.args_list_insert_3 _ _ _) (PySem.AutoSeq1.list_insert_list_int_val_1 l its.toArray n i t S (by rw[fitsIndex_both (k:=i) (by lia) (by lia)];decide) (by rw[bh];lia)) ⟨e,?_⟩;refine⟨.non,_,I.lset (its':=its.take i.toNat++S::its.drop i.toNat) R e ?_ (Vals.ins r (.cons J .nil) _) ?_,rfl,q⟩
 ·have Y:(if i<0 then(i+(its.toArray.size:Int)).toNat else min i.toNat its.toArray.size)=i.toNat:=by
   rw[if_neg (by lia),bh]
   lia
  rw[Y,zz2]
 ·rw[am,ak,dq,fg]
  lia
def zz4(k d:D)(e:DE0)(i:Nat):Option (D×DE0):=match k,e[i]? with
 | .int k,some (some (.ow ds))=>if 0<=k/\k<=ds.length/\Few (ds.length+1) then some (.non,e.set i (some (.ow (ds.take k.toNat++d::ds.drop k.toNat)))) else none
 | _,_=>none
def zmx(i:Nat)(f g:FE):FE:=λe=>match e[i]? with
 | some (some (.ow _))=>(aq f (aq g fNil) e).bind λr=>match r.1 with | [k,d]=>zz4 k d r.2 i | _=>none
 | _=>none
theorem ztz(s:DEx X G H0 a f)(t:DEx X G H0 b g)(an:Ats Nn Cn X)(V:Nn[i]?=some x:=by rfl)(I:attributeBase (.Name x p') "insert" X.env (eval (.Name x p') X.env)=eval (.Name x p') X.env:=by rfl)(R:((backTo pos (starEach [a,b] X.env)).all (λx=>!x.1) && (backToKw pos (keywordEach [] X.env)).all (λx=>x.1.isSome)
   && decide ([a,b].length+([]:List Keyword).length+(if ([]:List Keyword).isEmpty then 0 else 1)<30))=true:=by rfl)(J:(p1.endLine==pos.line)=true:=by rfl)(m:starEach [a,b] X.env=(false,eval a X.env)::starEach [b] X.env:=by rfl)(Y:starEach [b] X.env=(false,eval b X.env)::starEach [] X.env:=by rfl)(Z:(backTo pos (starEach [b] X.env)).any (·.1)=false:=by rfl) :
  DEx X G H0 (.Call (.Attribute (.Name x p') "insert" p1) [a,b] [] pos) (zmx i f g):=⟨(zvy fq PySem.F.slot_list_insert PySem.F.type_list_insert zty ((an.a V).pe) (bf s (bf t cy Y) m).out I R J m Z).imp λσ H Q u=>by
 obtain⟨W,env,d,env',ok,q,k⟩:=u;unfold zmx at q;split at q;case h_2=>cases q
 rename_i w c;obtain⟨v,e,l,y,rfl,z,h,_⟩:=ok.slot i _ c;cases e1:aq f (aq g fNil) env with
 | none=>rw[e1] at q;cases q
 | some r =>
   obtain⟨A,S⟩:=r;rw[e1,ac] at q;dsimp only at q;split at q;case h_2=>cases q
   unfold zz4 at q;split at q;case h_2=>cases q
   rename_i j ds n;split at q;case isFalse=>cases q
   rename_i B;obtain⟨C,E,o⟩:=B;cases q;refine⟨_,e,.inl ⟨rfl,_,.inl (.inl h)⟩,W,env,_,S,ok,e1,λW1 K H1 L U M=>?_⟩;obtain⟨v',p,l',vs,N,hW,O,r⟩:=U.slot i _ n;rw[e] at p;cases p;cases N;cases M with
   | cons q1 r2 =>
   cases r2 with
   | cons q2 r3 =>
   cases r3;cases q1;obtain⟨P,T⟩:=U.turn n e ((r.take j.toNat).append (.cons q2 (r.drop j.toNat)));have D:=r.length;have c3:ds.length<sizeLine:=lt20 (ni o);have c4:ds.length+1<=2 ^ 20:=o;exact⟨l,vs,j,_,rfl,rfl,O,C,by rw[<-D];exact E,by lia,by rw[<-D];exact c3,k W1 _ _ (L.trans T) P .non⟩⟩
def oo:g0->i0->DE0->DE0
 | i::ix,d::ds,e=>oo ix ds (e.set i (some (.sh d)))
 | _,_,e=>e
def gIs:g0->TGs
 | []=>gNil
 | i::ix=>z1y (ml i) (gIs ix)
def sUnp(ix:g0)(f:FE):FS:=λe=>(f e).bind λr=>match r.1 with
 | .tup ds=>if ds.length=ix.length then some (.nx,oo ix ds r.2) else none
 | _=>none
def unp(ix:g0)(d:D)(e:DE0):Option DE0:=match d with
 | .tup ds=>if ds.length=ix.length then some (oo ix ds e) else none
 | _=>none
def forU(ix:g0)(g:FS):i0->DE0->Option (Fl×DE0)
 | [],e=>some (.nx,e)
 | d::r,e=>(unp ix d e).bind λI=>(g I).bind λq=>match q.1 with | .nx=>forU ix g r q.2 | .ct=>forU ix g r q.2 | .bk=>some (.nx,q.2) | .rt d=>some (.rt d,q.2) | .rf ds=>some (.rf ds,q.2) | .r2 ds=>some (.r2 ds,q.2) | .xc c=>some (.xc c,q.2) | .ra k ps=>some (.ra k ps,q.2)
@[simp] def nk(ix:g0)(fi:FI)(g:FS):FS:=λe=>(fi e).bind λr=>forU ix g r.1 r.2
theorem zt0{K:h8}{W:Addr->Prop}{H:Hp}:∀(ix:g0) (ds:i0) (vs:ik) (env:DE0) (σ:St) (Q:St->Hp->Prop),Ok K G H0 W env σ H->Reps K H (Ow G W) ds vs->ds.length=ix.length ->
  (∀I,Ok K G H0 W (oo ix ds env) I H->Q I H)->gIs ix vs σ H Q
 | [],ds,vs,env,σ,Q,ok,r,hl,k=>by
   cases r with
   | nil=>exact⟨rfl,k σ ok⟩
   | cons _ _=>cases hl
 | i::ix,ds,vs,env,σ,Q,ok,r,hl,k=>by
   cases r with
   | nil=>cases hl
   | @cons d v ds vs r0 r =>
     refine⟨v,vs,rfl,?_⟩;exact zt0 ix ds vs _ _ Q (ok.set r0) r (Nat.succ.inj hl) k
theorem wf  : PGs X [] (gIs []):=zy9
variable{es:g9}
theorem lw(I:Tos Nn X)(h:PGs X es (gIs ix))(D:Nn[i]?=some x:=by rfl)(J:(assignEach (.Name x pos::es) X.env).map (·.2)=assign (.Name x pos) X.env::(assignEach es X.env).map (·.2):=by rfl):PGs X (.Name x pos::es) (gIs (i::ix)):=zvo (zsv (I.t D).nd (I.t D).n (I.t D).l (I.t D).f) h J
variable{body:List Stmt}{u:FS}
theorem zmy(hi:DIx X G H0 (.Tuple es k p1) a fi)(h:PGs X es (gIs ix))(C:DBx X G H0 body u)(E:PassesOwn (model X.prog X.w) X.A X.env X.xe:=by passes_own)(p:X.calm=true:=by rfl)(s:(assignEach es X.env).length=ix.length:=by rfl)(g:(assignEach es X.env).findIdx? (·.1)=none:=by rfl)(F:∀x,foldedSetIterable a X.env x=pure x:=by intro _;rfl):DSx X G H0 (.For (.Tuple es k p1) a body [] pos) (nk ix fi u):=⟨(zs1 E p hi.out (zxz (n:=ix.length) p h s g) C.out F).imp λDn σ H L=>by
 obtain⟨W,env,fl,env',ok,q,k⟩:=L;cases e1:fi env with
 | none=>simp[e1] at q
 | some z =>
   obtain⟨ds,U⟩:=z;have q:forU ix u ds U=some (fl,env'):=by simpa[nk,e1] using q
   refine⟨W,env,ds,U,ok,e1,λW1 J H1 b i t=>?_⟩;refine⟨λn m Z H'=>∃W' I,m=ds.length-n/\n<=ds.length/\Step W1 H1 W' H'/\Ok X.K G H0 W' I Z H'/\forU ix u (ds.drop n) I=some (fl,env'),⟨ds.length,W1,U,rfl,fz _,Step.refl,i,q⟩,?_⟩;rintro n m Z H' ⟨W',I,rfl,s,st,ok',ef⟩;by_cases c:n<ds.length
   ·have M:ds.drop n=ds[n]::ds.drop (n+1):=em c
    rw[M] at ef;obtain⟨N,O⟩:=t.go W' H' n ds[n] st (by simp[c]);unfold forU at ef;cases e2:unp ix ds[n] I with
    | none=>rw[e2] at ef;cases ef
    | some env5 =>
    rw[e2,ac] at ef;cases e3:u env5 with
    | none=>rw[e3] at ef;cases ef
    | some r =>
      obtain⟨f,V⟩:=r;rw[e3,ac] at ef;refine .inr ⟨N,λS H2=>∃Y R,Step W1 H1 Y H2/\Ok X.K G H0 Y R S H2/\forU ix u (ds.drop (n+1)) R=some (fl,env'),λS H2 ⟨Y,R,s2,D,e4⟩=>⟨ds.length-(n+1),by lia,Y,R,rfl,c,s2,D,e4⟩,λx j y=>?_⟩;obtain⟨rfl,v⟩:=O x j y;generalize ds[n]=dn at v e2;unfold unp at e2;split at e2;case h_2=>cases e2
      rename_i l;split at e2;case isFalse=>cases e2
      rename_i B;cases e2;cases v with
      | @tup a vs _ ht rr =>
      refine⟨a,vs,rfl,.inl (.inl ht),by rw[<-rr.length];exact B,zt0 ix l vs _ Z _ ok' rr B λP o=>?_⟩;refine⟨W',_,f,V,o,e3,?_⟩;cases f with
      | nx=>exact λY S H2 s2 D=>⟨Y,V,st.trans s2,D,ef⟩
      | ct=>exact λY S H2 s2 D=>⟨Y,V,st.trans s2,D,ef⟩
      | bk =>
        cases ef;exact λY S H2 s2 D=>k Y S H2 ((b.trans st).trans s2) D
      | rt d=>cases ef;exact k.go rfl rfl (b.trans st)
      | rf d=>cases ef;exact k.go rfl rfl (b.trans st)
      | r2 d=>cases ef;exact k.go rfl rfl (b.trans st)
      | xc d=>cases ef;exact k.go rfl rfl (b.trans st)
      | ra d d'=>cases ef;exact k.go rfl rfl (b.trans st)
   ·have e:n=ds.length:=by lia
    subst e;rw[ip] at ef;cases ef;exact .inl ⟨t.stop W' H' st,k W' Z H' (b.trans st) ok'⟩⟩
def fRep(F:FA)(g:FE):FA:=λe=>(F e).bind λr=>(g r.2).bind λq=>match q.1 with
 | .int k=>if Few (r.1.length*k.toNat)/\Bnd (-(2 ^ 62)) (2 ^ 62) k then some ((List.replicate k.toNat r.1).flatten,q.2) else none
 | _=>none
theorem Reps.rep{K:h8}{H:Hp}{O:Addr->Prop}{ds:i0}{vs:ik}(r:Reps K H O ds vs):∀k:Nat,Reps K H O (List.replicate k ds).flatten (List.replicate k vs).flatten
 | 0=>.nil
 | k+1=>by
   exact r.append (Reps.rep r k)
theorem zye(i:DFx X G H0 a F)(j:DEx X G H0 b g):DFx X G H0 (.BinOp a .Mult b pos) (fRep F g):=⟨(zza z2l i.out j.out).imp λσ H Q m=>by
 obtain⟨W,env,d,env',ok,q,k⟩:=m;unfold fRep at q;cases e1:F env with
 | none=>rw[e1] at q;cases q
 | some r =>
   obtain⟨ds,D⟩:=r;rw[e1,ac] at q;cases e2:g D with
   | none=>rw[e2] at q;cases q
   | some r2 =>
     obtain⟨L,Y⟩:=r2;rw[e2,ac] at q;dsimp only at q;split at q;case h_2=>cases q
     rename_i Z;split at q;case isFalse=>cases q
     rename_i p;obtain⟨s,t,u⟩:=p;cases q;refine⟨W,env,_,_,ok,e1,λW1 l vs H1 c I e v w f=>⟨W1,D,_,_,I,e2,λx v2 H2 s2 J p2=>?_⟩⟩;have R:Step W H W1 H1:=⟨c.keep,λa h=>c.ws a (.inl h)⟩;have S:Reps X.K H1 (Ow G W1) ds vs:=f.mono (λ_ _ h=>h) λa us o h=>⟨⟨o.1,λz=>o.2 (.inl z)⟩,h⟩;have U:=I.reps s2 S;have V:H2 l=some (.lst vs):=s2.keep l _ w v;cases p2;refine⟨l,Z,vs,rfl,rfl,V,by lia,by lia,?_,λn y=>?_⟩
     ·rw[<-f.length];exact dc s (by rw[sizeLine_eq];decide)
     ·obtain⟨h1,h2,A,B,C,E⟩:=tw J (Reps.rep U Z.toNat) y
      exact k x n _ _ ((R.trans s2).trans h1) h2 A B C E⟩
variable{wr:gu}{pins:ia}{h2:Heap}
theorem Inv.tupled{tk:Nat}{T:Addr}{us:ic}(I:Inv X pins σ H s)(R:∀b∈wr,FpOk X pins H b)(hT:s.heap.objs.size<=T)(g:T∉wr)(k:∀b o,b∉wr->s.heap.get? b=some o->h2.get? b=some o)(V:h2.IsTuple T us)(Y:Vals vs us.toList)(Z:vs.length<=sizeLine) :
  Inv X pins σ (upd H T (.tup vs)) { s with heap:=h2,toks:=tk }:=by
 have S:H T=none:=I.hok.fresh hT;have U:∀b u,H b=some u->b∉wr:=λb u e z=>by rw[(R b z).1] at e;cases e
 have neT:∀b o,s.heap.get? b=some o->b≠T:=λb o e=>bx (aw (az e) hT);refine I.step (g':=s.gens) (d':=s.drawn) (ch:=wr) (λb D=>⟨(R b D).2.2.2.1,(R b D).2.1,(R b D).2.2.2.2.1,(R b D).2.2.2.2.2⟩) (λb o _ _ J e _=>k b o J e) (λb o _ _ J e _=>⟨o.slots,k b o J e⟩)
  (λb o _ e n=>by rw[gm (neT b o e)];exact n) (λb o J e=>⟨o,k b o J e⟩) (λb xs e=>by rw[gm (m4 e S)];exact e) (λb o u e=>by rw[gm (m4 e S)];exact e)
  (λb ps e=>⟨#[],by rw[gm (m4 e S),e];simp⟩) (λm a=>?_) (λb u e=>?_) I.bare
 ·obtain⟨o,es,d,f,r⟩:=a
  exact⟨o,es,d,k _ o (λz=>(R _ z).2.1 rfl) f,r⟩
 ·by_cases D:b=T
  ·subst D
   rw[j8] at e;cases e;exact⟨Z,us.toList,Y,by rw[Array.toArray_toList];exact V⟩
  ·rw[gm D] at e
   refine(I.hok b u e).stay (λc v J q=>k c v ?_ q) (λc q=>by rw[gm (m4 q S)];exact q) λc xs q=>by rw[gm (m4 q S)];exact q
   rcases J with z | z
   ·rw[z];exact U b u e
   ·exact U c _ z
theorem Inv.turnedL{tk:Nat}(I:Inv X pins σ H s)(J:∀b∈wr,FpOk X pins H b)(k:∀b o,b∉wr->s.heap.get? b=some o->h2.get? b=some o) :
  Inv X pins σ H { s with heap:=h2,toks:=tk }:=by
 have R:∀b u,H b=some u->b∉wr:=λb u e z=>by rw[(J b z).1] at e;cases e
 refine I.step (g':=s.gens) (d':=s.drawn) (ch:=wr) (λb S=>⟨(J b S).2.2.2.1,(J b S).2.1,(J b S).2.2.2.2.1,(J b S).2.2.2.2.2⟩) (λb o _ _ D e _=>k b o D e) (λb o _ _ D e _=>⟨o.slots,k b o D e⟩)
  (λ_ _ _ _ n=>n) (λb o D e=>⟨o,k b o D e⟩) (λ_ _ e=>e) (λ_ _ _ e=>e) (λb ps e=>⟨#[],by rw[e];simp⟩) (λm U=>?_) (λb u e=>?_) I.bare
 ·obtain⟨o,es,V,Y,r⟩:=U
  exact⟨o,es,V,k _ o (λz=>(J _ z).2.1 rfl) Y,r⟩
 ·refine(I.hok b u e).stay (λc v D q=>k c v ?_ q) (λ_ q=>q) λ_ _ q=>q
  rcases D with z | z
  ·rw[z];exact R b u e
  ·exact R c _ z
def Itp(go:Nat->Hp->Prop)(I:Nat->Hp->ik->Prop)(D:Nat->Hp->Prop):It :=
 ⟨go,λi H x H'=>∃t vs,H t=none/\x=.ref t/\H'=upd H t (.tup vs)/\I i H vs,D⟩
variable{it:Addr}
theorem z3i{S:Nat->Heap->Prop}{go:Nat->Hp->Prop}{x:Nat->Hp->ik->Prop}{J:Nat->Hp->Prop}(mem:it∈fp)(obj:∀i h,S i h->∀b∈fp,∃o,h.get? b=some o/\∀v,o.data≠.cell v)(keep:∀i h h',S i h->(∀b∈fp,∀o,h.get? b=some o->h'.get? b=some o)->S i h')(y:∀(X:Cx),X.prog=P->X.w=w->X.K=K->X.A.handled=none->∀(i:Nat) (pins:ia) (s:Shared) (σ:St) (H:Hp),Inv X pins σ H s->(∀b∈fp,FpOk X pins H b)->S i s.heap->(go i H\/J i H) ->
   ∃U wr n Pt St Y j,WalksT P w X.A it U wr n Pt St Y/\St j s.heap/\(∀b∈wr,b∈fp)/\(∀h,St (j+1) h->S (i+1) h)/\(go i H->j<n)/\(J i H->j=n) /\
    (go i H->∀D,Pt j D->∃vs,Vals vs D.toList/\vs.length<=sizeLine/\x i H vs))(self:∀(A:Around) (i:Nat) (s:Shared) (Q:Value->Shared->Prop) (E:Value->Shared->Prop),S i s.heap->Q (.ref it) s->wpAny (model P w) A (pyIter (.ref it)) Q E s) :
  Turn P w K (.Tuple es k pos) (Itp go x J) fp it S where
 mem:=mem
 obj:=obj
 keep:=keep
 item:=by
  intro X hP m p q i pins s σ H E I a st c;obtain⟨U,wr,n,Pt,St,Y,j,W,r,Z,d,lt,_,t⟩:=y X hP m p (I.ok.hd q) i pins s σ H I a st (.inl c);refine W.item j s _ _ (lt c) r λT D h1 tk z hT B f u=>⟨_,rfl,?_⟩;obtain⟨vs,C,F,G⟩:=t c D z;have g:T∉wr:=W.apart j T h1 f;refine W.go es k pos j T _ _ _ f λh2 s2 l=>?_;refine⟨.ref T,upd H T (.tup vs),?_,rfl,⟨T,vs,I.hok.fresh hT,rfl,rfl,G⟩,d h2 s2,λb R=>?_⟩
  ·exact I.tupled (λb R=>a b (Z b R)) hT g (λb o R e=>l b o R (u b o R e)) (B.at λo e=>l T o g e) C F
  ·obtain⟨o,L,_⟩:=obj i _ st b R
   rw[gm (bx (aw (az L) hT))];exact(a b R).1
 done:=by
  intro X hP m p q i pins s σ H E I a st c;obtain⟨U,wr,n,Pt,St,Y,j,W,r,Z,d,_,M,_⟩:=y X hP m p (I.ok.hd q) i pins s σ H I a st (.inr c);cases M c;exact W.done s _ _ r λh1 tk u=>⟨rfl,I.turnedL (λb R=>a b (Z b R)) u⟩
 self:=self
variable{A:Around}{l:Addr}
theorem zsb(I:A.handled=none)(J:l≠it)(c:Nat)(its:ic) :
  Draws P w A.in1 it [it,l] (c+its.size) (λj x=>∃i,j=c+i/\its[i]?=some x) (λj h=>∃i,j=c+i/\i<=its.size/\h.IsListIter it l i/\h.IsList l its) where
 live:=λj h ⟨i,_,_,⟨o,e,_⟩,_⟩=>⟨o,e⟩
 frame:=λj h h' ⟨i,e,hi,a,b⟩ k=>⟨i,e,hi,a.at λo e=>k it (by simp) o e,b.at λo e=>k l (by simp) o e⟩
 item:=λj s Q E hj ⟨i,e,hi,a,b⟩ hQ=>by
  subst e;have hi:i<its.size:=by lia
  refine wpAny_nextOf_list_item a b (x:=its[i]) (by simp[hi]) λh' R D=>?_;exact hQ _ h' s.toks ⟨i,rfl,by simp[hi]⟩ ⟨i+1,by lia,hi,R,b.extBut D.extBut J⟩ D
 done:=λs Q E ⟨i,e,hi,a,b⟩ hE=>by
  have hi:i=its.size:=by lia
  subst hi;exact wpAny_nextOf_list_end I a b (by simp) hE
def Ite(K:h8)(a:Addr)(c:Nat):It :=
 Itp (λi H=>∃xs x,SqL K H a xs/\xs[i]?=some x) (λi H vs=>∃y,vs=[.int (c+i:Nat),y]/\∀xs,SqL K H a xs->xs[i]?=some y) (λi H=>∃xs,SqL K H a xs/\xs.length=i)
theorem zt1(a it e:Addr)(c:Nat)(N:e≠it) :
  Turn P w K (.Tuple es k pos) (Ite K a c) [e,it] e (λi h=>(∃J,IsEnum h e it (c+i:Nat) J)/\h.IsListIter it a i):=by
 refine z3i (by simp) (λi h st b B=>?_) (λi h h' st O=>?_) ?_ λA i s Q E st hQ=>?_
 ·obtain⟨⟨J,R⟩,o,ho,_,hd⟩:=st
  rcases b7.mp B with z | z
  ·subst z
   exact⟨_,R,λv z=>by cases (show Data.fields _=Data.cell v from z)⟩
  ·cases cj.mp z
   exact⟨o,ho,λv z=>by rw[hd] at z;cases z⟩
 ·exact⟨st.1.imp λJ R=>O e (by simp) _ R,st.2.at λo x=>O it (by simp) o x⟩
 ·intro X hP hw hK hh i pins s σ H I hf st V
  subst hP hw hK;obtain⟨⟨J,R⟩,Y⟩:=st;have C:∃xs,SqL X.K H a xs/\i<=xs.length:=by
   rcases V with⟨xs,x,q,Z⟩ | ⟨xs,q,Z⟩
   ·exact⟨xs,q,nj (ah.mp Z).1⟩
   ·exact⟨xs,q,Nat.le_of_eq Z.symm⟩
  obtain⟨xs,q,F⟩:=C;obtain⟨its,T,p,hz⟩:=I.list q;have hl:=T.length;obtain⟨ol,U,d,_⟩:=id p.isList;obtain⟨oi,f,g,_⟩:=id Y;have G:a≠it:=λz=>by
   subst z;rw[U] at f;cases f;rw[d] at g;exact absurd g (by decide)
  have L:e≠a:=λz=>by
   subst z;rw[R] at U;cases U;exact absurd (show Value.type "enumerate" = Value.type "list" from d) (by decide)
  have D:=zsb (P:=X.prog) (w:=X.w) hh G c its.toArray;refine⟨_,_,_,_,_,_,c+i,WalksT.enumerateD D e N (by simp[N,L]) (by simp),⟨⟨J,R⟩,i,rfl,by simpa[<-hl] using F,Y,p.isList⟩,λb B=>B,λh st=>?_,λV=>?_,λhs=>?_,λV W hv=>?_⟩
  ·obtain⟨⟨j,M⟩,l,e',_,m,_⟩:=st
   have:l=i+1:=by lia
   subst this;exact⟨⟨j,M⟩,m⟩
  ·obtain⟨ys,y,n,S⟩:=V
   rw[I.list_inj n q] at S;have:=(ah.mp S).1;simp
   lia
  ·obtain⟨ys,n,S⟩:=hs
   rw[I.list_inj n q] at S;simp
   lia
  ·obtain⟨t,x,⟨l,e',Z⟩,rfl⟩:=hv
   have:l=i:=by lia
   subst this;obtain⟨ys,y,n,S⟩:=V;rw[I.list_inj n q] at S;obtain⟨u,hu,ru⟩:=T.get S;have:u=x:=by
    have r:its[l]?=some x:=by simpa using Z
    rw[hu] at r;cases r;rfl
   subst this;exact⟨[.int (c+l:Nat),y],.cons ⟨t,rfl⟩ (.cons ru .nil),by show 2<=sizeLine;rw[sizeLine_eq];decide,y,rfl,λzs C=>by rw[I.list_inj C q];exact S⟩
 ·obtain⟨⟨J,R⟩,_⟩:=st
  exact wpAny_pyIter_enum R hQ
structure ZNe (z ti to i1 i2:Addr):Prop where
 a1:ti≠z
 a2:to≠z
 a3:i1≠z
 a4:i2≠z
 a5:ti≠to
 a6:ti≠i1
 a7:ti≠i2
 a8:to≠i1
 a9:to≠i2
 aA:i1≠i2
abbrev enH(h:Heap)(l:Addr):Heap:=h.push { cls:=.type "list_iterator",data:=.fields #[.ref l,.int 0 0] }
abbrev enHs(h:Heap)(l:Addr):Heap:=(enH h l).push { cls:=.type "enumerate",data:=.fields #[.none,.bool false,.ref h.objs.size,rawInt 1,.none,.none] }
theorem zsc(v:Value)(t:Tok):checkTypeCall "enumerate" ⟨[v],[("start",.int 1 t)]⟩=pure ():=by kernel_rfl
theorem zt2(v:Value)(t:Tok):checkBuiltinCall "enumerate.__new__" ⟨[.type "enumerate",v],[("start",.int 1 t)]⟩=pure ():=by kernel_rfl
theorem zt3(l:Addr)(D:ic)(n:Nat)(J:Option Addr)(sl:Array gs)(t:Tok) :
  Meets (Builtin.«enumerate.__new__» ⟨[.type "enumerate",.ref l],[("start",.int 1 t)]⟩) (λ_ R s=>s.heap.get? l=some ⟨.type "list",J,.seq D n,sl⟩/\R (.ok (.ret (.ref (enH s.heap l).objs.size))) { s with heap:=enHs s.heap l }) :=
 .of_wp λprog w A R s h=>by
  obtain⟨V,g,d,tk,os⟩:=s;obtain⟨I,h⟩:=h;have S:=sub_enumerate;have U:Heap.IsList (Shared.heap ⟨V,g,d,tk,os⟩) l D:=⟨_,I,rfl,n,rfl⟩
  wp_walk using AutoSeq1.wpAny_loadPart' I
  refine wpAny_stack_any λst=>wpAny_pure ?_;split
  ·rename_i c _ _ _ _ _
   cases (c==Value.type "enumerate") <;> (refine wpAny_bind (wpAny_of_eq (a:=(Value.ref l,some (Value.int 1 t))) (by rfl) ?_);wp_walk using AutoSeq1.wpAny_loadPart' I,wpAny_pyIter_list U;exact⟨_,rfl,h⟩)
  ·refine wpAny_bind (wpAny_of_eq (a:=(Value.ref l,some (Value.int 1 t))) (by rfl) ?_);wp_walk using AutoSeq1.wpAny_loadPart' I,wpAny_pyIter_list U;exact⟨_,rfl,h⟩
variable{t:Tok}
theorem zwh{v x:Value}:Meets (Builtin.«object.__init__» ⟨[v,x],[("start",.int 1 t)]⟩) (λ_ R s=>s.TypeIs v "enumerate"/\R (.ok (.ret .none)) s) :=
 .of_wp λprog w A R s D=>by
  obtain⟨hT,h⟩:=D;have I:=F.called_enumerate.made;have J:=F.called_enumerate.init.lookup;repeat (any_goals (first | assumption | wp_step))
  exact⟨_,rfl,h⟩
theorem zwi(a b:Value)(t:Tok):argsOk "object.__init__" ⟨[a,b],[("start",.int 1 t)]⟩:=by
 unfold argsOk;rw[signature?_of (id:="object.__init__") (n:=['_','_','t','i','n','i','_','_']) (o:=['t','c','e','j','b','o']) (by kernel_rfl) F.owner_object];kernel_rfl
variable{prog:Program}{E:Value->Shared->Prop}
theorem zwj{D:ic}{Q:Value->Shared->Prop}(a:s.heap.IsList l D)(h:Q (.ref (enH s.heap l).objs.size) { s with heap:=enHs s.heap l }):wpAny (model prog w) A (call (.type "enumerate") [.ref l] [("start",.int 1 t)]) Q E s:=by
 obtain⟨⟨c,J,b,sl⟩,d,S,n,U⟩:=a;replace S:c=.type "list":=S;replace U:b=.seq D n:=U;subst S U;have V:=F.called_enumerate.made;have Z:=F.called_enumerate.sub;have e:=zsc (.ref l) t;refine wpAny_call (codeAny_of_tree (show wpAny _ _ (callAny (.type "enumerate") _) _ _ _ from wpAny_pure ⟨Code.quiet_builtin _ (by decide +kernel),codeAny_builtin F.entry_type_call ?_⟩));repeat (any_goals (first | assumption | wp_step))
 refine codeAny_mono (codeAny_call_builtin (R:=λr I=>r=.ok (.ret (.ref (enH s.heap l).objs.size))/\I={ s with heap:=enHs s.heap l }) F.called_enumerate.plain F.entry_enumerate_new (wpAny_of_eq (zt2 _ t) (zt3 l D n J sl t prog w A.in1 (λr I=>r=.ok (.ret (.ref (enH s.heap l).objs.size))/\I={ s with heap:=enHs s.heap l }) s ⟨d,rfl,rfl⟩))) λr I f=>?_;obtain⟨rfl,rfl⟩:=f;have hT:Shared.TypeIs { s with heap:=enHs s.heap l } (.ref (enH s.heap l).objs.size) "enumerate":=⟨_,cb _ rfl,rfl⟩;have g:=F.called_enumerate.init.lookup;have i:=F.called_enumerate.init.bind (.ref (enH s.heap l).objs.size);repeat (any_goals (first | assumption | wp_step))
 refine codeAny_mono (codeAny_call_builtin (R:=λr s2=>r=.ok (.ret .none)/\s2={ s with heap:=enHs s.heap l }) F.called_enumerate.init.plain F.entry_object_init (F.called_enumerate.init.check _ _ _ _ _ _ _ _ hT (zwi _ _ t) (zwh prog w A.in1 (λr s2=>r=.ok (.ret .none)/\s2={ s with heap:=enHs s.heap l }) _ ⟨hT,rfl,rfl⟩))) λj s2 Y=>?_;obtain⟨rfl,rfl⟩:=Y;repeat (any_goals (first | assumption | wp_step))
variable{c:Nat}
theorem mem2(h:c∈[n+1,n]):n<=c:=by simp at h;lia
theorem zt4:bootBuiltins "enumerate" = some (.type "enumerate"):=by decide +kernel
def z3j(K:h8)(c:Nat)(ta:TA):TI:=λσ H R=>ta σ H λvs H1=>∃l xs,vs=[.ref l]/\SqL K H1 l xs/\R (Ite K l c) H1
variable{p p2 kp:Pos}{ta:TA}
theorem zwk(U:Bn X "enumerate")(Y:PA X [a] ta)(Z:starEach [a] X.env=(false,eval a X.env)::starEach [] X.env:=by rfl)(S:(backTo pos (starEach [a] X.env)).any (·.1)=false:=by rfl) :
  PI X (.Tuple es k p1) (.Call (.Name "enumerate" p) [a] [⟨some "start",.Constant (.int 1) j p2,kp⟩] pos) (z3j X.K 1 ta):=by
 intro pins s σ H R I h;refine wpAny_Call_Name_kw (yl I U.g U.m zt4 ?_);refine PySem.W.callWith_of (P:=λ_=>True) (by rw[S];rfl) (λ_ _=>⟨Keeper.machine,.inr (.inl rfl),PySem.W.Looks.of_pure rfl⟩) (evalArgs_kw2 rfl (thn (Y pos pins s σ H _ I h) λus s1 ⟨vs,H1,I1,r1,q1⟩=>?_) Z);refine thn (zzh (nm:=some "start") (kpos:=kp) (ym (i:=1) (j:=j) (pos:=p2)) z2h pos pins s1 σ H1 (λws H2=>H2=H1/\ws=[.int 1]) I1 ⟨rfl,rfl⟩) λws s2 ⟨zs,H2,I2,rz,ez,e2⟩=>⟨trivial,?_⟩;subst ez e2;obtain⟨l,xs,e,b,q⟩:=q1;subst e;cases r1 with
 | cons r rr =>
   cases rr;cases r;cases rz with
   | cons r' rr' =>
   obtain⟨t,rfl⟩:=r';obtain⟨its,d,pl,f⟩:=I2.list b;refine zwj (t:=t) pl.isList ?_;have V:IsEnum (enHs s2.heap l) (enH s2.heap l).objs.size s2.heap.objs.size 1 .none:=cb _ rfl;have D:(enH s2.heap l).objs.size=s2.heap.objs.size+1:=i3 ..;refine wpAny_pyIter_enum V ?_;refine⟨(enH s2.heap l).objs.size,[(enH s2.heap l).objs.size,s2.heap.objs.size],_,_,H2,rfl,I2.kept (t':=s2.toks) (λc o e=>ao _ (ao _ e)),zt1 l _ _ 1 (by rw[D];exact Nat.succ_ne_self _),⟨⟨.none,V⟩,⟨_,ao _ (cb _ rfl),rfl,rfl⟩⟩,λc J=>?_,q⟩;have J:s2.heap.objs.size<=c:=by rw[D] at J;exact mem2 J
   exact I2.fpOk J (I2.hok.fresh J)
structure z3k (K:h8) (G:Gd) (J:It) (W:Addr->Prop) (H:Hp) (ds:i0):Prop where
 go:∀W' H' (i:Nat) d,Step W H W' H'->ds[i]?=some d->J.go i H'/\∀x H'',J.yld i H' x H''->Same H' H''/\Rep K H'' (Ow G W') d x
 stop:∀W' H',Step W H W' H'->J.stop ds.length H'
def tDJ(K:h8)(G:Gd)(H0:Hp)(f:FI):TI:=λσ H R=>∃W env ds env',Ok K G H0 W env σ H/\f env=some (ds,env') /\
 ∀W' J H',Step W H W' H'->Ok K G H0 W' env' σ H'->z3k K G J W' H' ds->R J H'
structure DJx (X:Cx) (G:Gd) (H0:Hp) (tg:Expr) (e:Expr) (f:FI):Prop where
 out:PI X tg e (tDJ X.K G H0 f)
def n9:Nat->i0->i0
 | _,[]=>[]
 | c,d::r=>.tup [.int c,d]::n9 (c+1) r
def zipD:i0->i0->i0
 | d::r,d'::r'=>.tup [d,d']::zipD r r'
 | _,_=>[]
theorem zoh:∀(ds:i0) (c i:Nat),(n9 c ds)[i]?=ds[i]?.map λd=>.tup [.int (c+i:Nat),d]
 | [],c,i=>by simp[n9]
 | d::r,c,0=>by simp[n9]
 | d::r,c,i+1=>by
   simp only[n9,ai];rw[zoh r (c+1) i];rw[show c+1+i=c+(i+1) by lia]
theorem zoi:∀(ds:i0) (c:Nat),(n9 c ds).length=ds.length
 | [],_=>rfl
 | d::r,c=>by simp[n9,zoi r]
@[simp] def iEn(c:Nat)(ds:i0):Option i0:=match ds with | [.lst ds]=>some (n9 c ds) | _=>none
@[simp] def iZp(ds:i0):Option i0:=match ds with | [.lst ds,.lst es]=>some (zipD ds es) | _=>none
variable{H':Hp}
theorem zz5{W':Addr->Prop}{t:Addr}(r:Reps K H' (Ow G W') ds vs)(D:H' t=none):Rep K (upd H' t (.tup vs)) (Ow G W') (.tup ds) (.ref t):=by
 refine .tup (j8 ..) (r.mono (λa us e=>by rw[gm (m4 e D)];exact e) λa us o h=>⟨o,?_⟩);exact h.keep λo e=>by rw[gm (m4 e D)];exact e
theorem zt5(c:Nat)(ok:Ok X.K G H0 W env σ H)(h:LsOk X.K H (Ow G W) l vs)(r:Reps X.K H (Ow G W) ds vs):z3k X.K G (Ite X.K l c) W H (n9 c ds) where
 go:=λW' H' i d st e=>by
  rw[zoh] at e;cases e0:ds[i]? with
  | none=>rw[e0] at e;cases e
  | some d0 =>
    rw[e0] at e;cases e;obtain⟨v,D,I⟩:=(ok.reps st r).get e0;have h':=(ok.lsstep st h).sq;refine⟨⟨vs,v,h',D⟩,λx H'' ⟨t,us,hn,ex,eH,y,eu,hy⟩=>?_⟩;subst ex eH eu;have:=hy vs h';rw[D] at this;cases this;exact⟨wy hn,zz5 (.cons (.int _) (.cons I .nil)) hn⟩
 stop:=λW' H' st=>⟨vs,(ok.lsstep st h).sq,by rw[zoi,r.length]⟩
variable{tg:Expr}
theorem zwl(J:PI X tg e (z3j X.K c (tDA X.K G H0 F))):DJx X G H0 tg e (jk (iEn c) F):=⟨J.imp λσ H R S=>by
 obtain⟨W,env,ds,env',ok,q,k⟩:=S;cases e1:F env with
 | none=>simp[e1] at q
 | some z =>
   obtain⟨as,D⟩:=z;cases e2:iEn c as with
   | none=>rw[jk,e1] at q;simp only[ac,e2] at q;cases q
   | some d' =>
     have q:some (d',D)=some (ds,env'):=by rw[jk,e1] at q;simp only[ac,e2] at q;exact q
     cases q;refine⟨W,env,as,_,ok,e1,λW1 vs H1 U I p1=>?_⟩;unfold iEn at e2;split at e2
     ·rename_i xs
      cases e2;obtain⟨v,rfl,V⟩:=pk p1;obtain⟨l,us,rfl,h,r⟩:=V.lst_;exact⟨l,us,rfl,h.sq,k W1 _ H1 U I (zt5 c I h r)⟩
     ·cases e2⟩
theorem zwm(I:DAx X G H0 [a] F)(J:Bn X "enumerate":=by walk_at "b")(R:starEach [a] X.env=(false,eval a X.env)::starEach [] X.env:=by rfl)(D:(backTo pos (starEach [a] X.env)).any (·.1)=false:=by rfl) :
  DJx X G H0 (.Tuple es k p1) (.Call (.Name "enumerate" p) [a] [⟨some "start",.Constant (.int 1) j p2,kp⟩] pos) (jk (iEn 1) F):=zwl (zwk J I.out R D)
theorem zz6(hi:DJx X G H0 (.Tuple es k p1) a fi)(h:PGs X es (gIs ix))(F:DBx X G H0 body u)(L:PassesOwn (model X.prog X.w) X.A X.env X.xe:=by passes_own)(t:X.calm=true:=by rfl)(v:(assignEach es X.env).length=ix.length:=by rfl)(j:(assignEach es X.env).findIdx? (·.1)=none:=by rfl)(M:∀x,foldedSetIterable a X.env x=pure x:=by intro _;rfl):DSx X G H0 (.For (.Tuple es k p1) a body [] pos) (nk ix fi u):=⟨(zs1 L t hi.out (zxz (n:=ix.length) t h v j) F.out M).imp λDn σ H N=>by
 obtain⟨W,env,fl,env',ok,q,k⟩:=N;cases e1:fi env with
 | none=>simp[e1] at q
 | some z =>
   obtain⟨ds,V⟩:=z;have q:forU ix u ds V=some (fl,env'):=by simpa[nk,e1] using q
   refine⟨W,env,ds,V,ok,e1,λW1 J H1 c l B=>?_⟩;refine⟨λn m b H'=>∃W' R,m=ds.length-n/\n<=ds.length/\Step W1 H1 W' H'/\Ok X.K G H0 W' R b H'/\forU ix u (ds.drop n) R=some (fl,env'),⟨ds.length,W1,V,rfl,fz _,Step.refl,l,q⟩,?_⟩;rintro n m b H' ⟨W',R,rfl,v,st,ok',ef⟩;by_cases f:n<ds.length
   ·have O:ds.drop n=ds[n]::ds.drop (n+1):=em f
    rw[O] at ef;obtain⟨P,Q⟩:=B.go W' H' n ds[n] st (by simp[f]);unfold forU at ef;cases e2:unp ix ds[n] R with
    | none=>rw[e2] at ef;cases ef
    | some env5 =>
    rw[e2,ac] at ef;cases e3:u env5 with
    | none=>rw[e3] at ef;cases ef
    | some r =>
      obtain⟨g,Y⟩:=r;rw[e3,ac] at ef;refine .inr ⟨P,λU H2=>∃Z S,Step W1 H1 Z H2/\Ok X.K G H0 Z S U H2/\forU ix u (ds.drop (n+1)) S=some (fl,env'),λU H2 ⟨Z,S,s2,I,e4⟩=>⟨ds.length-(n+1),by lia,Z,S,rfl,f,s2,I,e4⟩,λx i y=>?_⟩;obtain⟨sm,C⟩:=Q x i y;have o:=ok'.same sm;have D:Step W1 H1 W' i:=st.trans (Step.same sm);generalize ds[n]=dn at C e2;unfold unp at e2;split at e2;case h_2=>cases e2
      rename_i p;split at e2;case isFalse=>cases e2
      rename_i E;cases e2;cases C with
      | @tup a vs _ ht rr =>
      refine⟨a,vs,rfl,.inl (.inl ht),by rw[<-rr.length];exact E,zt0 ix p vs _ b _ o rr E λT s=>?_⟩;refine⟨W',_,g,Y,s,e3,?_⟩;cases g with
      | nx=>exact λZ U H2 s2 I=>⟨Z,Y,D.trans s2,I,ef⟩
      | ct=>exact λZ U H2 s2 I=>⟨Z,Y,D.trans s2,I,ef⟩
      | bk =>
        cases ef;exact λZ U H2 s2 I=>k Z U H2 ((c.trans D).trans s2) I
      | rt d=>cases ef;exact k.go rfl rfl (c.trans D)
      | rf d=>cases ef;exact k.go rfl rfl (c.trans D)
      | r2 d=>cases ef;exact k.go rfl rfl (c.trans D)
      | xc d=>cases ef;exact k.go rfl rfl (c.trans D)
      | ra d d'=>cases ef;exact k.go rfl rfl (c.trans D)
   ·have e:n=ds.length:=by lia
    subst e;rw[ip] at ef;cases ef;exact .inl ⟨B.stop W' H' st,k W' b H' (c.trans st) ok'⟩⟩
theorem zwn{env0:DE0}{z:Int}(h:fVar i env=some (.int z,env0)):env[i]?=some (some (.sh (.int z)))/\env0=env:=by
 unfold fVar at h;split at h
 ·rename_i d D
  cases h;exact⟨D,rfl⟩
 all_goals cases h
variable{op:D->D->ka}{o:Int->Int->Int}
theorem z5n(U:∀D I d,op D I=some d->∃u v,D=.int u/\I=.int v/\d=.int (o u v)):∀Dn σ H,tDS X G H0 (sSet i (fBin op (fVar i) f)) Dn σ H->tAug i (tD X.K G H0 f) (ipI o) Dn σ H :=
 λDn σ H V=>by
 obtain⟨W,env,fl,env',ok,q,k⟩:=V;unfold sSet fBin at q;cases e0:fVar i env with
 | none=>rw[e0] at q;cases q
 | some r0 =>
   obtain⟨Y,env0⟩:=r0;rw[e0,ac] at q;cases e1:f env0 with
   | none=>rw[e1] at q;cases q
   | some J =>
     obtain⟨D,S⟩:=J;rw[e1,ac] at q;cases e2:op Y D with
     | none=>rw[e2] at q;cases q
     | some I =>
       rw[e2] at q;cases q;obtain⟨u,v,rfl,rfl,rfl⟩:=U _ _ _ e2;obtain⟨Z,rfl⟩:=zwn e0;obtain⟨y,a,b⟩:=ok.slot i _ Z;refine⟨y,a,W,env0,_,_,ok,e1,λW1 v1 H1 c R J=>⟨u,v,Rep.int_ b,J.int_,k W1 _ H1 c (R.set (.int _))⟩⟩
theorem yn(I:Tos Nn X)(J:DEx X G H0 e f)(D:Nn[i]?=some x:=by rfl) :
  DSx X G H0 (.AugAssign (.Name x p') .Add e pos) (sSet i (fBin il (fVar i) f)):=⟨(z1z (I.t D).nd (I.t D).n (I.t D).l J.out zx0 (I.t D).f).imp (z5n λR S d h=>by
 cases R <;> cases S <;> simp at h;exact⟨_,_,rfl,rfl,h.symm⟩)⟩
def z3l:V->V->Hp->VK->Prop:=λo i H Q=>∃l xs k v,o=.ref l/\i=.int k/\H l=some (.lst xs)/\0<=k/\xs[k.toNat]?=some v/\Q v H
theorem zqt:PGet X z3l:=by
 intro pins s σ H o i Y Z Q I ro R h;obtain⟨l,xs,k,v,rfl,rfl,S,U,J,q⟩:=h;cases ro;obtain⟨t,rfl⟩:=R;obtain⟨its,r,pl,a⟩:=I.list (.inl (.inl S));obtain⟨w,V,D⟩:=r.get J;have b:=(ah.mp J).1;have c:=wb;exact wpAny_getItem_list pl.isList U (by lia) (by simpa using V) ⟨v,H,I,D,q⟩
def zwo(i:Nat)(op:D->D->ka)(k:Int)(d v:D)(e:DE0):Option (Fl×DE0):=match e[i]? with
 | some (some (.ow ds))=>if k.toNat<ds.length then(op d v).map λr=>(.nx,e.set i (some (.ow (ds.set k.toNat r)))) else none
 | _=>none
def tm(i:Nat)(op:D->D->ka)(R S:FE):FS:=λe=>match e[i]? with
 | some (some (.ow _))=>(R e).bind λI=>match I.1,I.2[i]? with
   | .int k,some (some (.ow ds))=>if 0<=k then(ds[k.toNat]?).bind λd=>(S I.2).bind λJ=>zwo i op k d J.1 J.2 else none
   | _,_=>none
 | _=>none
theorem zyf(y:∀r s d,op r s=some d->∃u v,r=.int u/\s=.int v/\d=.int (o u v)) :
  ∀Dn σ H,tDS X G H0 (tm i op g f) Dn σ H->z10 (tVar i) (tD X.K G H0 g) (tD X.K G H0 f) z3l (ipI o) z2k Dn σ H:=λDn σ H z=>by
 obtain⟨W,env,fl,env',ok,q,k⟩:=z;unfold tm at q;split at q;case h_2=>cases q
 rename_i A b;obtain⟨v,Z,l,B,rfl,C,E,_⟩:=ok.slot i _ b;cases e1:g env with
 | none=>rw[e1] at q;cases q
 | some a =>
 obtain⟨dk,I⟩:=a;rw[e1,ac] at q;dsimp only at q;split at q;case h_2=>cases q
 rename_i J ds F;split at q;case isFalse=>cases q
 rename_i R;cases e2:ds[J.toNat]? with
 | none=>rw[e2] at q;cases q
 | some dd =>
 rw[e2,ac] at q;cases e3:f I with
 | none=>rw[e3] at q;cases q
 | some r3 =>
 obtain⟨L,t⟩:=r3;rw[e3,ac] at q;unfold zwo at q;split at q;case h_2=>cases q
 rename_i M S;split at q;case isFalse=>cases q
 cases e4:op dd L with
 | none=>rw[e4] at q;cases q
 | some dr =>
 rw[e4] at q;cases q;obtain⟨u,w,rfl,rfl,rfl⟩:=y _ _ _ e4;refine⟨_,Z,W,env,_,_,ok,e1,λW1 v1 H1 N U a=>?_⟩;obtain⟨O,D,l',c,P,Q,e,h⟩:=U.slot i _ F;rw[Z] at D;cases D;cases P;obtain⟨T,j,m⟩:=h.get e2;refine⟨l,c,J,T,rfl,a.int_,e,R,j,W1,I,_,_,U,e3,λW2 v2 H2 s2 V r2=>?_⟩;refine⟨u,w,m.int_,r2.int_,?_⟩;obtain⟨O,D,l',n,e6,aa,p,Y⟩:=V.slot i _ S;rw[Z] at D;cases D;cases e6;obtain⟨t1,t2⟩:=V.turn S Z (Reps.set (.int (o u w)) J.toNat Y);have x:=Y.length;refine⟨l,n,J,J.toNat,rfl,a.int_,p,?_,k W2 _ _ ((N.trans s2).trans t2) t1⟩;unfold ixN;rw[if_pos R,if_pos (by lia)]
theorem zwp(R:DEx X G H0 b g)(S:DEx X G H0 e f)(an:Ats Nn Cn X)(J:Nn[i]?=some x:=by rfl)(U:∀D I new,augStore b D I new=(do holding [new,D,I] (setItem D I new);release [new,D,I] [];pure .next):=by intros;rfl) :
  DSx X G H0 (.AugAssign (.Subscript (.Name x p') b p1) .Add e pos) (tm i il g f):=⟨(zsx ((an.a J).pe) R.out zqt S.out zx0 wz U).imp (zyf λV Y d h=>by
 cases V <;> cases Y <;> simp at h;exact⟨_,_,rfl,rfl,h.symm⟩)⟩
theorem zwq(R:DEx X G H0 b g)(S:DEx X G H0 e f)(an:Ats Nn Cn X)(J:Nn[i]?=some x:=by rfl)(U:∀D I new,augStore b D I new=(do holding [new,D,I] (setItem D I new);release [new,D,I] [];pure .next):=by intros;rfl) :
  DSx X G H0 (.AugAssign (.Subscript (.Name x p') b p1) .Sub e pos) (tm i dSub g f):=⟨(zsx ((an.a J).pe) R.out zqt S.out z11 wz U).imp (zyf λV Y d h=>by
 cases V <;> cases Y <;> simp at h;exact⟨_,_,rfl,rfl,h.symm⟩)⟩
def zz7(I:i0)(e:DE0)(i:Nat):Option (D×DE0):=match e[i]? with
 | some (some (.ow ds))=>if Few (ds.length+I.length) then some (.non,e.set i (some (.ow (ds++I)))) else none
 | _=>none
def zmz(i:Nat)(F:FA):FE:=λe=>match e[i]? with
 | some (some (.ow _))=>(F e).bind λr=>zz7 r.1 r.2 i
 | _=>none
theorem zt6(h:DFx X G H0 a F)(an:Ats Nn Cn X)(V:Nn[i]?=some x:=by rfl)(D:attributeBase (.Name x p') "extend" X.env (eval (.Name x p') X.env)=eval (.Name x p') X.env:=by rfl)(J:((backTo pos (starEach [a] X.env)).all (λx=>!x.1) && (backToKw pos (keywordEach [] X.env)).all (λx=>x.1.isSome)
   && decide ([a].length+([]:List Keyword).length+(if ([]:List Keyword).isEmpty then 0 else 1)<30))=true:=by rfl)(I:(p1.endLine==pos.line)=true:=by rfl)(c:starEach [a] X.env=(false,eval a X.env)::starEach [] X.env:=by rfl) :
  DEx X G H0 (.Call (.Attribute (.Name x p') "extend" p1) [a] [] pos) (zmz i F):=⟨(zvy fq PySem.F.slot_list_extend PySem.F.type_list_extend zte ((an.a V).pe) (md h.out og c) D J I c rfl).imp λσ H Q j=>by
 obtain⟨W,env,d,env',ok,q,k⟩:=j;unfold zmz at q;split at q;case h_2=>cases q
 rename_i m Y;obtain⟨v,Z,l,o,rfl,p,b,_⟩:=ok.slot i _ Y;cases e1:F env with
 | none=>rw[e1] at q;cases q
 | some r =>
   obtain⟨s,R⟩:=r;rw[e1,ac] at q;unfold zz7 at q;split at q;case h_2=>cases q
   rename_i ds e;split at q;case isFalse=>cases q
   rename_i S;cases q;refine⟨_,Z,.inl ⟨rfl,_,.inl (.inl b)⟩,W,env,s,R,ok,e1,λW1 n us H1 t u U C w f=>?_⟩;obtain⟨E,g,l',vs,y,K,z,r⟩:=U.slot i _ e;rw[Z] at g;cases g;cases y;obtain⟨A,B⟩:=U.turn e Z (r.append f);refine⟨l,n,vs,us,rfl,rfl,z,w,?_,k _ _ _ (t.trans B) A .non⟩;rw[<-r.length,<-f.length];exact dc S (by rw[sizeLine_eq];decide)⟩
def zz8:D->Bool | .tup _=>false | .lst _=>false | .dct _ _=>false | _=>true
theorem Rep.atom{I:h8}{O':Addr->Prop}{d:D}(r:Rep K H O d v)(h:zz8 d=true):Rep I H' O' d v:=by
 cases r with
 | non=>exact .non
 | bl b=>exact .bl b
 | int i=>exact .int i
 | str s=>exact .str s
 | tup _ _=>cases h
 | lst _ _ _=>cases h
 | klst _ _=>cases h
 | dct _ _=>cases h
 | exc a=>exact .exc a
structure z5o (K:h8) (G:Gd) (J:It) (W:Addr->Prop) (H:Hp) (ds:i0):Prop where
 go:∀H' (i:Nat) d,Same H H'->ds[i]?=some d->J.go i H'/\∀x H'',J.yld i H' x H''->H''=H'/\Rep K H' (Ow G W) d x
 stop:∀H',Same H H'->J.stop ds.length H'
def tDC(K:h8)(G:Gd)(H0:Hp)(f:FI):TI:=λσ H R=>∃W env ds env',Ok K G H0 W env σ H/\f env=some (ds,env') /\
 ∀W' J H',Step W H W' H'->Ok K G H0 W' env' σ H'->z5o K G J W' H' ds->R J H'
structure DCx (X:Cx) (G:Gd) (H0:Hp) (tg:Expr) (e:Expr) (f:FI):Prop where
 out:PI X tg e (tDC X.K G H0 f)
def fiV(i:Nat):FI:=λe=>match e[i]? with
 | some (some (.ow ds))=>some (ds,e)
 | some (some (.sh (.lst ds)))=>some (ds,e)
 | _=>none
theorem zyg(an:Ats Nn Cn X)(I:Nn[i]?=some x:=by rfl):DCx X G H0 tg (.Name x p1) (fiV i):=⟨(zsz ((an.a I).pe)).imp λσ H R Z=>by
 obtain⟨W,env,ds,env',ok,q,k⟩:=Z;unfold fiV at q;split at q
 ·rename_i ds' J
  cases q;obtain⟨v,S,l,vs,rfl,c,U,r⟩:=ok.slot i _ J;refine⟨_,S,l,rfl,⟨vs,.inl (.inl U)⟩,k W _ H Step.refl ok ⟨λH' j d sm e=>?_,λH' sm=>⟨vs,.inl (.inl (sm _ _ U)),by rw[r.length];exact b6 _⟩⟩⟩;obtain⟨w,V,b⟩:=(ok.reps (Step.same sm) r).get e;have D:SqL X.K H' l vs:=.inl (.inl (sm _ _ U));exact⟨⟨vs,w,D,V⟩,λy H'' ⟨e3,z⟩=>⟨e3,by have:=z vs D;rw[V] at this;cases this;exact b⟩⟩
 ·rename_i ds' J
  cases q;obtain⟨v,S,r⟩:=ok.slot i _ J;obtain⟨l,vs,rfl,h,r⟩:=Rep.lst_ r;have Y:=zof ok h r;exact⟨_,S,l,rfl,⟨vs,h.sq⟩,k W _ H Step.refl ok ⟨λH' j d sm e=>Y.go W H' j d (Step.same sm) e,λH' sm=>Y.stop W H' (Step.same sm)⟩⟩
 ·cases q⟩
theorem zyh{te:FE}:∀σ H Q,tDF X.K G H0 (iq fi ix tt te) σ H Q->vz (tDC X.K G H0 fi) ix (tDxT X.K tt) (tDx X.K te) σ H Q:=λσ H Q u=>by
 obtain⟨W,env,d,env',ok,q,k⟩:=u;cases e1:fi env with
 | none=>simp[iq,e1] at q
 | some z =>
   obtain⟨ds,V⟩:=z;by_cases c:Few ds.length
   ·simp only[iq,e1,ac,if_pos c] at q
    cases e2:lu tt te (ix.map λj=>capt (V.getD j none)) ds with
    | none=>rw[e2] at q;cases q
    | some outs =>
      rw[e2] at q;cases q;refine⟨W,env,ds,_,ok,e1,λW1 J H1 A f s=>?_⟩;refine⟨λi m H' ys=>∃rest D,m=ds.length-i/\i<=ds.length/\Same H1 H'/\Reps X.K H' (Ow G W1) D ys/\D.length<=i/\lu tt te (ix.map λj=>capt (env'.getD j none)) (ds.drop i)=some rest/\d=D++rest,⟨ds.length,d,[],rfl,fz _,Same.refl _,.nil,b6 _,e2,rfl⟩,?_⟩;rintro i m H' ys ⟨rest,D,rfl,hi,sm,rp,hd,ec,rfl⟩;have st:Step W1 H1 W1 H':=Step.same sm;have I:Ok X.K G H0 W1 env' σ H':=f.same sm;by_cases S:i<ds.length
      ·have B:ds.drop i=ds[i]::ds.drop (i+1):=em S
       rw[B] at ec;obtain⟨C,E⟩:=s.go H' i ds[i] sm (by simp[S]);refine .inr ⟨C,λx g y=>?_⟩;obtain⟨rfl,F⟩:=E x g y;have n:=zms (ix:=ix) I F;unfold lu at ec;cases e3:tt (some (.sh ds[i])::ix.map λj=>capt (env'.getD j none)) with
       | none=>rw[e3] at ec;cases ec
       | some bb =>
         obtain⟨b,R⟩:=bb;rw[e3,ac] at ec;refine⟨_,_,NoW,_,b,R,n,e3,λL H2 s2 U=>?_⟩;have p:Same H1 H2:=sm.trans U.stay;have r:Reps X.K H2 (Ow G W1) D ys:=I.reps (Step.same U.stay) rp;cases b with
         | false =>
           exact⟨ds.length-(i+1),by lia,rest,D,rfl,S,p,r,by lia,ec,rfl⟩
         | true =>
           cases e4:te R with
           | none=>simp only[e4] at ec;cases ec
           | some vv =>
             obtain⟨t,Y⟩:=vv;simp only[e4,ac] at ec;cases e5:lu tt te (ix.map λj=>capt (env'.getD j none)) (ds.drop (i+1)) with
             | none=>rw[e5] at ec;cases ec
             | some rest' =>
               rw[e5] at ec;cases ec;refine⟨_,_,L,R,t,Y,U,e4,λW3 v H3 s3 Z r3=>⟨?_,ds.length-(i+1),by lia,rest',D++[t],rfl,S,sm.trans Z.stay,?_,by rw[am,ib];lia,by first | exact e5 | rfl,by simp⟩⟩
               ·have:ys.length<2 ^ 20:=by rw[<-rp.length];have:ds.length<=2 ^ 20:=c;lia
                exact aw this (by rw[sizeLine_eq];decide)
               ·refine(I.reps (Step.same Z.stay) rp).append (.cons (r3.mono (λ_ _ h=>h) λa us o h=>⟨?_,h⟩) .nil)
                rcases o.1 with z | z
                ·exact z
                ·exact⟨I.good a (I.stay.free z),λw=>by obtain⟨_,us,q⟩:=I.wl a w;rw[z] at q;cases q⟩
      ·have e:i=ds.length:=by lia
       subst e;rw[ip] at ec;cases ec;refine .inl ⟨s.stop H' sm,by rw[<-rp.length];exact dc hd (dc c (by rw[sizeLine_eq];decide)),λl M=>?_⟩;obtain⟨h1,h2,N,O,P,T⟩:=tw I rp M;rw[de] at k;exact k W1 l _ _ ((A.trans st).trans h1) h2 N O P T
   ·simp only[iq,e1,ac,if_neg c] at q;cases q
section
variable {X:Cx} {G:Gd} {H0:Hp} {a b c e:Expr} {es rest:g9} {f g:FE} {F:FA} {u:FS} {pos p' p1 pos1:Pos} {x:Str} {i:Nat}
theorem zwr{Nn Cn:gj}{ix:g0}{sc:Scope}{px:Pos}{fi:FI}{te:FE}(an:Ats Nn Cn X)(hi:DCx X G H0 (.Name x px) a fi)(I:∀cl C s₂ H₂ fp G H0,Ats (x::(subN Nn ix)) (subN Nn ix) (i8 X x (subN Nn ix) sc cl C s₂ H₂ fp)->DEx (i8 X x (subN Nn ix) sc cl C s₂ H₂ fp) G H0 e te)(D:om Nn Cn ix x sc=true:=by decide +kernel)(J:X.calm=true:=by rfl)(R:∀v,foldedSetIterable a X.env v=pure v:=by intro _;rfl) :
  DFx X G H0 (.ListComp e [⟨.Name x px,a,[],0⟩] sc pos) (iq fi ix fYes te) :=
 ⟨(zpg (u9 an D) (λ_ _ _ _ _ _ _ _ _=>J) hi.out (λcl C s₂ H₂ fp _=>yc (X:=X) rfl) (λcl C s₂ H₂ fp _=>el_x (X:=X) rfl (λG H0=>I cl C s₂ H₂ fp G H0 (rq D))) R).imp zyh⟩
theorem zws{Nn Cn:gj}{y:Str}{ix:g0}{sc:Scope}{px py spos:Pos}{fi:FI}{te:FE}(an:Ats Nn Cn X)(R:Tos Nn X)(hi:DCx X G H0 (.Name x px) a fi)(S:∀cl C s₂ H₂ fp G H0,Ats (x::(subN Nn ix)) (subN Nn ix) (i8 X x (subN Nn ix) sc cl C s₂ H₂ fp)->DEx (i8 X x (subN Nn ix) sc cl C s₂ H₂ fp) G H0 e te)(J:om Nn Cn ix x sc=true:=by decide +kernel)(V:X.calm=true:=by rfl)(I:Nn[i]?=some y:=by rfl)(U:swapsWith (.ListComp e [⟨.Name x px,a,[],0⟩] sc pos) (some (.Name y py)) spos.line X.env=pure true:=by rfl)(Y:∀v,foldedSetIterable a X.env v=pure v:=by intro _;rfl) :
  PS X (.Assign [.Name y py] (.ListComp e [⟨.Name x px,a,[],0⟩] sc pos) spos) (tAsg (tDF X.K G H0 (iq fi ix fYes te)) (ml i)) :=
 (zmm (u9 an J) (λ_ _ _ _ _ _ _ _ _=>V) (R.t I).nd (R.t I).n (R.t I).l hi.out (λcl C s₂ H₂ fp _=>yc (X:=X) rfl) (λcl C s₂ H₂ fp _=>el_x (X:=X) rfl (λG H0=>S cl C s₂ H₂ fp G H0 (rq J))) U (R.t I).f Y).imp λD σ H h=>zyh σ H _ h
def zwt(i:Nat):FE:=λe=>match e[i]? with
 | some (some (.ow ds))=>(ints? ds).map λD=>(.int D.sum,e)
 | some (some (.sh (.lst ds)))=>(ints? ds).map λD=>(.int D.sum,e)
 | _=>none
theorem zz9{Nn Cn:gj}{i:Nat}(an:Ats Nn Cn X)(U:X.calm=true:=by rfl)(R:Bn X "sum":=by walk_at "b")(D:Nn[i]?=some x:=by rfl)(S:starEach [.Name x p1] X.env=(false,eval (.Name x p1) X.env)::starEach [] X.env:=by rfl):DEx X G H0 (.Call (.Name "sum" p') [.Name x p1] [] pos) (zwt i) :=
 ⟨(xb (zoc U) R.g R.m boot_sum (md ((an.a D).pe) og S) (by decide) (by decide) S rfl).imp λσ H Q V=>by
  obtain⟨W,env,d,env',ok,q,k⟩:=V;unfold zwt at q;split at q
  ·rename_i ds I
   cases e2:ints? ds with
   | none=>rw[e2] at q;cases q
   | some ns =>
   rw[e2] at q;cases q;cases zkr e2;obtain⟨v,J,l,vs,rfl,Z,Y,r⟩:=ok.slot i _ I;cases zjg r;exact⟨_,J,l,ns,rfl,.inl (.inl Y),k W _ H Step.refl ok (.int _)⟩
  ·rename_i ds I
   cases e2:ints? ds with
   | none=>rw[e2] at q;cases q
   | some ns =>
   rw[e2] at q;cases q;cases zkr e2;obtain⟨v,J,r⟩:=ok.slot i _ I;obtain⟨l,us,rfl,h,r⟩:=Rep.lst_ r;cases zjg r;exact⟨_,J,l,ns,rfl,h.sq,k W _ H Step.refl ok (.int _)⟩
  ·cases q⟩
def tDL(K:h8)(G:Gd)(H0:Hp)(f:FA):TA:=λσ H Q=>∃W env ds env',Ok K G H0 W env σ H/\f env=some (ds,env') /\
 ∀W' vs H',Step W H W' H'->Ok K G H0 W' env' σ H'->Reps K H' G ds vs->Q vs H'
structure DLx (X:Cx) (G:Gd) (H0:Hp) (es:g9) (f:FA):Prop where
 out:PA X es (tDL X.K G H0 f)
theorem z5p(h:DAx X G H0 es F):DLx X G H0 es F:=⟨h.out.imp λσ H Q ⟨W,env,ds,env',ok,q,k⟩ =>
 ⟨W,env,ds,env',ok,q,λW' vs H' st D r=>k W' vs H' st D (r.mono (λ_ _ h=>h) λa us o h=>⟨o.1,h⟩)⟩⟩
def zwu(i:Nat)(F:FA):FA:=λe=>match e[i]? with
 | some (some (.ow _))=>(F e).bind λq=>match q.2[i]? with | some (some (.ow ds))=>some (.lst ds::q.1,q.2) | _=>none
 | _=>none
theorem z0a{Nn Cn:gj}{i:Nat}(Z:DLx X G H0 es F)(an:Ats Nn Cn X)(I:Nn[i]?=some x:=by rfl)(b:starEach (.Name x p1::es) X.env=(false,eval (.Name x p1) X.env)::starEach es X.env:=by rfl):DLx X G H0 (.Name x p1::es) (zwu i F) :=
 ⟨(md ((an.a I).pe) Z.out b).imp λσ H Q c=>by
  obtain⟨W,env,ds,env',ok,q,k⟩:=c;unfold zwu at q;split at q;case h_2=>cases q
  rename_i d J;obtain⟨v,U,l,e,rfl,f,g,_⟩:=ok.slot i _ J;cases e1:F env with
  | none=>rw[e1] at q;cases q
  | some r =>
    obtain⟨R,V⟩:=r;rw[e1,ac] at q;split at q;case h_2=>cases q
    rename_i j S;cases q;refine⟨_,U,W,env,R,_,ok,e1,λW1 vs H1 m D n=>?_⟩;obtain⟨y,Y,l',p,s,t,u,w⟩:=D.slot i _ S;rw[U] at Y;cases Y;cases s;exact k W1 _ H1 m D (.cons (.lst (D.good l (D.wl l t).1) (.inl u) (w.mono (λ_ _ h=>h) λa us o h=>⟨o.1,h⟩)) n)⟩
def yi(m:i0->ka)(F:FA):FE:=λe=>(F e).bind λr=>(m r.1).bind λd=>if zz8 d=true then some (d,r.2) else none
variable {CX:CXT} {k:Nat} {fa:Addr} {fd:FuncData} {ps:gj} {m:i0->ka} {E:XK}
theorem z3m:∀σ H Q,tD X.K G H0 (yi m F) σ H Q->zvv (dSp X.K m) [] E (tDL X.K G H0 F) σ H Q:=λσ H Q R=>by
 obtain⟨W,env,d,env',ok,q,k⟩:=R;unfold yi at q;cases e1:F env with
 | none=>rw[e1] at q;cases q
 | some r =>
   obtain⟨ds,J⟩:=r;rw[e1,ac] at q;cases e2:m ds with
   | none=>rw[e2] at q;cases q
   | some d' =>
     rw[e2,ac] at q;split at q;case isFalse=>cases q
     rename_i D;cases q;refine⟨W,env,ds,_,ok,e1,λW1 vs H1 S I p1=>?_⟩;show dSp X.K m (vs++[]) H1 Q E;rw[de];exact⟨G,ds,_,p1,e2,λv H2 sm U=>k W1 v H2 (S.trans (Step.same sm)) (I.same sm) (U.atom D)⟩
theorem zwv{jr:Nat}(c:Cal X.prog X.w X.K X.mg X.base CX0 x k (dSp X.K m))(R:Room jr X.A)(S:DLx X G H0 (e::es) F)(D:k<=jr:=by decide)(U:Gl X x:=by walk_at "g")(V:starEach (e::es) X.env=(false,eval e X.env)::starEach es X.env:=by rfl)(I:(backTo pos (starEach es X.env)).any (·.1)=false:=by rfl) :
  DEx X G H0 (.Call (.Name x p') (e::es) [] pos) (yi m F):=let ⟨_,_,_,Y,Z,a,b,J⟩:=c;⟨(zpc Y (R.mono D) U Z a b .nil zzq S.out J V I).imp z3m⟩
end
section
variable {X:Cx} {G:Gd} {H0:Hp} {a b c e:Expr} {es rest:g9} {f g:FE} {F:FA} {pos p' p1 pos1:Pos} {x:Str} {i:Nat}
end
variable{xs:gj}
theorem gl_p(h:sc.names.lookup x=some .globalImplicit):Gl (zzr X xs N' sc cl C s H fp) x:=zdj h
section
variable (P:Program) (w:World)
end
section
variable {X:Cx}
variable {a b:Expr} {ta tb:TE} {pos:Pos}
variable {tA tB':TT} {rest:g9}
end
section
variable {X:Cx} {st:Stmt} {rest:List Stmt} {t u:TS} {e:Expr} {te:TE} {pos:Pos}
end
section
variable {X:Cx} {CX:CXT} {k:Nat} {f C:Addr} {fd:FuncData} {ps ks:gj} {sp:Sp} {E:XK} {x m:Str} {p pos apos kpos:Pos} {e o:Expr} {es:g9} {kws:List Keyword} {te ta:TE} {t tk:TA} {nm:h6}
variable {g:gr->gr->gr} {gV:ik->ik->ik}
end
section
variable {κ:Type} [DecidableEq κ]
end
structure M1 (X:Cx) (o:Expr) (m:Str) (apos:Pos) (e:Expr) (cpos:Pos):Prop where
 base:attributeBase o m X.env (eval o X.env)=eval o X.env
 few:((backTo cpos (starEach [e] X.env)).all (λx=>!x.1) && (backToKw cpos (keywordEach [] X.env)).all (λx=>x.1.isSome)
  && decide (([e]:g9).length+([]:List Keyword).length+(if ([]:List Keyword).isEmpty then 0 else 1)<30))=true
 line:(apos.endLine==cpos.line)=true
 trees:backTo cpos (starEach [e] X.env)=[(false,eval e X.env)]
structure M2 (X:Cx) (o:Expr) (m:Str) (apos:Pos) (e f:Expr) (cpos:Pos):Prop where
 base:attributeBase o m X.env (eval o X.env)=eval o X.env
 few:((backTo cpos (starEach [e,f] X.env)).all (λx=>!x.1) && (backToKw cpos (keywordEach [] X.env)).all (λx=>x.1.isSome)
  && decide (([e,f]:g9).length+([]:List Keyword).length+(if ([]:List Keyword).isEmpty then 0 else 1)<30))=true
 line:(apos.endLine==cpos.line)=true
 trees:backTo cpos (starEach [e,f] X.env)=[(false,eval e X.env),(false,eval f X.env)]
end L2
namespace Att
open PySem PySem.W PySem.Calls PyProof.Rows
end Att
namespace L2
open PySem PySem.Spec PyProof.Rows
section
variable {κ:Type} [DecidableEq κ]
end
section
variable {X:Cx} {G:Gd} {H0:Hp} {a b c e:Expr} {es rest:g9} {f g:FE} {F:FA} {pos p' p1 pos1:Pos} {x:Str} {i:Nat}
end
section
variable {X:Cx} {G:Gd} {H0:Hp} {a b c e:Expr} {es rest:g9} {f g:FE} {F:FA} {pos p' p1 pos1:Pos} {x:Str} {i:Nat}
end
section
variable {X:Cx} {G:Gd} {H0:Hp} {a b c e:Expr} {es rest:g9} {f g:FE} {F:FA} {pos p' p1 pos1:Pos} {x:Str} {i:Nat}
end
end L2
namespace L2
open PySem
theorem zqu{i:Nat}{g:FS}(P:Nat->DE0->Prop):∀(ds:i0) (e:DE0) (n:Nat),P n e->(∀(k:Nat) (d:D) (e:DE0),ds[k]?=some d->P (n+k) e->∃e',g (e.set i (some (.sh d)))=some (.nx,e')/\P (n+k+1) e') ->
  ∃e',forL i g ds e=some (.nx,e')/\P (n+ds.length) e'
 | [],e,n,h,_=>⟨e,rfl,h⟩
 | d::r,e,n,h,hs=>by
   obtain⟨I,h1,p1⟩:=hs 0 d e rfl h;obtain⟨J,h2,p2⟩:=zqu P r I (n+1) p1 λk d' e' R S=>by
    have:=hs (k+1) d' e' (by simpa using R) (by rw[<-Nat.add_assoc,Nat.add_right_comm];exact S);rw[show n+(k+1)+1=n+1+k+1 by lia] at this;exact this
   refine⟨J,?_,by rw[ak,show n+(r.length+1)=n+1+r.length by lia];exact p2⟩;simp[forL,h1,h2]
variable{i:Int}{g:FS}
theorem yu{i:Nat}(P:Nat->DE0->Prop)(ds:i0)(e:DE0)(h:P 0 e)(I:∀(k:Nat) (d:D) (e:DE0),ds[k]?=some d->P k e->∃e',g (e.set i (some (.sh d)))=some (.nx,e')/\P (k+1) e') :
  ∃e',forL i g ds e=some (.nx,e')/\P ds.length e':=by
 obtain⟨e',h1,h2⟩:=zqu P ds e 0 h λk d e J R=>by
  obtain⟨e',S,U⟩:=I k d e J (by simpa using R);exact⟨e',S,by simpa using U⟩
 exact⟨e',h1,by simpa using h2⟩
variable{lo:Int}{n:Nat}{d:D}
theorem yr{k:Nat}(h:(rngD lo n)[k]?=some d):d=.int (lo+k)/\k<n:=by
 unfold rngD at h;rw[bz] at h;by_cases D:k<n
 ·rw[List.getElem?_range D] at h
  exact⟨(bn h).symm,D⟩
 ·rw[cx (by simpa using D)] at h;cases h
theorem uc:(rngD lo n).length=n:=by simp[rngD]
theorem rn(h:-1000000000000<i/\i<1000000000000):li i:=⟨by lia,by lia⟩
variable{α:Type}
theorem z3n{xs:List α}(I:0<=i)(h1:i<xs.length):∃x,atI xs i=some x/\xs[i.toNat]?=some x:=by
 have D:i.toNat<xs.length:=by lia
 exact⟨xs[i.toNat],by unfold atI ixN;rw[if_pos I,if_pos h1];simp[D],by simp[D]⟩
theorem j7{ar:Nat}{ds:i0}{e':DE0}(h:ds.length=ar)(I:g (je n ds)=some (.rt d,e')):runD n ar g ds=some d:=by
 unfold runD;rw[if_pos h,I]
theorem few(h:n<=1000000):Few n:=dc h (by decide)
theorem pz(n:Nat)(D:n<=1000000):iR1 [.int n]=some (rngD 0 n):=by
 unfold iR1;dsimp only;rw[if_pos (show Bnd _ _ _ from⟨by lia,by lia⟩),gg]
theorem z0b(i:Int)(D:0<=i)(I:i<=1000000):iR1 [.int i]=some (rngD 0 i.toNat):=by
 unfold iR1;dsimp only;rw[if_pos (show Bnd _ _ _ from⟨by lia,by lia⟩)]
variable{j:Int}
theorem zyi(h:li j):dMul (.int i) (.int j)=some (.int (i*j)):=by
 unfold dMul;dsimp only;rw[if_pos (.inr h)]
theorem uu(h:li i):dMul (.int i) (.int j)=some (.int (i*j)):=by
 unfold dMul;dsimp only;rw[if_pos (.inl h)]
theorem z0c(h:0<j):dMod (.int i) (.int j)=some (.int (i % j)):=by
 unfold dMod;dsimp only;rw[if_pos h]
theorem z0d(h:0<j)(h2:j<1073741824):dDiv (.int i) (.int j)=some (.int (i / j)):=by
 unfold dDiv;dsimp only;rw[if_pos (show Bnd _ _ _ from⟨by lia,h2⟩)]
theorem ng{α:Type}{te:FE}{base:DE0}(φ ψ:α->D):∀(xs:List α),(∀x∈xs,∃e',te (some (.sh (φ x))::base)=some (ψ x,e'))->lu fYes te base (xs.map φ)=some (xs.map ψ)
 | [],_=>rfl
 | x::xs,h=>by
   obtain⟨e',I⟩:=h x bj;have J:=ng φ ψ xs λy R=>h y (av _ R);simp[lu,I,J]
theorem zks{α:Type}{tt:FT}{te:FE}{base:DE0}(φ ψ:α->D)(p:α->Bool):∀(xs:List α),(∀x∈xs,∃I,tt (some (.sh (φ x))::base)=some (p x,I)/\(p x=true->∃e',te I=some (ψ x,e')))->lu tt te base (xs.map φ)=some ((xs.filter p).map ψ)
 | [],_=>rfl
 | x::xs,h=>by
   obtain⟨I,h1,h2⟩:=h x bj;have J:=zks φ ψ p xs λy R=>h y (av _ R);cases hp:p x with
   | false =>
     simp[lu,h1,J,List.filter_cons,hp]
   | true =>
     obtain⟨e',S⟩:=h2 hp;simp[lu,h1,S,J,List.filter_cons,hp]
theorem zl4{α:Type}{te:FA}{base:DE0}(φ:α->D)(ψ:α->i0):∀(xs:List α),(∀x∈xs,∃e',te (some (.sh (φ x))::base)=some (ψ x,e'))->tu te base (xs.map φ)=some (xs.map ψ)
 | [],_=>rfl
 | x::xs,h=>by
   obtain⟨e',I⟩:=h x bj;have J:=zl4 φ ψ xs λy R=>h y (av _ R);simp[tu,I,J]
theorem z5q(a b c:D):atI [a,b,c] 0=some a:=rfl
theorem zww(a b c:D):atI [a,b,c] 1=some b:=rfl
theorem ye(a b c:D):atI [a,b,c] 2=some c:=rfl
theorem z5r(a b c d:D):atI [a,b,c,d] 0=some a:=rfl
theorem z5s(a b c d:D):atI [a,b,c,d] 1=some b:=rfl
theorem z5t(a b c d:D):atI [a,b,c,d] 2=some c:=rfl
theorem z5u(a b c d:D):atI [a,b,c,d] 3=some d:=rfl
theorem zok{α:Type}{i:Nat}{g:FS}(φ:α->D)(P:List α->DE0->Prop)(all:List α)(J:∀(p:List α) (x:α) (q:List α) (e:DE0),all=p++x::q->P p e->∃e',g (e.set i (some (.sh (φ x))))=some (.nx,e')/\P (p++[x]) e') :
  ∀(xs I:List α) (e:DE0),all=I++xs->P I e->∃e',forL i g (xs.map φ) e=some (.nx,e')/\P all e'
 | [],I,e,h,hp=>⟨e,rfl,by rw[h,de];exact hp⟩
 | x::xs,I,e,h,hp=>by
   obtain⟨R,h1,p1⟩:=J I x xs e h hp;obtain⟨S,h2,p2⟩:=zok φ P all J xs (I++[x]) R (by rw[h];simp) p1;exact⟨S,by simp[forL,h1,h2],p2⟩
theorem vd{i:Nat}(φ:α->D)(P:List α->DE0->Prop)(all:List α)(e:DE0)(I:P [] e)(J:∀(p:List α) (x:α) (q:List α) (e:DE0),all=p++x::q->P p e->∃e',g (e.set i (some (.sh (φ x))))=some (.nx,e')/\P (p++[x]) e') :
  ∃e',forL i g (all.map φ) e=some (.nx,e')/\P all e':=zok φ P all J all [] e rfl I
end L2
namespace L2
open PySem PySem.Spec PyProof.Rows PySem.W
abbrev Ag:=AK×kb
abbrev k4:=List Ag
abbrev k6:=Option (D×List Ag)
def slA(x:Ag)(j:Nat):Sl:=.ag x.1 (some j) x.2
def getA(env:DE0):g0->Option k4
 | []=>some []
 | i::r=>match env[i]? with | some (some (.ag k _ ps))=>(getA env r).map λt=>(k,ps)::t | _=>none
def putA(env:DE0):g0->k4->DE0
 | i::r,x::t=>match env[i]? with | some (some (.ag _ l _))=>putA (env.set i (some (.ag x.1 l x.2))) r t | _=>putA env r t
 | _,_=>env
def m6(ags:k4):DE0:=ags.zipIdx.map λp=>some (slA p.1 p.2)
variable{env:DE0}
theorem u7:∀ {is:g0} {ags:k4} {j i:Nat},getA env is=some ags->is[j]?=some i->∃x l,ags[j]?=some x/\env[i]?=some (some (.ag x.1 l x.2))
 | a::r,ags,j,i,h,e=>by
   unfold getA at h;split at h
   ·rename_i k l ps q
    cases h2:getA env r with
    | none=>rw[h2] at h;cases h
    | some t =>
      rw[h2] at h;cases h;cases j with
      | zero=>simp at e;subst e;exact⟨(k,ps),l,rfl,q⟩
      | succ j=>obtain⟨x,l',D,I⟩:=u7 h2 (by simpa using e);exact⟨x,l',by simpa using D,I⟩
   ·cases h
theorem wx:∀ {is:g0} {ags:k4},getA env is=some ags->ags.length=is.length
 | [],_,h=>by cases h;rfl
 | a::r,ags,h=>by
   unfold getA at h;split at h
   ·cases h2:getA env r with
    | none=>rw[h2] at h;cases h
    | some t=>rw[h2] at h;cases h;rw[ak,ak,wx h2]
   ·cases h
theorem zm0:∀ {is:g0} {ags:k4} {env:DE0},(putA env is ags).length=env.length
 | [],_,_=>by simp[putA]
 | a::r,[],_=>by simp[putA]
 | a::r,x::t,env=>by
   unfold putA;split
   ·rw[zm0,dj]
   ·rw[zm0]
theorem zm1:∀ {is:g0} {ags:k4} {env:DE0} {i:Nat},i∉is->(putA env is ags)[i]?=env[i]?
 | [],_,_,_,_=>by simp[putA]
 | a::r,[],_,_,_=>by simp[putA]
 | a::r,x::t,env,i,h=>by
   have h1:a≠i:=λz=>h (by simp[z]);have h2:i∉r:=λz=>h (by simp[z]);unfold putA;split
   ·rw[zm1 h2,db h1]
   ·rw[zm1 h2]
theorem zpj:∀ {is:g0} {ags:k4} {env:DE0} {j i:Nat} {x:Ag} {k:AK} {l:Option Nat} {ps:kb},is.Nodup->is[j]?=some i->ags[j]?=some x->env[i]?=some (some (.ag k l ps))->(putA env is ags)[i]?=some (some (.ag x.1 l x.2))
 | a::r,y::t,env,j,i,x,k,l,ps,nd,e1,e2,e3=>by
   cases j with
   | zero =>
     simp at e1 e2;subst e1;subst e2;unfold putA;rw[e3];rw[zm1 (bq.mp nd).1,dz (ah.mp e3).1]
   | succ j =>
     have hi:a≠i:=λz=>by subst z;exact(bq.mp nd).1 (ay (by simpa using e1))
     unfold putA;split
     ·exact zpj (bq.mp nd).2 (by simpa using e1) (by simpa using e2) (by rw[db hi];exact e3)
     ·exact zpj (bq.mp nd).2 (by simpa using e1) (by simpa using e2) e3
variable{ags:k4}{j:Nat}{s:Stmt}
theorem zkt{s:Sl}(h:(m6 ags)[j]?=some (some s)):∃x,ags[j]?=some x/\s=slA x j:=by
 unfold m6 at h;rw[bz,List.getElem?_zipIdx] at h;cases e:ags[j]? with
 | none=>rw[e] at h;cases h
 | some x=>rw[e] at h;cases h;exact⟨x,rfl,by simp⟩
theorem zol:(m6 ags).length=ags.length:=by simp[m6]
def mask(H:Hp)(W:Addr->Prop):Hp:=λa=>open Classical in if W a then none else H a
variable{a:Addr}{W:Addr->Prop}{H:Hp}
theorem zm2(h:W a):mask H W a=none:=if_pos h
theorem zqv(h:¬W a):mask H W a=H a:=if_neg h
variable{o:Expr}
theorem zom{o:HO}(h:mask H W a=some o):¬W a/\H a=some o:=by
 by_cases z:W a
 ·rw[zm2 z] at h;cases h
 ·rw[zqv z] at h;exact⟨z,h⟩
theorem zon(h:mask H W a=none):W a\/H a=none:=by
 by_cases z:W a
 ·exact .inl z
 ·rw[zqv z] at h;exact .inr h
def Lent(H:Hp)(env:DE0)(σ:St)(is:g0):Addr->Prop:=λa=>∃i s v,i∈is/\env[i]?=some (some s)/\σ[i]?=some (some v)/\Owns H s v a
variable{is:g0}{K:h8}{G:Gd}{H0:Hp}{σ:St}
theorem Ok.lentW(ok:Ok K G H0 W env σ H)(h:Lent H env σ is a):W a:=by
 obtain⟨i,s,v,_,e,I,o⟩:=h;obtain⟨J,D,q⟩:=ok.slot i s e;rw[I] at D;cases D;exact q.owns o
def qw(G:Gd)(W L:Addr->Prop)(r:Nat->gu):Gd:=⟨λa=>G a/\(W a->L a),r⟩
theorem Ok.lend(ok:Ok K G H0 W env σ H)(nd:is.Nodup)(Y:getA env is=some ags) :
  ∃(r:Nat->gu) (us:ik),us.length=is.length/\(∀(j i:Nat),is[j]?=some i->∃u,us[j]?=some u/\σ[i]?=some (some u)) /\
   (∀(j i:Nat) (k:AK) (l:Option Nat) (ps:kb),is[j]?=some i->env[i]?=some (some (.ag k l ps))->∃p as,us[j]?=some (.ref p)/\Lab k (r j) p as/\∀n,l=some n->Lab k (G.r n) p as) /\
   Ok K (qw G W (Lent H env σ is) r) (mask H (Lent H env σ is)) (Lent H env σ is) (m6 ags) (us.map some) H:=by
 have B:∀a,Lent H env σ is a->W a:=λa=>ok.lentW;have ex:∀j:Nat,∃t:gu×V,∀(i:Nat) (x:Ag) (l:Option Nat),is[j]?=some i->ags[j]?=some x->env[i]?=some (some (.ag x.1 l x.2)) ->
   σ[i]?=some (some t.2)/\∃p as us,t.2=.ref p/\Lab x.1 t.1 p as/\W p/\(p::as).Nodup/\(∀n,l=some n->Lab x.1 (G.r n) p as)/\AkOk K H x.1 p us/\PtsOk K G W H x.2 as us:=λj=>by
  cases J:is[j]? with
  | none=>exact⟨([],.non),λi x l e=>by cases e⟩
  | some i =>
    obtain⟨x,l,h1,h2⟩:=u7 Y J;obtain⟨v,I,p,as,us,R,X,F,hl,C,E⟩:=ok.slot i _ h2;refine⟨(match x.1 with | .ins true _ _=>[p] | _=>p::as,v),λL M l' z1 z2 z3=>?_⟩;cases z1;rw[h1] at z2;cases z2;rw[h2] at z3;cases z3;refine⟨I,p,as,us,R,?_,X,F,hl,C,E⟩;obtain⟨k,ps⟩:=x;cases k with
    | ls=>rfl
    | ins b c fs=>cases b <;> rfl
 obtain⟨t,U⟩:=Classical.axiomOfChoice ex;have Z:=wx Y;refine⟨λj=>(t j).1,(List.range is.length).map λj=>(t j).2,by simp,λj i e=>?_,λj i k l ps I R=>?_,?_⟩
 ·have J:=(ah.mp e).1
  obtain⟨x,l,h1,h2⟩:=u7 Y e;exact⟨_,by simp[J],(U j i x l e h1 h2).1⟩
 ·have J:=(ah.mp I).1
  obtain⟨x,l',h1,h2⟩:=u7 Y I;rw[R] at h2;cases h2;obtain⟨q1,p,as,us,f,N,_,_,q4,_⟩:=U j i x l I h1 R;exact⟨p,as,by simp[J,f],N,q4⟩
 ·have own:∀ {j i:Nat} {x:Ag} {l:Option Nat},is[j]?=some i->ags[j]?=some x->env[i]?=some (some (.ag x.1 l x.2))->∀a,Owns H (slA x j) (t j).2 a->Lent H env σ is a:=λ{j i x l} I R g a o =>
   ⟨i,_,_,ay I,g,(U j i x l I R g).1,o⟩
  have cv:∀ {d:D} {v:V},Rep K H (Ow G W) d v->Rep K H (Ow (qw G W (Lent H env σ is) λj=>(t j).1) (Lent H env σ is)) d v:=λr =>
   r.mono (λ_ _ h=>h) λa us o h=>⟨⟨⟨o.1,λz=>absurd z o.2⟩,λz=>o.2 (B a z)⟩,h⟩
  have O:∀ {d:i0} {v:ik},Reps K H (Ow G W) d v->Reps K H (Ow (qw G W (Lent H env σ is) λj=>(t j).1) (Lent H env σ is)) d v:=λr =>
   r.mono (λ_ _ h=>h) λa us o h=>⟨⟨⟨o.1,λz=>absurd z o.2⟩,λz=>o.2 (B a z)⟩,h⟩
  have pos:∀ {j:Nat} {s:Sl},(m6 ags)[j]?=some (some s)->∃i x l,is[j]?=some i/\ags[j]?=some x/\env[i]?=some (some (.ag x.1 l x.2))/\s=slA x j/\(((List.range is.length).map λj=>(t j).2).map some)[j]?=some (some (t j).2):=λ{j s} e=>by
   obtain⟨x,h1,rfl⟩:=zkt e;have J:j<is.length:=by rw[<-Z];exact(ah.mp h1).1
   obtain⟨M,l,h2,S⟩:=u7 Y (show is[j]?=some is[j] by simp[J]);rw[h1] at h2;cases h2;exact⟨is[j],x,l,by simp[J],h1,S,rfl,by simp[J]⟩
  refine⟨λa o e=>(zom e).2,λa e=>?_,λa e=>⟨zm2 e,(ok.wl a (B a e)).2⟩,λj s e=>?_,λj j' s s' v v' a I R g e4 o1 o2=>?_,by rw[zol,ae,ae,j5,Z]⟩
  ·rcases zon e with z | z
   ·exact⟨ok.good a (ok.wl a (B a z)).1,λ_=>z⟩
   ·exact⟨ok.good a (ok.stay.free z),λw=>by obtain⟨_,m,q⟩:=ok.wl a w;rw[z] at q;cases q⟩
  ·obtain⟨i,x,l,h1,h2,S,rfl,P⟩:=pos e
   obtain⟨q1,p,as,us,f,N,X,F,q4,C,E⟩:=U j i x l h1 h2 S;refine⟨_,P,p,as,us,f,own h1 h2 S p (.inl f),F,λn z=>by cases z;exact N,C,E.step (λa vs ha z=>⟨own h1 h2 S a (.inr ⟨p,us,f,C.o,E.parts_iff.mpr ha⟩),z⟩) (λ_ _ r=>cv r) λ_ _ r=>O r⟩
  ·obtain⟨i,x,l,h1,h2,S,rfl,P⟩:=pos I
   obtain⟨L,M,l',y,Q,A,rfl,T⟩:=pos R;rw[P] at g;cases g;rw[T] at e4;cases e4;have:=ok.uniq i L _ _ _ _ a S A (U j i x l h1 h2 S).1 (U j' L M l' y Q A).1 o1 o2;subst this;exact zmn nd h1 y
variable{us:ik}{W':Addr->Prop}{H':Hp}
theorem Ok.unlend(ok:Ok K G H0 W env σ H){I:k4}{r:Nat->gu}{env':DE0}{T:St}(nd:is.Nodup)(hg:getA env is=some ags)(hu:∀(j i:Nat),is[j]?=some i->∃u,us[j]?=some u/\σ[i]?=some (some u))(X:∀(j i:Nat) (k:AK) (l:Option Nat) (ps:kb),is[j]?=some i->env[i]?=some (some (.ag k l ps))->∃p as,us[j]?=some (.ref p)/\Lab k (r j) p as/\∀n,l=some n->Lab k (G.r n) p as)(hl:I.length=is.length)(an:∀(j:Nat) (x y:Ag),ags[j]?=some x->I[j]?=some y->y.1=x.1)(st:Step (Lent H env σ is) H W' H')(B:Ok K (qw G W (Lent H env σ is) r) (mask H (Lent H env σ is)) W' env' T H')(Y:∀(j:Nat) (x:Ag),I[j]?=some x->env'[j]?=some (some (slA x j))) :
  Ok K G H0 (λa=>W' a\/(W a/\¬Lent H env σ is a)) (putA env is I) σ H'/\Step W H (λa=>W' a\/(W a/\¬Lent H env σ is a)) H' /\
   (∀ {d:D} {v:V},Rep K H' (Ow (qw G W (Lent H env σ is) r) W') d v->Rep K H' (Ow G (λa=>W' a\/(W a/\¬Lent H env σ is a))) d v):=by
 have lW:∀a,Lent H env σ is a->W a:=λa=>ok.lentW;have N:∀a,W' a->Lent H env σ is a\/H a=none:=st.ws;have n':∀a,W' a->W a->Lent H env σ is a:=λa h w=>(N a h).elim id λz=>by obtain⟨_,m,q⟩:=ok.wl a w;rw[z] at q;cases q
 have aa:Step W H (λa=>W' a\/(W a/\¬Lent H env σ is a)) H':=⟨λb o e n=>st.keep b o e λz=>n (lW b z),λa z=>by
  rcases z with z | z
  ·exact(N a z).imp (lW a) id
  ·exact .inl z.1⟩
 have back:∀ {j i:Nat} {y:Ag} {k:AK} {l:Option Nat} {ps:kb},is[j]?=some i->I[j]?=some y->env[i]?=some (some (.ag k l ps)) ->
   ∃u p as vs,σ[i]?=some (some u)/\T[j]?=some (some u)/\u=.ref p/\W' p/\(p::as).Nodup/\(∀n,l=some n->Lab y.1 (G.r n) p as)/\AkOk K H' y.1 p vs/\PtsOk K (qw G W (Lent H env σ is) r) W' H' y.2 as vs:=λ{j i y k l ps} R A C=>by
  obtain⟨x,l',h1,h2⟩:=u7 hg R;rw[C] at h2;cases h2;obtain⟨v,M,p,as,vs,rfl,hW,n1,hr,hk,hp⟩:=B.slot j _ (Y j y A);obtain⟨u,F,L⟩:=hu j i R;obtain⟨p0,O,Q,Z,z5⟩:=X j i _ _ _ R C;rw[F] at Q;cases Q;have hy:=an j x y h1 A;have S:Lab y.1 (r j) p as:=hr j rfl;have same:p=p0/\(as=O\/∃c fs,y.1=.ins true c fs):=by
   rw[<-hy] at Z;generalize y.1=kk at S Z;cases kk with
   | ls=>have S:r j=p::as:=S;have Z:r j=p0::O:=Z;rw[S] at Z;cases Z;exact⟨rfl,.inl rfl⟩
   | ins b c fs =>
     cases b with
     | true=>have S:r j=[p]:=S;have Z:r j=[p0]:=Z;rw[S] at Z;cases Z;exact⟨rfl,.inr ⟨c,fs,rfl⟩⟩
     | false=>have S:r j=p::as:=S;have Z:r j=p0::O:=Z;rw[S] at Z;cases Z;exact⟨rfl,.inl rfl⟩
  obtain⟨rfl,hs⟩:=same;refine⟨_,p,as,vs,L,M,rfl,hW,n1,λn hn=>?_,hk,hp⟩;have z6:=z5 n hn;rw[<-hy] at z6;rcases hs with rfl | ⟨c,fs,q⟩
  ·exact z6
  ·rw[q] at z6 ⊢;exact z6
 have up:∀(a:Addr) (us:ik),Ow (qw G W (Lent H env σ is) r) W' a->Rd H' a (.lst us)->Ow G (λa=>W' a\/(W a/\¬Lent H env σ is a)) a/\Rd H' a (.lst us):=λa us o h=>⟨⟨o.1.1,λz=>z.elim o.2 λy=>y.2 (o.1.2 y.1)⟩,h⟩;have cv:∀ {d:D} {v:V},Rep K H' (Ow (qw G W (Lent H env σ is) r) W') d v->Rep K H' (Ow G (λa=>W' a\/(W a/\¬Lent H env σ is a))) d v:=λrp=>rp.mono (λ_ _ h=>h) up;have ap:∀ {d:i0} {v:ik},Reps K H' (Ow (qw G W (Lent H env σ is) r) W') d v->Reps K H' (Ow G (λa=>W' a\/(W a/\¬Lent H env σ is a))) d v:=λrp=>rp.mono (λ_ _ h=>h) up;have f:∀ {i:Nat} {s:Sl} {v:V},i∉is->env[i]?=some (some s)->σ[i]?=some (some v)->∀a,Owns H s v a->W a/\¬Lent H env σ is a:=λ{i s v} hi e R a o=>by
  obtain⟨v',A,q⟩:=ok.slot i s e;rw[R] at A;cases A;refine⟨q.owns o,λz=>?_⟩;obtain⟨i',s',v',g,F,L,Q⟩:=z;exact hi ((ok.uniq i i' s s' _ _ a e F R L o Q) ▸ g)
 have P:∀ {i:Nat} {s:Sl} {v:V},i∉is->env[i]?=some (some s)->σ[i]?=some (some v)->∀a (m:Mo),Owns H s v a->H a=some m.out->(W' a\/(W a/\¬Lent H env σ is a))/\H' a=some m.out:=λ{i s v} hi e R a m o q=>by
  have z:=f hi e R a o;exact⟨.inr z,st.keep a _ q z.2⟩
 have t:∀ {i:Nat} {s:Sl} {v:V} {a:Addr},i∉is->env[i]?=some (some s)->σ[i]?=some (some v)->Owns H' s v a->Owns H s v a:=λ{i s v a} hi e R o=>by
  obtain⟨v',A,q⟩:=ok.slot i s e;rw[R] at A;cases A;refine q.back (λl z w m L=>?_) o;refine st.keep l _ L λy=>?_;obtain⟨i',s',v',g,F,Q,Z⟩:=y;have ol:Owns H s v l:=by
   cases s with
   | sh d=>exact o.elim
   | ow ds=>exact z
   | o2 dss=>exact .inl z
   | ag k r ps=>exact .inl z
   | al _ _=>exact o.elim
   | ro _ _=>exact o.elim
  exact hi ((ok.uniq i i' s s' _ _ l e F R Q ol Z) ▸ g)
 have J:∀ {i:Nat} {s:Sl},(putA env is I)[i]?=some (some s)->(i∉is/\env[i]?=some (some s))\/∃(j:Nat) (y:Ag) (k:AK) (l:Option Nat) (ps:kb),is[j]?=some i/\I[j]?=some y/\env[i]?=some (some (.ag k l ps))/\s=.ag y.1 l y.2:=λ{i s} e=>by
  by_cases hi:i∈is
  ·obtain⟨j,hj,ej⟩:=l8 hi
   have R:is[j]?=some i:=by simp[hj,ej]
   obtain⟨x,l,h1,h2⟩:=u7 hg R;have h3:I[j]?=some (I[j]'(by lia)):=by simp[hl,hj]
   rw[zpj nd R h3 h2] at e;cases e;exact .inr ⟨j,_,_,l,_,R,h3,h2,rfl⟩
  ·rw[zm1 hi] at e;exact .inl ⟨hi,e⟩
 refine⟨⟨λb o e=>?_,ok.good,λa z=>?_,λi s e=>?_,λi i' s s' v v' a R A C M o1 o2=>?_,by rw[zm0];exact ok.len⟩,aa,cv⟩
 ·exact st.keep b o (ok.stay b o e) λz=>by rw[(ok.wl b (lW b z)).1] at e;cases e
 ·rcases z with z | z
  ·refine⟨?_,(B.wl a z).2⟩
   rcases N a z with y | y
   ·exact(ok.wl a (lW a y)).1
   ·exact ok.stay.free y
  ·obtain⟨q,m,hm⟩:=ok.wl a z.1
   exact⟨q,m,st.keep a _ hm z.2⟩
 ·rcases J e with⟨hi,e⟩ | ⟨j,y,k,l,ps,R,A,C,rfl⟩
  ·obtain⟨v,R,q⟩:=ok.slot i s e
   exact⟨v,R,ok.slstep aa q (P hi e R)⟩
  ·obtain⟨u,p,as,vs,E,_,rfl,hW,n1,ar,hk,hp⟩:=back R A C
   exact⟨_,E,p,as,vs,rfl,.inl hW,n1,ar,hk,hp.step (λa ws ha z=>⟨.inl (hp.own ha).1,z⟩) (λ_ _ r=>cv r) λ_ _ r=>ap r⟩
 ·rcases J R with⟨hi,f1⟩ | ⟨j,y,k,l,ps,f1,f2,f3,rfl⟩ <;> rcases J A with⟨g,U⟩ | ⟨j',y',k',l',ps',U,f2',f3',rfl⟩
  ·exact ok.uniq i i' s s' v v' a f1 U C M (t hi f1 C o1) (t g U M o2)
  ·exfalso
   obtain⟨F,L⟩:=f hi f1 C a (t hi f1 C o1);obtain⟨u,p,as,vs,E,q2,_⟩:=back U f2' f3';rw[M] at E;cases E;obtain⟨v0,w1,w2⟩:=B.slot j' _ (Y j' y' f2');rw[q2] at w1;cases w1;exact L (n' a (w2.owns o2) F)
  ·exfalso
   obtain⟨F,L⟩:=f g U M a (t g U M o2);obtain⟨u,p,as,vs,E,q2,_⟩:=back f1 f2 f3;rw[C] at E;cases E;obtain⟨v0,w1,w2⟩:=B.slot j _ (Y j y f2);rw[q2] at w1;cases w1;exact L (n' a (w2.owns o1) F)
  ·obtain⟨u,p,as,vs,E,q2,_⟩:=back f1 f2 f3
   obtain⟨u',p',a1,vs',ab,a0,_⟩:=back U f2' f3';rw[C] at E;cases E;rw[M] at ab;cases ab;have:=B.uniq j j' _ _ _ _ a (Y j y f2) (Y j' y' f2') q2 a0 o1 o2;subst this;rw[f1] at U;cases U;rfl
def MCal(P:Program)(w:World)(K:h8)(mg:Str->gs)(base:Heap)(cn m:Str)(k:Nat)(sp:Sp):Prop :=
 ∃C fa fd ps,Cls K C/\Meth K C m fa/\FnOk P w K mg base (CXr P w) k fa fd ps sp/\Binds K fd ps []/\Cl K cn C
def Atr(K:h8)(cn m:Str):Prop:=∃C,Cls K C/\NoAttr K C m/\Cl K cn C
def KCal(P:Program)(w:World)(K:h8)(mg:Str->gs)(base:Heap)(x:Str)(k:Nat)(sp:Sp):Prop :=
 ∃C fa fd ps,Mk K C fa/\FnOk P w K mg base (CXr P w) k fa fd ps sp/\mg x=some (.ref C)/\Binds K fd ps []/\Cl K x C/\(x==("__debug__" : Str))=false
def EXs(X:Cx)(σ:St):XK:=λcls _ H'=>∀pins H s C ea s',cls=.ref C->Inv X pins σ H s->Fly X.prog X.w X.stack H s C ea H' s'->X.xe (.ref ea) s'
variable{vs:ik}{X:Cx}{k:Nat}{f:Addr}{fd:FuncData}{ps:gj}{sp:Sp}
theorem zpk{pins:ia}{s:Shared}{Q:VK}{us:gr}(F:FnOk X.prog X.w X.K X.mg X.base (CXr X.prog X.w) k f fd ps sp)(R:Room k X.A)(S:Binds X.K fd ps [])(I:Inv X pins σ H s)(r:Vals vs us)(h:sp vs H Q (EXs X σ)):wpAny (model X.prog X.w) X.A (call (.ref f) us) (EP X pins σ Q) X.xe s:=by
 have U:(us++[]).length=ps.length:=by rw[de,<-r.length];exact F.len _ _ _ _ h
 have J:=S s us I.kIn U;rw[de] at J;refine wpAny_call (codeAny_mono (F.run X.A X.stack s H ⟨us,[]⟩ us vs Q (EXs X σ) R I.env0 J r h) λr s' D=>?_);cases r with
 | error e =>
   obtain⟨ea,C,H',rfl,fl,z⟩:=D;exact z pins H s C ea s' rfl I fl
 | ok fl =>
   cases fl with
   | ret u=>exact I.after D
   | next=>exact False.elim D
   | brk=>exact False.elim D
   | cont=>exact False.elim D
def z3o(X:Cx)(sp:Sp)(t:TA):TE:=λσ H Q=>t σ H λvs H1=>sp vs H1 Q (EXs X σ)
variable{x:Str}{p pos:Pos}{e:Expr}{es:g9}{t:TA}
theorem yq(F:FnOk X.prog X.w X.K X.mg X.base (CXr X.prog X.w) k f fd ps sp)(R:Room k X.A)(S:Gl X x)(U:X.mg x=some (.ref f))(V:PySem.W.keepIn X.K (.ref f)=true)(Y:Binds X.K fd ps [])(Z:PA X (e::es) t)(D:(x==("__debug__" : Str))=false:=by decide)(a:starEach (e::es) X.env=(false,eval e X.env)::starEach es X.env:=by rfl)(J:(backTo pos (starEach es X.env)).any (·.1)=false:=by rfl) :
  PE X (.Call (.Name x p) (e::es) [] pos) (z3o X sp t):=by
 intro pins s σ H Q I h;refine wpAny_Call_Name_kw (u4 I S U ?_ D);refine i6 (h₀:=X.base) I.ok.mod.kin V (thn (Z pos pins s σ H _ I h) λus s1 ⟨vs,H1,I1,r,q⟩=>⟨I1.kIn,?_⟩) a J;exact zpk F R Y I1 r q
def zqw(X:Cx)(C:Addr)(m:Str)(sp:Sp)(ta:TE)(t:TA):TE:=λσ H Q=>ta σ H λx H1=>∃a dx fs,x=.ref a/\H1 a=some (.ins C dx fs)/\fs.lookup m=none/\t σ H1 λvs H2=>sp (x::vs) H2 Q (EXs X σ)
variable{C:Addr}{m:Str}{apos:Pos}{ta:TE}
theorem zm4{pl:Sem Bool}(S:PE X o ta)(c:Cls X.K C)(R:Meth X.K C m f)(F:FnOk X.prog X.w X.K X.mg X.base (CXr X.prog X.w) k f fd ps sp)(U:Room k X.A)(V:Binds X.K fd ps [])(Y:PA X (e::es) t)(D:starEach (e::es) X.env=(false,eval e X.env)::starEach es X.env:=by rfl)(J:(backTo pos (starEach es X.env)).any (·.1)=false:=by rfl)(Z:eval (.Call (.Attribute o m apos) (e::es) [] pos) X.env=(do
   let ov <-eval o X.env
   standAt apos.atName
   let (f,first) <-holding [ov] (getMethod ov m pl)
   callWith pos f first (backTo pos (starEach (e::es) X.env)) (backToKw pos (keywordEach [] X.env))):=by rfl) :
  PE X (.Call (.Attribute o m apos) (e::es) [] pos) (zqw X C m sp ta t):=by
 intro pins s σ H Q I h;refine PySem.W.methodCall_KW (pl:=pl) (thn (S pins s σ H _ I h) λu s1 ⟨x,H1,I1,rx,a,dx,fs,ex,ea,l,q⟩=>?_) Z;subst ex;obtain rfl:u=Value.ref a:=rx;refine zly I1 ea c R l ?_;refine i6 (first:=[.ref a]) (h₀:=X.base) I.ok.mod.kin R.kp (thn (Y pos pins s1 σ H1 _ I1 q) λus s2 ⟨vs,H2,I2,r,q2⟩=>⟨I2.kIn,?_⟩) D J;exact zpk (us:=.ref a::us) (vs:=.ref a::vs) F U V I2 (.cons rfl r) q2
theorem zla{pl:Sem Bool}(J:PE X o ta)(c:Cls X.K C)(D:Meth X.K C m f)(F:FnOk X.prog X.w X.K X.mg X.base (CXr X.prog X.w) k f fd ps sp)(R:Room k X.A)(S:Binds X.K fd ps [])(U:eval (.Call (.Attribute o m apos) [] [] pos) X.env=(do
   let ov <-eval o X.env
   standAt apos.atName
   let (f,first) <-holding [ov] (getMethod ov m pl)
   callWith pos f first (backTo pos (starEach [] X.env)) (backToKw pos (keywordEach [] X.env))):=by rfl) :
  PE X (.Call (.Attribute o m apos) [] [] pos) (zqw X C m sp ta tNil):=by
 intro pins s σ H Q I h;refine PySem.W.methodCall_KW (pl:=pl) (thn (J pins s σ H _ I h) λu s1 ⟨x,H1,I1,rx,a,dx,fs,ex,ea,l,q⟩=>?_) U;subst ex;obtain rfl:u=Value.ref a:=rx;refine zly I1 ea c D l ?_;exact PySem.W.callWith_K0 (first:=[.ref a]) I1.kIn D.kp (zpk (us:=[.ref a]) (vs:=[.ref a]) F R S I1 (.cons rfl .nil) q)
def z3p(X:Cx)(C:Addr)(sp:Sp)(t:TA):TE:=λσ H Q=>t σ H λvs H1=>∀x dx,H1 x=none->H1 dx=none->dx≠x ->
 sp (.ref x::vs) (upd (upd H1 dx (.own x)) x (.ins C dx [])) (λv H2=>v=.non/\Q (.ref x) H2) (EXs X σ)
theorem zwx(M:Mk X.K C f)(F:FnOk X.prog X.w X.K X.mg X.base (CXr X.prog X.w) k f fd ps sp)(b:Room (k+1) X.A)(c:Gl X x)(d:X.mg x=some (.ref C))(g:Binds X.K fd ps [])(i:PA X (e::es) t)(R:(x==("__debug__" : Str))=false:=by decide)(j:starEach (e::es) X.env=(false,eval e X.env)::starEach es X.env:=by rfl)(S:(backTo pos (starEach es X.env)).any (·.1)=false:=by rfl) :
  PE X (.Call (.Name x p) (e::es) [] pos) (z3p X C sp t):=by
 intro pins l σ H0 Q U m;refine wpAny_Call_Name_kw (u4 U c d ?_ R);refine i6 (h₀:=X.base) U.ok.mod.kin M.kp (thn (i pos pins l σ H0 _ U m) λus s ⟨vs,H,I,r,h⟩=>⟨I.kIn,?_⟩) j S;have Y:=h (s.heap.objs.size+1) s.heap.objs.size (I.hok.fresh (o8 _)) (I.hok.fresh (b6 _)) (bx (ff _));have J:=Inv.made (C:=C) I;have Z:Vals (V.ref (s.heap.objs.size+1)::vs) (Value.ref (s.heap.objs.size+1)::us):=.cons rfl r;have n:((Value.ref (s.heap.objs.size+1)::us)++[]).length=ps.length:=by rw[de,<-Z.length];exact F.len _ _ _ _ Y
 have a:=g ⟨_,s.gens,s.drawn,s.toks,s.os⟩ (Value.ref (s.heap.objs.size+1)::us) J.kIn n;rw[de] at a;refine wpAny_call (zvu (f:=f) I.kIn M.makes M.init (beq_iff_eq.mp M.fn) (codeAny_mono (F.run _ X.stack _ _ ⟨Value.ref (s.heap.objs.size+1)::us,[]⟩ (Value.ref (s.heap.objs.size+1)::us) _ _ (EXs X σ) (b.make C us [])
  (J.env0.make C us []) a Z Y) λr s' D=>?_))
 cases r with
 | error e =>
   obtain⟨ea,o,H',rfl,fl,z⟩:=D;exact z pins _ _ o ea s' rfl J fl
 | ok fl =>
   cases fl with
   | ret u =>
     obtain⟨v,H',q,y,B,E⟩:=J.after D;subst B;exact⟨y,⟨V.ref (s.heap.objs.size+1),H',q,rfl,E⟩⟩
   | next=>exact False.elim D
   | brk=>exact False.elim D
   | cont=>exact False.elim D
abbrev XF:=DE0->Option (Str×DE0)
def XEnd(X:Cx)(G:Gd)(H0:Hp)(W:Addr->Prop)(H:Hp)(σ:St)(c:Str)(env':DE0):Prop:=∀W' H' C,Cl X.K c C->Step W H W' H'->Ok X.K G H0 W' env' σ H'->∀pins e s',XS X pins σ H' C e s'->X.xe (.ref e) s'
def tDX(X:Cx)(G:Gd)(H0:Hp)(x:XF)(σ:St)(H:Hp):Prop:=∃W env c env',Ok X.K G H0 W env σ H/\x env=some (c,env')/\XEnd X G H0 W H σ c env'
structure JX (X:Cx) (G:Gd) (H0:Hp) (e:Expr) (x:XF):Prop where
 out:PE X e (λσ H _=>tDX X G H0 x σ H)
structure JXA (X:Cx) (G:Gd) (H0:Hp) (es:g9) (x:XF):Prop where
 out:PA X es (λσ H _=>tDX X G H0 x σ H)
structure JXS (X:Cx) (G:Gd) (H0:Hp) (s:Stmt) (x:XF):Prop where
 out:PS X s (λ_ σ H=>tDX X G H0 x σ H)
@[simp] def sXp(x:XF)(g:FS):FS:=λe=>match x e with | some r=>some (.xc r.1,r.2) | none=>g e
variable{x:XF}{g:FS}
theorem kv(R:DSx X G H0 s g)(S:JXS X G H0 s x):DSx X G H0 s (sXp x g):=⟨λpins s' σ H D I U=>by
 obtain⟨W,env,fl,env',ok,q,k⟩:=U;unfold sXp at q;cases e1:x env with
 | none=>rw[e1] at q;exact R.out pins s' σ H D I ⟨W,env,fl,env',ok,q,k⟩
 | some r =>
   rw[e1] at q;cases q;exact S.out pins s' σ H D I ⟨W,env,r.1,r.2,ok,e1,λW' H' C V st J=>k W' σ H' C V st J⟩⟩
theorem mn(h:JX X G H0 e x)(D:swapsWith e none pos.line X.env=pure false:=by rfl):JXS X G H0 (.Expr e pos) x:=⟨(zsu h.out D).imp λ_ _ _ z=>z⟩
theorem u6(h:JX X G H0 e x):JXS X G H0 (.Return (some e) pos) x:=⟨(zqg h.out).imp λ_ _ _ z=>z⟩
variable{c:Str}
theorem Cl.inj{D:Addr}(h:Cl K c C)(h':Cl K c D):C=D:=by
 unfold Cl at h h';rw[h] at h';cases h';rfl
def z9(K:h8)(O:Addr->Prop)(H:Hp)(ags:k4)(us:ik):Prop :=
 us.length=ags.length/\∀(j:Nat) (x:Ag) (u:V),ags[j]?=some x->us[j]?=some u->∃p vs,u=.ref p/\AkOk K H x.1 p vs/\PtsRo K (gd O) NoW H x.2 vs
def qSp(K:h8)(m:k4->i0->ka)(x:k4->i0->h6):Sp:=λvs H Q E =>
 ∃(O:Addr->Prop) (ags:k4) (us:ik) (ds:i0) (ws:ik),vs=us++ws/\z9 K O H ags us/\Reps K H O ds ws /\
  ((∃d,m ags ds=some d/\∀v H',Same H H'->Rep K H' (λa=>O a\/H a=none) d v->Q v H')\/∃c,x ags ds=some c/\∀C H',Cl K c C->Same H H'->E (.ref C) none H')
def j4(n:Nat)(ags:k4)(ds:i0):DE0:=ags.map (λx=>some (Sl.ro x.1 x.2))++je (n-ags.length) ds
def runQ(n p ar:Nat)(g:FS):k4->i0->ka:=λags ds=>if ags.length=p/\ds.length=ar then(match g (j4 n ags ds) with | some (.rt d,_)=>some d | some (.nx,_)=>some .non | _=>none) else none
def xQ(n p ar:Nat)(g:FS):k4->i0->h6:=λags ds=>if ags.length=p/\ds.length=ar then(match g (j4 n ags ds) with | some (.xc c,_)=>some c | _=>none) else none
variable{O:Addr->Prop}
theorem lj{O':Addr->Prop}(h:∀a,O a->O' a):(∀(d:D) (v:V),Rep K H O d v->Rep K H O' d v)/\∀(d:i0) (v:ik),Reps K H O d v->Reps K H O' d v :=
 ⟨λd v r=>r.mono (λ_ _ h=>h) λa us o q=>⟨h a o,q⟩,λd v r=>r.mono (λ_ _ h=>h) λa us o q=>⟨h a o,q⟩⟩
variable{ws:ik}{ds:i0}{N:gj}
theorem zyj(I:z9 K O H ags us)(r:Reps K H O ds ws)(b:us.length<=N.length) :
  Ok K (gd λa=>O a\/H a=none) H NoW (j4 N.length ags ds) (start N (us++ws)) H:=by
 have R:=t9 (N:=N.drop us.length) r;have J:=R.len;have es:start N (us++ws)=us.map some++start (N.drop us.length) ws:=by
  unfold start;rw[cz,dh,am,fg,Nat.sub_sub]
 have V:j4 N.length ags ds=ags.map (λx=>some (Sl.ro x.1 x.2))++je (N.drop us.length).length ds:=by unfold j4;rw[fg,I.1]
 rw[es,V];refine⟨Same.refl _,R.good,R.wl,λi s e=>?_,λi j c s2 v1 v2 a D _ f _ o _=>?_,?_⟩
 ·by_cases hi:i<ags.length
  ·rw[au (by simpa using hi),bz] at e
   cases D:ags[i]? with
   | none=>rw[D] at e;cases e
   | some x =>
     rw[D] at e;cases e;have S:us[i]?=some (us[i]'(by rw[I.1];exact hi)):=by simp[I.1,hi]
     obtain⟨p,vs,h1,h2,Y⟩:=I.2 i x _ D S;refine⟨_,by rw[au (by rw[ae,I.1];exact hi),bz,S];rfl,p,vs,h1,λz=>z,h2,Y.step (λa vs n z=>⟨n,z⟩) (λd v q=>(lj λa z=>⟨.inl z.1,λz=>z⟩).1 d v q) λd v q=>(lj λa z=>⟨.inl z.1,λz=>z⟩).2 d v q⟩
  ·rw[dg (by simpa using hi),ae] at e
   obtain⟨v,U,Z⟩:=R.slot _ s e;rw[<-I.1] at U;exact⟨v,by rw[dg (by rw[ae,I.1];lia),ae];exact U,Z⟩
 ·by_cases hi:i<ags.length
  ·rw[au (by simpa using hi),bz] at D
   cases q:ags[i]? with
   | none=>rw[q] at D;cases D
   | some x=>rw[q] at D;cases D;exact o.elim
  ·rw[dg (by simpa using hi)] at D
   obtain⟨d,_,rfl⟩:=zic D;exact o.elim
 ·rw[am,am,ae,ae,J,I.1]
variable{x qual:Str}{st:Stmt}{n ar:Nat}{P:Program}{w:World}{mg:Str->gs}{base:Heap}
theorem z3q{p:Nat}(F:Fun K x qual st f fd)(S:o5 N ps (f9 st))(j:n=N.length)(l:p+ar=ps.length)(R:∀(cdv:Value) (A:Around) (outer:g8) (s:Shared) (H:Hp) (E:XK) (G:Gd) (H0:Hp),Room k (A.deeper (envOfC qual (f9 st) s.heap.objs.size f cdv)) ->
   DBx (cxOf (CXr P w) P w K mg base N qual (f9 st) f cdv A outer s H E) G H0 (lg st) g):FnOk P w K mg base (CXr P w) (k+1) f fd ps (qSp K (runQ n p ar g) (xQ n p ar g)):=by
 subst j;have m:ps.length<=N.length:=by have:=congrArg List.length S.pre;rw[dq] at this;lia
 have U:∀ {O:Addr->Prop} {H:Hp} {ags:k4} {us:ik} {ds:i0} {ws:ik},z9 K O H ags us->Reps K H O ds ws->(ags.length=p/\ds.length=ar)->(us++ws).length=ps.length:=λJ r h=>by rw[am,J.1,h.1,<-r.length,h.2,l]
 refine F.okX S (λvs H Q E h=>?_) (λcdv A outer s H vs Q E q h=>?_)
 ·obtain⟨O,ags,us,ds,ws,rfl,J,r,h⟩:=h
  refine U J r ?_;rcases h with⟨d,e,_⟩ | ⟨c,e,_⟩
  ·unfold runQ at e;split at e
   ·assumption
   ·cases e
  ·unfold xQ at e;split at e
   ·assumption
   ·cases e
 ·obtain⟨O,ags,us,ds,ws,rfl,J,r,h⟩:=h
  refine⟨_,(R cdv A outer s H E (gd λa=>O a\/H a=none) H q).out,?_⟩;rcases h with⟨d,e,k⟩ | ⟨c,e,k⟩
  ·unfold runQ at e
   split at e;case isFalse=>cases e
   rename_i i;have b:=zyj (N:=N) J r (by rw[J.1,i.1];lia);split at e
   ·rename_i d' env' Y
    cases e;exact⟨NoW,_,_,env',b,Y,λW' Z v H' st I t=>k v H' I.stay (t.mono (λ_ _ h=>h) λa us o h=>⟨o.1,h⟩)⟩
   ·rename_i env' Y
    cases e;exact⟨NoW,_,_,env',b,Y,λW' Z H' st I=>k .non H' I.stay .non⟩
   ·cases e
  ·unfold xQ at e
   split at e;case isFalse=>cases e
   rename_i i;have b:=zyj (N:=N) J r (by rw[J.1,i.1];lia);split at e
   ·rename_i z env' Y
    cases e;exact⟨NoW,_,_,env',b,Y,λW' Z H' u y st I pins e s' xs=>zjx xs (k u H' y I.stay)⟩
   ·cases e
def lSp(K:h8)(m:k4->i0->k6)(x:k4->i0->Option (Str×k4)):Sp:=λvs H Q E =>
 ∃(G:Gd) (W:Addr->Prop) (R:Hp) (ags:k4) (us:ik) (ds:i0) (ws:ik),vs=us++ws/\us.length=ags.length/\Ok K G R W (m6 ags) (us.map some) H/\Reps K H (Ow G W) ds ws /\
  ((∃d I, m ags ds = some (d, I) /\ ∀W' env' J v H', Step W H W' H' -> Ok K G R W' env' J H' -> (∀(j : Nat) (x : Ag), I[j]? = some x -> env'[j]? = some (some (slA x j))) -> Rep K H' (Ow G W') d v -> Q v H') \/
   ∃c I,x ags ds=some (c,I)/\∀C W' env' J H',Cl K c C->Step W H W' H'->Ok K G R W' env' J H'->(∀(j:Nat) (x:Ag),I[j]?=some x->env'[j]?=some (some (slA x j)))->E (.ref C) none H')
def jt(n:Nat)(ags:k4)(ds:i0):DE0:=m6 ags++je (n-ags.length) ds
def outA(e:DE0):Nat->g0->Option k4
 | _,[]=>some []
 | j,_::r=>match e[j]? with | some (some (.ag k (some j') ps))=>if j'=j then(outA e (j+1) r).map λt=>(k,ps)::t else none | _=>none
def runL(n p ar:Nat)(g:FS):k4->i0->k6:=λags ds=>if ags.length=p/\ds.length=ar then(match g (jt n ags ds) with | some (.rt d,e)=>(outA e 0 (List.range p)).map λt=>(d,t) | some (.nx,e)=>(outA e 0 (List.range p)).map λt=>(.non,t) | _=>none) else none
def xL(n p ar:Nat)(g:FS):k4->i0->Option (Str×k4):=λags ds=>if ags.length=p/\ds.length=ar then(match g (jt n ags ds) with | some (.xc c,e)=>(outA e 0 (List.range p)).map λt=>(c,t) | _=>none) else none
theorem zm5{e:DE0}:∀ {l:g0} {i:Nat} {ags:k4},outA e i l=some ags->ags.length=l.length/\∀(j:Nat) (x:Ag),ags[j]?=some x->e[i+j]?=some (some (slA x (i+j)))
 | [],_,_,h=>by cases h;exact⟨rfl,λj x z=>by simp at z⟩
 | _::r,i,ags,h=>by
   unfold outA at h;split at h
   ·rename_i k D ps q
    split at h
    ·rename_i I
     subst I;cases e2:outA e (D+1) r with
     | none=>rw[e2] at h;cases h
     | some t =>
       rw[e2] at h;cases h;obtain⟨h1,h2⟩:=zm5 e2;refine⟨by rw[ak,ak,h1],λj x z=>?_⟩;cases j with
       | zero=>simp at z;subst z;exact q
       | succ j =>
         have:=h2 j x (by simpa using z);rwa [show D+1+j=D+(j+1) by lia] at this
    ·cases h
   ·cases h
theorem z3r{I:Hp}(ok:Ok K G I W (m6 ags) (us.map some) H)(J:us.length=ags.length)(r:Reps K H (Ow G W) ds ws) :
  Ok K G I W (jt N.length ags ds) (start N (us++ws)) H:=by
 have R:(m6 ags).length=us.length:=by rw[zol,J]
 have es:start N (us++ws)=us.map some++start (N.drop us.length) ws:=by
  unfold start;rw[cz,dh,am,fg,Nat.sub_sub]
 have b:jt N.length ags ds=m6 ags++je (N.drop us.length).length ds:=by unfold jt;rw[fg,J]
 have c:=t9 (N:=N.drop us.length) (O:=Ow G W) r;rw[es,b];have D:∀ {i:Nat} {s:Sl},(m6 ags++je (N.drop us.length).length ds)[i]?=some (some s)->(i<us.length/\(m6 ags)[i]?=some (some s))\/(us.length<=i/\∃d,ds[i-us.length]?=some d/\s=.sh d):=λ{i s} e=>by
  by_cases hi:i<us.length
  ·rw[au (by lia)] at e;exact .inl ⟨hi,e⟩
  ·rw[dg (by lia),R] at e
   obtain⟨d,q,z⟩:=zic e;exact .inr ⟨by lia,d,q,z⟩
 refine⟨ok.stay,ok.good,ok.wl,λi s e=>?_,λi j f s2 v1 v2 a g h S U V Y=>?_,?_⟩
 ·rcases D e with⟨hi,e⟩ | ⟨hi,d,q,rfl⟩
  ·obtain⟨v,h1,h2⟩:=ok.slot i s e
   exact⟨v,by rw[au (by simpa using hi)];exact h1,h2⟩
  ·obtain⟨v,h1,h2⟩:=r.get q
   refine⟨v,?_,h2⟩;rw[dg (by simpa using hi),ae];unfold start;rw[au (by simpa using(ah.mp h1).1),bz,h1];rfl
 ·rcases D g with⟨hi,k⟩ | ⟨hi,d,q,rfl⟩
  ·rcases D h with⟨Z,l⟩ | ⟨Z,d,q,rfl⟩
   ·rw[au (by simpa using hi)] at S
    rw[au (by simpa using Z)] at U;exact ok.uniq i j f s2 v1 v2 a k l S U V Y
   ·exact Y.elim
  ·exact V.elim
 ·rw[am,am,R,ae,c.len]
theorem z0e{p:Nat}(F:Fun K x qual st f fd)(S:o5 N ps (f9 st))(Z:n=N.length)(a:p+ar=ps.length)(J:∀(cdv:Value) (A:Around) (outer:g8) (s:Shared) (H:Hp) (E:XK) (G:Gd) (H0:Hp),Room k (A.deeper (envOfC qual (f9 st) s.heap.objs.size f cdv)) ->
   DBx (cxOf (CXr P w) P w K mg base N qual (f9 st) f cdv A outer s H E) G H0 (lg st) g):FnOk P w K mg base (CXr P w) (k+1) f fd ps (lSp K (runL n p ar g) (xL n p ar g)):=by
 subst Z;refine F.okX S (λvs H Q E h=>?_) (λcdv A outer s H vs Q E b h=>?_)
 ·obtain⟨G,W,Y,ags,us,ds,ws,rfl,U,ok,r,h⟩:=h
  have:ags.length=p/\ds.length=ar:=by
   rcases h with⟨d,t,e,_⟩ | ⟨c,t,e,_⟩
   ·unfold runL at e;split at e
    ·assumption
    ·cases e
   ·unfold xL at e;split at e
    ·assumption
    ·cases e
  rw[am,U,this.1,<-r.length,this.2,a]
 ·obtain⟨G,W,Y,ags,us,ds,ws,rfl,U,ok,r,h⟩:=h
  refine⟨_,(J cdv A outer s H E G Y b).out,?_⟩;have V:=z3r (N:=N) ok U r;rcases h with⟨d,t,e,k⟩ | ⟨c,t,e,k⟩
  ·unfold runL at e
   split at e;case isFalse=>cases e
   split at e
   ·rename_i d' env' R
    cases e2:outA env' 0 (List.range p) with
    | none=>rw[e2] at e;cases e
    | some t' =>
      rw[e2] at e;cases e;exact⟨W,_,_,env',V,R,λW' D v H' st I i=>k W' env' D v H' st I (λj x z=>by have:=(zm5 e2).2 j x z;rwa [jv] at this) i⟩
   ·rename_i env' R
    cases e2:outA env' 0 (List.range p) with
    | none=>rw[e2] at e;cases e
    | some t' =>
      rw[e2] at e;cases e;exact⟨W,_,_,env',V,R,λW' D H' st I=>k W' env' D .non H' st I (λj x z=>by have:=(zm5 e2).2 j x z;rwa [jv] at this) .non⟩
   ·cases e
  ·unfold xL at e
   split at e;case isFalse=>cases e
   split at e
   ·rename_i o env' R
    cases e2:outA env' 0 (List.range p) with
    | none=>rw[e2] at e;cases e
    | some t' =>
      rw[e2] at e;cases e;exact⟨W,_,_,env',V,R,λW' D H' l m st I pins e s' xs=>zjx xs (k l W' env' D H' m st I λj x z=>by have:=(zm5 e2).2 j x z;rwa [jv] at this)⟩
   ·cases e
def getR(env:DE0):g0->Option k4
 | []=>some []
 | i::r=>match env[i]? with
   | some (some (.ag k _ ps))=>(getR env r).map λt=>(k,ps)::t
   | some (some (.ro k ps))=>(getR env r).map λt=>(k,ps)::t
   | _=>none
def aggs(env:DE0)(is:g0):Prop:=∀i∈is,∃s,env[i]?=some (some s)
instance (env:DE0) (is:g0):Decidable (aggs env is):=Classical.propDecidable _
variable{ps:kb}{as:gu}
theorem PtsOk.ro(h:PtsOk K G W H ps as us):PtsRo K (gd (Ow G W)) NoW H ps us:=by
 induction h with
 | nil=>exact .nil
 | d q _ ih=>exact .d ((lj λa z=>⟨z,λz=>z⟩).1 _ _ q) ih
 | o hW hl q _ ih=>exact .o (λz=>z) hl ((lj λa z=>⟨z,λz=>z⟩).2 _ _ q) ih
theorem PtsRo.ro(h:PtsRo K G W H ps us):PtsRo K (gd (Ow G W)) NoW H ps us :=
 h.step (λa vs _ z=>⟨λz=>z,z⟩) (λd v q=>(lj λa z=>⟨z,λz=>z⟩).1 d v q) λd v q=>(lj λa z=>⟨z,λz=>z⟩).2 d v q
theorem Ok.roAll(ok:Ok K G H0 W env σ H):∀ {is:g0} {ags:k4} {us:ik},getR env is=some ags->us.length=is.length->(∀(j i:Nat),is[j]?=some i->∃u,us[j]?=some u/\σ[i]?=some (some u))->z9 K (Ow G W) H ags us
 | [],_,us,h,hl,_=>by cases h;exact⟨hl,λj x u e=>by simp at e⟩
 | i::r,ags,us,h,hl,hu=>by
   cases us with
   | nil=>simp at hl
   | cons u us =>
     obtain⟨g,Y,Z⟩:=hu 0 i rfl;simp at Y;subst Y;have R:∃k ps t,ags=(k,ps)::t/\getR env r=some t/\∃p vs,u=.ref p/\AkOk K H k p vs/\PtsRo K (gd (Ow G W)) NoW H ps vs:=by
      unfold getR at h;split at h
      ·rename_i k l ps q
       cases h2:getR env r with
       | none=>rw[h2] at h;cases h
       | some t =>
         rw[h2] at h;cases h;obtain⟨v,D,p,as,vs,rfl,_,_,_,I,J⟩:=ok.slot i _ q;rw[Z] at D;cases D;exact⟨k,ps,t,rfl,rfl,p,vs,rfl,I,J.ro⟩
      ·rename_i k ps q
       cases h2:getR env r with
       | none=>rw[h2] at h;cases h
       | some t =>
         rw[h2] at h;cases h;obtain⟨v,D,p,vs,rfl,_,I,J⟩:=ok.slot i _ q;rw[Z] at D;cases D;exact⟨k,ps,t,rfl,rfl,p,vs,rfl,I,J.ro⟩
      ·cases h
     obtain⟨k,ps,t,rfl,h2,p,vs,rfl,I,J⟩:=R;obtain⟨a,b⟩:=ok.roAll (us:=us) h2 (by simpa using hl) λj c e=>by
      obtain⟨u,d,f⟩:=hu (j+1) c (by simpa using e);exact⟨u,by simpa using d,f⟩
     refine⟨by rw[ak,ak,a],λj x v S U=>?_⟩;cases j with
     | zero=>simp at S U;subst S;subst U;exact⟨p,vs,rfl,I,J⟩
     | succ j=>exact b j x v (by simpa using S) (by simpa using U)
variable{v:V}
theorem Ok.newRep(ok:Ok K G H0 W env σ H){d:D}(r:Rep K H' (λa=>Ow G W a\/H a=none) d v):Rep K H' (Ow G W) d v :=
 r.mono (λ_ _ h=>h) λa us o h=>⟨o.elim id λz=>⟨ok.good a (ok.stay.free z),λw=>by obtain⟨_,m,q⟩:=ok.wl a w;rw[z] at q;cases q⟩,h⟩
def tLA(X:Cx)(G:Gd)(H0:Hp)(is:g0)(F:FA):TA:=λσ H Q=>∃W env ds env',Ok X.K G H0 W env σ H/\aggs env is/\F env=some (ds,env') /\
 ∀W' us ws H',Step W H W' H'->Ok X.K G H0 W' env' σ H'->us.length=is.length->(∀(j i:Nat),is[j]?=some i->∃u,us[j]?=some u/\σ[i]?=some (some u))->Reps X.K H' (Ow G W') ds ws->Q (us++ws) H'
structure JLA (X:Cx) (G:Gd) (H0:Hp) (is:g0) (es:g9) (F:FA):Prop where
 out:PA X es (tLA X G H0 is F)
variable{F:FA}
theorem ji(h:DAx X G H0 es F):JLA X G H0 [] es F:=⟨h.out.imp λσ H Q ⟨W,env,ds,env',ok,_,q,k⟩=>⟨W,env,ds,env',ok,q,λW' vs H' st D r=>k W' [] vs H' st D rfl (λj i e=>by simp at e) r⟩⟩
variable{Nn Cn:gj}{i:Nat}
theorem vb(h:JLA X G H0 is es F)(an:Ats Nn Cn X)(D:Nn[i]?=some x:=by rfl)(I:starEach (.Name x pos::es) X.env=(false,eval (.Name x pos) X.env)::starEach es X.env:=by rfl):JLA X G H0 (i::is) (.Name x pos::es) F :=
 ⟨(md ((an.a D).pe) h.out I).imp λσ H Q V=>by
  obtain⟨W,env,ds,env',ok,S,q,k⟩:=V;obtain⟨s,I⟩:=S i (by simp);obtain⟨v,U,_⟩:=ok.slot i s I;refine⟨v,U,W,env,ds,env',ok,λJ hi=>S J (by simp[hi]),q,λW' us ws H' st R Y Z r=>?_⟩;refine k W' (v::us) ws H' st R (by rw[ak,ak,Y]) (λj J e=>?_) r;cases j with
  | zero=>simp at e;subst e;exact⟨v,rfl,U⟩
  | succ j=>obtain⟨u,b,c⟩:=Z j J (by simpa using e);exact⟨u,by simpa using b,c⟩⟩
def i5(m:k4->i0->ka)(is:g0)(F:FA):FE:=λe=>if aggs e is then(F e).bind λr=>(getR r.2 is).bind λags=>(m ags r.1).map λd=>(d,r.2) else none
def lf(x:k4->i0->h6)(is:g0)(F:FA):XF:=λe=>if aggs e is then(F e).bind λr=>(getR r.2 is).bind λags=>(x ags r.1).map λc=>(c,r.2) else none
variable{m:k4->i0->ka}{xx:k4->i0->h6}
theorem zpl:∀σ H Q,tD X.K G H0 (i5 m is F) σ H Q->tLA X G H0 is F σ H λvs H1=>qSp X.K m xx vs H1 Q (EXs X σ):=λσ H Q J=>by
 obtain⟨W,env,d,env',ok,q,k⟩:=J;unfold i5 at q;split at q;case isFalse=>cases q
 rename_i I;cases e1:F env with
 | none=>rw[e1] at q;cases q
 | some r =>
   rw[e1,ac] at q;cases e2:getR r.2 is with
   | none=>rw[e2] at q;cases q
   | some ags =>
     rw[e2,ac] at q;cases e3:m ags r.1 with
     | none=>rw[e3] at q;cases q
     | some d' =>
       rw[e3] at q;cases q;exact⟨W,env,r.1,r.2,ok,I,e1,λW1 us ws H1 R D S U V=>⟨Ow G W1,ags,us,r.1,ws,rfl,D.roAll e2 S U,V,.inl ⟨_,e3,λv H' sm Y=>k W1 v H' (R.trans (Step.same sm)) (D.same sm) (D.newRep Y)⟩⟩⟩
theorem zwz:∀σ H (Q:VK),tDX X G H0 (lf xx is F) σ H->tLA X G H0 is F σ H λvs H1=>qSp X.K m xx vs H1 Q (EXs X σ):=λσ H Q R=>by
 obtain⟨W,env,c,env',ok,q,k⟩:=R;unfold lf at q;split at q;case isFalse=>cases q
 rename_i J;cases e1:F env with
 | none=>rw[e1] at q;cases q
 | some r =>
   rw[e1,ac] at q;cases e2:getR r.2 is with
   | none=>rw[e2] at q;cases q
   | some ags =>
     rw[e2,ac] at q;cases e3:xx ags r.1 with
     | none=>rw[e3] at q;cases q
     | some c' =>
       rw[e3] at q;cases q;refine⟨W,env,r.1,r.2,ok,J,e1,λW1 us ws H1 S D U V Y=>⟨Ow G W1,ags,us,r.1,ws,rfl,D.roAll e2 U V,Y,.inr ⟨_,e3,λC H' Z sm pins H2 s2 b ea s' a I fl=>?_⟩⟩⟩;cases a;exact k W1 H' C Z (S.trans (Step.same sm)) (D.same sm) pins ea s' (.inl ⟨s2,H2,I,fl⟩)
variable{jr:Nat}{p':Pos}
theorem mh(c:Cal X.prog X.w X.K X.mg X.base (CXr X.prog X.w) x k (qSp X.K m xx))(R:Room jr X.A)(S:JLA X G H0 is (e::es) F)(D:k<=jr:=by decide)(U:Gl X x:=by walk_at "g")(V:starEach (e::es) X.env=(false,eval e X.env)::starEach es X.env:=by rfl)(I:(backTo pos (starEach es X.env)).any (·.1)=false:=by rfl) :
  DEx X G H0 (.Call (.Name x p') (e::es) [] pos) (i5 m is F):=let ⟨_,_,_,Y,Z,a,b,J⟩:=c;⟨(yq Y (R.mono D) U Z a b S.out J V I).imp zpl⟩
theorem me(c:Cal X.prog X.w X.K X.mg X.base (CXr X.prog X.w) x k (qSp X.K m xx))(R:Room jr X.A)(S:JLA X G H0 is (e::es) F)(D:k<=jr:=by decide)(U:Gl X x:=by walk_at "g")(V:starEach (e::es) X.env=(false,eval e X.env)::starEach es X.env:=by rfl)(I:(backTo pos (starEach es X.env)).any (·.1)=false:=by rfl) :
  JX X G H0 (.Call (.Name x p') (e::es) [] pos) (lf xx is F):=let ⟨_,_,_,Y,Z,a,b,J⟩:=c;⟨(yq Y (R.mono D) U Z a b S.out J V I).imp zwz⟩
instance (a b:List AK):Decidable (a=b):=Classical.propDecidable _
def kg(m:k4->i0->k6)(is:g0)(F:FA):FE:=λe=>if aggs e is then(F e).bind λr=>(getA r.2 is).bind λags=>(m ags r.1).bind λq=>if q.2.map (·.1)=ags.map (·.1) then some (q.1,putA r.2 is q.2) else none else none
def lv(x:k4->i0->Option (Str×k4))(is:g0)(F:FA):XF:=λe=>if aggs e is then(F e).bind λr=>(getA r.2 is).bind λags=>(x ags r.1).bind λq=>if q.2.map (·.1)=ags.map (·.1) then some (q.1,putA r.2 is q.2) else none else none
variable{b:Expr}
theorem z3s{a b:k4}(h:b.map (·.1)=a.map (·.1)):b.length=a.length/\∀(j:Nat) (x y:Ag),a[j]?=some x->b[j]?=some y->y.1=x.1:=by
 refine⟨by simpa using congrArg List.length h,λj x y D I=>?_⟩;have:=congrArg (λl:List AK=>l[j]?) h;simp[bz,D,I,Option.some.injEq] at this;exact this
variable{m:k4->i0->k6}{xx:k4->i0->Option (Str×k4)}
theorem zpm(V:is.Nodup):∀σ H Q,tD X.K G H0 (kg m is F) σ H Q->tLA X G H0 is F σ H λvs H1=>lSp X.K m xx vs H1 Q (EXs X σ):=λσ H Q c=>by
 obtain⟨W,env,d,env',ok,q,k⟩:=c;unfold kg at q;split at q;case isFalse=>cases q
 rename_i J;cases e1:F env with
 | none=>rw[e1] at q;cases q
 | some r =>
   rw[e1,ac] at q;cases e2:getA r.2 is with
   | none=>rw[e2] at q;cases q
   | some ags =>
     rw[e2,ac] at q;cases e3:m ags r.1 with
     | none=>rw[e3] at q;cases q
     | some z =>
       rw[e3,ac] at q;split at q;case isFalse=>cases q
       rename_i R;cases q;obtain⟨e,f⟩:=z3s R;refine⟨W,env,r.1,r.2,ok,J,e1,λW1 us ws H1 g D M i l=>?_⟩;obtain⟨N,I,n,Y,p,S⟩:=D.lend V e2;have s:I=us:=by
        apply eg;intro j;by_cases Z:j<is.length
        ·obtain⟨u,t,w⟩:=i j is[j] (by simp[Z])
         obtain⟨O,x,b⟩:=Y j is[j] (by simp[Z]);rw[w] at b;cases b;rw[t,x]
        ·rw[cx (by lia),cx (by lia)]
       subst s;refine⟨_,_,_,ags,I,r.1,ws,rfl,by rw[n,wx e2],S,?_,.inl ⟨_,_,e3,λW' env' y v H' st U A B=>?_⟩⟩
       ·exact l.mono (λ_ _ h=>h) λa us o h=>⟨⟨⟨o.1,λz=>absurd z o.2⟩,λz=>o.2 (D.lentW z)⟩,h⟩
       ·obtain⟨C,E,L⟩:=D.unlend V e2 Y p (by rw[e,wx e2]) f st U A
        exact k _ v H' (g.trans E) C (L B)
theorem zm6(Y:is.Nodup):∀σ H (Q:VK),tDX X G H0 (lv xx is F) σ H->tLA X G H0 is F σ H λvs H1=>lSp X.K m xx vs H1 Q (EXs X σ):=λσ H Q e=>by
 obtain⟨W,env,d,env',ok,q,k⟩:=e;unfold lv at q;split at q;case isFalse=>cases q
 rename_i R;cases e1:F env with
 | none=>rw[e1] at q;cases q
 | some r =>
   rw[e1,ac] at q;cases e2:getA r.2 is with
   | none=>rw[e2] at q;cases q
   | some ags =>
     rw[e2,ac] at q;cases e3:xx ags r.1 with
     | none=>rw[e3] at q;cases q
     | some z =>
       rw[e3,ac] at q;split at q;case isFalse=>cases q
       rename_i S;cases q;obtain⟨f,g⟩:=z3s S;refine⟨W,env,r.1,r.2,ok,R,e1,λW1 us ws H1 i D N l n=>?_⟩;obtain⟨O,J,p,Z,s,U⟩:=D.lend Y e2;have t:J=us:=by
        apply eg;intro j;by_cases b:j<is.length
        ·obtain⟨u,v,w⟩:=l j is[j] (by simp[b])
         obtain⟨P,x,c⟩:=Z j is[j] (by simp[b]);rw[w] at c;cases c;rw[v,x]
        ·rw[cx (by lia),cx (by lia)]
       subst t;refine⟨_,_,_,ags,J,r.1,ws,rfl,by rw[p,wx e2],U,?_,.inr ⟨_,_,e3,λC W' env' y H' A st V B pins H2 s2 T ea s' E I fl=>?_⟩⟩
       ·exact n.mono (λ_ _ h=>h) λa us o h=>⟨⟨⟨o.1,λz=>absurd z o.2⟩,λz=>o.2 (D.lentW z)⟩,h⟩
       ·cases E
        obtain⟨L,M,u3⟩:=D.unlend Y e2 Z s (by rw[f,wx e2]) g st V B;exact k _ H' C A (i.trans M) L pins ea s' (.inl ⟨s2,H2,I,fl⟩)
theorem zjn(c:Cal X.prog X.w X.K X.mg X.base (CXr X.prog X.w) x k (lSp X.K m xx))(R:Room jr X.A)(S:JLA X G H0 is (e::es) F)(D:k<=jr:=by decide)(U:Gl X x:=by walk_at "g")(V:is.Nodup:=by decide)(Y:starEach (e::es) X.env=(false,eval e X.env)::starEach es X.env:=by rfl)(I:(backTo pos (starEach es X.env)).any (·.1)=false:=by rfl) :
  DEx X G H0 (.Call (.Name x p') (e::es) [] pos) (kg m is F):=let ⟨_,_,_,Z,a,b,d,J⟩:=c;⟨(yq Z (R.mono D) U a b d S.out J Y I).imp (zpm V)⟩
theorem zw0(c:Cal X.prog X.w X.K X.mg X.base (CXr X.prog X.w) x k (lSp X.K m xx))(R:Room jr X.A)(S:JLA X G H0 is (e::es) F)(D:k<=jr:=by decide)(U:Gl X x:=by walk_at "g")(V:is.Nodup:=by decide)(Y:starEach (e::es) X.env=(false,eval e X.env)::starEach es X.env:=by rfl)(I:(backTo pos (starEach es X.env)).any (·.1)=false:=by rfl) :
  JX X G H0 (.Call (.Name x p') (e::es) [] pos) (lv xx is F):=let ⟨_,_,_,Z,a,b,d,J⟩:=c;⟨(yq Z (R.mono D) U a b d S.out J Y I).imp (zm6 V)⟩
def isK(κ:AK)(e:DE0)(i:Nat):Prop:=(∃l ps,e[i]?=some (some (.ag κ l ps)))\/∃ps,e[i]?=some (some (.ro κ ps))
instance (κ:AK) (e:DE0) (i:Nat):Decidable (isK κ e i):=Classical.propDecidable _
def fK(κ:AK)(i:Nat)(f:FE):FE:=λe=>if isK κ e i then f e else none
def xK(κ:AK)(i:Nat)(f:XF):XF:=λe=>if isK κ e i then f e else none
theorem isK.at{K:h8}{W:Addr->Prop}{H:Hp}{env:DE0}{σ:St}{c:Str}{fs:gj}{C:Addr}(ok:Ok K G H0 W env σ H)(h:isK (.ins false c fs) env i)(S:Cl K c C):∃p dx us,σ[i]?=some (some (.ref p))/\H p=some (.ins C dx (fs.zip us))/\fs.length=us.length:=by
 rcases h with⟨l,ps,e⟩ | ⟨ps,e⟩
 ·obtain⟨v,I,p,as,us,rfl,_,_,_,⟨U,dx,J,D,R⟩,_⟩:=ok.slot i _ e
  rw[Cl.inj J S] at D;exact⟨p,dx,us,I,D,R⟩
 ·obtain⟨v,I,p,us,rfl,_,⟨U,dx,J,D,R⟩,_⟩:=ok.slot i _ e
  rw[Cl.inj J S] at D;exact⟨p,dx,us,I,D,R⟩
variable{m:Str}{fs:gj}
theorem zqx(h:m∉fs):(fs.zip us).lookup m=none:=by
 induction fs generalizing us with
 | nil=>rfl
 | cons f r ih =>
   cases us with
   | nil=>rfl
   | cons u us =>
     rw[jz,cg];have:(m==f)=false:=by simp;exact λz=>h (by simp[z])
     rw[this];exact ih λz=>h (by simp[z])
variable{f:FE}
theorem zqy(S:Cl X.K c C)(U:m∉fs)(h:∀σ H Q,tD X.K G H0 f σ H Q->tLA X G H0 [i] F σ H λvs H1=>sp vs H1 Q (EXs X σ)):∀σ H Q,tD X.K G H0 (fK (.ins false c fs) i f) σ H Q->zqw X C m sp (tVar i) (tDA X.K G H0 F) σ H Q:=λσ H Q V=>by
 obtain⟨W,env,d,env',ok,q,k⟩:=V;unfold fK at q;split at q;case isFalse=>cases q
 rename_i Y;obtain⟨p,dx,us,R,Z,_⟩:=Y.at ok S;obtain⟨a,env0,ds,D,I,_,b,g⟩:=h σ H Q ⟨W,env,d,env',ok,q,k⟩;refine⟨_,R,p,dx,_,rfl,Z,zqx U,a,env0,ds,D,I,b,λW' ws H' st J r=>?_⟩;exact g W' [.ref p] ws H' st J rfl (λj l e=>by cases j with | zero=>simp at e;subst e;exact⟨_,rfl,R⟩ | succ j=>simp at e) r
theorem zt8(S:Cl X.K c C)(U:m∉fs){f:XF}(h:∀σ H (Q:VK),tDX X G H0 f σ H->tLA X G H0 [i] F σ H λvs H1=>sp vs H1 Q (EXs X σ)):∀σ H (Q:VK),tDX X G H0 (xK (.ins false c fs) i f) σ H->zqw X C m sp (tVar i) (tDA X.K G H0 F) σ H Q:=λσ H Q V=>by
 obtain⟨W,env,d,env',ok,q,k⟩:=V;unfold xK at q;split at q;case isFalse=>cases q
 rename_i Y;obtain⟨p,dx,us,R,Z,_⟩:=Y.at ok S;obtain⟨a,env0,ds,D,I,_,b,g⟩:=h σ H Q ⟨W,env,d,env',ok,q,k⟩;refine⟨_,R,p,dx,_,rfl,Z,zqx U,a,env0,ds,D,I,b,λW' ws H' st J r=>?_⟩;exact g W' [.ref p] ws H' st J rfl (λj l e=>by cases j with | zero=>simp at e;subst e;exact⟨_,rfl,R⟩ | succ j=>simp at e) r
section
variable {X:Cx} {G:Gd} {H0:Hp} {a b e:Expr} {es:g9} {f:FE} {F:FA} {x m cn:Str} {fs:gj} {is:g0} {pos p' p1 p2 apos:Pos} {i:Nat} {k:Nat} {fa C:Addr} {fd:FuncData} {ps:gj} {pl:Sem Bool}
variable {mm:k4->i0->ka} {xx:k4->i0->h6}
theorem zt9{Nn Cn:gj}{jr:Nat}{i:Nat}(c:MCal X.prog X.w X.K X.mg X.base cn m k (qSp X.K mm xx))(U:Room jr X.A)(V:DAx X G H0 (e::es) F)(an:Ats Nn Cn X)(D:k<=jr:=by decide)(I:Nn[i]?=some x:=by rfl)(Y:m∉fs:=by decide +kernel)(J:starEach (e::es) X.env=(false,eval e X.env)::starEach es X.env:=by rfl)(R:(backTo pos (starEach es X.env)).any (·.1)=false:=by rfl)(Z:eval (.Call (.Attribute (.Name x p') m apos) (e::es) [] pos) X.env=(do
   let ov <-eval (.Name x p') X.env
   standAt apos.atName
   let (f,first) <-holding [ov] (getMethod ov m pl)
   callWith pos f first (backTo pos (starEach (e::es) X.env)) (backToKw pos (keywordEach [] X.env))):=by rfl) :
  DEx X G H0 (.Call (.Attribute (.Name x p') m apos) (e::es) [] pos) (fK (.ins false cn fs) i (i5 mm [i] F)):=let ⟨_,_,_,_,c,S,b,d,g⟩:=c;⟨(zm4 ((an.a I).pe) c S b (U.mono D) d V.out J R Z).imp (zqy g Y zpl)⟩
theorem mq{Nn Cn:gj}{jr:Nat}{i:Nat}(c:MCal X.prog X.w X.K X.mg X.base cn m k (qSp X.K mm xx))(S:Room jr X.A)(an:Ats Nn Cn X)(D:k<=jr:=by decide)(I:Nn[i]?=some x:=by rfl)(U:m∉fs:=by decide +kernel)(V:eval (.Call (.Attribute (.Name x p') m apos) [] [] pos) X.env=(do
   let ov <-eval (.Name x p') X.env
   standAt apos.atName
   let (f,first) <-holding [ov] (getMethod ov m pl)
   callWith pos f first (backTo pos (starEach [] X.env)) (backToKw pos (keywordEach [] X.env))):=by rfl) :
  DEx X G H0 (.Call (.Attribute (.Name x p') m apos) [] [] pos) (fK (.ins false cn fs) i (i5 mm [i] fNil)):=let ⟨_,_,_,_,c,J,Y,Z,b⟩:=c;⟨(zla ((an.a I).pe) c J Y (S.mono D) Z V).imp λσ H Q h=>by
   obtain⟨d,h1,h2⟩:=zqy (F:=fNil) b U (zpl (xx:=xx)) σ H Q h;obtain⟨a,dx,R,e,g,j,W,env,ds,env',ok,q,l⟩:=h2;cases q;exact⟨d,h1,a,dx,R,e,g,j,l W [] H Step.refl ok .nil⟩⟩
variable {mm:k4->i0->k6} {xx:k4->i0->Option (Str×k4)}
theorem vg{Nn Cn:gj}{jr:Nat}{i:Nat}(c:MCal X.prog X.w X.K X.mg X.base cn m k (lSp X.K mm xx))(U:Room jr X.A)(V:DAx X G H0 (e::es) F)(an:Ats Nn Cn X)(D:k<=jr:=by decide)(I:Nn[i]?=some x:=by rfl)(Y:m∉fs:=by decide +kernel)(J:starEach (e::es) X.env=(false,eval e X.env)::starEach es X.env:=by rfl)(R:(backTo pos (starEach es X.env)).any (·.1)=false:=by rfl)(Z:eval (.Call (.Attribute (.Name x p') m apos) (e::es) [] pos) X.env=(do
   let ov <-eval (.Name x p') X.env
   standAt apos.atName
   let (f,first) <-holding [ov] (getMethod ov m pl)
   callWith pos f first (backTo pos (starEach (e::es) X.env)) (backToKw pos (keywordEach [] X.env))):=by rfl) :
  DEx X G H0 (.Call (.Attribute (.Name x p') m apos) (e::es) [] pos) (fK (.ins false cn fs) i (kg mm [i] F)):=let ⟨_,_,_,_,c,S,b,d,g⟩:=c;⟨(zm4 ((an.a I).pe) c S b (U.mono D) d V.out J R Z).imp (zqy g Y (zpm (by simp)))⟩
theorem zm7{Nn Cn:gj}{jr:Nat}{i:Nat}(c:MCal X.prog X.w X.K X.mg X.base cn m k (lSp X.K mm xx))(U:Room jr X.A)(V:DAx X G H0 (e::es) F)(an:Ats Nn Cn X)(D:k<=jr:=by decide)(I:Nn[i]?=some x:=by rfl)(Y:m∉fs:=by decide +kernel)(J:starEach (e::es) X.env=(false,eval e X.env)::starEach es X.env:=by rfl)(R:(backTo pos (starEach es X.env)).any (·.1)=false:=by rfl)(Z:eval (.Call (.Attribute (.Name x p') m apos) (e::es) [] pos) X.env=(do
   let ov <-eval (.Name x p') X.env
   standAt apos.atName
   let (f,first) <-holding [ov] (getMethod ov m pl)
   callWith pos f first (backTo pos (starEach (e::es) X.env)) (backToKw pos (keywordEach [] X.env))):=by rfl) :
  JX X G H0 (.Call (.Attribute (.Name x p') m apos) (e::es) [] pos) (xK (.ins false cn fs) i (lv xx [i] F)):=let ⟨_,_,_,_,c,S,b,d,g⟩:=c;⟨(zm4 ((an.a I).pe) c S b (U.mono D) d V.out J R Z).imp (zt8 g Y (zm6 (by simp)))⟩
theorem zl5{Nn Cn:gj}{jr:Nat}{i:Nat}(c:MCal X.prog X.w X.K X.mg X.base cn m k (lSp X.K mm xx))(S:Room jr X.A)(an:Ats Nn Cn X)(D:k<=jr:=by decide)(I:Nn[i]?=some x:=by rfl)(U:m∉fs:=by decide +kernel)(V:eval (.Call (.Attribute (.Name x p') m apos) [] [] pos) X.env=(do
   let ov <-eval (.Name x p') X.env
   standAt apos.atName
   let (f,first) <-holding [ov] (getMethod ov m pl)
   callWith pos f first (backTo pos (starEach [] X.env)) (backToKw pos (keywordEach [] X.env))):=by rfl) :
  DEx X G H0 (.Call (.Attribute (.Name x p') m apos) [] [] pos) (fK (.ins false cn fs) i (kg mm [i] fNil)):=let ⟨_,_,_,_,c,J,Y,Z,b⟩:=c;⟨(zla ((an.a I).pe) c J Y (S.mono D) Z V).imp λσ H Q h=>by
   obtain⟨d,h1,h2⟩:=zqy (F:=fNil) b U (zpm (xx:=xx) (by simp)) σ H Q h;obtain⟨a,dx,R,e,g,j,W,env,ds,env',ok,q,l⟩:=h2;cases q;exact⟨d,h1,a,dx,R,e,g,j,l W [] H Step.refl ok .nil⟩⟩
theorem zoo{Nn Cn:gj}{jr:Nat}{i:Nat}(c:MCal X.prog X.w X.K X.mg X.base cn m k (lSp X.K mm xx))(S:Room jr X.A)(an:Ats Nn Cn X)(D:k<=jr:=by decide)(I:Nn[i]?=some x:=by rfl)(U:m∉fs:=by decide +kernel)(V:eval (.Call (.Attribute (.Name x p') m apos) [] [] pos) X.env=(do
   let ov <-eval (.Name x p') X.env
   standAt apos.atName
   let (f,first) <-holding [ov] (getMethod ov m pl)
   callWith pos f first (backTo pos (starEach [] X.env)) (backToKw pos (keywordEach [] X.env))):=by rfl) :
  JX X G H0 (.Call (.Attribute (.Name x p') m apos) [] [] pos) (xK (.ins false cn fs) i (lv xx [i] fNil)):=let ⟨_,_,_,_,c,J,Y,Z,b⟩:=c;⟨(zla ((an.a I).pe) c J Y (S.mono D) Z V).imp λσ H Q h=>by
   obtain⟨d,h1,h2⟩:=zt8 (F:=fNil) b U (zm6 (m:=mm) (by simp)) σ H Q h;obtain⟨a,dx,R,e,g,j,W,env,ds,env',ok,q,l⟩:=h2;cases q;exact⟨d,h1,a,dx,R,e,g,j,l W [] H Step.refl ok .nil⟩⟩
theorem qe{z:Int}(D:∃t,X.mg x=some (.int z t))(I:Gl X x:=by walk_at "g")(J:(x==("__debug__" : Str))=false:=by decide +kernel):DEx X G H0 (.Name x pos) (fC (.int z)):=by
 obtain⟨t,D⟩:=D;exact de_c (zss I D (v:=.int z) ⟨t,rfl⟩ J) λ_ _=>.int _
abbrev FV:=DE0->Option DE0
def tV(X:Cx)(G:Gd)(H0:Hp)(v:FV):TE:=λσ H Q=>∃W env env',Ok X.K G H0 W env σ H/\v env=some env'/\∀W' z H',Step W H W' H'->Ok X.K G H0 W' env' σ H'->Q (.str z) H'
structure JV (X:Cx) (G:Gd) (H0:Hp) (e:Expr) (v:FV):Prop where
 out:PE X e (tV X G H0 v)
theorem yh{z:Str}{j:Nat}:JV X G H0 (.Constant (.str z) j pos) some:=⟨zxy.imp λσ H Q ⟨W,env,env',ok,q,k⟩=>by cases q;exact k W z H Step.refl ok⟩
structure JVP (X:Cx) (G:Gd) (H0:Hp) (e:Expr) (v:FV):Prop where
 out:∀(pins:ia) (s:Shared) (σ:St) (H:Hp) (Q:Nat->Hp->Prop),Inv X pins σ H s->(∃W env env',Ok X.K G H0 W env σ H/\v env=some env'/\∀n W' H',n<=1000->Step W H W' H'->Ok X.K G H0 W' env' σ H'->Q n H') ->
  wpAny (model X.prog X.w) X.A (eval e X.env) (λu s'=>∃z t H',u=.str z t/\Inv X pins σ H' s'/\Q z.length H') X.xe s
theorem t3{z:Str}{j:Nat}(D:z.length<=1000:=by decide):JVP X G H0 (.Constant (.str z) j pos) some:=⟨λpins s σ H Q I J=>by
 obtain⟨W,env,env',ok,q,k⟩:=J;cases q;exact Calls.Constant_str ⟨z,_,H,rfl,I.tok _,k _ W H D Step.refl ok⟩⟩
def vInt(f:FE):FV:=λe=>(f e).bind λr=>match r.1 with | .int z=>if z.natAbs<1000000 then some r.2 else none | _=>none
theorem wm(h:DEx X G H0 a f):JVP X G H0 (.FormattedValue a (-1) none pos) (vInt f):=⟨λpins s σ H Q I Y=>by
 obtain⟨W,env,env',ok,q,k⟩:=Y;unfold vInt at q;cases e1:f env with
 | none=>rw[e1] at q;cases q
 | some r =>
   rw[e1,ac] at q;split at q;case h_2=>cases q
   rename_i z Z;split at q;case isFalse=>cases q
   rename_i R;cases q;refine FormattedValue_plain (thn (h.out pins s σ H (λv H1=>v=.int z/\∀n,n<=1000->Q n H1) I ⟨W,env,r.1,r.2,ok,e1,λW1 v H1 S J U=>⟨by rw[Z] at U;exact U.int_,λn b=>k n W1 H1 b S J⟩⟩) λu S ⟨v,H1,I1,rv,ev,qq⟩=>?_);subst ev;obtain⟨t,rfl⟩:=rv;have D:z.natAbs.log2<1920:=by
    by_cases V:z.natAbs=0
    ·rw[V];decide
    ·exact(Nat.log2_lt V).mpr (aw R (dc (by decide:(1000000:Nat)<=2 ^ 20) (Nat.pow_le_pow_right (by decide) (by decide))))
   refine formatField_int_small D ⟨_,_,H1,rfl,(I1.tok _).tok _,qq _ ?_⟩;have:(toString z).length<=6+1:=int_text_length_le10 (by decide) R;rw[PySem.ofString_length]
   lia⟩
structure JVs (X:Cx) (G:Gd) (H0:Hp) (es:g9) (v:FV):Prop where
 out:∀(acc:Str) (pins:ia) (s:Shared) (σ:St) (H:Hp) (Q:VK),acc.length+1000*es.length<=100000->Inv X pins σ H s->tV X G H0 v σ H Q ->
  wpAny (model X.prog X.w) X.A (joinParts acc (evalEach es X.env)) (EP X pins σ Q) X.xe s
theorem wt  : JVs X G H0 [] some:=⟨λD pins s σ H Q R I J=>by
 obtain⟨W,env,env',ok,q,k⟩:=J;cases q;exact joinParts_nil ⟨.str D,H,I.tok _,⟨_,rfl⟩,k W D H Step.refl ok⟩ (by rw[sizeLine_eq];lia)⟩
theorem nc{v w:FV}(h:JVP X G H0 e v)(t:JVs X G H0 es w)(Z:evalEach (e::es) X.env=eval e X.env::evalEach es X.env:=by rfl):JVs X G H0 (e::es) (λz=>(v z).bind w):=⟨λU pins s σ H Q V I Y=>by
 obtain⟨W,env,env',ok,q,k⟩:=Y;cases e1:v env with
 | none=>simp only[e1] at q;cases q
 | some env1 =>
   have q:w env1=some env':=by simpa only[e1,ac] using q
   rw[ak] at V;refine joinParts_cons (thn (h.out pins s σ H (λn H1=>n<=1000/\tV X G H0 w σ H1 Q) I ⟨W,env,env1,ok,e1,λn W1 H1 S D J=>⟨S,W1,env1,env',J,q,λW' z H' s2 R=>k W' z H' (D.trans s2) R⟩⟩) λu D ⟨z,tk,H1,eu,I1,S,tv⟩=>?_);subst eu;exact⟨by rw[strLen_append,sizeLine_eq];lia,t.out _ pins D σ H1 Q (by rw[strLen_append];lia) I1 tv⟩⟩
theorem wq{e':Expr}{v:FV}(h:JVs X G H0 (e::e'::es) v)(D:1000*(e::e'::es).length<=100000:=by decide):JV X G H0 (.JoinedStr (e::e'::es) pos) v :=
 ⟨λpins s σ H Q I t=>JoinedStr_many (h.out Str.empty pins s σ H Q (by show 0+_<=_;lia) I t)⟩
abbrev VEs:gr:=[.type "ValueError",.type "Exception",.type "BaseException",.type "object"]
def XC(K:h8)(C:Addr):Prop:=PySem.W.excIn K C VEs "ValueError.__new__" = true
def Exc(K:h8)(mg:Str->gs)(c:Str):Prop:=∃C,Cl K c C/\XC K C/\mg c=some (.ref C)/\(c==("__debug__" : Str))=false
theorem XC.obj{K:h8}{C:Addr}{h:Heap}(I:XC K C)(D:K.In h):∃bm N nm q bs hdct sn sub ab col dd k0 k1 k2 k3 k5 mN,h.get? C=some (excClassObj nm q C N bs bm hdct sn sub ab col dd k0 k1 k2 k3 k5 "ValueError.__new__")/\h.Ns N mN/\mN "__init__" = none/\OwnTail h VEs bm:=by
 unfold XC PySem.W.excIn at I;split at I;case h_2=>cases I
 rename_i dd R sl S;split at I;case h_2=>cases I
 rename_i k bm k0 k1 k2 k3 n k5 U V;simp only[ek,beq_iff_eq,j6] at I;obtain⟨⟨⟨⟨⟨Y,Z⟩,a⟩,b⟩,J⟩,c⟩:=I;subst Y;subst Z;have d:=D _ _ S;obtain⟨nm,bs,e,f,g,i,sn,sub,ab,col,j⟩:=R;obtain⟨l⟩:=sl;subst U;subst a;subst V;exact⟨bm,f,nm,g,bs,i,sn,sub,ab,col,dd,k0,k1,k2,k3,k5,_,d,.of_isNs (isNs_of_in D J),nsMap_none_of_in D J c,tail_of_in D b⟩
def kh(c:Str)(v:FV):FS:=λe=>(v e).map λe'=>(.xc c,e')
theorem o6{v:FV}{c:Str}{d cpos:Pos}(f:Exc X.K X.mg c)(g:JV X G H0 a v)(h:X.calm=true:=by rfl)(i:Gl X c:=by walk_at "g")(R:starEach [a] X.env=(false,eval a X.env)::starEach [] X.env:=by rfl)(S:(backTo cpos (starEach [a] X.env)).any (·.1)=false:=by rfl) :
  DSx X G H0 (.Raise (some (.Call (.Name c d) [a] [] cpos)) none pos) (kh c v):=let ⟨C,j,l,n,U⟩:=f;⟨λpins s σ H D I o=>by
 obtain⟨W,env,fl,env',ok,q,k⟩:=o;unfold kh at q;cases e1:v env with
 | none=>rw[e1] at q;cases q
 | some env1 =>
   rw[e1] at q;cases q;obtain⟨tl,N,nm,q,bs,hdct,sn,sub,ab,col,dd,k0,k1,k2,k3,k5,mN,p,r,t,Z⟩:=l.obj I.ok.mod.kin;refine wpAny_Raise_call_subT (C:=C) (nm:=nm) (q:=q) (N:=N) (bs:=bs) (bm:=tl) (hdct:=hdct) (sn:=sn) (sub:=sub) (ab:=ab) (col:=col) (dd:=dd) (k0:=k0) (k1:=k1) (k2:=k2) (k3:=k3) (k5:=k5) ui (mN:=mN)
    (Z.hasType ui.hasBase) (I.ok.hd h) S t (u4 I i n ⟨rfl,?_⟩ U)
   rw[R];refine Calls.evalArgs_plain ?_;have b:=(md g.out og R) cpos pins s σ H (λvs H1=>vs.length=1/\∃W1,Step W H W1 H1/\Ok X.K G H0 W1 env' σ H1) I ⟨W,env,env',ok,e1,λW1 z H1 V J=>⟨rfl,W1,V,J⟩⟩;rw[R] at b;refine thn b λus V ⟨vs,H1,I1,rv,hl,W1,s1',J⟩=>?_;have Y:us.length<=sizeLine:=by rw[<-rv.length,hl];decide
   exact⟨rfl,Y,I1.bk _ _ p,r.keeps I1.bk,Z.keeps I1.bk,λh' e m=>k W1 σ H1 C j s1' J pins e _ (.inr ⟨V,us,I1,m,rfl⟩)⟩⟩
end
def agAt(e:DE0)(i:Nat):Option Ag:=match e[i]? with | some (some (.ag k _ ps))=>some (k,ps) | some (some (.ro k ps))=>some (k,ps) | _=>none
def n8:kb->Nat->Nat
 | .o _::r,j+1=>n8 r j+1
 | .d _::r,j+1=>n8 r j
 | _,_=>0
inductive Acc where
 | at (κ:AK) | al (x:Nat)
def Acc.ok:Acc->DE0->Nat->Nat->Prop
 | .at κ,e,i,_=>isK κ e i
 | .al x,e,i,j=>∃k r ps,e[i]?=some (some (.ag k (some r) ps))/\e[x]?=some (some (.al r (n8 ps j)))
instance (A:Acc) (e:DE0) (i j:Nat):Decidable (A.ok e i j):=Classical.propDecidable _
def ko(A:Acc)(i j:Nat)(e:DE0):Option i0:=if A.ok e i j then(agAt e i).bind λx=>match x.2[j]? with | some (.o ds)=>some ds | _=>none else none
def PartAt(K:h8)(H:Hp)(env:DE0)(σ:St)(i j:Nat)(a:Addr):Prop:=∃k ps p us,agAt env i=some (k,ps)/\σ[i]?=some (some (.ref p))/\AkOk K H k p us/\us[j]?=some (.ref a)
def tPt(X:Cx)(G:Gd)(H0:Hp)(A:Acc)(i j:Nat):TE:=λσ H Q=>∃W env ds,Ok X.K G H0 W env σ H/\ko A i j env=some ds /\
 ∀a vs,PartAt X.K H env σ i j a->H a=some (.lst vs)->Reps X.K H (Ow G W) ds vs->Q (.ref a) H
structure JPt (X:Cx) (G:Gd) (H0:Hp) (e:Expr) (A:Acc) (i j:Nat):Prop where
 out:PE X e (tPt X G H0 A i j)
protected theorem PtsOk.ix(h:PtsOk K G W H ps as us)(e:ps[j]?=some (.o ds)):∃a,us[j]?=some (.ref a)/\as[n8 ps j]?=some a:=by
 induction h generalizing j with
 | nil=>simp at e
 | d _ _ ih =>
   cases j with
   | zero=>simp at e
   | succ j=>obtain⟨a,h1,h2⟩:=ih (j:=j) (by simpa using e);exact⟨a,by simpa using h1,h2⟩
 | @o _ a _ _ _ _ _ _ _ _ ih =>
   cases j with
   | zero=>exact⟨a,rfl,rfl⟩
   | succ j=>obtain⟨b,h1,h2⟩:=ih (j:=j) (by simpa using e);exact⟨b,by simpa using h1,by simpa[n8] using h2⟩
variable{k:AK}
theorem Ok.part(ok:Ok K G H0 W env σ H)(e:agAt env i=some (k,ps))(S:ps[j]?=some (.o ds)):∃p us a vs,σ[i]?=some (some (.ref p))/\AkOk K H k p us/\us[j]?=some (.ref a)/\H a=some (.lst vs)/\Reps K H (Ow G W) ds vs:=by
 unfold agAt at e;split at e
 ·rename_i k' l ps' q
  cases e;obtain⟨v,D,p,as,us,rfl,_,_,_,I,J⟩:=ok.slot i _ q;obtain⟨a,vs,h1,_,_,h2,R⟩:=J.get S;exact⟨p,us,a,vs,D,I,h1,h2,R⟩
 ·rename_i k' ps' q
  cases e;obtain⟨v,D,p,us,rfl,_,I,J⟩:=ok.slot i _ q;obtain⟨a,vs,h1,_,h2,R⟩:=J.get S;exact⟨p,us,a,vs,D,I,h1,h2,R⟩
 ·cases e
variable{A:Acc}
theorem zku(h:ko A i j env=some ds):A.ok env i j/\∃k ps,agAt env i=some (k,ps)/\ps[j]?=some (.o ds):=by
 unfold ko at h;split at h;case isFalse=>cases h
 rename_i D;cases e:agAt env i with
 | none=>rw[e] at h;cases h
 | some x =>
   rw[e,ac] at h;split at h
   ·rename_i ds' q;cases h;exact⟨D,x.1,x.2,rfl,q⟩
   ·cases h
theorem PartAt.inj{b:Addr}(h:PartAt K H env σ i j a)(h':PartAt K H env σ i j b):a=b:=by
 obtain⟨k,ps,p,us,h1,h2,S,U⟩:=h;obtain⟨k',ps',p',V,I,J,R,D⟩:=h';rw[h1] at I;cases I;rw[h2] at J;cases J;rw[ux S R.o] at D;rw[U] at D;cases D;rfl
theorem zm8{f:Str}{u:V}(D:fs.Nodup)(h1:fs[j]?=some f)(h2:us[j]?=some u):(fs.zip us).lookup f=some u:=by
 induction fs generalizing us j with
 | nil=>simp at h1
 | cons g r ih =>
   cases us with
   | nil=>simp at h2
   | cons w us =>
     rw[jz,cg];cases j with
     | zero=>simp at h1 h2;subst h1;subst h2;simp
     | succ j =>
       have I:(f==g)=false:=by simp;exact λz=>(bq.mp D).1 (z ▸ ay h1)
       rw[I];exact ih (bq.mp D).2 h1 (by simpa using h2)
variable{cn:Str}
theorem va(c:Atr X.K cn m)(an:Ats Nn Cn X)(I:Nn[i]?=some x:=by rfl)(S:fs[j]?=some m:=by rfl)(U:fs.Nodup:=by decide +kernel)(V:attributeBase (.Name x p') m X.env (eval (.Name x p') X.env)=eval (.Name x p') X.env:=by rfl):JPt X G H0 (.Attribute (.Name x p') m pos) (.at (.ins false cn fs)) i j:=let ⟨C,c,Y,Z⟩:=c;⟨(zx3 ((an.a I).pe) V).imp λσ H Q b=>by
  obtain⟨W,env,ds,ok,q,k⟩:=b;obtain⟨d,κ,ps,D,e⟩:=zku q;obtain⟨p,us,a,vs,h1,h2,J,f,g⟩:=ok.part D e;have h:κ=.ins false cn fs:=by
   rcases d with⟨l,ps',z⟩ | ⟨ps',z⟩ <;> (unfold agAt at D;rw[z] at D;cases D;rfl)
  subst h;obtain⟨o,dx,n,R,r⟩:=id h2;rw[Cl.inj n Z] at R;exact⟨_,h1,p,C,dx,_,_,rfl,R,c,Y,zm8 U S J,k a vs ⟨_,ps,p,us,D,h1,h2,J⟩ f g⟩⟩
theorem yg{ix:Nat}(an:Ats Nn Cn X)(S:Nn[ix]?=some x:=by rfl):JPt X G H0 (.Name x pos) (.al ix) i j :=
 ⟨((an.a S).pe).imp λσ H Q g=>by
  obtain⟨W,env,ds,ok,q,k⟩:=g;obtain⟨⟨κ',r,ps',U,h⟩,κ,ps,V,Y⟩:=zku q;have J:agAt env i=some (κ',ps'):=by unfold agAt;rw[U]
  rw[J] at V;cases V;obtain⟨v,l,p,as,us,rfl,_,_,m,n,Z⟩:=ok.slot i _ U;obtain⟨u,o,s,b,d,I,R,rfl⟩:=ok.slot ix _ h;obtain⟨a,vs,h1,_,_,h2,t⟩:=Z.get Y;obtain⟨w,e,f⟩:=Z.ix Y;rw[h1] at e;cases e;have D:=m r rfl;have:d=a:=by
   cases κ' with
   | ls=>have D:G.r r=p::as:=D;rw[D] at I;cases I;rw[f] at R;cases R;rfl
   | ins bb c fs =>
     cases bb with
     | true=>have D:G.r r=[p]:=D;rw[D] at I;cases I;simp at R
     | false=>have D:G.r r=p::as:=D;rw[D] at I;cases I;rw[f] at R;cases R;rfl
  subst this;exact⟨_,o,k d vs ⟨_,ps',p,us,J,l,n,h1⟩ h2 t⟩⟩
def pLen(A:Acc)(i j:Nat):FE:=λe=>(ko A i j e).map λds=>(.int ds.length,e)
theorem zqz(h:JPt X G H0 e A i j)(D:Bn X "len":=by walk_at "b")(I:starEach [e] X.env=(false,eval e X.env)::starEach [] X.env:=by rfl):DEx X G H0 (.Call (.Name "len" p') [e] [] pos) (pLen A i j) :=
 ⟨(xb zhl D.g D.m uh (md h.out og I) (by decide) (by decide) I rfl).imp λσ H Q J=>by
  obtain⟨W,env,d,env',ok,q,k⟩:=J;unfold pLen at q;cases e1:ko A i j env with
  | none=>rw[e1] at q;cases q
  | some ds =>
    rw[e1] at q;cases q;exact⟨W,env,ds,ok,e1,λa vs _ R r=>⟨a,vs,rfl,.inl (.inl (.inl R)),by rw[<-r.length];exact k W _ H Step.refl ok (.int _)⟩⟩⟩
structure JK (X:Cx) (e:Expr) (z:Int):Prop where
 out:PE X e (tC (.int z))
variable{z:Int}{jj:Nat}
theorem zyk:JK X (.Constant (.int z) jj pos) z:=⟨ym⟩
theorem zyl(h:JK X e z):JK X (.UnaryOp .USub e pos) (-z):=⟨(z14 zx1 h.out).imp λσ H Q q=>⟨z,rfl,q⟩⟩
def pIx(A:Acc)(i j:Nat)(z:Int):FE:=λe=>(ko A i j e).bind λds=>(atI ds z).map λd=>(d,e)
theorem zua(h:JPt X G H0 e A i j)(D:JK X b z)(I:uz b:=by intro _ _;rfl):DEx X G H0 (.Subscript e b pos) (pIx A i j z) :=
 ⟨(yd zmj h.out D.out I).imp λσ H Q J=>by
  obtain⟨W,env,d,env',ok,q,k⟩:=J;unfold pIx at q;cases e1:ko A i j env with
  | none=>rw[e1] at q;cases q
  | some ds =>
    rw[e1,ac] at q;cases e2:atI ds z with
    | none=>rw[e2] at q;cases q
    | some d' =>
      rw[e2] at q;cases q;refine⟨W,env,ds,ok,e1,λa vs _ R r=>?_⟩;obtain⟨v,S,U⟩:=wn r e2;exact⟨a,vs,z,v,rfl,rfl,.inl (.inl R),S,k W v H Step.refl ok U⟩⟩
def setP(e:DE0)(i j:Nat)(ds:i0):DE0:=match e[i]? with | some (some (.ag k l ps))=>e.set i (some (.ag k l (ps.set j (.o ds)))) | _=>e
theorem Ok.setP{K:h8}{W:Addr->Prop}{H:Hp}{env:DE0}{σ:St}{k:AK}{l:Option Nat}{ps:kb}{ds ds':i0}{a:Addr}{vs':ik}(ok:Ok K G H0 W env σ H)(e:env[i]?=some (some (.ag k l ps)))(I:ps[j]?=some (.o ds))(J:PartAt K H env σ i j a)(r:Reps K H (Ow G W) ds' vs') :
  Ok K G H0 W (L2.setP env i j ds') σ (upd H a (.lst vs'))/\Step W H W (upd H a (.lst vs')):=by
 obtain⟨k',ps',p,us,h1,h2,R,S⟩:=J;have:agAt env i=some (k,ps):=by unfold agAt;rw[e]
 rw[this] at h1;cases h1;unfold L2.setP;rw[e];exact ok.turnP e h2 R I S r
def pPop(A:Acc)(i j:Nat):FE:=λe=>match e[i]? with
 | some (some (.ag _ _ _))=>(ko A i j e).bind λds=>(ds[ds.length-1]?).map λd=>(d,setP e i j ds.dropLast)
 | _=>none
variable{p1:Pos}
theorem zkv(h:JPt X G H0 e A i j)(D:attributeBase e "pop" X.env (eval e X.env)=eval e X.env:=by rfl)(I:(p1.endLine==pos.line)=true:=by rfl) :
  DEx X G H0 (.Call (.Attribute e "pop" p1) [] [] pos) (pPop A i j):=⟨(zx7 fq PySem.F.slot_list_pop PySem.F.type_list_pop zx8 h.out D I).imp λσ H Q V=>by
 obtain⟨W,env,d,env',ok,q,k⟩:=V;unfold pPop at q;split at q;case h_2=>cases q
 rename_i Y l pp J;cases e1:ko A i j env with
 | none=>rw[e1] at q;cases q
 | some ds =>
   rw[e1,ac] at q;cases e2:ds[ds.length-1]? with
   | none=>rw[e2] at q;cases q
   | some d' =>
     rw[e2] at q;cases q;obtain⟨_,κ,ps,R,Z⟩:=zku e1;have:agAt env i=some (Y,pp):=by unfold agAt;rw[J]
     rw[this] at R;cases R;refine⟨W,env,ds,ok,e1,λa vs b S r=>⟨.inl ⟨rfl,_,.inl (.inl S)⟩,?_⟩⟩;obtain⟨u,c,f⟩:=r.get e2;obtain⟨g,U⟩:=ok.setP J Z b r.dropLast;exact⟨a,vs,u,rfl,rfl,S,by rw[<-r.length];exact c,k W _ _ U g (ok.rep U f)⟩⟩
def labO(k:AK)(l:Option Nat):Prop:=l.isSome=true/\∀c fs,k≠.ins true c fs
instance (k:AK) (l:Option Nat):Decidable (labO k l):=Classical.propDecidable _
variable{l:Option Nat}
theorem zw1{W1:Addr->Prop}{H1:Hp}{J:DE0}{R:kb}{Z:i0}(u:labO k l)(ok:Ok K G H0 W env σ H)(d:Ok K G H0 W1 J σ H1)(e:env[i]?=some (some (.ag k l ps)))(w:J[i]?=some (some (.ag k l R)))(x:ps[j]?=some (.o ds))(f:R[j]?=some (.o Z))(y:n8 R j=n8 ps j)(z:PartAt K H env σ i j a):PartAt K H1 J σ i j a:=by
 obtain⟨r,rfl⟩:=ke.mp u.1;obtain⟨v,g,p,as,us,rfl,_,_,h1,A,B⟩:=ok.slot i _ e;obtain⟨L,V,p',S,h,rfl,_,_,m,n,q⟩:=d.slot i _ w;rw[g] at V;cases V;have U:=h1 r rfl;have I:=m r rfl;obtain⟨b,C,E⟩:=B.ix x;obtain⟨M,s,Y⟩:=q.ix f;have F:PartAt K H env σ i j b:=⟨k,ps,p,us,by unfold agAt;rw[e],g,A,C⟩;have ab:=z.inj F;subst ab;have t:S=as:=by
  cases k with
  | ls=>have U:G.r r=p::as:=U;have I:G.r r=p::S:=I;rw[U] at I;cases I;rfl
  | ins bb c fs =>
    cases bb with
    | true=>exact absurd rfl (u.2 c fs)
    | false=>have U:G.r r=p::as:=U;have I:G.r r=p::S:=I;rw[U] at I;cases I;rfl
 subst t;rw[y,E] at Y;cases Y;exact⟨k,R,p,h,by unfold agAt;rw[w],g,n,s⟩
instance (k k':AK):Decidable (k=k'):=Classical.propDecidable _
def appP(i j:Nat)(k0:AK)(I:Option Nat)(n:Nat)(d:D)(e:DE0):Option (D×DE0):=match e[i]? with
 | some (some (.ag k l ps))=>(match ps[j]? with | some (.o ds)=>if k=k0/\l=I/\n8 ps j=n/\Few (ds.length+1) then some (.non,setP e i j (ds++[d])) else none | _=>none)
 | _=>none
def qc(A:Acc)(i j:Nat)(f:FE):FE:=λe=>match e[i]? with
 | some (some (.ag k l ps))=>if labO k l then(ko A i j e).bind λ_=>(f e).bind λr=>appP i j k l (n8 ps j) r.1 r.2 else none
 | _=>none
variable{a:Expr}
theorem zgt(h:JPt X G H0 e A i j)(n:DEx X G H0 a f)(I:attributeBase e "append" X.env (eval e X.env)=eval e X.env:=by rfl)(U:((backTo pos (starEach [a] X.env)).all (λx=>!x.1) && (backToKw pos (keywordEach [] X.env)).all (λx=>x.1.isSome)
   && decide ([a].length+([]:List Keyword).length+(if ([]:List Keyword).isEmpty then 0 else 1)<30))=true:=by rfl)(J:(p1.endLine==pos.line)=true:=by rfl)(c:starEach [a] X.env=(false,eval a X.env)::starEach [] X.env:=by rfl) :
  DEx X G H0 (.Call (.Attribute e "append" p1) [a] [] pos) (qc A i j f):=⟨(zvy fq xz xy zn8 h.out (md n.out og c) I U J c rfl).imp λσ H Q o=>by
 obtain⟨W,env,d,env',ok,q,k⟩:=o;unfold qc at q;split at q;case h_2=>cases q
 rename_i O P pp g;split at q;case isFalse=>cases q
 rename_i V;cases e1:ko A i j env with
 | none=>rw[e1] at q;cases q
 | some ds =>
   rw[e1,ac] at q;cases e2:f env with
   | none=>rw[e2] at q;cases q
   | some r =>
     rw[e2,ac] at q;unfold appP at q;split at q;case h_2=>cases q
     rename_i k1 T s D;split at q;case h_2=>cases q
     rename_i t R;split at q;case isFalse=>cases q
     rename_i u;obtain⟨rfl,rfl,v,Z⟩:=u;cases q;obtain⟨_,κ,ps,l,w⟩:=zku e1;have:agAt env i=some (k1,pp):=by unfold agAt;rw[g]
     rw[this] at l;cases l;refine⟨W,env,ds,ok,e1,λad vs y z rr=>⟨.inl ⟨rfl,_,.inl (.inl z)⟩,W,env,r.1,r.2,ok,e2,λW1 v1 H1 B S C=>?_⟩⟩;have Y:=zw1 V ok S g D w R v y;obtain⟨p,us,a1,b,E,F,K,L,m⟩:=S.part (i:=i) (by unfold agAt;rw[D]) R;have:=Y.inj ⟨_,_,p,us,by unfold agAt;rw[D],E,F,K⟩;subst this;obtain⟨M,N⟩:=S.setP D R Y (m.append (.cons C .nil));exact⟨ad,b,v1,rfl,rfl,L,by rw[<-m.length];exact lt20 (ni Z),k W1 _ _ (B.trans N) M .non⟩⟩
def fDat(i j:Nat):FE:=λe=>match e[i]? with
 | some (some (.ag .ls _ ps))=>(match ps[j]? with | some (.d d)=>some (d,e) | _=>none)
 | some (some (.ro .ls ps))=>(match ps[j]? with | some (.d d)=>some (d,e) | _=>none)
 | _=>none
theorem u5(an:Ats Nn Cn X)(D:Nn[i]?=some x:=by rfl)(V:uz (.Constant (.int (j:Int)) jj p1):=by intro _ _;rfl):DEx X G H0 (.Subscript (.Name x p') (.Constant (.int (j:Int)) jj p1) pos) (fDat i j) :=
 ⟨(yd zmj ((an.a D).pe) ym V).imp λσ H Q Y=>by
  obtain⟨W,env,d,env',ok,q,k⟩:=Y;unfold fDat at q;split at q
  ·rename_i l ps I
   split at q;case h_2=>cases q
   rename_i d' J;cases q;obtain⟨v,R,p,as,us,rfl,_,_,_,S,U⟩:=ok.slot i _ I;obtain⟨u,h1,h2⟩:=U.getD J;exact⟨_,R,p,us,j,_,rfl,rfl,.inl (.inl S),ztc h1,k W u H Step.refl ok h2⟩
  ·rename_i ps I
   split at q;case h_2=>cases q
   rename_i d' J;cases q;obtain⟨v,R,p,us,rfl,_,S,U⟩:=ok.slot i _ I;obtain⟨u,h1,h2⟩:=U.getD J;exact⟨_,R,p,us,j,_,rfl,rfl,.inl (.inl S),ztc h1,k W u H Step.refl ok h2⟩
  ·cases q⟩
def pj(i j:Nat)(f:FE):FS:=λe=>(f e).bind λr=>match r.2[i]? with
 | some (some (.ag .ls l ps))=>(match ps[j]? with | some (.d _)=>some (.nx,r.2.set i (some (.ag .ls l (ps.set j (.d r.1))))) | _=>none)
 | _=>none
variable{p2:Pos}
theorem zkw(Y:DEx X G H0 e f)(an:Ats Nn Cn X)(J:Nn[i]?=some x:=by rfl)(Z:swapsWithSole [.Subscript (.Name x p') (.Constant (.int (j:Int)) jj p2) p1] e pos.line X.env=pure false:=by rfl)(b:swappedStores [.Subscript (.Name x p') (.Constant (.int (j:Int)) jj p2) p1] e X.env=pure none:=by rfl)(h1:(assignEach [.Subscript (.Name x p') (.Constant (.int (j:Int)) jj p2) p1] X.env).map (·.2)=[assign (.Subscript (.Name x p') (.Constant (.int (j:Int)) jj p2) p1) X.env]:=by rfl)(D:∀v,assign (.Subscript (.Name x p') (.Constant (.int (j:Int)) jj p2) p1) X.env v=(do
   let ov <-holding [v] (eval (.Name x p') X.env);let iv <-holding [v,ov] (eval (.Constant (.int (j:Int)) jj p2) X.env)
   standAt p1
   holding [v,ov,iv] (setItem ov iv v)
   release [v,ov,iv] []):=by intro _;rfl) :
  DSx X G H0 (.Assign [.Subscript (.Name x p') (.Constant (.int (j:Int)) jj p2) p1] e pos) (pj i j f):=⟨(yk Y.out (zqh ((an.a J).pe) ym wz D) Z b h1).imp λDn σ H c=>by
 obtain⟨W,env,fl,env',ok,q,k⟩:=c;unfold pj at q;cases e1:f env with
 | none=>rw[e1] at q;cases q
 | some r =>
   rw[e1,ac] at q;split at q;case h_2=>cases q
   rename_i l ps R;split at q;case h_2=>cases q
   rename_i d' S;cases q;refine⟨W,env,r.1,r.2,ok,e1,λW1 v1 H1 d I g=>?_⟩;obtain⟨v,U,p,as,us,rfl,_,_,_,V,h⟩:=I.slot i _ R;obtain⟨u,h1,h2⟩:=h.getD S;obtain⟨m,n⟩:=I.turnD R U V S g;have o:=(ah.mp h1).1;exact⟨_,U,p,us,j,j,rfl,rfl,V,by unfold ixN;rw[if_pos (by lia),if_pos (by lia)];simp,k W1 _ _ (d.trans n) m⟩⟩
abbrev FG:=DE0->Option (Ag×DE0)
def z3t(env:DE0)(σ:St)(H:Hp)(s:Sl)(v:V):Prop:=∀(j:Nat) (s':Sl) (D:V) (a:Addr),env[j]?=some (some s')->σ[j]?=some (some D)->Owns H s v a->¬Owns H s' D a
def tAG(X:Cx)(G:Gd)(H0:Hp)(f:FG):TE:=λσ H Q=>∃W env x env',Ok X.K G H0 W env σ H/\f env=some (x,env') /\
 ∀W' p H',Step W H W' H'->Ok X.K G H0 W' env' σ H'->SlOk X.K G W' H' (.ag x.1 none x.2) (.ref p)->z3t env' σ H' (.ag x.1 none x.2) (.ref p)->Q (.ref p) H'
structure JAg (X:Cx) (G:Gd) (H0:Hp) (e:Expr) (f:FG):Prop where
 out:PE X e (tAG X G H0 f)
def ya(i:Nat)(f:FG):FS:=λe=>(f e).map λr=>(.nx,r.2.set i (some (.ag r.1.1 none r.1.2)))
def zw2(f:FG):FS:=λe=>(f e).map λr=>(.ra r.1.1 r.1.2,r.2)
def z6g(i:Nat):FS:=λe=>match e[i]? with | some (some (.ag k _ ps))=>some (.ra k ps,e) | _=>none
variable{G':Gd}
theorem Ok.newA(ok:Ok K G H0 W env σ H)(sm:Same H H')(S:∀a,W' a->H a=none)(u:∀a,W' a->∃m:Mo,H' a=some m.out)(x:∀a,G' a->Ow G W a\/H a=none){k':AK}{p:Addr}(c:∀us,AkOk K H' k p us->AkOk K H' k' p us)(h:SlOk K G' W' H' (.ag k l ps) (.ref p)) :
  Ok K G H0 (λa=>W a\/W' a) env σ H'/\Step W H (λa=>W a\/W' a) H'/\SlOk K G (λa=>W a\/W' a) H' (.ag k' none ps) (.ref p)/\z3t env σ H' (.ag k' none ps) (.ref p):=by
 have st:Step W H (λa=>W a\/W' a) H':=⟨λb o e _=>sm b o e,λa z=>z.imp id (S a)⟩;have D:=ok.same sm;have U:Ok K G H0 (λa=>W a\/W' a) env σ H':=by
  refine⟨D.stay,ok.good,λa z=>?_,λi s e=>?_,D.uniq,ok.len⟩
  ·rcases z with z | z
   ·exact D.wl a z
   ·exact⟨ok.stay.free (S a z),u a z⟩
  ·obtain⟨v,Y,q⟩:=ok.slot i s e
   exact⟨v,Y,ok.slstep st q λa m o Z=>⟨.inl (q.owns o),sm _ _ Z⟩⟩
 obtain⟨p',as,us,e,f,A,F,I,J⟩:=h;cases e;have g:∀(a:Addr) (us:ik),Ow G' W' a->Rd H' a (.lst us)->Ow G (λa=>W a\/W' a) a/\Rd H' a (.lst us):=λa us o q=>⟨by
  rcases x a o.1 with z | z
  ·exact⟨z.1,λy=>y.elim z.2 o.2⟩
  ·exact⟨ok.good a (ok.stay.free z),λy=>y.elim (λw=>by obtain⟨_,m,q⟩:=ok.wl a w;rw[z] at q;cases q) o.2⟩,q⟩
 refine⟨U,st,⟨p,as,us,rfl,.inr f,A,(λn z=>nomatch z),c us I,J.step (λa vs R z=>⟨.inr (J.own R).1,z⟩) (λd v r=>r.mono (λ_ _ h=>h) g) λd v r=>r.mono (λ_ _ h=>h) g⟩,λj s v a Y Z B C=>?_⟩;have E:W' a:=by
  rcases B with o | ⟨p',us',z,q,R⟩
  ·cases o;exact f
  ·cases z
   rw[ux (c us I) q] at R;exact(J.own (J.parts_iff.mp R)).1
 obtain⟨L,t,q⟩:=D.slot j s Y;rw[Z] at t;cases t;obtain⟨_,m,z⟩:=ok.wl a (q.owns C);rw[S a E] at z;cases z
variable{g:FG}{y:XF}
theorem zq0{y:Str}(I:Tos Nn X)(h:JAg X G H0 e g)(D:Nn[i]?=some y:=by rfl)(R:swapsWith e (some (.Name y p')) pos.line X.env=pure false:=by rfl) :
  DSx X G H0 (.Assign [.Name y p'] e pos) (ya i g):=⟨(zsw (I.t D).nd (I.t D).n (I.t D).l h.out R (I.t D).f).imp λDn σ H S=>by
 obtain⟨W,env,fl,env',ok,q,k⟩:=S;unfold ya at q;cases e1:g env with
 | none=>rw[e1] at q;cases q
 | some r =>
   rw[e1] at q;cases q;exact⟨W,env,r.1,r.2,ok,e1,λW1 p H1 U J sl V=>k W1 _ H1 U (J.put sl V)⟩⟩
theorem zw3(h:JAg X G H0 e g):DSx X G H0 (.Return (some e) pos) (zw2 g):=⟨(zqg h.out).imp λDn σ H I=>by
 obtain⟨W,env,fl,env',ok,q,k⟩:=I;unfold zw2 at q;cases e1:g env with
 | none=>rw[e1] at q;cases q
 | some r =>
   rw[e1] at q;cases q;exact⟨W,env,r.1,r.2,ok,e1,λW1 p H1 J D sl R=>k W1 σ p H1 J D sl⟩⟩
def gSp(K:h8)(m:i0->Option Ag)(x:i0->h6):Sp:=λvs H Q E=>∃O ds,Reps K H O ds vs /\
 ((∃y,m ds=some y/\∀(W':Addr->Prop) p H',Same H H'->(∀a,W' a->H a=none)->(∀a,W' a->∃m:Mo,H' a=some m.out)->SlOk K (gd λa=>O a\/H a=none) W' H' (.ag y.1 none y.2) (.ref p)->Q (.ref p) H')\/∃c,x ds=some c/\∀C H',Cl K c C->Same H H'->E (.ref C) none H')
def runG(n ar:Nat)(g:FS):i0->Option Ag:=λds=>if ds.length=ar then(match g (je n ds) with | some (.ra k ps,_)=>some (k,ps) | _=>none) else none
def xG(n ar:Nat)(g:FS):i0->h6:=λds=>if ds.length=ar then(match g (je n ds) with | some (.xc c,_)=>some c | _=>none) else none
variable{k:Nat}{ps:gj}{g:FP}
theorem z5v{f:Addr}{g:FS}(F:Fun K x qual st f fd)(S:o5 N ps (f9 st))(U:n=N.length)(V:ar=ps.length)(I:∀(cdv:Value) (A:Around) (outer:g8) (s:Shared) (H:Hp) (E:XK) (G:Gd) (H0:Hp),Room k (A.deeper (envOfC qual (f9 st) s.heap.objs.size f cdv)) ->
   DBx (cxOf (CXr P w) P w K mg base N qual (f9 st) f cdv A outer s H E) G H0 (lg st) g):FnOk P w K mg base (CXr P w) (k+1) f fd ps (gSp K (runG n ar g) (xG n ar g)):=by
 subst U V;refine F.okX S (λvs H Q E h=>?_) (λcdv A outer s H vs Q E Y h=>?_)
 ·obtain⟨O,ds,r,h⟩:=h
  rw[<-r.length];rcases h with⟨y,e,_⟩ | ⟨c,e,_⟩
  ·unfold runG at e;split at e
   ·assumption
   ·cases e
  ·unfold xG at e;split at e
   ·assumption
   ·cases e
 ·obtain⟨O,ds,r,h⟩:=h
  refine⟨_,(I cdv A outer s H E (gd λa=>O a\/H a=none) H Y).out,?_⟩;rcases h with⟨y,e,k⟩ | ⟨c,e,k⟩
  ·unfold runG at e
   split at e;case isFalse=>cases e
   split at e
   ·rename_i k' ps' env' J
    cases e;exact⟨NoW,_,_,env',t9 r,J,λW' R p H' st D sl=>k W' p H' D.stay (λa z=>(st.ws a z).elim (λz=>z.elim) id) (λa z=>(D.wl a z).2) sl⟩
   ·cases e
  ·unfold xG at e
   split at e;case isFalse=>cases e
   split at e
   ·rename_i d env' J
    cases e;exact⟨NoW,_,_,env',t9 r,J,λW' R H' Z b st D pins e s' xs=>zjx xs (k Z H' b D.stay)⟩
   ·cases e
def zq1(m:i0->Option Ag)(F:FA):FG:=λe=>(F e).bind λr=>(m r.1).map λy=>(y,r.2)
theorem zw4{m:i0->Option Ag}{xx:i0->h6}(c:Cal X.prog X.w X.K X.mg X.base (CXr X.prog X.w) x k (gSp X.K m xx))(U:Room jr X.A)(V:DAx X G H0 (e::es) F)(I:k<=jr:=by decide)(Y:Gl X x:=by walk_at "g")(Z:starEach (e::es) X.env=(false,eval e X.env)::starEach es X.env:=by rfl)(J:(backTo pos (starEach es X.env)).any (·.1)=false:=by rfl) :
  JAg X G H0 (.Call (.Name x p') (e::es) [] pos) (zq1 m F):=let ⟨_,_,_,b,d,f,g,R⟩:=c;⟨(yq b (U.mono I) Y d f g V.out R Z J).imp λσ H Q h=>by
 obtain⟨W,env,y,env',ok,q,k⟩:=h;unfold zq1 at q;cases e1:F env with
 | none=>rw[e1] at q;cases q
 | some r =>
   rw[e1,ac] at q;cases e2:m r.1 with
   | none=>rw[e2] at q;cases q
   | some y' =>
     rw[e2] at q;cases q;refine⟨W,env,r.1,r.2,ok,e1,λW1 vs H1 i S j=>⟨Ow G W1,r.1,j,.inl ⟨_,e2,λW' p H' sm l n sl=>?_⟩⟩⟩;obtain⟨o,s,t,u⟩:=S.newA sm l n (λa z=>z) (k':=y.1) (λus z=>z) sl;exact k _ p H' (i.trans s) o t u⟩
def x9(c:Str)(m:k4->i0->k6)(F:FA):FG:=λe=>(F e).bind λr=>(m [(.ins true c [],[])] r.1).bind λq=>match q with
 | (.non,[(.ins true c' fs,ps)])=>some ((.ins false c' fs,ps),r.2)
 | _=>none
theorem zud{D dx:Addr}(ok:Ok K G H0 W env σ H)(S:Cl K cn C)(h1:H D=none)(h2:H dx=none)(d:dx≠D)(r:Reps K H (Ow G W) ds vs) :
  Same H (upd (upd H dx (.own D)) D (.ins C dx [])) /\
  Ok K ⟨Ow G W,λ_=>[D]⟩ (mask (upd (upd H dx (.own D)) D (.ins C dx [])) (λb=>b=D)) (λb=>b=D) (m6 [(.ins true cn [],[])]) [some (.ref D)] (upd (upd H dx (.own D)) D (.ins C dx [])) /\
  Reps K (upd (upd H dx (.own D)) D (.ins C dx [])) (Ow ⟨Ow G W,λ_=>[D]⟩ (λb=>b=D)) ds vs:=by
 have sm:Same H (upd (upd H dx (.own D)) D (.ins C dx [])):=λb o e=>by rw[gm (m4 e h1),gm (m4 e h2)];exact e
 have J:∀a,H a=none->Ow G W a:=λa z=>⟨ok.good a (ok.stay.free z),λw=>by obtain⟨_,m,q⟩:=ok.wl a w;rw[z] at q;cases q⟩;refine⟨sm,⟨λa o e=>(zom e).2,λa e=>?_,λa e=>⟨zm2 e,.i C dx [],by rw[show a=D from e,j8]⟩,λI s e=>?_,λI U s s' v f b V Y g j k l=>?_,rfl⟩,?_⟩
 ·rcases zon e with z | z
  ·rw[show a=D from z];exact J D h1
  ·refine J a ?_
   by_cases y:a=D
   ·rw[y];exact h1
   ·rw[gm y] at z
    by_cases R:a=dx
    ·rw[R];exact h2
    ·rwa [gm R] at z
 ·obtain⟨p,q,rfl⟩:=zkt e
  cases I with
  | zero =>
    simp at q;subst q;exact⟨.ref D,rfl,D,[],[],rfl,rfl,by simp,λn _=>rfl,⟨C,dx,S,j8,rfl⟩,.nil⟩
  | succ n=>simp at q
 ·obtain⟨_,Z,_⟩:=zkt V
  obtain⟨_,c,_⟩:=zkt Y;cases I with
  | zero=>cases U with
    | zero=>rfl
    | succ n=>simp at c
  | succ n=>simp at Z
 ·refine r.mono (λa u z=>sm _ _ z) λa us o h=>⟨⟨o,λz=>?_⟩,h.keep λo z=>sm _ _ z⟩
  rw[show a=D from z] at h;rcases h with h | ⟨_,h⟩ <;> (have h2:=h1.symm.trans h;cases h2)
theorem zw5{m:k4->i0->k6}(c:KCal X.prog X.w X.K X.mg X.base x k (lSp X.K m xx))(U:Room jr X.A)(j:DAx X G H0 (e::es) F)(V:k+1<=jr:=by decide)(n:Gl X x:=by walk_at "g")(s:starEach (e::es) X.env=(false,eval e X.env)::starEach es X.env:=by rfl)(Y:(backTo pos (starEach es X.env)).any (·.1)=false:=by rfl) :
  JAg X G H0 (.Call (.Name x p') (e::es) [] pos) (x9 x m F):=let ⟨_,_,_,_,M,t,u,B,C,Z⟩:=c;⟨(zwx M t (U.mono V) n u B j.out Z s Y).imp λσ H Q E=>by
 obtain⟨W,env,y,env',ok,q,k⟩:=E;unfold x9 at q;cases e1:F env with
 | none=>rw[e1] at q;cases q
 | some r =>
   rw[e1,ac] at q;cases e2:m [(.ins true x [],[])] r.1 with
   | none=>rw[e2] at q;cases q
   | some z =>
     rw[e2,ac] at q;split at q;case h_2=>cases q
     rename_i h J ps';cases q;refine⟨W,env,r.1,r.2,ok,e1,λW1 vs H1 L R N I dx h1 h2 O=>?_⟩;obtain⟨sm,d,U⟩:=zud R C h1 h2 O N;refine⟨_,_,_,_,[.ref I],r.1,vs,rfl,rfl,d,U,.inl ⟨_,_,e2,λW' en P v H' st S T rp=>⟨rp.non_,?_⟩⟩⟩;have hs:=T 0 _ rfl;obtain⟨v',z1,i⟩:=S.slot 0 _ hs;have ev:v'=.ref I:=by
      obtain⟨p,as,us,rfl,_,_,f,_⟩:=i;have f:([I]:gu)=[p]:=f 0 rfl;cases f;rfl
     subst ev;have g:Same H1 H':=λb o z=>st.keep b o (sm b o z) λy=>by rw[show b=I from y,h1] at z;cases z
     have hn:∀a,W' a->H1 a=none:=λa z=>by
      rcases st.ws a z with y | y
      ·rw[show a=I from y];exact h1
      ·cases q:H1 a with
       | none=>rfl
       | some o=>rw[sm a o q] at y;cases y
     obtain⟨w1,w2,w3,w4⟩:=R.newA (G':=⟨Ow G W1,λ_=>[I]⟩) (k:=.ins true h J) (l:=some 0) (ps:=ps') (p:=I) (k':=.ins false h J) g hn (λa z=>(S.wl a z).2) (λa z=>.inl z) (λus z=>z) i;exact k _ I H' (L.trans w2) w1 w3 w4⟩
mutual
def noL:D->Bool
 | .lst _=>false
 | .dct _ _=>false
 | .tup ds=>noLs ds
 | _=>true
def noLs:i0->Bool
 | []=>true
 | d::r=>noL d && noLs r
end
mutual
theorem Rep.noL:∀ {d:D} {v:V},Rep K H O d v->L2.noL d=true->Rep K H O' d v
 | _,_,.non,_=>.non
 | _,_,.bl b,_=>.bl b
 | _,_,.int i,_=>.int i
 | _,_,.str s,_=>.str s
 | _,_,.tup h r,e=>.tup h (Reps.noLs r (by rw[L2.noL] at e;exact e))
 | _,_,.lst o h r,e=>by rw[L2.noL] at e;cases e
 | _,_,.klst h r,e=>by rw[L2.noL] at e;cases e
 | _,_,.exc a,_=>.exc a
theorem Reps.noLs:∀ {ds:i0} {vs:ik},Reps K H O ds vs->L2.noLs ds=true->Reps K H O' ds vs
 | _,_,.nil,_=>.nil
 | _,_,.cons r t,e=>by
   rw[L2.noLs,ek] at e;exact .cons (Rep.noL r e.1) (Reps.noLs t e.2)
end
def ptD:Pt->D | .d d=>d | .o ds=>.lst ds
def qv(r:Nat):DE0->Option kb
 | []=>none
 | some (.ag .ls (some r') ps)::e=>if r'=r then some ps else qv r e
 | _::e=>qv r e
def sv:kb->Nat->Option i0
 | .o ds::_,0=>some ds
 | .o _::r,j+1=>sv r j
 | .d _::r,j=>sv r j
 | [],_=>none
def zw6(b:Bool)(ps:kb):kb:=if b=true then ps.map λp=>.d (ptD p) else ps
def frz1(b:Bool)(env:DE0):kf->kf
 | some (.sh d)=>some (.sh d)
 | some (.ow ds)=>some (.sh (.lst ds))
 | some (.o2 dss)=>some (.sh (.lst (dss.map D.lst)))
 | some (.ag .ls _ ps)=>some (.sh (.lst (ps.map ptD)))
 | some (.ag k _ ps)=>some (.ro k (zw6 b ps))
 | some (.ro .ls ps)=>some (.sh (.lst (ps.map ptD)))
 | some (.ro k ps)=>some (.ro k (zw6 b ps))
 | some (.al r j)=>(qv r env).bind λps=>(sv ps j).map λds=>.sh (.lst ds)
 | none=>none
def frz(b:Bool)(env:DE0):DE0:=env.map (frz1 b env)
def AllG(r:Nat->gu):Gd:=⟨λ_=>True,r⟩
theorem zj2{r:Nat}{ps:kb}:∀ {env:DE0},qv r env=some ps->∃i:Nat,env[i]?=some (some (Sl.ag AK.ls (some r) ps))
 | x::e,h=>by
   unfold qv at h;split at h
   ·rename_i D;cases D
   ·rename_i J ps' e' q
    cases q;split at h
    ·rename_i I;cases h;subst I;exact⟨0,rfl⟩
    ·obtain⟨i,z⟩:=zj2 h;exact⟨i+1,by simpa using z⟩
   ·rename_i q
    cases q;obtain⟨i,z⟩:=zj2 h;exact⟨i+1,by simpa using z⟩
variable{a:Addr}{ps:kb}
theorem zw7(h:PtsOk K G W H ps as us)(e:sv ps j=some ds)(ea:as[j]?=some a):∃vs,H a=some (.lst vs)/\Reps K H (Ow G W) ds vs:=by
 induction h generalizing j with
 | nil=>cases e
 | d _ _ ih=>exact ih e ea
 | o hW hl r _ ih =>
   cases j with
   | zero=>cases e;simp at ea;subst ea;exact⟨_,hl,r⟩
   | succ j=>exact ih (j:=j) e (by simpa using ea)
theorem PtsRo.all(h:PtsRo K G W H ps us)(D:∀a,O a):Reps K H O (ps.map ptD) us:=by
 induction h with
 | nil=>exact .nil
 | d r _ ih=>exact .cons ((lj λa _=>D a).1 _ _ r) ih
 | o _ hl r _ ih=>exact .cons (.lst (D _) (.inl hl) ((lj λa _=>D a).2 _ _ r)) ih
theorem PtsRo.roG(h:PtsRo K G W H ps us)(D:∀a,Ow G W a->Ow G' NoW a):PtsRo K G' NoW H ps us :=
 h.step (λa vs _ z=>⟨λz=>z,z⟩) (λd v q=>(lj D).1 d v q) λd v q=>(lj D).2 d v q
theorem PtsOk.toRo(h:PtsOk K G W H ps as us)(D:∀a,Ow G W a->Ow G' NoW a):PtsRo K G' NoW H ps us :=
 PtsRo.roG (W:=NoW) (G:=gd (Ow G W)) h.ro λa z=>D a z.1
theorem PtsRo.dat(h:PtsRo K G W H ps us)(D:∀a,Ow G W a):PtsRo K G W H (ps.map λp=>.d (ptD p)) us:=by
 induction h with
 | nil=>exact .nil
 | d r _ ih=>exact .d r ih
 | o _ hl r _ ih=>exact .d (.lst (D _) (.inl hl) r) ih
theorem PtsRo.roB(b:Bool)(h:PtsRo K G W H ps us)(D:∀a,Ow G W a):PtsRo K G W H (zw6 b ps) us:=by
 unfold zw6;split
 ·exact h.dat D
 ·exact h
theorem Ok.freeze(b:Bool)(ok:Ok K G H0 W env σ H):Ok K (AllG G.r) H NoW (frz b env) σ H:=by
 have S:∀a,Ow G W a->Ow (AllG G.r) NoW a:=λa _=>⟨trivial,λz=>z⟩;have all:∀a,Ow (AllG G.r) NoW a:=λa=>⟨trivial,λz=>z⟩;have U:∀(i:Nat) (s:Sl),(frz b env)[i]?=some (some s)->∃I,env[i]?=some (some I)/\frz1 b env (some I)=some s:=λi s e=>by
  unfold frz at e;rw[bz] at e;cases q:env[i]? with
  | none=>rw[q] at e;cases e
  | some o =>
    rw[q] at e;cases o with
    | none=>cases e
    | some I=>exact⟨I,rfl,by simpa using e⟩
 refine⟨Same.refl _,λa _=>trivial,λl z=>z.elim,λi s e=>?_,λi j s s' v u a D _ C _ o _=>?_,by unfold frz;rw[ae];exact ok.len⟩
 ·obtain⟨I,t,D⟩:=U i s e
  obtain⟨v,w,h⟩:=ok.slot i I t;refine⟨v,w,?_⟩;cases I with
  | sh d=>cases D;exact(lj S).1 _ _ h
  | ow ds=>cases D;obtain⟨l,vs,rfl,Z,J,r⟩:=h;exact .lst (all l) (.inl J) ((lj S).2 _ _ r)
  | o2 dss =>
    cases D;obtain⟨l,ls,rfl,Z,J,x,hi⟩:=h;exact .lst (all l) (.inl J) (zmo (W':=NoW) (G:=AllG G.r) (W:=W) ⟨hi.1,λj ds a Y f=>let ⟨g,vs,m,A⟩:=hi.2 j ds a Y f;⟨g,vs,m,(lj λb z=>⟨trivial,z.2⟩).2 _ _ A⟩⟩ (λa _ _=>all a) λds vs r=>(lj λb _=>all b).2 _ _ r)
  | ag k l ps =>
    obtain⟨p,as,us,rfl,Z,x,J,V,R⟩:=h;cases k with
    | ls=>cases D;exact .lst (all p) (.inl V) ((R.toRo S).all all)
    | ins _ c fs=>cases D;exact⟨p,us,rfl,λz=>z,V,(R.toRo S).roB b all⟩
  | ro k ps =>
    obtain⟨p,us,rfl,Z,V,R⟩:=h;cases k with
    | ls=>cases D;exact .lst (all p) (.inl V) (R.all all)
    | ins _ c fs=>cases D;exact⟨p,us,rfl,λz=>z,V,(R.roG S).roB b all⟩
  | al r j =>
    have D:((qv r env).bind λps=>(sv ps j).map λds=>Sl.sh (.lst ds))=some s:=D;cases q1:qv r env with
    | none=>rw[q1] at D;cases D
    | some ps =>
      rw[q1,ac] at D;cases q2:sv ps j with
      | none=>rw[q2] at D;cases D
      | some ds =>
        rw[q2] at D;cases D;obtain⟨p,as,a,Y,f,rfl⟩:=h;obtain⟨B,y⟩:=zj2 q1;obtain⟨u,E,p',n,us,rfl,_,_,J,_,R⟩:=ok.slot B _ y;have J:G.r r=p'::n:=J r rfl;rw[J] at Y;cases Y;obtain⟨vs,g,m⟩:=zw7 R q2 f;exact .lst (all a) (.inl g) ((lj S).2 _ _ m)
 ·obtain⟨I,t,D⟩:=U i s D
  cases I with
  | sh d=>cases D;exact o.elim
  | ow d=>cases D;exact o.elim
  | o2 d=>cases D;exact o.elim
  | ag k l ps=>cases k <;> (cases D;exact o.elim)
  | ro k ps=>cases k <;> (cases D;exact o.elim)
  | al r j =>
    have D:((qv r env).bind λps=>(sv ps j).map λds=>Sl.sh (.lst ds))=some s:=D;cases q1:qv r env with
    | none=>rw[q1] at D;cases D
    | some ps =>
      rw[q1,ac] at D;cases q2:sv ps j with
      | none=>rw[q2] at D;cases D
      | some ds=>rw[q2] at D;cases D;exact o.elim
theorem Step.noW(s:Step NoW H W' H'):Same H H':=λb o e=>s.keep b o e λz=>z
def fFrz(b:Bool)(f:FE):FE:=λe=>(f (frz b e)).bind λr=>if noL r.1=true then some (r.1,e) else none
def qp(b:Bool)(f:FA):FA:=λe=>(f (frz b e)).bind λr=>if noLs r.1=true then some (r.1,e) else none
def xFrz(b:Bool)(x:XF):XF:=λe=>(x (frz b e)).map λr=>(r.1,e)
variable{b:Bool}
theorem t0(h:∀G H0,DEx X G H0 e f):DEx X G H0 e (fFrz b f):=⟨λpins s σ H Q I D=>by
 obtain⟨W,env,d,env',ok,q,k⟩:=D;unfold fFrz at q;cases e1:f (frz b env) with
 | none=>rw[e1] at q;cases q
 | some r =>
   rw[e1,ac] at q;split at q;case isFalse=>cases q
   rename_i J;cases q;refine(h (AllG G.r) H).out pins s σ H Q I ⟨NoW,frz b env,r.1,r.2,ok.freeze b,e1,λW' v H' st R S=>?_⟩;exact k W v H' (Step.same st.noW) (ok.same st.noW) (S.noL J)⟩
theorem zue(h:∀G H0,DFx X G H0 e F):DFx X G H0 e (qp b F):=⟨λpins s σ H Q I R=>by
 obtain⟨W,env,d,env',ok,q,k⟩:=R;unfold qp at q;cases e1:F (frz b env) with
 | none=>rw[e1] at q;cases q
 | some r =>
   rw[e1,ac] at q;split at q;case isFalse=>cases q
   rename_i S;cases q;refine(h (AllG G.r) H).out pins s σ H Q I ⟨NoW,frz b env,r.1,r.2,ok.freeze b,e1,λW' l vs H' st U V f J Y=>?_⟩;have D:H l=none:=(st.ws l (.inr rfl)).elim (λz=>z.elim) id;obtain⟨Z,g,a,c⟩:=ok.fresh0 (H':=H') st.noW D J;exact k W l vs H' c (ok.same st.noW) a Z J (Y.noLs S)⟩
theorem zq2(h:∀G H0,JX X G H0 e y):JX X G H0 e (xFrz b y):=⟨λpins s σ H Q I D=>by
 obtain⟨W,env,c,env',ok,q,k⟩:=D;unfold xFrz at q;cases e1:y (frz b env) with
 | none=>rw[e1] at q;cases q
 | some r =>
   rw[e1] at q;cases q;exact(h (AllG G.r) H).out pins s σ H Q I ⟨NoW,frz b env,r.1,r.2,ok.freeze b,e1,λW' H' C J st R=>k W H' C J (Step.same st.noW) (ok.same st.noW)⟩⟩
theorem Ok.newW(ok:Ok K G H0 W env σ H)(sm:Same H H')(I:∀a,W' a->H a=none)(J:∀a,W' a->∃m:Mo,H' a=some m.out):Ok K G H0 (λa=>W a\/W' a) env σ H'/\Step W H (λa=>W a\/W' a) H':=by
 have st:Step W H (λa=>W a\/W' a) H':=⟨λb o e _=>sm b o e,λa z=>z.imp id (I a)⟩;have D:=ok.same sm;refine⟨⟨D.stay,ok.good,λa z=>?_,λi s e=>?_,D.uniq,ok.len⟩,st⟩
 ·rcases z with z | z
  ·exact D.wl a z
  ·exact⟨ok.stay.free (I a z),J a z⟩
 ·obtain⟨v,R,q⟩:=ok.slot i s e
  exact⟨v,R,ok.slstep st q λa m o S=>⟨.inl (q.owns o),sm _ _ S⟩⟩
def frs1:kf->kf
 | some (.sh d)=>some (.sh d)
 | some (.ag k _ ps)=>some (.ro k ps)
 | some (.ro k ps)=>some (.ro k ps)
 | _=>none
def frsE(env:DE0):DE0:=env.map frs1
def OwG(G:Gd)(W:Addr->Prop)(H:Hp):Gd:=⟨λa=>Ow G W a\/H a=none,G.r⟩
theorem Ok.freezeS(ok:Ok K G H0 W env σ H):Ok K (OwG G W H) H NoW (frsE env) σ H:=by
 have R:∀a,Ow G W a->Ow (OwG G W H) NoW a:=λa z=>⟨.inl z,λz=>z⟩;have J:∀(i:Nat) (s:Sl),(frsE env)[i]?=some (some s)->∃I,env[i]?=some (some I)/\frs1 (some I)=some s:=λi s e=>by
  unfold frsE at e;rw[bz] at e;cases q:env[i]? with
  | none=>rw[q] at e;cases e
  | some o =>
    rw[q] at e;cases o with
    | none=>cases e
    | some I=>exact⟨I,rfl,by simpa using e⟩
 refine⟨Same.refl _,λa z=>.inr z,λl z=>z.elim,λi s e=>?_,λi j s s' v b a D _ c _ o _=>?_,by unfold frsE;rw[ae];exact ok.len⟩
 ·obtain⟨I,V,D⟩:=J i s e
  obtain⟨v,Y,h⟩:=ok.slot i I V;refine⟨v,Y,?_⟩;cases I with
  | sh d=>cases D;exact(lj R).1 _ _ h
  | ow ds=>cases D
  | o2 dss=>cases D
  | ag k l ps=>cases D;obtain⟨p,as,us,rfl,Z,f,g,S,U⟩:=h;exact⟨p,us,rfl,λz=>z,S,U.toRo R⟩
  | ro k ps=>cases D;obtain⟨p,us,rfl,Z,S,U⟩:=h;exact⟨p,us,rfl,λz=>z,S,U.roG R⟩
  | al r j=>cases D
 ·obtain⟨I,V,D⟩:=J i s D
  cases I <;> cases D <;> exact o.elim
theorem PtsOk.length(h:PtsOk K G W H ps as us):ps.length=us.length:=by
 induction h with
 | nil=>rfl
 | d _ _ ih=>rw[ak,ak,ih]
 | o _ _ _ _ ih=>rw[ak,ak,ih]
abbrev FP:=DE0->Option kb
def tPs(X:Cx)(G:Gd)(H0:Hp)(f:FP):TA:=λσ H Q=>∃W env ps,Ok X.K G H0 W env σ H/\f env=some ps /\
 ∀as us H',Same H H'->as.Nodup->(∀a∈as,H a=none)->PtsOk X.K (OwG G W H) (λa=>a∈as) H' ps as us->Q us H'
structure JPs (X:Cx) (G:Gd) (H0:Hp) (es:g9) (f:FP):Prop where
 out:PA X es (tPs X G H0 f)
def pNil:FP:=λ_=>some []
def pCd(f:FE)(g:FP):FP:=λe=>(f (frsE e)).bind λr=>(g e).map λt=>.d r.1::t
def pCo(F:FA)(g:FP):FP:=λe=>(F (frsE e)).bind λr=>(g e).map λt=>.o r.1::t
theorem Rd.some{u:HO}(h:Rd H a u):H a≠none:=λz=>by rcases h with h | ⟨_,h⟩ <;> rw[z] at h <;> cases h
theorem z0f  : JPs X G H0 [] pNil:=⟨og.imp λσ H Q D=>by
 obtain⟨W,env,ps,ok,q,k⟩:=D;cases q;exact k [] [] H (Same.refl _) .nil (λa z=>by cases z) .nil⟩
theorem z3u(h:∀G H0,DEx X G H0 e f)(J:JPs X G H0 es g)(R:starEach (e::es) X.env=(false,eval e X.env)::starEach es X.env:=by rfl):JPs X G H0 (e::es) (pCd f g):=⟨λpos pins s σ H Q I S=>by
 obtain⟨W,env,ps,ok,q,k⟩:=S;unfold pCd at q;cases e1:f (frsE env) with
 | none=>rw[e1] at q;cases q
 | some r =>
   rw[e1,ac] at q;cases e2:g env with
   | none=>rw[e2] at q;cases q
   | some t =>
     rw[e2] at q;cases q;refine(md (h (OwG G W H) H).out J.out R) pos pins s σ H Q I ⟨NoW,frsE env,r.1,r.2,ok.freezeS,e1,λW1 v H1 st U V=>?_⟩;refine⟨W,env,t,ok.same st.noW,e2,λas us H2 sm Y D Z=>?_⟩;refine k as (v::us) H2 (st.noW.trans sm) Y (λa z=>st.noW.free (D a z)) (.d (V.mono (λa u z=>sm _ _ z) λa vs o z=>⟨⟨o.1,λy=>z.some (D a y)⟩,z.keep λo y=>sm _ _ y⟩) (Z.step (λa vs b z=>⟨b,z⟩) (λd v q=>(lj ?_).1 d v q) λd v q=>(lj ?_).2 d v q)) <;>
     exact λa z=>⟨z.1.imp id λy=>st.noW.free y,z.2⟩⟩
theorem z3v(h:∀G H0,DFx X G H0 e F)(Y:JPs X G H0 es g)(Z:starEach (e::es) X.env=(false,eval e X.env)::starEach es X.env:=by rfl):JPs X G H0 (e::es) (pCo F g):=⟨λpos pins s σ H Q I b=>by
 obtain⟨W,env,ps,ok,q,k⟩:=b;unfold pCo at q;cases e1:F (frsE env) with
 | none=>rw[e1] at q;cases q
 | some r =>
   rw[e1,ac] at q;cases e2:g env with
   | none=>rw[e2] at q;cases q
   | some t =>
     rw[e2] at q;cases q;refine(md (h (OwG G W H) H).out Y.out Z) pos pins s σ H Q I ⟨NoW,frsE env,r.1,r.2,ok.freezeS,e1,λW1 l vs H1 st c f A D i=>?_⟩;have U:H l=none:=(st.ws l (.inr rfl)).elim (λz=>z.elim) id;obtain⟨J,_⟩:=ok.newW (W':=λa=>a=l) st.noW (λa z=>by rw[z];exact U) λa z=>⟨.l vs,by rw[z];exact D⟩;refine⟨_,env,t,J,e2,λas us H2 sm j R m=>?_⟩;have S:l∉as:=λz=>by rw[R l z] at D;cases D
     have h1:∀a∈l::as,H a=none:=λa z=>by
      rcases b7.mp z with rfl | z
      ·exact U
      ·exact st.noW.free (R a z)
     have n:Reps X.K H2 (Ow (OwG G W H) λa=>a∈l::as) r.1 vs:=i.mono (λa u z=>sm _ _ z) λa vs o z=>by
      refine⟨⟨o.1,λy=>?_⟩,z.keep λo y=>sm _ _ y⟩;rcases b7.mp y with y | y
      ·exact o.2 (.inr y)
      ·exact z.some (R a y)
     have V:∀a,Ow (OwG G (λa=>W a\/a=l) H1) (λa=>a∈as) a->Ow (OwG G W H) (λa=>a∈l::as) a:=λa o=>by
      have p:a≠l:=λz=>by
       rcases o.1 with y | y
       ·exact y.2 (.inr z)
       ·rw[z,D] at y;cases y
      refine⟨o.1.imp (λy=>⟨y.1,λw=>y.2 (.inl w)⟩) λy=>st.noW.free y,λy=>?_⟩;rcases b7.mp y with y | y
      ·exact p y
      ·exact o.2 y
     exact k (l::as) (.ref l::us) H2 (st.noW.trans sm) (bq.mpr ⟨S,j⟩) h1 (.o bj (sm _ _ D) n (m.step (λa vs x z=>⟨av _ x,z⟩) (λd v q=>(lj V).1 d v q) λd v q=>(lj V).2 d v q))⟩
def fAgL(g:FP):FG:=λe=>(g e).bind λps=>if ps.length<=64 then some ((.ls,ps),e) else none
theorem z0g(h:JPs X G H0 es g):JAg X G H0 (.List es pos) (fAgL g):=⟨(zx4 h.out).imp λσ H Q R=>by
 obtain⟨W,env,x,env',ok,q,k⟩:=R;unfold fAgL at q;cases e1:g env with
 | none=>rw[e1] at q;cases q
 | some ps =>
   rw[e1,ac] at q;split at q;case isFalse=>cases q
   cases q;refine⟨W,env,ps,ok,e1,λas us H1 sm S U J=>⟨?_,λp I=>?_⟩⟩
   ·rw[<-J.length,sizeLine_eq];lia
   ·have D:Same H1 (upd H1 p (.lst us)):=wy I
    have V:p∉as:=λz=>by obtain⟨_,vs,y⟩:=J.own z;rw[I] at y;cases y
    have sl:SlOk X.K (OwG G W H) (λa=>a=p\/a∈as) (upd H1 p (.lst us)) (.ag .ls none ps) (.ref p):=by
     refine⟨p,as,us,rfl,.inl rfl,bq.mpr ⟨V,S⟩,(λn z=>nomatch z),j8,J.step (λa vs Y z=>⟨.inr Y,D _ _ z⟩) (λd v q=>q.mono (λa u z=>D _ _ z) ?_) λd v q=>q.mono (λa u z=>D _ _ z) ?_⟩ <;>
     exact λa vs o z=>⟨⟨o.1,λy=>y.elim (λy=>z.some (y ▸ I)) o.2⟩,z.keep λo y=>D _ _ y⟩
    have Z:∀a,a=p\/a∈as->H a=none:=λa z=>by
     rcases z with rfl | z
     ·exact sm.free I
     ·exact U a z
    have b:∀a,a=p\/a∈as->∃m:Mo,upd H1 p (.lst us) a=some m.out:=λa z=>by
     rcases z with rfl | z
     ·exact⟨.l us,j8⟩
     ·obtain⟨_,vs,y⟩:=J.own z
      exact⟨.l vs,D _ _ y⟩
    obtain⟨c,e,f,i⟩:=ok.newA (k':=.ls) (sm.trans D) Z b (λa z=>z) (λus z=>z) sl;exact k _ p _ e c f i⟩
def nt(κ:AK)(i j:Nat):FE:=λe=>if isK κ e i then(agAt e i).bind λx=>(match x.2[j]? with | some (.d d)=>some (d,e) | _=>none) else none
theorem rj(c:Atr X.K cn m)(an:Ats Nn Cn X)(J:Nn[i]?=some x:=by rfl)(U:fs[j]?=some m:=by rfl)(V:fs.Nodup:=by decide +kernel)(e:attributeBase (.Name x p') m X.env (eval (.Name x p') X.env)=eval (.Name x p') X.env:=by rfl):DEx X G H0 (.Attribute (.Name x p') m pos) (nt (.ins false cn fs) i j):=let ⟨C,c,Y,Z⟩:=c;⟨(zx3 ((an.a J).pe) e).imp λσ H Q f=>by
  obtain⟨W,env,d,env',ok,q,k⟩:=f;unfold nt at q;split at q;case isFalse=>cases q
  rename_i g;cases D:agAt env i with
  | none=>rw[D] at q;cases q
  | some y =>
    rw[D,ac] at q;split at q;case h_2=>cases q
    rename_i d' b;cases q;rcases g with⟨l,ps',z⟩ | ⟨ps',z⟩
    ·have D:some (AK.ins false cn fs,ps')=some y:=by unfold agAt at D;rw[z] at D;exact D
     cases D;obtain⟨v,D,p,as,us,rfl,_,_,_,⟨h,dx,R,I,n⟩,S⟩:=ok.slot i _ z;rw[Cl.inj R Z] at I;obtain⟨u,h1,h2⟩:=S.getD b;exact⟨_,D,p,C,dx,_,u,rfl,I,c,Y,zm8 V U h1,k W u H Step.refl ok h2⟩
    ·have D:some (AK.ins false cn fs,ps')=some y:=by unfold agAt at D;rw[z] at D;exact D
     cases D;obtain⟨v,D,p,us,rfl,_,⟨h,dx,R,I,n⟩,S⟩:=ok.slot i _ z;rw[Cl.inj R Z] at I;obtain⟨u,h1,h2⟩:=S.getD b;exact⟨_,D,p,C,dx,_,u,rfl,I,c,Y,zm8 V U h1,k W u H Step.refl ok h2⟩⟩
variable{l:Addr}
theorem Ok.chgN(ok:Ok K G H0 W env σ H){s s':Sl}(J:Mo)(e:env[i]?=some (some s))(R:σ[i]?=some (some v))(x:Owns H s v a)(A:SlOk K G W (upd H a J.out) s' v)(y:∀(j:Nat) (s:Sl) (v:V),env[j]?=some (some s)->σ[j]?=some (some v)->¬Owns H s v l)(m:∀b,Owns (upd H a J.out) s' v b->Owns H s v b\/b=l):Ok K G H0 W (env.set i (some s')) σ (upd H a J.out)/\Step W H W (upd H a J.out):=by
 have c:W a:=by obtain⟨B,f,h⟩:=ok.slot i s e;rw[R] at f;cases f;exact h.owns x
 have st:Step W H W (upd H a J.out):=⟨λb o q n=>by rw[gm (λz:b=a=>n (by rw[z];exact c))];exact q,λb z=>.inl z⟩;have t:∀ {j:Nat} {sl:Sl} {u:V} {b:Addr},i≠j->env[j]?=some (some sl)->σ[j]?=some (some u)->Owns H sl u b->b≠a:=λ{j sl u b} hj q S o z=>by
  subst z;exact hj (ok.uniq i j s sl v u b e q R S x o)
 have bk:∀ {j:Nat} {sl:Sl} {u:V} {b:Addr},i≠j->env[j]?=some (some sl)->σ[j]?=some (some u)->Owns (upd H a J.out) sl u b->Owns H sl u b:=λ{j sl u b} hj q S o=>by
  obtain⟨C,Y,h⟩:=ok.slot j sl q;rw[S] at Y;cases Y;cases sl with
  | sh d=>exact o.elim
  | ow ds=>exact o
  | o2 dss=>exact h.back (λl D _ vs I=>by rw[gm (t hj q S (.inl D))];exact I) o
  | ag k p ps=>exact h.back (λl D _ vs I=>by rw[gm (t hj q S (.inl D))];exact I) o
  | al _ _=>exact o.elim
  | ro _ _=>exact o.elim
 refine⟨⟨λb o q=>?_,ok.good,λb z=>?_,λj sl q=>?_,λj k w s2 v1 v2 b S Y D I Z o2=>?_,by rw[dj,ok.len]⟩,st⟩
 ·rw[gm (λz=>by rw[z,(ok.wl a c).1] at q;cases q)];exact ok.stay b o q
 ·obtain⟨q,us,m⟩:=ok.wl b z
  by_cases h:b=a
  ·exact⟨q,J,by rw[h,j8]⟩
  ·exact⟨q,us,by rw[gm h];exact m⟩
 ·rcases m3 q with⟨rfl,r,_⟩ | ⟨hj,r⟩
  ·cases r
   exact⟨v,R,A⟩
  ·obtain⟨u,f,h⟩:=ok.slot j sl r
   exact⟨u,f,ok.slstep st h λb vs o Y=>⟨h.owns o,by rw[gm (t hj r f o)];exact Y⟩⟩
 ·rcases m3 S with⟨a1,b1,_⟩ | ⟨a1,b1⟩ <;> rcases m3 Y with⟨g,U,_⟩ | ⟨g,U⟩
  ·rw[<-a1,<-g]
  ·subst a1;cases b1
   rw[R] at D;cases D;have o2:=bk g U I o2;rcases m b Z with z | z
   ·exact ok.uniq i k s s2 v v2 b e U R I z o2
   ·subst z;exact absurd o2 (y k s2 v2 U I)
  ·subst g;cases U
   rw[R] at I;cases I;have Z:=bk a1 b1 D Z;rcases m b o2 with z | z
   ·exact ok.uniq j i w s v1 v b b1 e D R Z z
   ·subst z;exact absurd Z (y j w v1 b1 D)
  ·exact ok.uniq j k w s2 v1 v2 b b1 U D I (bk a1 b1 D Z) (bk g U I o2)
theorem PtsOk.snoc(h:PtsOk K G W H ps as us)(D:W l)(I:H l=some (.lst vs))(r:Reps K H (Ow G W) ds vs):PtsOk K G W H (ps++[.o ds]) (as++[l]) (us++[.ref l]):=by
 induction h with
 | nil=>exact .o D I r .nil
 | d q _ ih=>exact .d q ih
 | o a b c _ ih=>exact .o a b c ih
theorem zq3{f:Str}{v:V}:∀ {fs:gj} {us:ik},f∉fs->fs.length=us.length->putF f v (fs.zip us)=(fs++[f]).zip (us++[v])
 | [],[],_,_=>rfl
 | g::fs,u::us,hf,hl=>by
   have:g≠f:=λz=>hf (by simp[z]);rw[jz,jh,jh,jz];show(if g=f then(g,v)::fs.zip us else(g,u)::putF f v (fs.zip us))=_;rw[if_neg this,zq3 (λz=>hf (by simp[z])) (by simpa using hl)]
def x8(i:Nat)(cn f:Str)(F:FA):FS:=λe=>(F e).bind λr=>match r.2[i]? with
 | some (some (.ag (.ins true c fs) l ps))=>if c=cn/\f∉fs/\fs.length<900 then some (.nx,r.2.set i (some (.ag (.ins true c (fs++[f])) l (ps++[.o r.1])))) else none
 | _=>none
variable{value:Expr}
theorem zq4(ca:Atr X.K cn m)(an:Ats Nn Cn X)(he:DFx X G H0 value F)(d:Nn[i]?=some x:=by rfl)(hs:swapsWith value (some (.Attribute (.Name x p') m p1)) pos.line X.env=pure false:=by rfl) :
  DSx X G H0 (.Assign [.Attribute (.Name x p') m p1] value pos) (x8 i cn m F):=let ⟨C,c,hn,e⟩:=ca;⟨(z2d ((an.a d).pe) he.out hs).imp λDn σ H zq=>by
 obtain⟨W,env,fl,env',ok,q,k⟩:=zq;unfold x8 at q;cases e1:F env with
 | none=>rw[e1] at q;cases q
 | some r =>
   rw[e1,ac] at q;split at q;case h_2=>cases q
   rename_i E fs l ps f;split at q;case isFalse=>cases q
   rename_i g;obtain⟨rfl,hf,L⟩:=g;cases q;refine⟨W,env,r.1,r.2,ok,e1,λW1 ad vs H1 s1 R D M N rp=>?_⟩;obtain⟨v,t,p,as,us,rfl,O,U,hr,⟨C',dx,z1,I,Y⟩,J⟩:=D.slot i _ f;rw[Cl.inj z1 e] at I;have P:p≠ad:=λz=>by rw[z,N] at I;cases I
   have na:ad∉as:=λz=>by
    obtain⟨v',Z,h⟩:=R.slot i _ f;rw[t] at Z;cases Z;exact M (h.owns (.inr ⟨p,us,rfl,⟨Y,C,dx,I⟩,J.parts_iff.mpr z⟩))
   refine⟨_,t,p,C,dx,fs.zip us,rfl,I,c,hn,?_,?_⟩
   ·rw[List.length_zip];lia
   ·have st:Step (addW W1 ad) H1 (addW W1 ad) (upd H1 p (.ins C dx ((fs++[m]).zip (us++[.ref ad])))):=⟨λb o q n=>by rw[gm (λz:b=p=>n (by rw[z];exact O))];exact q,λb z=>.inl z⟩
    have u:upd H1 p (.ins C dx ((fs++[m]).zip (us++[.ref ad]))) ad=some (.lst vs):=by rw[gm (Ne.symm P)];exact N
    have A:PtsOk X.K G (addW W1 ad) (upd H1 p (.ins C dx ((fs++[m]).zip (us++[.ref ad])))) ps as us:=J.step (λb ws Q z=>⟨(J.own Q).1,by rw[gm (λy:b=p=>by subst y;exact(bq.mp U).1 Q)];exact z⟩) (λ_ _ r=>D.rep st r) λ_ _ r=>D.reps st r;have S:(fs++[m]).length=(us++[V.ref ad]).length:=by rw[am,am,Y];rfl
    obtain⟨w1,w2⟩:=D.chgN (l:=ad) (s':=.ag (.ins true E (fs++[m])) l (ps++[.o r.1])) (.i C dx ((fs++[m]).zip (us++[.ref ad]))) f t (.inl rfl)
     ⟨p,as++[ad],us++[.ref ad],rfl,O,by
      rw[bq] at U ⊢;refine⟨λz=>?_,List.nodup_append.mpr ⟨U.2,by simp,λy hy z g=>?_⟩⟩
      ·rcases cw.mp z with z | z
       ·exact U.1 z
       ·exact P (cj.mp z)
      ·rw[cj.mp g];exact λw=>na (w ▸ hy),hr,⟨C,dx,e,j8,S⟩,A.snoc (.inr rfl) u (D.reps st rp)⟩
     (λj s v Z e4=>R.noOwn M j s v Z e4) λb B=>by
       rcases B with B | ⟨p',us',z,y,j,ds,h1,h2⟩
       ·exact .inl (.inl B)
       ·cases z
        have ey:us'=us++[.ref ad]:=ux (K:=X.K) (k:=.ins true E (fs++[m])) (us:=us++[.ref ad]) ⟨C,dx,e,j8,S⟩ y;rw[ey] at h2;by_cases T:j<ps.length
        ·rw[au T] at h1
         rw[au (by rw[<-J.length];exact T)] at h2;exact .inl (.inr ⟨p,us,rfl,⟨Y,C,dx,I⟩,j,ds,h1,h2⟩)
        ·rw[dg (by rw[<-J.length];lia),<-J.length] at h2
         cases hjj:j-ps.length with
         | zero=>rw[hjj] at h2;simp at h2;exact .inr h2.symm
         | succ n=>rw[hjj] at h2;simp at h2
    rw[zq3 hf Y];exact k _ σ _ (s1.trans w2) w1⟩
end L2
namespace L2
open PySem
abbrev iz:gj:=["kept", "states"]
end L2
namespace L2
open PySem PySem.Spec PyProof.Rows
def uo(i:Nat)(g:FE)(F:FA):FS:=λe=>(F e).bind λr=>match r.2[i]? with
 | some (some (.o2 dss))=>(g (frsE r.2)).bind λq=>(match q.1 with | .int k=>(ixN dss.length k).map λj=>(.nx,r.2.set i (some (.o2 (dss.set j r.1)))) | _=>none)
 | _=>none
def zq5(i:Nat)(g h f:FE):FS:=λe=>(f e).bind λr=>match r.2[i]? with
 | some (some (.o2 dss))=>(g (frsE r.2)).bind λq=>(h (frsE r.2)).bind λp=>(match q.1,p.1 with
   | .int k,.int m=>(ixN dss.length k).bind λj=>(dss[j]?).bind λds=>(ixN ds.length m).map λn=>(.nx,r.2.set i (some (.o2 (dss.set j (ds.set n r.1)))))
   | _,_=>none)
 | _=>none
variable{G:Gd}{H0 H:Hp}{i:Nat}{K:h8}{W:Addr->Prop}{env:DE0}{σ:St}
theorem Ok.swap2(R:Ok K G H0 W env σ H){l:Addr}{us:ik}{ds:i0}{dss:List i0}{j:Nat}{v:V}(ok:Ok K G H0 (addW W l) env σ H)(p:¬W l)(hl:H l=some (.lst us))(r:Reps K H (Ow G (addW W l)) ds us)(t:env[i]?=some (some (.o2 dss)))(x:σ[i]?=some (some v))(hj:j<dss.length) :
  ∃(L:Addr) (ls:gu),v=.ref L/\H L=some (.lst (ls.map V.ref))/\ls.length=dss.length/\Ok K G H0 (addW W l) (env.set i (some (.o2 (dss.set j ds)))) σ (upd H L (.lst ((ls.set j l).map V.ref)))/\Step (addW W l) H (addW W l) (upd H L (.lst ((ls.set j l).map V.ref))):=by
 obtain⟨v1,Q,L,ls,rfl,T,A,B,hi⟩:=R.slot i _ t;rw[x] at Q;cases Q;have S:addW W l L:=.inl T;have st:Step (addW W l) H (addW W l) (upd H L (.lst ((ls.set j l).map V.ref))):=⟨λb o q n=>by rw[gm (λz:b=L=>n (by rw[z];exact S))];exact q,λb z=>.inl z⟩;have nl:∀(k:Nat) (s:Sl) (u:V),env[k]?=some (some s)->σ[k]?=some (some u)->¬Owns H s u l:=λk s u C g o=>by
  obtain⟨u',X,h⟩:=R.slot k s C;rw[g] at X;cases X;exact p (h.owns o)
 have U:l≠L:=λz=>p (z ▸ T);have I:=hi.1;have J:∀(k:Nat) (c:Addr),(ls.set j l)[k]?=some c->(j=k/\c=l)\/(j≠k/\ls[k]?=some c):=λk c q=>by
  rcases m3 q with⟨e,q,_⟩ | q
  ·exact .inl ⟨e,q⟩
  ·exact .inr q
 have E:(L::ls.set j l).Nodup:=by
  refine bq.mpr ⟨λz=>?_,?_⟩
  ·obtain⟨k,Y⟩:=List.mem_iff_getElem?.mp z
   rcases J k L Y with⟨_,e⟩ | ⟨_,e⟩
   ·exact U e.symm
   ·exact(bq.mp B).1 (ay e)
  ·refine List.pairwise_iff_getElem.mpr λk1 k2 F Z aa z=>?_
   obtain⟨c2,hc2⟩:∃c,(ls.set j l)[k2]?=some c:=⟨_,bi Z⟩;have M:(ls.set j l)[k1]?=some c2:=by rw[<-hc2,bi F,bi Z,z]
   have a:∀k c,ls[k]?=some c->c≠l:=λk c q w=>p (w ▸ (hi.2 k (dss[k]'(by rw[<-I];exact(ah.mp q).1)) c (bi _) q).1);rcases J k1 c2 M with⟨a1,b1⟩ | ⟨a1,b1⟩ <;> rcases J k2 c2 hc2 with⟨a2,m⟩ | ⟨a2,m⟩
   ·lia
   ·exact a _ _ m b1
   ·exact a _ _ b1 m
   ·have:=zmn (bq.mp B).2 b1 m;lia
 refine⟨L,ls,rfl,A,I,?_⟩;refine ok.chgN (.l _) t x (.inl rfl) ⟨L,ls.set j l,rfl,S,j8,E,by simp[I],λk es c C g=>?_⟩ nl λb o=>?_
 ·rcases m3 C with⟨rfl,z,_⟩ | ⟨Y,q'⟩
  ·cases z
   rcases J j c g with⟨_,rfl⟩ | ⟨y,_⟩
   ·exact⟨.inr rfl,us,by rw[gm U];exact hl,ok.reps st r⟩
   ·exact absurd rfl y
  ·rcases J k c g with⟨y,_⟩ | ⟨_,y⟩
   ·exact absurd y Y
   ·obtain⟨N,vs,hc,rc⟩:=hi.2 k es c q' y
    have ne:c≠L:=λz=>(bq.mp B).1 (z ▸ ay y);refine⟨.inl N,vs,by rw[gm ne];exact hc,?_⟩;obtain⟨v2,e2,L2,ab,e3,_,d,_,O⟩:=ok.slot i _ t;rw[x] at e2;cases e2;cases e3;rw[A] at d;have:=ve (by simpa using d);subst this;obtain⟨_,vs',f,P⟩:=O.2 k es c q' y;rw[hc] at f;cases f;exact ok.reps st P
 ·rcases o with o | ⟨L',ls',z,q,hb⟩
  ·exact .inl (.inl o)
  ·cases z
   rw[j8] at q;have:=ve (show(ls.set j l).map V.ref=ls'.map V.ref by simpa using q);subst this;obtain⟨k,Y⟩:=List.mem_iff_getElem?.mp hb;rcases J k b Y with⟨_,e⟩ | ⟨_,e⟩
   ·exact .inr e
   ·exact .inl (.inr ⟨L,ls,rfl,A,ay e⟩)
variable{Nn Cn:gj}{X:Cx}{b e:Expr}{g:FE}{F:FA}{x:Str}{pos p' p1:Pos}
theorem zq6(m:∀G H0,DEx X G H0 b g)(n:DFx X G H0 e F)(an:Ats Nn Cn X)(Y:Nn[i]?=some x:=by rfl)(o:swapsWithSole [.Subscript (.Name x p') b p1] e pos.line X.env=pure false:=by rfl)(p:swappedStores [.Subscript (.Name x p') b p1] e X.env=pure none:=by rfl)(h1:(assignEach [.Subscript (.Name x p') b p1] X.env).map (·.2)=[assign (.Subscript (.Name x p') b p1) X.env]:=by rfl)(J:∀v,assign (.Subscript (.Name x p') b p1) X.env v=(do
   let ov <-holding [v] (eval (.Name x p') X.env);let iv <-holding [v,ov] (eval b X.env)
   standAt p1
   holding [v,ov,iv] (setItem ov iv v)
   release [v,ov,iv] []):=by intro _;rfl) :
  DSx X G H0 (.Assign [.Subscript (.Name x p') b p1] e pos) (uo i g F):=⟨λpins s σ H Dn I t=>by
 obtain⟨W,env,fl,env',ok,q,k⟩:=t;unfold uo at q;cases e1:F env with
 | none=>rw[e1] at q;cases q
 | some r =>
   rw[e1,ac] at q;split at q;case h_2=>cases q
   rename_i dss c;cases e2:g (frsE r.2) with
   | none=>rw[e2] at q;cases q
   | some r2 =>
     rw[e2,ac] at q;split at q;case h_2=>cases q
     rename_i d Z;cases e3:ixN dss.length d with
     | none=>rw[e3] at q;cases q
     | some j =>
       rw[e3] at q;cases q;have u:j<dss.length:=(zpe e3).2.1;refine(yk n.out (zqh ((an.a Y).pe) (el_x (X:=X) rfl m) wz J) o p h1) pins s σ H Dn I ⟨W,env,r.1,r.2,ok,e1,λW1 l us H1 w R D y z A=>?_⟩;obtain⟨v,f,_⟩:=R.slot i _ c;refine⟨_,f,OwG G (addW W1 l) H1,H1,NoW,frsE r.2,r2.1,r2.2,D.freezeS,e2,λE v2 H2 s2 B S=>?_⟩;have sm:=s2.noW;rw[Z] at S;obtain⟨L,ls,rfl,C,U,h,V⟩:=Ok.swap2 (R.same sm) (D.same sm) y (sm _ _ z) ((D.reps (Step.same sm) A)) c f u;exact⟨L,_,d,j,rfl,S.int_,C,by rw[ae,U];exact e3,by rw[io] at h V;exact k _ _ _ ((w.trans (Step.same sm)).trans V) h⟩⟩
variable{a:Expr}{f h:FE}{p2:Pos}
theorem zug(E:∀G H0,DEx X G H0 a g)(F:∀G H0,DEx X G H0 b h)(K:DEx X G H0 e f)(an:Ats Nn Cn X)(Z:Nn[i]?=some x:=by rfl)(d:uz a:=by intro _ _;rfl)(M:swapsWithSole [.Subscript (.Subscript (.Name x p') a p2) b p1] e pos.line X.env=pure false:=by rfl)(N:swappedStores [.Subscript (.Subscript (.Name x p') a p2) b p1] e X.env=pure none:=by rfl)(h1:(assignEach [.Subscript (.Subscript (.Name x p') a p2) b p1] X.env).map (·.2)=[assign (.Subscript (.Subscript (.Name x p') a p2) b p1) X.env]:=by rfl)(U:∀v,assign (.Subscript (.Subscript (.Name x p') a p2) b p1) X.env v=(do
   let ov <-holding [v] (eval (.Subscript (.Name x p') a p2) X.env);let iv <-holding [v,ov] (eval b X.env)
   standAt p1
   holding [v,ov,iv] (setItem ov iv v)
   release [v,ov,iv] []):=by intro _;rfl) :
  DSx X G H0 (.Assign [.Subscript (.Subscript (.Name x p') a p2) b p1] e pos) (zq5 i g h f):=⟨λpins s σ H Dn I O=>by
 obtain⟨W,env,fl,env',ok,q,k⟩:=O;unfold zq5 at q;cases e1:f env with
 | none=>rw[e1] at q;cases q
 | some r =>
   rw[e1,ac] at q;split at q;case h_2=>cases q
   rename_i dss l;cases e2:g (frsE r.2) with
   | none=>rw[e2] at q;cases q
   | some r2 =>
     rw[e2,ac] at q;cases e3:h (frsE r.2) with
     | none=>rw[e3] at q;cases q
     | some r3 =>
       rw[e3,ac] at q;split at q;case h_2=>cases q
       rename_i A mm m p;cases e4:ixN dss.length A with
       | none=>rw[e4] at q;cases q
       | some j =>
         rw[e4,ac] at q;cases e5:dss[j]? with
         | none=>rw[e5] at q;cases q
         | some ds =>
           rw[e5,ac] at q;cases e6:ixN ds.length mm with
           | none=>rw[e6] at q;cases q
           | some n =>
             rw[e6] at q;cases q;refine(yk K.out (zqh (yd zmj ((an.a Z).pe) (el_x (X:=X) rfl E) d) (el_x (X:=X) rfl F) wz U) M N h1) pins s σ H Dn I ⟨W,env,r.1,r.2,ok,e1,λW1 v1 H1 P J Q=>?_⟩;obtain⟨v,t,_⟩:=J.slot i _ l;refine⟨_,t,OwG G W1 H1,H1,NoW,frsE r.2,r2.1,r2.2,J.freezeS,e2,λW2 v2 H2 s2 T V=>?_⟩;have sm:=s2.noW;rw[m] at V;have R:=J.same sm;obtain⟨L,ls,c,vs,rfl,B,u,w,hH,C⟩:=zwf R l t e4 e5;refine⟨L,_,A,.ref c,rfl,V.int_,.inl (.inl B),w,OwG G W1 H2,H2,NoW,frsE r.2,r3.1,r3.2,R.freezeS,e3,λW3 v3 H3 s3 aa Y=>?_⟩;have D:=s3.noW;rw[p] at Y;have y:=R.same D;have S:Same H1 H3:=λb o z=>D b o (sm b o z);obtain⟨t1,t2⟩:=y.turn2 l t (D _ _ B) e5 u (Reps.set (J.rep (Step.same S) Q) n (R.reps (Step.same D) C));exact⟨c,vs,mm,n,rfl,Y.int_,D _ _ hH,by rw[<-C.length];exact e6,k _ _ _ ((P.trans (Step.same S)).trans t2) t1⟩⟩
end L2
namespace L2
open PySem PySem.Spec PyProof.Rows PySem.F
variable{prog:Program}{w:World}{A:Around}{E:Value->Shared->Prop}{s:Shared}
theorem zos{it t:Addr}{D:ic}(U:t≠it):∀(n i:Nat) (s:Shared) (Q:gr->Shared->Prop),s.heap.IsListIter it t i->s.heap.IsList t D->i+n<=D.size ->
  (∀h',h'.IsListIter it t (i+n)->Heap.SameBut it s.heap h'->Q ((D.toList.drop i).take n) { s with heap:=h' })->wpAny (model prog w) A (draw (.ref it) n) Q E s
 | 0,i,s,Q,hit,_,_,hQ=>by
   exact wpAny_pure (by simpa using hQ s.heap hit (Heap.SameBut.refl ..))
 | n+1,i,s,Q,hit,ht,hle,hQ=>by
   have V:i<D.size:=by lia
   refine wpAny_bind (wpAny_pyNext_list_item hit ht (x:=D[i]) (by simp[V]) λh₁ J I=>?_);refine wpAny_bind (wpAny_holding (zos U n (i+1) _ _ J (ht.extBut I.extBut U) (by lia) λY R S=>wpAny_pure ?_));have Z:D.toList.drop i=D[i]::D.toList.drop (i+1):=by simp[em,V]
   have:=hQ Y (by rw[show i+(n+1)=i+1+n by lia];exact R) (I.trans S);rw[Z,List.take_succ_cons] at this;exact this
variable{pos:Pos}
theorem zj4{env:Env}{I:g9}{x1}{t:Addr}{D:ic}{Q:Unit->Shared->Prop}(f:A.handled=none)(Y:s.heap.IsList t D)(g:(assignEach I env).length=D.size)(S:(assignEach I env).findIdx? (·.1)=none)(h:∀h',Heap.ExtBut s.heap.objs.size s.heap h'->wpAny (model prog w) A (assignInOrder ((assignEach I env).map (·.2)) D.toList) Q E { s with heap:=h' }):wpAny (model prog w) A (assign (.Tuple I x1 pos) env (.ref t)) Q E s:=by
 refine wpAny_bind (wpAny_standAt ?_);unfold unpack;rw[g,S];refine wpAny_bind (wpAny_holding ?_);have Z:t≠s.heap.objs.size:=by obtain⟨o,i,_⟩:=Y;exact bx (az i)
 refine wpAny_bind ?_;refine wpAny_bind (wpAny_specialOf Y.typeIs PySem.slot_list_iter.lookup ?_);refine wpAny_pure ?_;refine wpAny_bind (wpAny_holding (wpAny_pyIter_list Y ?_));refine wpAny_bind (wpAny_holding (zos Z D.size 0 _ _ ⟨_,cb _ rfl,rfl,rfl⟩ (Y.push _) (by lia) λh₁ R J=>?_));have a:List.take D.size (List.drop 0 D.toList)=D.toList:=by
  rw[List.drop_zero];exact gv (by simp)
 rw[a];rw[if_neg (by simp)];have U:h₁.IsList t D:=(Y.push _).extBut J.extBut Z;refine wpAny_bind (wpAny_holding (wpAny_pyNext_list_end f R U (by simp) λc V=>?_));exact wpAny_pure (h c λb o d e=>V b o d (J.extBut b o d (ao _ e)))
def we(r:Nat):g0->kb->Nat->DE0->Option DE0
 | [],[],_,e=>some e
 | i::ix,.d d::ps,n,e=>we r ix ps n (e.set i (some (.sh d)))
 | i::ix,.o _::ps,n,e=>we r ix ps (n+1) (e.set i (some (.al r n)))
 | _,_,_,_=>none
def um(i:Nat)(ix:g0):FS:=λe=>match e[i]? with
 | some (some (.ag .ls (some r) ps))=>if i∈ix then none else(we r ix ps 0 e).map λe'=>(.nx,e')
 | _=>none
variable{G:Gd}{H0:Hp}{ix:g0}
theorem zpp{K:h8}{W:Addr->Prop}{H:Hp}{r:Nat}{p:Addr}{D:gu}(J:G.r r=p::D):∀(ix:g0) (ps:kb) (n:Nat) (as:gu) (us:ik) (env env':DE0) (σ:St) (Q:St->Hp->Prop),Ok K G H0 W env σ H->PtsOk K G W H ps as us->(∀(m:Nat) (a:Addr),as[m]?=some a->D[n+m]?=some a) ->
  we r ix ps n env=some env'->(∀I,Ok K G H0 W env' I H->Q I H)->gIs ix us σ H Q
 | [],[],_,_,_,_,_,σ,Q,ok,.nil,_,e,k=>by cases e;exact⟨rfl,k σ ok⟩
 | i::ix,.d d::ps,n,as,_,env,env',σ,Q,ok,.d (v:=v) (us:=us) q t,ha,e,k =>
   ⟨v,us,rfl,zpp J ix ps n as us _ env' _ Q (ok.put (s:=.sh d) (v:=v) q λ_ _ _ _ _ _ o=>o.elim) t ha e k⟩
 | i::ix,.o ds::ps,n,_,_,env,env',σ,Q,ok,.o (a:=a) (as:=as) (us:=us) hW hl q t,ha,e,k =>
   ⟨.ref a,us,rfl,zpp J ix ps (n+1) as us _ env' _ Q (ok.put (s:=.al r n) (v:=.ref a) ⟨p,D,a,J,by simpa using ha 0 a rfl,rfl⟩ λ_ _ _ _ _ _ o=>o.elim) t (λm b R=>by have:=ha (m+1) b (by simpa using R);rwa [show n+1+m=n+(m+1) by lia]) e k⟩
variable{X:Cx}{es:g9}{x:Str}{p' p1:Pos}{i:Nat}
theorem zw8{Nn Cn:gj}{k:Nat}(h:PGs X es (gIs ix))(an:Ats Nn Cn X)(R:Nn[i]?=some x:=by rfl)(f:X.calm=true:=by rfl)(g:(assignEach es X.env).length=ix.length:=by rfl)(S:(assignEach es X.env).findIdx? (·.1)=none:=by rfl)(j:swapsWithSole [.Tuple es k p1] (.Name x p') pos.line X.env=pure false:=by rfl)(J:swappedStores [.Tuple es k p1] (.Name x p') X.env=pure none:=by rfl)(h1:(assignEach [.Tuple es k p1] X.env).map (·.2)=[assign (.Tuple es k p1) X.env]:=by rfl):DSx X G H0 (.Assign [.Tuple es k p1] (.Name x p') pos) (um i ix):=⟨by
 have pg:PG X (.Tuple es k p1) (λv σ H Q=>∃a xs,v=.ref a/\H a=some (.lst xs)/\xs.length=ix.length/\gIs ix xs σ H Q):=by
  intro pins s σ H v u Q I r J;obtain⟨a,xs,D,U,V,J⟩:=J;subst D;cases r;obtain⟨its,c,l,B⟩:=I.list (.inl (.inl U));refine zj4 (I.ok.hd f) l.isList (by simp[g,<-V,c.length]) S λh' t=>?_;have w:Inv X pins σ H { s with heap:=h' }:=I.kept (t':=s.toks) λb o e=>t b o (bx (az e)) e;exact h pins _ σ H xs _ Q w (by simpa using c) J
 refine(yk ((an.a R).pe) pg j J h1).imp λDn σ H ⟨W,env,fl,env',ok,q,kk⟩=>?_;unfold um at q;split at q;case h_2=>cases q
 rename_i r ps U;split at q;case isTrue=>cases q
 cases D:we r ix ps 0 env with
 | none=>rw[D] at q;cases q
 | some e' =>
   rw[D] at q;cases q;obtain⟨v,y,p,as,us,rfl,C,E,z,A,d⟩:=ok.slot i _ U;have V:∀(ix:g0) (ps:kb) (n:Nat) (env e':DE0),we r ix ps n env=some e'->ix.length=ps.length:=λix=>by
    induction ix with
    | nil=>intro ps n env e' e;cases ps with | nil=>rfl | cons p _=>cases p <;> cases e
    | cons i ix ih =>
      intro ps n env e' e;cases ps with
      | nil=>cases e
      | cons p ps=>cases p <;> exact congrArg Nat.succ (ih ps _ _ _ e)
   exact⟨_,y,p,us,rfl,A,by rw[<-d.length];exact(V _ _ _ _ _ D).symm,zpp (z r rfl) ix ps 0 as us env _ σ _ ok d (λm a F=>by rwa [jv]) D λY Z=>kk W Y H Step.refl Z⟩⟩
end L2
namespace L2
open PySem PySem.Spec PyProof.Rows
def dPow:D->D->ka | .int i,.int j=>if i=10/\0<=j/\j<=30 then some (.int (i ^ j.toNat)) else none | _,_=>none
variable{X:Cx}{G:Gd}{H0:Hp}
theorem z3w:OpD X G H0 (rI CPow λi j=>.int (i ^ j.toNat)) dPow:=od_I λI J d h=>by
 unfold dPow at h;split at h
 ·rename_i i j
  split at h;case isFalse=>cases h
  rename_i D;cases h;obtain⟨rfl,R,h1⟩:=D;exact⟨10,j,rfl,rfl,by unfold CPow;lia,rfl⟩
 ·cases h
variable{f:Addr}{g:FS}{pos:Pos}
theorem yf{a b:Expr}{f g:FE}(D:DEx X G H0 a f)(I:DEx X G H0 b g):DEx X G H0 (.BinOp a .Pow b pos) (fBin dPow f g):=wj z19 z3w D I
def celN(N:gj)(sc:Scope):gj:=N.filter λu=>sc.names.lookup u==some .cell
def scB(N ps:gj)(sc:Scope):Bool:=decide (sc.kind=.function) && !sc.isCoroutine && !sc.isGenerator && decide N.Nodup && decide (N.take ps.length=ps) && decide (∀y∈sc.names,y.2≠.free) && N.all λx=>okN x && (sc.names.lookup x==some .local || sc.names.lookup x==some .cell)
variable{N ps:gj}{sc:Scope}
theorem nr(h:scB N ps sc=true):o5 N ps sc/\∀x∈N,Loc sc x/\(x==("__debug__" : Str))=false/\(x==("__classdict__" : Str))=false:=by
 unfold scB at h;simp only[ek,decide_eq_true_eq,j6,gk] at h;obtain⟨⟨⟨⟨⟨⟨h1,h2⟩,R⟩,S⟩,I⟩,U⟩,V⟩:=h;have J:∀x∈N,Loc sc x/\(x==("__debug__" : Str))=false/\(x==("__classdict__" : Str))=false:=λx D=>by
  obtain⟨a,b⟩:=V x D;have a:=q9 a;rcases Bool.or_eq_true _ _ ▸ b with b | b
  ·exact⟨.inl (sy b),a⟩
  ·exact⟨.inr (sy b),a⟩
 exact⟨⟨h1,h2,R,S,I,λx D=>(J x (by rw[<-I] at D;exact List.mem_of_mem_take D)).1,U⟩,J⟩
variable{P:Program}{w:World}{K:h8}{mg:Str->gs}{base:Heap}{CX:CXT}{qual:Str}{cdv:Value}{A:Around}{outer:g8}{s:Shared}{H:Hp}{E:XK}
theorem pv(h:scB N ps sc=true):Ats N (celN N sc) (cxOf CX P w K mg base N qual sc f cdv A outer s H E) :=
 ⟨rfl,λi x e=>let z:=(nr h).2 x (ay e);⟨e,z.1.elim .inl λq=>.inr (.inl q),z.2.1,z.2.2⟩,λu D=>by
  obtain⟨_,h2⟩:=i4.mp D;exact .inl (sy h2)⟩
theorem pq(h:scB N ps sc=true):Tos N (cxOf CX P w K mg base N qual sc f cdv A outer s H E) :=
 ⟨λi x e=>⟨(nr h).1.nd,e,((nr h).2 x (ay e)).1,.inl rfl⟩⟩
variable{i:Nat}{x:Str}
theorem Tos.pg(t:Tos N X)(h:N[i]?=some x:=by rfl):PG X (.Name x pos) (ml i):=zsv (t.t h).nd (t.t h).n (t.t h).l (t.t h).f
variable{e:Expr}{p':Pos}{F:FA}
theorem Tos.psF(t:Tos N X)(D:DFx X G H0 e F)(h:N[i]?=some x:=by rfl)(I:swapsWith e (some (.Name x p')) pos.line X.env=pure false:=by rfl):PS X (.Assign [.Name x p'] e pos) (tAsg (tDF X.K G H0 F) (ml i)):=zsw (t.t h).nd (t.t h).n (t.t h).l D.out I (t.t h).f
variable{us:gr}
theorem us1(h:us.length=1):∃a,us=[a]:=by
 match us,h with
 | [a],_=>exact⟨a,rfl⟩
theorem us2(h:us.length=2):∃a b,us=[a,b]:=by
 match us,h with
 | [a,b],_=>exact⟨a,b,rfl⟩
theorem us3(h:us.length=3):∃a b c,us=[a,b,c]:=by
 match us,h with
 | [a,b,c],_=>exact⟨a,b,c,rfl⟩
theorem us4(h:us.length=4):∃a b c d,us=[a,b,c,d]:=by
 match us,h with
 | [a,b,c,d],_=>exact⟨a,b,c,d,rfl⟩
theorem us5(h:us.length=5):∃a b c d e,us=[a,b,c,d,e]:=by
 match us,h with
 | [a,b,c,d,e],_=>exact⟨a,b,c,d,e,rfl⟩
def Def(K:h8)(mg:Str->gs)(st:Stmt)(x:Str)(ps:gj):Prop:=∃f fd,Fun K x x st f fd/\Binds K fd ps []/\mg x=some (.ref f)
def Mef(K:h8)(C:Addr)(st:Stmt)(x qual:Str)(ps:gj):Prop:=∃f fd,Fun K x qual st f fd/\Binds K fd ps []/\Meth K C x f
variable{st:Stmt}{k n ar:Nat}
theorem jg(T:Def K mg st x ps)(N:gj)(D:∀ {f:Addr} {cdv:Value} {A:Around} {outer:g8} {s:Shared} {H:Hp} {E:XK} {G:Gd} {H0:Hp},Room k (A.deeper (envOfC x (f9 st) s.heap.objs.size f cdv)) ->
   Ats N (celN N (f9 st)) (cxOf CX0 P w K mg base N x (f9 st) f cdv A outer s H E).nox->Tos N (cxOf CX0 P w K mg base N x (f9 st) f cdv A outer s H E).nox->DBx (cxOf CX0 P w K mg base N x (f9 st) f cdv A outer s H E).nox G H0 (lg st) g)(h:scB N ps (f9 st)=true:=by decide +kernel)(I:okN x=true:=by decide +kernel)(J:n=N.length:=by rfl)(R:ar=ps.length:=by rfl):Cal P w K mg base CX0 x (k+1) (dSp K (runD n ar g)):=by
 obtain⟨f,fd,F,b,m⟩:=T;exact⟨f,fd,ps,fn_D F (nr h).1 J R λcdv A outer s H E G H0 S=>D S (pv h).nox (pq h).nox,m,F.kp,b,(q9 I).1⟩
theorem z5w(T:Def K mg st x ps)(N:gj)(D:∀ {f:Addr} {cdv:Value} {A:Around} {outer:g8} {s:Shared} {H:Hp} {E:XK} {G:Gd} {H0:Hp},Room k (A.deeper (envOfC x (f9 st) s.heap.objs.size f cdv)) ->
   Ats N (celN N (f9 st)) (cxOf CX0 P w K mg base N x (f9 st) f cdv A outer s H E).nox->Tos N (cxOf CX0 P w K mg base N x (f9 st) f cdv A outer s H E).nox->DBx (cxOf CX0 P w K mg base N x (f9 st) f cdv A outer s H E).nox G H0 (lg st) g)(h:scB N ps (f9 st)=true:=by decide +kernel)(I:okN x=true:=by decide +kernel)(J:n=N.length:=by rfl)(R:ar=ps.length:=by rfl):Cal P w K mg base CX0 x (k+1) (fSp K (runF n ar g)):=by
 obtain⟨f,fd,F,b,m⟩:=T;exact⟨f,fd,ps,fn_F F (nr h).1 J R λcdv A outer s H E G H0 S=>D S (pv h).nox (pq h).nox,m,F.kp,b,(q9 I).1⟩
abbrev Bd(P:Program)(w:World)(K:h8)(mg:Str->gs)(base:Heap)(N:gj)(qual:Str)(st:Stmt)(k:Nat)(g:FS):Prop:=∀ {f:Addr} {cdv:Value} {A:Around} {outer:g8} {s:Shared} {H:Hp} {E:XK} {G:Gd} {H0:Hp},Room k (A.deeper (envOfC qual (f9 st) s.heap.objs.size f cdv)) ->
   Ats N (celN N (f9 st)) (cxOf (CXr P w) P w K mg base N qual (f9 st) f cdv A outer s H E)->Tos N (cxOf (CXr P w) P w K mg base N qual (f9 st) f cdv A outer s H E)->DBx (cxOf (CXr P w) P w K mg base N qual (f9 st) f cdv A outer s H E) G H0 (lg st) g
theorem Def.cal{sp:Sp}(T:Def K mg st x ps)(D:okN x=true)(h:∀f fd,Fun K x x st f fd->FnOk P w K mg base CX k f fd ps sp):Cal P w K mg base CX x k sp:=by
 obtain⟨f,fd,F,b,m⟩:=T;exact⟨f,fd,ps,h f fd F,m,F.kp,b,(q9 D).1⟩
variable{p:Nat}
theorem pi(T:Def K mg st x ps)(N:gj)(D:Bd P w K mg base N x st k g)(h:scB N ps (f9 st)=true:=by decide +kernel)(I:okN x=true:=by decide +kernel)(J:n=N.length:=by rfl)(R:p+ar=ps.length:=by rfl):Cal P w K mg base (CXr P w) x (k+1) (qSp K (runQ n p ar g) (xQ n p ar g)) :=
 T.cal I λf fd F=>z3q F (nr h).1 J R λcdv A outer s H E G H0 S=>D S (pv h) (pq h)
theorem z0h(T:Def K mg st x ps)(N:gj)(D:Bd P w K mg base N x st k g)(h:scB N ps (f9 st)=true:=by decide +kernel)(I:okN x=true:=by decide +kernel)(J:n=N.length:=by rfl)(R:p+ar=ps.length:=by rfl):Cal P w K mg base (CXr P w) x (k+1) (lSp K (runL n p ar g) (xL n p ar g)) :=
 T.cal I λf fd F=>z0e F (nr h).1 J R λcdv A outer s H E G H0 S=>D S (pv h) (pq h)
theorem z5x(T:Def K mg st x ps)(N:gj)(D:Bd P w K mg base N x st k g)(h:scB N ps (f9 st)=true:=by decide +kernel)(I:okN x=true:=by decide +kernel)(J:n=N.length:=by rfl)(R:ar=ps.length:=by rfl):Cal P w K mg base (CXr P w) x (k+1) (gSp K (runG n ar g) (xG n ar g)) :=
 T.cal I λf fd F=>z5v F (nr h).1 J R λcdv A outer s H E G H0 S=>D S (pv h) (pq h)
variable{C:Addr}{cn:Str}
theorem x6(D:Cl K cn C)(c:Cls K C)(T:Mef K C st x qual ps)(N:gj)(I:Bd P w K mg base N qual st k g)(h:scB N ps (f9 st)=true:=by decide +kernel)(J:n=N.length:=by rfl)(R:p+ar=ps.length:=by rfl):MCal P w K mg base cn x (k+1) (qSp K (runQ n p ar g) (xQ n p ar g)):=by
 obtain⟨f,fd,F,b,m⟩:=T;exact⟨C,f,fd,ps,c,m,z3q F (nr h).1 J R λcdv A outer s H E G H0 S=>I S (pv h) (pq h),b,D⟩
theorem vt(D:Cl K cn C)(c:Cls K C)(T:Mef K C st x qual ps)(N:gj)(I:Bd P w K mg base N qual st k g)(h:scB N ps (f9 st)=true:=by decide +kernel)(J:n=N.length:=by rfl)(R:p+ar=ps.length:=by rfl):MCal P w K mg base cn x (k+1) (lSp K (runL n p ar g) (xL n p ar g)):=by
 obtain⟨f,fd,F,b,m⟩:=T;exact⟨C,f,fd,ps,c,m,z0e F (nr h).1 J R λcdv A outer s H E G H0 S=>I S (pv h) (pq h),b,D⟩
theorem z5y(D:Cl K cn C)(I:mg cn=some (.ref C))(J:PySem.W.makesIn K C=true)(kp:PySem.W.keepIn K (.ref C)=true)(T:Mef K C st "__init__" qual ps)(N:gj)(R:Bd P w K mg base N qual st k g)(h:scB N ps (f9 st)=true:=by decide +kernel)(S:okN cn=true:=by decide +kernel)(U:n=N.length:=by rfl)(V:p+ar=ps.length:=by rfl) :
  KCal P w K mg base cn (k+1) (lSp K (runL n p ar g) (xL n p ar g)):=by
 obtain⟨f,fd,F,b,m⟩:=T;exact⟨C,f,fd,ps,⟨J,m.at_,m.fn,kp⟩,z0e F (nr h).1 U V λcdv A outer s H E G H0 Y=>R Y (pv h) (pq h),I,b,D,(q9 S).1⟩
theorem z5z(N:gj)(D:∀ {f:Addr} {cdv:Value} {A:Around} {outer:g8} {s:Shared} {H:Hp} {E:XK} {G:Gd} {H0:Hp},Room k (A.deeper (envOfC x (f9 st) s.heap.objs.size f cdv)) ->
   Ats N (celN N (f9 st)) (cxOf CX0 P w K mg base N x (f9 st) f cdv A outer s H E).nox->Tos N (cxOf CX0 P w K mg base N x (f9 st) f cdv A outer s H E).nox->DBx (cxOf CX0 P w K mg base N x (f9 st) f cdv A outer s H E).nox G H0 (lg st) g)(h:scB N ps (f9 st)=true:=by decide +kernel)(I:n=N.length:=by rfl)(J:ar=ps.length:=by rfl):∀f fd,Fun K x x st f fd->FnOk P w K mg base CX0 (k+1) f fd ps (dSp K (runD n ar g)) :=
 λf fd F=>fn_D F (nr h).1 I J λcdv A outer s H E G H0 R=>D R (pv h).nox (pq h).nox
variable{h:Heap}{oc:Value}{od an:Option Addr}{osl:Array gs}
theorem law_mk{fa:Addr}{s:Str}{m:i0->ka}{kV I R cdv ct:Value}(X:K.In h)(G:h.Ns mainGlobals mg)(J:mg x=some (.ref fa))(a:PySem.W.nsIn K mainGlobals x=some (some (.ref f)))(l:K.lookup f=some ⟨oc,od,.func (PySem.W.fnOf x x (rg st) (lg st) (f9 st) .none kV I R an cdv ct),osl⟩)(c:PySem.W.codeIn K cdv x=true)(k':PySem.W.keepIn K (.ref f)=true)(U:∀v:Value,bindArgs (PySem.W.fnOf x x (rg st) (lg st) (f9 st) .none kV I R an cdv ct) ⟨[v],[]⟩=pure [(s,v)])(F:∀base f fd,Fun K x x st f fd->FnOk P w K mg base CX0 k f fd [s] (dSp K m))(good:∀S:g7,S.length<=63->m [.lst (S.map D.int)]=some (.bl true)) :
  ∃fd:FuncData,(∀(t:Shared) (v:Value),BindsTo t fd ⟨[v],[]⟩ [(s,v)])/\∀base:Heap,K.In base->base.Ns mainGlobals mg->FnOk P w K mg base CX0 k fa fd [s] (zqr K):=by
 have e:=J.symm.trans (j9 X G a);cases e;exact⟨_,λt v=>.of_eq (U v),λbase _ _=>z5l (F base _ _ (zth l c k')) good⟩
theorem walkD{l:PySem.W.OpenLaw}{q:Program}{D:gj}{R:(Str->gs)->Heap->Prop}{J:World->Heap->Prop}{d:DefRec}{K:Params->h8}{s:Str}(S:Room k callerA)(U:l.most=some 63)(I:d.params.defaults=[])(V:∀(w:World) (h:Heap),J w h->(K w.params).In h)(F:∀(w:World) (mg:Str->gs) (fa:Addr) (h:Heap),(K w.params).In h->h.Ns mainGlobals mg->mg d.name=some (.ref fa) ->
   ∃fd:FuncData,(∀(t:Shared) (u:Value),BindsTo t fd ⟨[u],[]⟩ [(s,u)])/\∀base:Heap,(K w.params).In base->base.Ns mainGlobals mg->FnOk l.prog w (K w.params) mg base CX0 k fa fd [s] (zqr (K w.params))) :
  PySem.W.WalkO q D R J l.row.toRowW d [] (λf vs=>PySem.call f vs) :=
 zzp (n:=63) (k:=k) (x:=s) (CX:=λ_=>CX0) (sp:=λw=>zqr (K w.params)) U (by decide) I S V F (λ_ _ a Y Z _ b=>⟨a,Y,rfl,b,Z,λ_=>rfl⟩) λ_ _ _ _ _ z=>z
theorem def_mk{kV D I cdv ct:Value}(X:K.In h)(G:h.Ns mainGlobals mg)(a:PySem.W.nsIn K mainGlobals x=some (some (.ref f)))(l:K.lookup f=some ⟨oc,od,.func (PySem.W.fnOf x x (rg st) (lg st) (f9 st) .none kV D I an cdv ct),osl⟩)(c:PySem.W.codeIn K cdv x=true)(k:PySem.W.keepIn K (.ref f)=true)(J:∀us:gr,us.length=ps.length->bindArgs (PySem.W.fnOf x x (rg st) (lg st) (f9 st) .none kV D I an cdv ct) ⟨us,[]⟩=pure (ps.zip us)):Def K mg st x ps :=
 ⟨f,_,zth l c k,.all J,j9 X G a⟩
theorem exc_mk{c:Str}(X:K.In h)(G:h.Ns mainGlobals mg)(a:PySem.W.nsIn K mainGlobals c=some (some (.ref C)))(b:PySem.W.excIn K C VEs "ValueError.__new__" = true)(d:okN c=true):Exc K mg c:=⟨C,a,b,j9 X G a,(q9 d).1⟩
theorem con_mk{z:Int}{t:Tok}(X:K.In h)(G:h.Ns mainGlobals mg)(a:PySem.W.nsIn K mainGlobals x=some (some (.int z t))):∃t,mg x=some (.int z t):=⟨t,j9 X G a⟩
theorem mef_mk{kV D I cdv ct:Value}(a:PySem.W.findIn K (.ref C) x=some (some (.ref f)))(l:K.lookup f=some ⟨oc,od,.func (PySem.W.fnOf x qual (rg st) (lg st) (f9 st) .none kV D I an cdv ct),osl⟩)(c:PySem.W.codeIn K cdv qual=true)(k:PySem.W.keepIn K (.ref f)=true)(i:PySem.W.isFn K (.ref f)=true)(J:∀us:gr,us.length=ps.length->bindArgs (PySem.W.fnOf x qual (rg st) (lg st) (f9 st) .none kV D I an cdv ct) ⟨us,[]⟩=pure (ps.zip us)):Mef K C st x qual ps :=
 ⟨f,_,zth l c k,.all J,a,i,k⟩
def ExcO(o:Obj)(C:Addr):Prop:=∃vs,o.cls=.ref C/\o.data=.fields vs/\vs[2]?=some .none
theorem znb:entryFor table "proto.unchain" = some Builtin.«proto.unchain»:=entryFor_of_fast (by kernel_rfl)
variable{E:Value->Shared->Prop}{oc:Obj}{prog:Program}
theorem zse{α:Type}{x c:Addr}{ox:Obj}{D:ic}{Q:α->Shared->Prop}(J:A.handled=some (.ref c))(R:s.heap.get? c=some oc)(S:ExcO oc C)(I:s.heap.get? x=some ox)(U:ox.data=.fields D)(h2:2<D.size)(V:c≠x)(h:E (.ref x) { s with heap:=s.heap.update x (Obj.mapFields (·.setIfInBounds 2 (.ref c))) }):wpAny (model prog w) A (raiseNew (.ref x):Sem α) Q E s:=by
 refine wpAny_bind (wpAny_handled ?_);rw[J];dsimp only;rw[if_pos (by simp[V])];obtain⟨a,b,Y,Z⟩:=S;refine wpAny_bind (wpAny_holding (wpAny_runValue (codeAny_builtin znb ?_)));refine wpAny_bind (wpAny_field R Y Z ?_);refine wpAny_bind (wpAny_pure (wpAny_pure ?_));refine wpAny_bind ?_;refine wpAny_bind (wpAny_load I ?_);rw[U];dsimp only;rw[if_pos h2];exact wpAny_update I (wpAny_throw h)
theorem zpq{it:Addr}{x left step:Int}{c:Addr}{Q:gs->Shared->Prop}(R:A.handled=some (.ref c))(J:s.heap.get? c=some oc)(S:ExcO oc C)(D:IsRangeIter s.heap it x left step)(I:left<=0)(U:∀h',Heap.ExtBut it s.heap h'->Q none { s with heap:=h' }):wpAny (model prog w) A (pyNext (.ref it)) Q E s:=by
 have hT:s.TypeIs (.ref it) "range_iterator":=⟨_,D,rfl⟩;refine wpAny_bind (wpAny_attempt (wpAny_callSpecial?_slot (name:=Str.ofString "__next__") hT F.slot_range_iterator_next
  (wpAny_call_entry F.slot_range_iterator_next hT F.entry_range_iterator_next ?_ (F.args_range_iterator_next_1 _))))
 show wpAny _ _ (field (.ref it) 0 >>= _) _ _ s;refine wpAny_bind (wpAny_field D rfl (x:=rawInt x) rfl ?_);show wpAny _ _ (field (.ref it) 1 >>= _) _ _ s;refine wpAny_bind (wpAny_field D rfl (x:=rawInt left) rfl ?_);refine wpAny_bind (wpAny_field D rfl (x:=rawInt step) rfl ?_);show wpAny _ _ (if left<=0 then _ else _) _ _ s;rw[if_pos I];refine wpAny_bind (wpAny_rule ?_);refine wpAny_bind ?_;refine wpAny_bind ?_;refine wpAny_bind (m:=firstArgMember _ _) (wpAny_of_eq (a:=Value.none) (by first | rfl | (simp only[firstArgMember];rfl)) ?_);refine wpAny_newObj_type ?_ (by size_fits);refine zse (show A.in1.handled=some (.ref c) from R) (ao _ (ao _ J)) S (cb _ rfl) rfl (by simp;lia) (bx (by rw[i3];exact gf (az J))) ?_;refine wpAny_bind (wpAny_isInstance (T:="StopIteration") (b:=true) ⟨_,fo _ (cb _ rfl) (by rfl),rfl⟩ isSubtype_stop ?_);refine wpAny_pure (U _ λb o V e=>?_);rw[cf _ _ (λz=>absurd (z ▸ az e) (by rw[i3];exact Nat.not_lt.mpr (o8 _)))];exact ao _ (ao _ e)
end L2
namespace L2
open PySem PySem.Spec PyProof.Rows PySem.W
structure ECls (K:h8) (C:Addr):Prop where
 ga:PySem.W.findIn K (.ref C) "__getattribute__" = some (some (.builtin "BaseException.__getattribute__"))
 hk:PySem.W.findIn K (.ref C) "__getattr__" = some none
 fd:PySem.W.findObj K C none "__class__" = some (.bind (.builtin "getset_descriptor.__get__") (.builtin "object.__class__"))
 ob:PySem.W.mroIn K C (.type "object")=some true
 be:PySem.W.mroIn K C (.type "BaseException")=some true
variable{K:h8}{w:World}{A:Around}{E:Value->Shared->Prop}{s:Shared}{x:Str}{C:Addr}{Q:Unit->Shared->Prop}
theorem zui{prog:Program}{x:Addr}{ox:Obj}{Q:gs->Shared->Prop}(c:ECls K C)(X:K.In s.heap)(I:PySem.W.InstAt s.heap x ox C none)(h:Q (some (.ref C)) { s with toks:=s.toks+1 }):wpAny (model prog w) A (getAttr? (.ref x) "__class__") Q E s:=by
 obtain⟨D,g,d,t,os⟩:=s;have J:=I.type (M:=model prog w);have R:=looks_findIn (M:=model prog w) X c.ga;have S:=looks_findIn (M:=model prog w) X c.hk;have U:=looks_find (M:=model prog w) X I c.fd;have V:=looks_mroIn (M:=model prog w) X c.be;refine wpAny_bind (wpAny_mkText (wpAny_bind (wpAny_attempt (wpAny_holding (wpAny_bind (J.at (wpAny_bind (R.at ?_))))))));refine wpAny_bind (m:=hookBefore _) (S.at ?_);refine wpAny_bind (wpAny_attempt (wpAny_holding ?_));refine wpAny_bind (wpAny_pure (wpAny_call ?_));refine codeAny_call_builtin F.excAttr_ValueError.ga.plain F.entry_bexc_ga ?_;have Y:Looks (model prog w) D (isInstance (.ref x) (.type "BaseException")) true:=J.andThen V;refine wpAny_bind (Y.at ?_);repeat (first | wp_step | assumption)
 refine wpAny_loadPart_at I.at_ ?_;rw[I.cls];refine wpAny_pure (wpAny_bind (U.at ?_));refine wpAny_bind (wpAny_holding (wpAny_call (class_get (s:=⟨D,g,d,t+1,os⟩) (ox:=ox) (od:=none) X I c.ob ?_)));exact wpAny_pure (handed_on rfl (wpAny_pure h))
def Exo(o:Obj)(C:Addr):Prop:=ExcO o C/\o.dict=none
variable{h:Heap}{ea:Addr}{o:Obj}
theorem Exo.inst(e:h.get? ea=some o)(x:Exo o C):PySem.W.InstAt h ea o C none:=by
 obtain⟨⟨vs,h1,h2,_⟩,D⟩:=x;exact⟨e,h1,by unfold notCls;rw[h2],by rw[D];trivial⟩
theorem zw9(c:ECls K C):KitX K (.ref ea) (.ref C) (λh=>∃ox,PySem.W.InstAt h ea ox C none):=by
 obtain⟨Y,D,_⟩:=Option.bind_eq_some_iff.mp c.fd;unfold clsIn at D;split at D;case h_2=>cases D
 rename_i Z d' S U R;exact⟨λ_ _ _ ⟨_,I⟩=>I.type,λ_ _ X _ a b d s' k q=>by
   exact wpAny_bind (wpAny_loadPart (k _ _ (X _ _ R)) (wpAny_pure q)),
  λh V dd its n sl X J=>Bool.eq_false_iff.mpr λq=>by
   have e:C=V:=Value.ref.inj (beq_iff_eq.mp q);subst e;have z:=(X _ _ R).symm.trans J
   (injection z with z;injection z with _ _ z;cases z),
  λX ⟨_,I⟩ k=>zui c X I k⟩
structure Hd (ea C:Addr) (X:Cx):Prop where
 hh:X.A.handled=some (.ref ea)
 ob:∃o,X.s₀.heap.get? ea=some o/\Exo o C
 h0:X.H₀ ea=none
 nf:ea∉X.fs
 nx:ea∉X.ex
variable{X:Cx}{pins:ia}{σ:St}{H:Hp}
theorem Hd.at(h:Hd ea C X)(I:Inv X pins σ H s):∃o,s.heap.get? ea=some o/\Exo o C/\H ea=none :=
 let ⟨o,e,c⟩:=h.ob;⟨o,I.base.keep ea o e h.h0 h.nf h.nx,c,I.base.free ea o e h.h0 h.nx⟩
theorem Hd.comp{N':gj}{sc:Scope}{cl:List (Str×Addr)}{D:Addr}{fp:gu}(h:Hd ea C X)(I:Inv X pins σ H s)(J:∀b∈fp,FpOk X pins H b):Hd ea C (i8 X x N' sc cl D s H fp):=by
 obtain⟨S,R,_⟩:=h.ob;obtain⟨o,e,c,n⟩:=h.at I;have lt:=az R;refine⟨h.hh,⟨o,e,c⟩,n,λz=>?_,λz=>?_⟩
 ·rcases b7.mp (I.stkSub ea z) with q | q
  ·exact absurd (aw lt (q ▸ I.ok.above)) (fj _)
  ·exact h.nf q
 ·rcases(J ea z).2.2.2.1 with q | q
  ·exact h.nx q
  ·exact absurd (aw lt q) (fj _)
variable{P:Program}
theorem zpr{tg:Expr}(it:Addr)(lo:Int)(n:Nat):ur (Hd ea C) P w K tg (Itr lo n) [it] it (λi h=>IsRangeIter h it (lo+(i:Nat)*1) ((n:Int)-(i:Nat)) 1) where
 mem:=by simp
 obj:=(zh7 (P:=P) (w:=w) (K:=K) (tg:=tg) it lo n).obj
 keep:=(zh7 (P:=P) (w:=w) (K:=K) (tg:=tg) it lo n).keep
 item:=by
  intro X hP j k V i pins s σ H E I S st U;obtain⟨Y,Z,l,a,d,f⟩:=S it (by simp);have U:i<n:=U;refine wpAny_pyNext_range_item st (by lia) λh' D g=>?_;have m:Inv X pins σ H { s with heap:=h',toks:=s.toks+1 }:=I.turned (λb o J e=>g.extBut b o J e) Y Z a d f;have p:lo+((i+1:Nat):Int)*1=lo+(i:Int)*1+1:=by lia
  have q:(n:Int)-((i+1:Nat):Int)=(n:Int)-(i:Int)-1:=by lia
  have R:IsRangeIter h' it (lo+((i+1:Nat):Int)*1) ((n:Int)-((i+1:Nat):Int)) 1:=by rw[p,q];exact D
  refine⟨_,rfl,zvq (s:={ s with heap:=h',toks:=s.toks+1 }) (n:="range_iterator") R rfl rfl (by decide) ⟨.int (lo+i),H,m,⟨s.toks,?_⟩,⟨rfl,rfl⟩,R,λb J=>(S b J).1⟩⟩;rw[Int.mul_one]
 done:=by
  intro X hP j k V i pins s σ H E I S st U;obtain⟨Y,Z,l,a,d,f⟩:=S it (by simp);obtain⟨o,e,⟨c,_⟩,_⟩:=V.at I;exact zpq V.hh e c st (by have:n<=i:=U;lia) λh' r=>⟨rfl,I.turned (t':=s.toks) (λb o J e=>r b o J e) Y Z a d f⟩
 self:=(zh7 (P:=P) (w:=w) (K:=K) (tg:=tg) it lo n).self
variable{a e:Expr}
def fIsx(ea:Addr)(i:Nat)(b:Bool):FE:=λe=>match e[i]? with | some (some (.sh (.exc a)))=>if a=ea then some (.bl b,e) else none | _=>none
variable{b:Expr}
theorem zxa(J:Hd ea C X)(R:ECls X.K C):m7 X (.builtin "isinstance") (λxs H Q=>∃v u b,xs=[.ref ea,v]/\RelV v u/\(∀D,RelV v D->D=u)/\PySem.W.kitOne X.K (.ref C) u=some b/\Q (.bl b) H):=by
 intro pins s σ H xs us Q I r h;obtain⟨v,u,b,rfl,_,S,e,q⟩:=h;obtain⟨U,D,rfl,V,rt⟩:=zvs r;cases (show U=Value.ref ea from V);cases S D rt;obtain⟨o,Y,Z,_⟩:=J.at I;exact d6 (zw9 R) I.kIn ⟨o,Z.inst Y⟩ e (λz=>nomatch z) λtk=>⟨.bl b,H,I.tok tk,rfl,q⟩
variable{b:Bool}{Nn Cn:gj}{i:Nat}{cn:Str}{G:Gd}{H0:Hp}{pos p' p1 p2:Pos}
theorem zym{v:V}{u:Value}(Z:Hd ea C X)(c:ECls X.K C)(e:PE X (.Name cn p2) (tC v))(f:RelV v u)(h:∀S,RelV v S->S=u)(j:PySem.W.kitOne X.K (.ref C) u=some b)(an:Ats Nn Cn X)(U:Bn X "isinstance":=by walk_at "b")(D:Nn[i]?=some x:=by rfl)(Y:starEach [.Name x p1,.Name cn p2] X.env=(false,eval (.Name x p1) X.env)::starEach [.Name cn p2] X.env:=by rfl)(I:starEach [.Name cn p2] X.env=(false,eval (.Name cn p2) X.env)::starEach [] X.env:=by rfl)(J:(backTo pos (starEach [.Name cn p2] X.env)).any (·.1)=false:=by rfl) :
  DEx X G H0 (.Call (.Name "isinstance" p') [.Name x p1,.Name cn p2] [] pos) (fIsx ea i b) :=
 ⟨(xb (zxa Z c) U.g U.m zqn (md ((an.a D).pe) (md e og I) Y) (by decide) (by decide) Y J).imp λσ H Q l=>by
  obtain⟨W,env,d,env',ok,q,k⟩:=l;unfold fIsx at q;split at q
  ·rename_i p n
   split at q;case isFalse=>cases q
   rename_i R;subst R;cases q;obtain⟨s,o,r⟩:=ok.slot i _ n;obtain rfl:=Rep.exc_ r;exact⟨_,o,v,u,b,rfl,f,h,j,k W _ H Step.refl ok (.bl b)⟩
  ·cases q⟩
variable{g:FE}
theorem z3x{R:Addr}(U:Hd ea C X)(V:ECls X.K C)(Y:X.mg cn=some (.ref R))(Z:PySem.W.kitOne X.K (.ref C) (.ref R)=some b)(an:Ats Nn Cn X)(a:Gl X cn:=by walk_at "g")(D:(cn==("__debug__" : Str))=false:=by decide)(c:Bn X "isinstance":=by walk_at "b")(I:Nn[i]?=some x:=by rfl)(d:starEach [.Name x p1,.Name cn p2] X.env=(false,eval (.Name x p1) X.env)::starEach [.Name cn p2] X.env:=by rfl)(J:starEach [.Name cn p2] X.env=(false,eval (.Name cn p2) X.env)::starEach [] X.env:=by rfl)(S:(backTo pos (starEach [.Name cn p2] X.env)).any (·.1)=false:=by rfl) :
  DEx X G H0 (.Call (.Name "isinstance" p') [.Name x p1,.Name cn p2] [] pos) (fIsx ea i b):=zym U V (zss (v:=.ref R) a Y rfl D) rfl (λ_ z=>z) Z an c I d J S
theorem z0i:bootBuiltins "ValueError" = some (.type "ValueError"):=by decide +kernel
theorem z0j(S:Hd ea C X)(U:ECls X.K C)(V:PySem.W.kitOne X.K (.ref C) (.type "ValueError")=some b)(an:Ats Nn Cn X)(R:Bn X "ValueError":=by walk_at "b")(Y:Bn X "isinstance":=by walk_at "b")(D:Nn[i]?=some x:=by rfl)(Z:starEach [.Name x p1,.Name "ValueError" p2] X.env=(false,eval (.Name x p1) X.env)::starEach [.Name "ValueError" p2] X.env:=by rfl)(I:starEach [.Name "ValueError" p2] X.env=(false,eval (.Name "ValueError" p2) X.env)::starEach [] X.env:=by rfl)(J:(backTo pos (starEach [.Name "ValueError" p2] X.env)).any (·.1)=false:=by rfl) :
  DEx X G H0 (.Call (.Name "isinstance" p') [.Name x p1,.Name "ValueError" p2] [] pos) (fIsx ea i b):=zym S U (zst (v:=.ty "ValueError") R.g R.m z0i rfl) rfl (λ_ z=>z) V an Y D Z I J
def bTup:i0->ka | [.lst ds]=>some (.tup ds) | _=>none
theorem zxb:bootBuiltins "tuple" = some (.type "tuple"):=by decide +kernel
theorem z3y:qr X G H0 (λxs H Q=>∃p ys,xs=[.ref p]/\((SqL X.K H p ys/\∀l,H l=none->Q (.ref l) (upd H l (.tup ys)))\/(SqT X.K H p ys/\Q (.ref p) H))) bTup:=by
 intro W env σ H vs ds d Q ok r e k;unfold bTup at e;split at e
 ·cases e
  obtain⟨v,rfl,D⟩:=pk r;obtain⟨a,us,rfl,h,r⟩:=D.lst_;refine⟨a,us,rfl,.inl ⟨h.sq,λl I=>?_⟩⟩;have sm:Same H (upd H l (.tup us)):=wy I;exact k _ _ (Step.same sm) (ok.same sm) (.tup j8 (ok.reps (Step.same sm) r))
 ·cases e
variable{b:Expr}{F:FA}
theorem z0k(I:DAx X G H0 [e] F)(D:Bn X "tuple":=by walk_at "b")(J:starEach [e] X.env=(false,eval e X.env)::starEach [] X.env:=by rfl):DEx X G H0 (.Call (.Name "tuple" p') [e] [] pos) (d5 bTup F):=zqm zml z3y D.g D.m zxb I (by decide) (by decide) J rfl
abbrev Cx.hush(X:Cx)(A:Around)(p:ia):Cx:={ X with A:=A,calm:=false,pn:=p++X.pn }
variable{p:ia}
theorem Inv.hush(I:Inv X pins σ H s)(hA:A.frames=X.A.frames)(D:∀q∈p,s.heap.get? q.1=some q.2/\H q.1=none/\q.1≠X.env.locals/\q.1∉X.fs/\∀v,q.2.data≠.cell v):Inv (X.hush A p) pins σ H s :=
 ⟨⟨I.ok.mod,I.ok.kind,I.ok.glob,I.ok.blt,I.ok.above,I.ok.inj,I.ok.has,I.ok.cab,(λz=>nomatch z),hA.trans I.ok.frames,I.ok.stk,I.ok.exf,I.ok.bs,I.ok.bsz,I.ok.noex,I.ok.exfs,I.ok.funs,I.ok.frf⟩,I.os,I.bare,I.base,I.loc,I.cell,I.free,I.freeC,λq hq=>by
  rw[dh] at hq;rcases cw.mp hq with hq | hq
  ·exact D q hq
  ·exact I.pin q hq,I.hok,I.len⟩
theorem Inv.unhush(ok:X.Ok)(J:Inv (X.hush A p) pins σ H s):Inv X pins σ H s :=
 ⟨ok,J.os,J.bare,J.base,J.loc,J.cell,J.free,J.freeC,λq D=>J.pin q (by rw[dh];exact bw _ D),J.hok,J.len⟩
structure KOk (P:Program) (w:World) (K:h8) (mg:Str->gs) (base:Heap) (k:Nat) (f:Addr) (fd:FuncData) (ps:gj) (kd:Str->ka):Prop where
 len:ps.length=1
 run:∀(A:Around) (outer:g8) (s:Shared) (H:Hp) (ea C:Addr) (c:Str) (o:Obj) (d:D) (O:Addr->Prop) (Q:VK) (args:Args),Room k { A with handled:=none }->A.handled=some (.ref ea)->Env0 P w K mg base A outer s H->BindsTo s fd args (ps.zip [.ref ea]) ->
  s.heap.get? ea=some o->Exo o C->Cl K c C->H ea=none->ea∉frs outer->kd c=some d->(∀v H',Same H H'->Rep K H' (λa=>O a\/H a=none) d v->Q v H')->codeAny (model P w) A (.call (.ref f) args) (CR CX0 outer P w H s Q E0) s
abbrev cxH(P:Program)(w:World)(K:h8)(mg:Str->gs)(base:Heap)(N:gj)(qual:Str)(scope:Scope)(f:Addr)(cdv:Value)(A:Around)(outer:g8)(s:Shared)(H:Hp):Cx :=
 ((cxOf CX0 P w K mg base N qual scope f cdv { A with handled:=none } outer s H E0).nox).hush (A.deeper (envOfC qual scope s.heap.objs.size f cdv)) []
def runK(n:Nat)(g:Addr->Str->FS)(c:Str)(d:D):Prop:=∀ea,∃e',g ea c (je n [.exc ea])=some (.rt d,e')
variable{g:Addr->Str->FS}{st:Stmt}{N ps:gj}{k:Nat}{kd:Str->ka}{mg:Str->gs}{base:Heap}
theorem fn_K{qual:Str}{f:Addr}{fd:FuncData}{n:Nat}(F:Fun K x qual st f fd)(S:o5 N ps (f9 st))(T:n=N.length)(E:ps.length=1)(j:∀c d,kd c=some d->runK n g c d)(U:∀(cdv:Value) (A:Around) (outer:g8) (s:Shared) (H:Hp) (ea C:Addr) (c:Str) (G:Gd) (H0:Hp),(kd c).isSome=true->Cl K c C->Hd ea C (cxH P w K mg base N qual (f9 st) f cdv A outer s H)->DBx (cxH P w K mg base N qual (f9 st) f cdv A outer s H) G H0 (lg st) (g ea c)) :
  KOk P w K mg base (k+1) f fd ps kd:=by
 subst T;refine⟨E,λA outer s H ea C c o d O Q args X hh D hb ho hx hc hH l L hQ=>?_⟩;obtain⟨oc,od,kV,aa,pm,an,cdv,ct,osl,rfl,lk,m⟩:=F.ex;have hl:[V.ref ea].length=ps.length:=E.symm;have M:K.In s.heap:=D.mod.kin.keeps λb o e=>(D.bs b o e).1;have p:s.heap.NoLimit:=D.mod.nolimit.keeps λb o e=>(D.bs b o e).1;have Y:∀y∈ps.zip [Value.ref ea],(f9 st).names.lookup y.1=some .local\/((f9 st).names.lookup y.1=some .cell/\((cellsFrom (s.heap.objs.size+1) (f9 st).names []).lookup y.1).isSome=true):=λ⟨n,v⟩ hy=>by
  rcases S.par n (jp hy).1 with q | q
  ·exact .inl q
  ·exact .inr ⟨q,kt _ _ _ (.inl q)⟩
 refine codeAny_call_function (A:=A) X.depth (M _ _ lk) rfl S.co S.gen rfl (PySem.W.codeRec_of M m) (hb _ _ _ _ ?_);refine wpAny_newFunctionEnv_cells S.kind Y λenv he r x=>?_;subst he;refine⟨p.keeps x.toInCall.keep,codeAny_func ?_⟩;have e1:Env0 P w K mg base { A with handled:=none } outer s H:=⟨D.frames,D.mod,D.bs,D.bsz,D.funs,D.frf,D.hok,D.bare⟩;have I0:Inv (cxOf CX0 P w K mg base N qual (f9 st) f cdv { A with handled:=none } outer s H E0) [] (start N [.ref ea]) H r:=zn3 S rfl e1 hl (.cons rfl .nil) x;have I:Inv (cxH P w K mg base N qual (f9 st) f cdv A outer s H) [] (start N [.ref ea]) H r:=(I0.wish _).hush rfl λq hq=>absurd hq (by simp);have hD:Hd ea C (cxH P w K mg base N qual (f9 st) f cdv A outer s H):=⟨hh,⟨o,ho,hx⟩,hH,l,by simp[cxOf]⟩;obtain⟨e',hg⟩:=j c d L ea;have t:=(U cdv A outer s H ea C c (gd λa=>O a\/H a=none) H (by rw[L];rfl) hc hD).out [] r (start N [.ref ea]) H { nx:=λ_ H'=>Q .non H',rt:=Q } I
  ⟨NoW,_,_,e',t9 (K:=K) (O:=O) (.cons (.exc ea) .nil),hg,λW' R v H' st z rp=>hQ v H' z.stay (rp.mono (λ_ _ h=>h) λa us o h=>⟨o.1,h⟩)⟩
 refine wpAny_mono t (λfl s' Z=>?_) λe s' Z=>False.elim Z;have i:∀ {R:St} {H':Hp} {v:V} {u:Value},Inv (cxH P w K mg base N qual (f9 st) f cdv A outer s H) [] R H' s'->RelV v u->Q v H'->CE outer P w H s Q u s' :=
  λ{R H' v u} J B q=>⟨v,H',J.os,J.bare,J.base,J.hok,B,q⟩
 cases fl with
 | ret u =>
   obtain⟨v,R,H',J,B,q⟩:=Z;exact i J B q
 | next =>
   obtain⟨R,H',J,q⟩:=Z;exact i (v:=V.non) (u:=Value.none) J rfl q
 | brk =>
   obtain⟨_,_,_,q⟩:=Z;exact False.elim q
 | cont =>
   obtain⟨_,_,_,q⟩:=Z;exact False.elim q
def KCl(P:Program)(w:World)(K:h8)(mg:Str->gs)(base:Heap)(x:Str)(k:Nat)(kd:Str->ka):Prop :=
 ∃f fd ps,KOk P w K mg base k f fd ps kd/\mg x=some (.ref f)/\PySem.W.keepIn K (.ref f)=true/\Binds K fd ps []/\(x==("__debug__" : Str))=false
def fKd(ea:Addr)(c:Str)(kd:Str->ka)(i:Nat):FE:=λe=>match e[i]? with | some (some (.sh (.exc a)))=>if a=ea then(kd c).map λd=>(d,e) else none | _=>none
variable{c:Str}
theorem z0l{y:Str}{p:Pos}(Y:X.A.handled=some (.ref ea))(Z:(ea,o)∈X.pn)(b:Exo o C)(g:Cl X.K c C)(j:KCl X.prog X.w X.K X.mg X.base x k kd)(l:Room k { X.A with handled:=none })(an:Ats Nn Cn X)(m:Gl X x)(J:Nn[i]?=some y)(U:starEach [.Name y p1] X.env=(false,eval (.Name y p1) X.env)::starEach [] X.env)(R:(backTo pos (starEach [] X.env)).any (·.1)=false):DEx X G H0 (.Call (.Name x p) [.Name y p1] [] pos) (fKd ea c kd i):=⟨λpins s σ H Q I n=>by
 obtain⟨W,env,d,env',ok,q,k⟩:=n;obtain⟨f,fd,ps,F,t,B,E,S⟩:=j;unfold fKd at q;split at q;case h_2=>cases q
 rename_i a L;split at q;case isFalse=>cases q
 rename_i M;subst M;cases e2:kd c with
 | none=>rw[e2] at q;cases q
 | some d' =>
   rw[e2] at q;cases q;obtain⟨v',N,O⟩:=ok.slot i _ L;obtain rfl:=Rep.exc_ O;refine wpAny_Call_Name_kw (u4 I m t ?_ S);refine i6 (h₀:=X.base) I.ok.mod.kin B (thn ((md (an.a J).pe og U) pos pins s σ H (λvs H1=>vs=[V.ref a]/\H1=H) I ⟨_,N,rfl,rfl⟩) λus s1 ⟨vs,H1,I1,r,q1,q2⟩=>⟨I1.kIn,?_⟩) U R;subst q1 q2;obtain⟨u,rfl,P⟩:=uq r;cases (show u=Value.ref a from P);obtain⟨T,g2,g3,g4,_⟩:=I1.pin (a,o) (dy _ Z);have hl:([Value.ref a]++[]).length=ps.length:=by rw[F.len];rfl
   have hz:=E s1 [Value.ref a] I1.kIn hl;refine wpAny_call (codeAny_mono (F.run X.A X.stack s1 H1 a C c o _ (Ow G W) Q ⟨[.ref a],[]⟩ l Y I1.env0 hz T b g g2 (λz=>?_) e2 λv H2 sm r2=>?_) λr s' D=>?_)
   ·rcases b7.mp (I1.stkSub a z) with z | z
    ·exact g3 z
    ·exact g4 z
   ·refine k W v H2 (Step.same sm) (ok.same sm) (r2.mono (λ_ _ h=>h) λa us o h=>⟨?_,h⟩)
    rcases o with o | o
    ·exact o
    ·exact⟨ok.good a (ok.stay.free o),λz=>by obtain⟨_,us,q⟩:=ok.wl a z;rw[o] at q;cases q⟩
   ·cases r with
    | error e=>exact False.elim D
    | ok fl =>
      cases fl with
      | ret u=>exact I1.after D
      | next=>exact False.elim D
      | brk=>exact False.elim D
      | cont=>exact False.elim D⟩
variable{M:Model}
theorem zuj(I:Inv X pins σ H s)(l:X.N.Nodup)(hi:X.N[i]?=some x)(r:X.env.kindOf x=some .local)(h:∀s',Inv X pins (σ.set i none) H s'->Q () s'):wpAny M A (do bindName X.env x .none;unbindBehindTheSuite X.env x pos) Q E s:=by
 obtain⟨m,t,u⟩:=id I.loc;have R:(X.env.scope.kind==.class || (X.env.scope.kind==.module && X.env.locals != X.env.globals))=false:=by rw[I.ok.kind];rfl
 have S:i<σ.length:=by rw[I.len];exact(ah.mp hi).1
 refine wpAny_nameGoes_keeps r t R λh' v Y D=>?_;refine h _ ⟨I.ok,I.os,I.bare,⟨λb o e n Z U=>?_,λb o e n Z U=>?_,I.base.free,λb o e U=>?_,I.base.tups,I.base.frzs,I.base.tbls⟩,⟨_,Y,λj y w J V B=>?_⟩,λy c e=>?_,I.free,I.freeC,λp C=>?_,λb F e=>?_,by simpa using I.len⟩
 ·exact(D.2 b (bx (aw (az e) I.ok.above))).trans (I.base.keep b o e n Z U)
 ·obtain⟨sl,J⟩:=I.base.slot b o e n Z U
  exact⟨sl,(D.2 b (bx (aw (az e) I.ok.above))).trans J⟩
 ·obtain⟨o',J⟩:=I.base.there b o e U
  exact⟨o',(D.2 b (bx (aw (az e) I.ok.above))).trans J⟩
 ·by_cases a:j=i
  ·subst a
   rw[dz S] at V;cases V
  ·rw[db (Ne.symm a)] at V
   obtain⟨G,K,q⟩:=u j y w J V B;refine⟨G,K,?_⟩;rcases q with⟨k,e⟩ | ⟨k,c,e,z⟩
   ·refine .inl ⟨k,?_⟩
    have:y≠x:=λe=>a (zmh l J (e ▸ hi));simp[this,e]
   ·exact .inr ⟨k,c,e,z.sameBut D (I.cne y c e)⟩
 ·obtain⟨f,z⟩:=I.cell y c e
  exact⟨f,z.sameBut D (I.cne y c e)⟩
 ·obtain⟨e,n,g,L,d⟩:=I.pin p C
  exact⟨(D.2 p.1 g).trans e,n,g,L,d⟩
 ·refine(I.hok b F e).stay (λc f hc q=>(D.2 c ?_).trans q) (λ_ q=>q) λ_ _ q=>q
  rintro rfl;rcases hc with hc | hc
  ·rw[<-hc,I.free] at e;cases e
  ·rw[I.free] at hc;cases hc
theorem ObjOk.here{a:Addr}{o:HO}(x:ObjOk P w H h a o):∃u,h.get? a=some u:=by
 induction o with
 | lst xs=>obtain⟨_,_,_,_,e⟩:=x;exact⟨_,e⟩
 | tup xs=>obtain⟨_,_,_,o,e,_⟩:=x;exact⟨_,e⟩
 | dK kvs=>obtain⟨_,_,_,_,o,_,_,e,_⟩:=x;exact⟨_,e⟩
 | dT kvs=>obtain⟨_,_,_,_,o,_,_,e,_⟩:=x;exact⟨_,e⟩
 | set S n=>obtain⟨o,_,_,_,e,_⟩:=x;exact⟨_,e⟩
 | ins C dx fs=>exact⟨_,x.2.2.2.1⟩
 | own _=>exact x
 | xd fs=>obtain⟨_,⟨_,_,_,e,_⟩,_⟩:=x;exact⟨_,e⟩
 | met f y=>exact⟨_,x⟩
 | rng lo hi=>obtain⟨_,_,_,e⟩:=x;exact⟨_,e⟩
 | frz o u _=>exact⟨_,x.1⟩
 | tbl ps=>exact⟨_,x⟩
 | ext φ=>exact x.2.1
variable{W:Addr->Prop}{env:DE0}
theorem Ok.unset(ok:Ok K G H0 W env σ H)(i:Nat):Ok K G H0 W (env.set i none) (σ.set i none) H:=by
 have gt:∀ {α:Type} {l:List (Option α)} {j:Nat} {a:α},(l.set i none)[j]?=some (some a)->i≠j/\l[j]?=some (some a):=λ{α l j a} e=>by
  by_cases h:i=j
  ·subst h
   rw[ig] at e;simp at e
  ·rw[db h] at e
   exact⟨h,e⟩
 refine⟨ok.stay,ok.good,ok.wl,λj s e=>?_,λj I s s' v J a D R S U=>ok.uniq j I s s' v J a (gt D).2 (gt R).2 (gt S).2 (gt U).2,by rw[dj,dj];exact ok.len⟩;obtain⟨h,e⟩:=gt e;obtain⟨v,D,h1⟩:=ok.slot j s e;exact⟨v,by rw[db h];exact D,h1⟩
abbrev Cx.tr(X:Cx)(E:Value->Shared->Prop)(pp:ia):Cx:={ X with xe:=E,pn:=pp++X.pn }
theorem Inv.tr(I:Inv X pins σ H s):Inv (X.tr E pins) [] σ H s :=
 ⟨⟨I.ok.mod,I.ok.kind,I.ok.glob,I.ok.blt,I.ok.above,I.ok.inj,I.ok.has,I.ok.cab,I.ok.hd,I.ok.frames,I.ok.stk,I.ok.exf,I.ok.bs,I.ok.bsz,I.ok.noex,I.ok.exfs,I.ok.funs,I.ok.frf⟩,I.os,I.bare,I.base,I.loc,I.cell,I.free,I.freeC,λq D=>I.pin q (by
  rw[de] at D;exact cw.mpr (cw.mp D).symm),I.hok,I.len⟩
variable{pp:ia}
theorem Inv.untr(ok:X.Ok)(I:Inv (X.tr E pins) pp σ H s):Inv X pins σ H s :=
 ⟨ok,I.os,I.bare,I.base,I.loc,I.cell,I.free,I.freeC,λq D=>I.pin q (dy _ (cw.mpr (cw.mp D).symm)),I.hok,I.len⟩
variable{cs:gj}
theorem Ats.tr(h:Ats N cs X):Ats N cs (X.tr E pp):=⟨h.n,λi x e=>let z:=h.get i x e;⟨z.n,z.v,z.d,z.c⟩,h.ck⟩
theorem Tos.tr(h:Tos N X):Tos N (X.tr E pp):=⟨λi x e=>let z:=h.to i x e;⟨z.nd,z.n,z.l,z.f⟩⟩
theorem Ats.hush(h:Ats N cs X):Ats N cs (X.hush A pp):=⟨h.n,λi x e=>let z:=h.get i x e;⟨z.n,z.v,z.d,z.c⟩,h.ck⟩
theorem Tos.hush(h:Tos N X):Tos N (X.hush A pp):=⟨λi x e=>let z:=h.to i x e;⟨z.nd,z.n,z.l,z.f⟩⟩
def sTry(u:FS)(i j:Nat)(kd:Str->ka):FS:=λe=>(u e).bind λr=>match r.1 with | .xc c=>(kd c).map λd=>(.nx,((r.2.set i none).set j (some (.sh d))).set i none) | _=>some r
theorem set3{α:Type}(l:List (Option α))(i j:Nat)(a b:Option α):((l.set i a).set j b).set i none=((l.set i none).set j b).set i none:=by
 by_cases h:i=j
 ·subst h;simp[List.set_set]
 ·rw[List.set_comm _ _ h,List.set_set,List.set_comm _ _ h,List.set_set]
variable{e:Addr}{H':Hp}{s':Shared}
theorem Fly.obj(R:X.stack=X.env::X.outer)(S:X.env.frame=some X.env.locals)(f:Fly X.prog X.w X.stack H s C e H' s'):∃o,s'.heap.get? e=some o/\Exo o C/\H' e=none/\e≠X.env.locals/\e∉X.fs/\∀v,o.data≠.cell v:=by
 obtain⟨B,x,a,U,un,os,b⟩:=f;obtain⟨V,vs,T,c,ts,J,Y,gd,I,d,Z,_⟩:=x.tr;have D:e∉frs X.stack:=λz=>by
  obtain⟨_,g,y,n⟩:=x.fr.mem z;rw[J] at y;cases y;exact n vs I
 rw[R] at D;have D:e∉X.env.locals::X.fs:=by unfold frs at D;rw[jq,S] at D;exact D
 refine⟨V,J,⟨⟨vs,Y,I,Z⟩,gd⟩,?_,λz=>D (z ▸ bj),λz=>D (av _ z),λv z=>by rw[I] at z;cases z⟩;cases q:H' e with
 | none=>rfl
 | some o =>
   obtain⟨u,z⟩:=(U e o q).here;rw[x.new] at z;cases z
theorem Fly.flight(I:Inv X pins σ H s)(f:Fly X.prog X.w X.stack H s C e H' s')(h:∀h2,Fly X.prog X.w X.stack H s C e H' { s' with heap:=h2 }->Q () { s' with heap:=h2 }):wpAny M A (setFlight (.ref e) none) Q E s':=by
 obtain⟨B,x,S,V,un,os,Y⟩:=f;refine zph x λh2 U Z a=>h h2 ⟨B,U,S,V,⟨λb o q n D _=>U.stay b o (S b o q n D),λb o q n D J=>?_,un.free,λb o q J=>?_,un.tups,un.frzs,un.tbls⟩,os,Y⟩
 ·obtain⟨sl,z⟩:=un.slot b o q n D J
  obtain⟨_,g,y,c⟩:=I.stack.mem D;rw[q] at y;cases y;obtain⟨R,d⟩:=Z b _ z c;exact⟨R,d⟩
 ·obtain⟨o',z⟩:=un.there b o q J
  exact a b o' z
theorem z0m{body:List Stmt}{u:FS}{j jr:Nat}{R y z:Str}{RA:Addr}{T h O p6 p7:Pos}(hR:X.mg R=some (.ref RA))(m:∀c C,(kd c).isSome=true->Cl X.K c C->PySem.W.exmOne X.K (.ref C) (.ref RA)=some true)(kc:KCl X.prog X.w X.K X.mg X.base x k kd)(rm:Room jr X.A)(an:Ats Nn Cn X)(U:Tos Nn X)(hb:∀E pp,Ats Nn Cn (X.tr E pp)->Tos Nn (X.tr E pp)->DBx (X.tr E pp) G H0 body u)(B:k<=jr:=by decide)(aa:Gl X R:=by walk_at "g")(ab:Gl X x:=by walk_at "g")(hi:Nn[i]?=some y:=by rfl)(hj:Nn[j]?=some z:=by rfl)(hl:X.env.kindOf y=some .local:=by kernel_rfl)(hX:X.stack=X.env::X.outer:=by rfl)(hf:X.env.frame=some X.env.locals:=by rfl)(ag:(R==("__debug__" : Str))=false:=by decide)(he:starEach [.Name y h] X.env=(false,eval (.Name y h) X.env)::starEach [] X.env:=by rfl)(al:(backTo O (starEach [] X.env)).any (·.1)=false:=by rfl)(ap:swapsWith (.Call (.Name x T) [.Name y h] [] O) (some (.Name z p2)) p6.line X.env=pure false:=by rfl) :
  DSx X G H0 (.Try body [.ExceptHandler (some (.Name R p1)) (some y) [.Assign [.Name z p2] (.Call (.Name x T) [.Name y h] [] O) p6] p7] [] [] pos) (sTry u i j kd):=⟨λpins s σ H Dn I zq=>by
 obtain⟨W,env,fl,env',ok,q,k⟩:=zq;unfold sTry at q;cases e1:u env with
 | none=>rw[e1] at q;cases q
 | some r =>
   obtain⟨F,S⟩:=r;rw[e1,ac] at q;refine wpAny_Try_except ?_;refine wpAny_mono ((hb _ pins an.tr U.tr).out [] s σ H Dn I.tr ⟨W,env,F,S,ok,e1,?_⟩) (λf s1 h1=>?_) (λe s1 h1=>h1)
   ·cases F with
    | xc c=>?_
    | nx=>cases q;exact k
    | bk=>cases q;exact k
    | ct=>cases q;exact k
    | rt d=>cases q;exact k
    | rf d=>cases q;exact k
    | r2 d=>cases q;exact k
    | ra d d'=>cases q;exact k
    cases e2:kd c with
    | none=>simp only[e2,ky] at q;cases q
    | some d =>
      simp only[e2,aj] at q;cases q;intro W' D H' C hc st L ar e s' xs;refine xs.come hX hf λh2 s1 H1 I1 f=>?_;have J:Inv X pins D H' { s' with heap:=h2 }:=(f.inv I1).untr I.ok;obtain⟨o,P,g2,_⟩:=Fly.obj (X:=X) hX hf f;refine wpAny_handleBy_cons (codeAny_handlers_test ?_) (λz=>nomatch z);refine u4 (J.hush (A:=X.A.mark (some (.ref e))) (p:=[]) rfl (by simp)) aa hR ?_ ag;refine(exm_one (M:=model X.prog X.w) J.kIn (g2.inst P).type (m c C (by rw[e2];rfl) hc)).here ?_;refine codeAny_handlers_suite_as ?_;refine f.flight I1 λh3 f3=>?_;have J3:Inv X pins D H' { s' with heap:=h3 }:=(f3.inv I1).untr I.ok;obtain⟨N,P,g2,g3,g4,g5,g6⟩:=Fly.obj (X:=X) hX hf f3;have a0:i<S.length:=by
       rw[L.len,J3.len];exact(ah.mp (U.t hi).n).1
      refine zkz (X:=X.hush (X.A.mark (some (.ref e))) []) (J3.hush rfl (by simp)) (U.t hi).nd (U.t hi).n (U.t hi).l (v:=.ref e) rfl (λs4 I4 ⟨a,sb,ha⟩=>?_) (U.t hi).f;have ge:s4.heap.get? e=some N:=(sb.2 e λz=>by
       rcases ha with ha | ha
       ·exact g4 (z.trans ha)
       ·obtain⟨v,oc,h1,h2⟩:=J3.cell _ _ ha
        rw[<-z] at h1;cases P.symm.trans h1;exact g6 v h2).trans P
      have I5:Inv ((X.hush (X.A.mark (some (.ref e))) [(e,N)]).nox) pins (D.set i (some (.ref e))) H' s4:=((I4.unhush I.ok).hush (A:=X.A.mark (some (.ref e))) (p:=[(e,N)]) rfl (λq hq=>by cases cj.mp hq;exact⟨ge,g3,g4,g5,g6⟩)).wish _;have hs:=(dw (fu (X:=(X.hush (X.A.mark (some (.ref e))) [(e,N)]).nox) (G:=G) (H0:=H0) (pos:=p6) (p':=p2) U.hush.nox (z0l (C:=C) (c:=c) (o:=N) (p:=T) (p1:=h) (pos:=O) rfl (dy _ bj) g2 hc kc ⟨rfl,(rm.mono B).dp,(rm.mono B).un⟩ an.hush.nox ab hi he al) hj ap)).out pins s4 _ H' { nx:=λV Q=>∃b,Step W' H' b Q/\Ok X.K G H0 b ((S.set i (some (.sh (.exc e)))).set j (some (.sh d))) V Q,rt:=λ_ _=>False } I5 ⟨W',S.set i (some (.sh (.exc e))),.nx,_,L.set (.exc e),by
       unfold sSet fKd;rw[dz a0];dsimp only;rw[if_pos rfl,e2];rfl,λb V Q Y Z=>⟨b,Y,Z⟩⟩
      refine wpAny_mono hs (λf5 s5 g=>?_) (λx s5 g=>False.elim g);cases f5 with
      | next =>
        obtain⟨V,Q,J5,b,Y,Z⟩:=g;refine zuj (J5.unwish.unhush I.ok) (U.t hi).nd (U.t hi).n hl λs6 J7=>⟨_,_,J7,k b _ _ (st.trans Y) ?_⟩;rw[<-set3];exact Z.unset i
      | brk=>obtain⟨_,_,_,z⟩:=g;exact z.elim
      | cont=>obtain⟨_,_,_,z⟩:=g;exact z.elim
      | ret u=>obtain⟨_,_,_,_,_,z⟩:=g;exact z.elim
   ·cases f with
    | next =>
      obtain⟨D,H',J,q⟩:=h1;exact wpAny_execs_nil ⟨D,H',J.untr I.ok,q⟩
    | brk=>obtain⟨D,H',J,q⟩:=h1;exact⟨D,H',J.untr I.ok,q⟩
    | cont=>obtain⟨D,H',J,q⟩:=h1;exact⟨D,H',J.untr I.ok,q⟩
    | ret u=>obtain⟨v,D,H',J,r,q⟩:=h1;exact⟨v,D,H',J.untr I.ok,r,q⟩⟩
def kn:gj:=["UnknownStack", "EmptyStack", "UnknownPlace", "BadHours", "BadLoss", "BadCount", "HouseFull", "DeedsFull", "NothingWaits", "NothingDone", "ShortOrder", "TooManyOrders", "NotGone"]
def n6:gj:=["unknown stack", "empty stack", "unknown place", "bad hours", "bad loss", "bad count", "house full", "deeds full", "nothing waits", "nothing done", "short order", "too many orders", "not gone"]
def wd(c:Str):h6:=(kn.zip n6).lookup c
def kdT(c:Str):ka:=(wd c).map λw=>.tup [.str "refused",.str w]
def z0n(K:h8)(C:Addr):Bool:=findIn K (.ref C) "__getattribute__"==some (some (.builtin "BaseException.__getattribute__")) && findIn K (.ref C) "__getattr__"==some none && (match findObj K C none "__class__" with | some (.bind (.builtin g) (.builtin a))=>g=="getset_descriptor.__get__" && a=="object.__class__" | _=>false) && mroIn K C (.type "object")==some true && mroIn K C (.type "BaseException")==some true
def refB(K:h8)(n:Str)(p:Addr->Bool):Bool:=match nsIn K mainGlobals n with | some (some (.ref R))=>p R | _=>false
def z3z(K:h8):Bool:=kn.all λc=>refB K c λC=>z0n K C && kitOne K (.ref C) (.type "ValueError")==some true && refB K "RotError" (λR=>exmOne K (.ref C) (.ref R)==some true) && kn.all λn=>refB K n λR=>kitOne K (.ref C) (.ref R)==some (c==n)
theorem znc{n:Str}{p:Addr->Bool}(h:refB K n p=true):∃R,nsIn K mainGlobals n=some (some (.ref R))/\p R=true:=by
 unfold refB at h;split at h
 ·exact⟨_,by assumption,h⟩
 ·cases h
theorem zxc(h:z0n K C=true):ECls K C:=by
 unfold z0n at h;simp only[ek,beq_iff_eq] at h;obtain⟨⟨⟨⟨h1,h2⟩,D⟩,I⟩,J⟩:=h;refine⟨h1,h2,?_,I,J⟩;split at D
 ·rename_i g a e
  rw[ek,beq_iff_eq,beq_iff_eq] at D;rw[e,D.1,D.2]
 ·cases D
theorem zl8(h:(kdT c).isSome=true):c∈kn:=by
 unfold kdT at h;rw[Option.isSome_map] at h;obtain⟨w,e⟩:=ke.mp h;exact(jp (d7 e)).1
structure KFacts (K:h8) (mg:Str->gs):Prop where
 b:z3z K=true
 m:∀n∈("RotError" : Str)::kn,∀R,nsIn K mainGlobals n=some (some (.ref R))->mg n=some (.ref R)
theorem kf_mk(X:K.In h)(G:h.Ns mainGlobals mg)(b:z3z K=true):KFacts K mg:=⟨b,λ_ _ _ e=>mg_of X G e⟩
theorem KFacts.all(k:KFacts K mg)(S:(kdT c).isSome=true)(cl:Cl K c C):ECls K C/\kitOne K (.ref C) (.type "ValueError")=some true/\(∃R,mg "RotError" = some (.ref R)/\exmOne K (.ref C) (.ref R)=some true)/\∀n∈kn,∃R,mg n=some (.ref R)/\kitOne K (.ref C) (.ref R)=some (c==n):=by
 have h:=gk.mp k.b c (zl8 S);obtain⟨Y,e,h⟩:=znc h;cases e.symm.trans cl;simp only[ek,beq_iff_eq] at h;obtain⟨⟨⟨h1,h2⟩,D⟩,I⟩:=h;obtain⟨R,U,D⟩:=znc D;refine⟨zxc h1,h2,⟨R,k.m _ bj R U,beq_iff_eq.mp D⟩,λn J=>?_⟩;obtain⟨R,V,I⟩:=znc (gk.mp I n J);exact⟨R,k.m _ (av _ J) R V,beq_iff_eq.mp I⟩
theorem KFacts.rot(k:KFacts K mg):∃R,mg "RotError" = some (.ref R)/\∀c C,(kdT c).isSome=true->Cl K c C->exmOne K (.ref C) (.ref R)=some true:=by
 have h:=gk.mp k.b "UnknownStack" (by decide);obtain⟨S,e,_⟩:=znc h;obtain⟨_,_,⟨R,D,_⟩,_⟩:=k.all (c:="UnknownStack") (by decide) e;refine⟨R,D,λc C I cl=>?_⟩;obtain⟨_,_,⟨U,J,z⟩,_⟩:=k.all I cl;cases D.symm.trans J;exact z
theorem nv(U:KFacts X.K X.mg)(V:(kdT c).isSome=true)(cl:Cl X.K c C)(Y:Hd ea C X)(an:Ats Nn Cn X)(Z:cn∈kn:=by decide)(a:Gl X cn:=by walk_at "g")(D:(cn==("__debug__" : Str))=false:=by decide)(b:Bn X "isinstance":=by walk_at "b")(I:Nn[i]?=some x:=by rfl)(d:starEach [.Name x p1,.Name cn p2] X.env=(false,eval (.Name x p1) X.env)::starEach [.Name cn p2] X.env:=by rfl)(J:starEach [.Name cn p2] X.env=(false,eval (.Name cn p2) X.env)::starEach [] X.env:=by rfl)(S:(backTo pos (starEach [.Name cn p2] X.env)).any (·.1)=false:=by rfl) :
  DEx X G H0 (.Call (.Name "isinstance" p') [.Name x p1,.Name cn p2] [] pos) (fIsx ea i (c==cn)):=by
 obtain⟨e,_,_,h⟩:=U.all V cl;obtain⟨R,f,g⟩:=h cn Z;exact z3x Y e f g an a D b I d J S
theorem z30(R:KFacts X.K X.mg)(S:(kdT c).isSome=true)(cl:Cl X.K c C)(U:Hd ea C X)(an:Ats Nn Cn X)(V:Bn X "ValueError":=by walk_at "b")(Y:Bn X "isinstance":=by walk_at "b")(D:Nn[i]?=some x:=by rfl)(Z:starEach [.Name x p1,.Name "ValueError" p2] X.env=(false,eval (.Name x p1) X.env)::starEach [.Name "ValueError" p2] X.env:=by rfl)(I:starEach [.Name "ValueError" p2] X.env=(false,eval (.Name "ValueError" p2) X.env)::starEach [] X.env:=by rfl)(J:(backTo pos (starEach [.Name "ValueError" p2] X.env)).any (·.1)=false:=by rfl) :
  DEx X G H0 (.Call (.Name "isinstance" p') [.Name x p1,.Name "ValueError" p2] [] pos) (fIsx ea i true):=z0j U (R.all S cl).1 (R.all S cl).2.1 an V Y D Z I J
theorem z50(T:Def K mg st x ps)(N:gj)(D:∀c d,kd c=some d->runK N.length g c d)(I:∀ {f:Addr} {cdv:Value} {A:Around} {outer:g8} {s:Shared} {H:Hp} {ea C:Addr} {c:Str} {G:Gd} {H0:Hp},(kd c).isSome=true->Cl K c C->Hd ea C (cxH P w K mg base N x (f9 st) f cdv A outer s H)->Ats N (celN N (f9 st)) (cxH P w K mg base N x (f9 st) f cdv A outer s H)->Tos N (cxH P w K mg base N x (f9 st) f cdv A outer s H) ->
   DBx (cxH P w K mg base N x (f9 st) f cdv A outer s H) G H0 (lg st) (g ea c))(h:scB N ps (f9 st)=true:=by decide +kernel)(J:okN x=true:=by decide +kernel)(R:ps.length=1:=by rfl):KCl P w K mg base x (k+1) kd:=by
 obtain⟨f,fd,F,b,m⟩:=T;exact⟨f,fd,ps,fn_K F (nr h).1 rfl R D λcdv A outer s H ea C c G H0 S U V=>I S U V (pv h).nox.hush (pq h).nox.hush,m,F.kp,b,(q9 J).1⟩
def z0o(ea:Addr)(c:Str):FS:=sSeq (sSet 1 (fLst (f7 (aq (fIsx ea 0 (c=="UnknownStack")) (aq (fIsx ea 0 (c=="EmptyStack")) fNil))))) (sSeq (sSet 1 (fLst (fCat (fVar 1) (fLst (f7 (aq (fIsx ea 0 (c=="UnknownPlace")) (aq (fIsx ea 0 (c=="BadHours")) fNil))))))) (sSeq (sSet 1 (fLst (fCat (fVar 1) (fLst (f7 (aq (fIsx ea 0 (c=="BadLoss")) (aq (fIsx ea 0 (c=="BadCount")) fNil))))))) (sSeq (sSet 1 (fLst (fCat (fVar 1) (fLst (f7 (aq (fIsx ea 0 (c=="HouseFull")) (aq (fIsx ea 0 (c=="DeedsFull")) fNil))))))) (sSeq (sSet 1 (fLst (fCat (fVar 1) (fLst (f7 (aq (fIsx ea 0 (c=="NothingWaits")) (aq (fIsx ea 0 (c=="NothingDone")) fNil))))))) (sSeq (sSet 1 (fLst (fCat (fVar 1) (fLst (f7 (aq (fIsx ea 0 (c=="ShortOrder")) (aq (fIsx ea 0 (c=="TooManyOrders")) fNil))))))) (sSeq (sSet 1 (fLst (fCat (fVar 1) (fLst (f7 (aq (fIsx ea 0 (c=="NotGone")) fNil)))))) (sSeq (sSet 2 (fLst (f7 (aq (fC (.str "unknown stack")) (aq (fC (.str "empty stack")) (aq (fC (.str "unknown place")) (aq (fC (.str "bad hours")) (aq (fC (.str "bad loss")) (aq (fC (.str "bad count")) fNil))))))))) (sSeq (sSet 2 (fLst (fCat (fVar 2) (fLst (f7 (aq (fC (.str "house full")) (aq (fC (.str "deeds full")) (aq (fC (.str "nothing waits")) (aq (fC (.str "nothing done")) (aq (fC (.str "short order")) fNil)))))))))) (sSeq (sSet 2 (fLst (fCat (fVar 2) (fLst (f7 (aq (fC (.str "too many orders")) (aq (fC (.str "not gone")) fNil))))))) (sSeq (sSet 3 (fLst (iq (jk iR1 (aq (fC (.int 13)) fNil)) [2,1,0] (fAnd (fTst (fIxV 2 (fVar 0))) (fTst (fIsx ea 3 true))) (fIxV 1 (fVar 0))))) (sRet (d5 bTup (aq (fLst (fCat (fLst (f7 (aq (fC (.str "refused")) fNil))) (fVar 3))) fNil)))))))))))))
end L2
namespace LB
open PySem L2
def zlb:FS:=sRet (fBin dSub (fBin dMul (fIxV 0 (fC (.int 1))) (fIxV 1 (fC (.int 0)))) (fBin dMul (fIxV 1 (fC (.int 1))) (fIxV 0 (fC (.int 0)))))
def zgu:i0->ka:=runD 2 2 zlb
def zfz:FS:=sSeq (sSet 2 (d5 zgu (aq (fVar 0) (aq (fVar 1) (fNil))))) (sSeq (sIf (fTst (fBin dGt (fVar 2) (fC (.int 0)))) (sRet (fC (.int 1))) (sNil)) (sSeq (sIf (fTst (fBin dLt (fVar 2) (fC (.int 0)))) (sRet (fUn dNeg (fC (.int 1)))) (sNil)) (sRet (fC (.int 0)))))
def se:i0->ka:=runD 3 2 zfz
def zkh:FS:=sRet (qu (fIsi "int" (fVar 0)) (zzs (fIsi "bool" (fVar 0))))
def qi:i0->ka:=runD 1 1 zkh
def zlc:FS:=sSeq (sIf (fTst (fBin dLt (fVar 1) (jd 0))) (sRet (fIxV 0 (fVar 1))) (sNil)) (sRet (fC (.int 0)))
def yt:i0->ka:=runD 2 2 zlc
def zee:FS:=sSeq (sSet 5 (d5 yt (aq (fVar 0) (aq (fVar 4) (fNil))))) (sSeq (sIf (fTst (fBin dEq (fBin dMod (jd 0) (fC (.int 2))) (fC (.int 1)))) (sSeq (sSet 3 (fBin dMod (fBin il (fBin il (fBin il (fBin dMul (fVar 3) (fC (.int 48271))) (fVar 5)) (fVar 4)) (fC (.int 1))) (fC (.int 2147483647)))) (sSet 5 (fBin dMod (fBin dMul (fBin il (fVar 3) (fVar 4)) (fC (.int 69621))) (fC (.int 2147483647))))) (sNil)) (ja (qd 2 (fVar 5))))
def zki:FS:=sSeq (sOwn 2 (f7 (fNil))) (sSeq (sSet 3 (fC (.int 7))) (sSeq (sFor 4 (jk iR1 (aq (fVar 1) (fNil))) (zee)) (sRet (fVar 2))))
def zc:i0->ka:=runD 6 2 zki
def zou:FS:=sRet (fIxV 0 (fC (.int 1)))
def ud:i0->ka:=runD 1 1 zou
def zps:FS:=sRet (fIxV 0 (fC (.int 2)))
def vi:i0->ka:=runD 1 1 zps
def zlo:FS:=sRet (fTup (aq (fC (.int 1)) (aq (d5 ud (aq (fVar 0) (fNil))) (aq (d5 vi (aq (fVar 0) (fNil))) (fNil)))))
def zef:i0->ka:=runD 1 1 zlo
def ziu:FS:=sRet (fTup (aq (fBin il (fIxV 0 (fC (.int 0))) (fIxV 1 (fC (.int 0)))) (aq (fBin il (fIxV 0 (fC (.int 1))) (fIxV 1 (fC (.int 1)))) (aq (fBin il (fIxV 0 (fC (.int 2))) (fIxV 1 (fC (.int 2)))) (fNil)))))
def zeg:i0->ka:=runD 2 2 ziu
def zjo:FS:=sRet (fTup (aq (fIxV 0 (fC (.int 1))) (aq (fIxV 0 (fC (.int 2))) (fNil))))
def zg:i0->ka:=runD 1 1 zjo
def zce:FS:=sRet (fBin dGt (d5 se (aq (d5 zg (aq (fVar 0) (fNil))) (aq (d5 zg (aq (fVar 1) (fNil))) (fNil)))) (fC (.int 0)))
def sg:i0->ka:=runD 2 2 zce
def zdg:FS:=sSet 3 (d5 zeg (aq (fPop 1) (aq (fVar 3) (fNil))))
def zdh:FS:=sSeq (sSet 3 (d5 zef (aq (fVar 2) (fNil)))) (sSeq (l4 (fAnd (fTst (fBin dGt (jd 1) (fC (.int 0)))) (fNot (fTst (d5 sg (aq (fIxV 1 (fUn dNeg (fC (.int 1)))) (aq (fVar 3) (fNil))))))) (zdg) 10000) (ja (qd 1 (fVar 3))))
def zf6:FS:=sSeq (sOwn 1 (f7 (fNil))) (sSeq (sFor 2 (fiS (fVar 0)) (zdh)) (sRet (fVar 1)))
def zf7:i0->ka:=runD 4 1 zf6
def zc2:FS:=sSeq (sIf (fAnd (fTst (fIsi "str" (fIxV 1 (fVar 2)))) (fNot (fTst (fIsi "str" (fIxV 0 (fVar 2)))))) (sRet (fC (.bl false))) (sNil)) (sSeq (sIf (fAnd (fNot (fTst (fIsi "str" (fIxV 1 (fVar 2))))) (fNot (fTst (d5 qi (aq (fIxV 0 (fVar 2)) (fNil)))))) (sRet (fC (.bl false))) (sNil)) (sIf (fTst (fBin dNe (fIxV 0 (fVar 2)) (fIxV 1 (fVar 2)))) (sRet (fC (.bl false))) (sNil)))
def zfm:FS:=sSeq (sIf (fOr (fNot (fTst (fIsi "tuple" (fVar 0)))) (fTst (fBin dNe (jd 0) (jd 1)))) (sRet (fC (.bl false))) (sNil)) (sSeq (sFor 2 (jk iR1 (aq (jd 1) (fNil))) (zc2)) (sRet (fC (.bl true))))
def zu:i0->ka:=runD 3 2 zfm
def zkj:FS:=sRet (fTup (aq (fIxV 0 (fC (.int 2))) (aq (fIxV 0 (fC (.int 3))) (fNil))))
def vj:i0->ka:=runD 1 1 zkj
def zx:FS:=sSet 2 (fBin il (fVar 2) (fC (.int 1)))
def zfn:FS:=sSeq (sSet 2 (fC (.int 0))) (sSeq (l4 (fAnd (fTst (fBin dLt (fVar 2) (jd 0))) (fTst (fBin dGe (d5 se (aq (d5 vj (aq (fIxV 0 (fVar 2)) (fNil))) (aq (d5 vj (aq (fVar 1) (fNil))) (fNil)))) (fC (.int 0))))) (zx) 10000) (sRet (fVar 2)))
def zfo:i0->ka:=runD 3 2 zfn
def zt:FS:=sSeq (sSet 7 (fTup (aq (fVar 2) (aq (fVar 4) (aq (fVar 5) (aq (fVar 6) (fNil))))))) (ja (zmx 1 (yi zfo (zwu 1 (aq (fVar 7) (fNil)))) (fVar 7)))
def zds:FS:=nk [4,5,6] (fiS (d5 zf7 (aq (fVar 3) (fNil)))) (zt)
def zgv:FS:=sSeq (sOwn 1 (f7 (fNil))) (sSeq (nk [2,3] (jk (iEn 1) (aq (fVar 0) (fNil))) (zds)) (sRet (fVar 1)))
def xv:i0->ka:=runD 8 1 zgv
def zeh:FS:=ja (zmz 1 (fRep (f7 (aq (fVar 2) (fNil))) (fVar 3)))
def zhu:FS:=sSeq (sOwn 1 (f7 (fNil))) (sSeq (nk [2,3,4,5] (fiS (d5 xv (aq (fVar 0) (fNil)))) (zeh)) (zwb 1))
def zb:i0->Option i0:=runF 6 1 zhu
def zf:FS:=sSeq (sSet 2 (fBin il (fVar 2) (fBin dIx (fIxV 0 (fVar 4)) (fC (.int 1))))) (sSeq (sSet 3 (fBin il (fVar 3) (fBin dIx (fIxV 0 (fVar 4)) (fC (.int 2))))) (sIf (fTst (fBin dGe (fBin dMul (fVar 3) (fIxV 1 (fC (.int 1)))) (fBin dMul (fIxV 1 (fC (.int 2))) (fVar 2)))) (sSet 1 (fLst (f7 (aq (fBin il (fVar 4) (fC (.int 1))) (aq (fVar 2) (aq (fVar 3) (fNil))))))) (sNil)))
def zgw:FS:=sSeq (sSet 1 (fLst (f7 (aq (fC (.int 0)) (aq (fC (.int 1)) (aq (fUn dNeg (fC (.int 1))) (fNil))))))) (sSeq (sSet 2 (fC (.int 0))) (sSeq (sSet 3 (fC (.int 0))) (sSeq (sFor 4 (jk iR1 (aq (jd 0) (fNil))) (zf)) (sRet (fVar 1)))))
def y0:i0->ka:=runD 5 1 zgw
def xq:FS:=sIf (fTst (fBin dGt (fBin dMul (fBin dIx (fIxV 3 (fVar 5)) (fC (.int 2))) (fBin dIx (fIxV 3 (fVar 4)) (fC (.int 1)))) (fBin dMul (fBin dIx (fIxV 3 (fVar 4)) (fC (.int 2))) (fBin dIx (fIxV 3 (fVar 5)) (fC (.int 1)))))) (sSet 4 (fVar 5)) (sNil)
def zei:FS:=sSeq (sSet 3 (fLst (iq (fiV 1) [] fYes (d5 y0 (aq (fVar 0) (fNil)))))) (sSeq (sSet 4 (fC (.int 0))) (sSeq (sFor 5 (jk iR1 (aq (jd 3) (fNil))) (xq)) (sSeq (ja (qd 2 (fTup (aq (fBin il (fVar 4) (fC (.int 1))) (aq (fBin dIx (fIxV 3 (fVar 4)) (fC (.int 0))) (aq (fBin dIx (fIxV 3 (fVar 4)) (fC (.int 1))) (aq (fBin dIx (fIxV 3 (fVar 4)) (fC (.int 2))) (fNil)))))))) (zqq 1 (fVar 4) (fLst (fSl (fIxV 1 (fVar 4)) (fO1 (fBin dIx (fIxV 3 (fVar 4)) (fC (.int 0)))) (fO0)))))))
def zhv:FS:=sSeq (sOwn 1 (iq (fiS (fVar 0)) [] fYes (fLst (jk sx (aq (fVar 0) (fNil)))))) (sSeq (sOwn 2 (f7 (fNil))) (sSeq (l4 (fTst (fBin dGt (d5 bSum (aq (fLst (iq (fiV 1) [] fYes (jd 0))) (fNil))) (fC (.int 0)))) (zei) 10000) (sRet (fVar 2))))
def za:i0->ka:=runD 6 1 zhv
def zgx:FS:=sOwn 1 (fCat (fVar 1) (fLst (fRep (f7 (aq (fIxV 2 (fC (.int 0))) (fNil))) (fIxV 2 (fC (.int 1))))))
def zi6:FS:=sSeq (sOwn 1 (f7 (fNil))) (sSeq (sFor 2 (fiS (d5 za (aq (fVar 0) (fNil)))) (zgx)) (zwb 1))
def zpt:i0->Option i0:=runF 3 1 zi6
def znd:FS:=sRet (fIxV 0 (fC (.int 0)))
def ze6:i0->ka:=runD 1 1 znd
def zgy:FS:=sIf (fOr (fTst (fBin dLt (fVar 1) (fC (.int 1)))) (fTst (fBin dGt (fVar 1) (jd 0)))) (zqp) (sNil)
def zgz:i0->ka:=runD 2 2 zgy
def zdu:FS:=sSeq (sIf (fTst (fBin dEq (fIxV 2 (fBin dSub (fVar 3) (fC (.int 1)))) (fC (.int 0)))) (zqp) (sNil)) (tm 2 dSub (fBin dSub (fVar 3) (fC (.int 1))) (fC (.int 1)))
def zg0:FS:=sSeq (sOwn 2 (iq (fiS (fVar 0)) [] fYes (jd 0))) (sSeq (sFor 3 (fiS (fVar 1)) (zdu)) (sIf (fTst (fBin dGt (zwt 2) (fC (.int 0)))) (zqp) (sNil)))
def zg1:i0->ka:=runD 4 2 zg0
def zdv:FS:=ja (d5 zgz (aq (fVar 0) (aq (fVar 2) (fNil))))
def zg2:FS:=sSeq (sFor 2 (fiS (fVar 1)) (zdv)) (ja (d5 zg1 (aq (fVar 0) (aq (fVar 1) (fNil)))))
def zg3:i0->ka:=runD 3 2 zg2
def zdw:FS:=sSeq (ja (qd 3 (fBin dIx (fIxV 0 (fBin dSub (fVar 4) (fC (.int 1)))) (fIxV 2 (fBin dSub (fVar 4) (fC (.int 1))))))) (tm 2 il (fBin dSub (fVar 4) (fC (.int 1))) (fC (.int 1)))
def zg4:FS:=sSeq (ja (d5 zg3 (aq (fVar 0) (aq (fVar 1) (fNil))))) (sSeq (sOwn 2 (iq (fiS (fVar 0)) [] fYes (fC (.int 0)))) (sSeq (sOwn 3 (f7 (fNil))) (sSeq (sFor 4 (fiS (fVar 1)) (zdw)) (sRet (fVar 3)))))
def ze7:i0->ka:=runD 5 2 zg4
def zf8:FS:=sSeq (sSet 6 (fBin il (fVar 3) (d5 ud (aq (fVar 5) (fNil))))) (sSeq (ja (qd 2 (fTup (aq (d5 ze6 (aq (fVar 5) (fNil))) (aq (fVar 4) (aq (fVar 3) (aq (fVar 6) (fNil)))))))) (sSet 3 (fVar 6)))
def zhw:FS:=sSeq (sOwn 2 (f7 (fNil))) (sSeq (sSet 3 (fC (.int 0))) (sSeq (nk [4,5] (jk iZp (aq (fVar 1) (aq (d5 ze7 (aq (fVar 0) (aq (fVar 1) (fNil)))) (fNil)))) (zf8)) (sRet (fVar 2))))
def zov:i0->ka:=runD 7 2 zhw
def zf9:FS:=sSeq (sSet 3 (fBin il (fVar 3) (d5 ud (aq (fVar 4) (fNil))))) (sSet 2 (fBin il (fVar 2) (fBin dMul (d5 vi (aq (fVar 4) (fNil))) (fVar 3))))
def zhx:FS:=sSeq (sSet 2 (fC (.int 0))) (sSeq (sSet 3 (fC (.int 0))) (sSeq (sFor 4 (fiS (d5 ze7 (aq (fVar 0) (aq (fVar 1) (fNil))))) (zf9)) (sRet (fVar 2))))
def zhy:i0->ka:=runD 5 2 zhx
def zhz:FS:=sRet (d5 zhy (aq (fVar 0) (aq (fLst (jk zb (aq (fVar 0) (fNil)))) (fNil))))
def zf0:i0->ka:=runD 1 1 zhz
def zga:FS:=sRet (d5 bSum (aq (fLst (iq (fiS (fVar 0)) [] fYes (jd 0))) (fNil)))
def zej:i0->ka:=runD 1 1 zga
def zdx:FS:=sSet 1 (fBin il (fVar 1) (d5 bSum (aq (fLst (iq (fiS (fVar 2)) [] fYes (d5 vi (aq (fVar 0) (fNil))))) (fNil))))
def zg5:FS:=sSeq (sSet 1 (fC (.int 0))) (sSeq (sFor 2 (fiS (fVar 0)) (zdx)) (sRet (fVar 1)))
def zg6:i0->ka:=runD 3 1 zg5
def zj6:FS:=sRet (fBin dIx (fIxV 0 (fBin dSub (fVar 1) (fC (.int 1)))) (fC (.int 0)))
def zie:i0->ka:=runD 2 2 zj6
def zh0:FS:=sRet (fLst (fCat (fLst (fCat (fLst (fSl (fVar 0) (fO0) (fO1 (fBin dSub (fVar 1) (fC (.int 1)))))) (fLst (f7 (aq (fVar 2) (fNil)))))) (fLst (fSl (fVar 0) (fO1 (fVar 1)) (fO0)))))
def xl:i0->ka:=runD 3 3 zh0
def zg7:FS:=sRet (d5 xl (aq (fVar 0) (aq (fVar 1) (aq (fLst (fSl (fIxV 0 (fBin dSub (fVar 1) (fC (.int 1)))) (fO1 (fC (.int 1))) (fO0))) (fNil)))))
def ze8:i0->ka:=runD 2 2 zg7
theorem z51(I:g7)(k:Nat):∃c,yt [.lst (I.map D.int),.int k]=some (.int c):=by
 by_cases h:(k:Int)<I.length
 ·obtain⟨x,h1,h2⟩:=z3n (xs:=I.map D.int) (i:=(k:Int)) (by lia) (by simpa using h)
  rw[bz] at h2;cases q:I[(k:Int).toNat]? with
  | none=>rw[q] at h2;cases h2
  | some c =>
    rw[q] at h2;cases h2;simp[yt,runD,zlc,je,h,h1]
 ·refine⟨0,?_⟩
  simp[yt,runD,zlc,je,h]
theorem zxd(I:g7)(n:Nat)(f:n<=1000):∃cs:g7,cs.length=n/\zc [.lst (I.map D.int),.int n]=some (.lst (cs.map D.int)):=by
 have J:=yu (i:=4) (g:=zee)
  (λk e=>∃(cs:g7) (st:Int) (U v5:kf),cs.length=k/\e=[some (.sh (.lst (I.map D.int))),some (.sh (.int n)),some (.ow (cs.map D.int)),some (.sh (.int st)),U,v5])
  (rngD 0 n) [some (.sh (.lst (I.map D.int))),some (.sh (.int n)),some (.ow []),some (.sh (.int 7)),none,none] ⟨[],7,none,none,rfl,rfl⟩ ?_
 ·obtain⟨e',h1,cs,st,U,v5,S,rfl⟩:=J
  refine⟨cs,by rw[S,uc],?_⟩;have Z:=pz n (by lia);simp[zc,runD,zki,je,Z,h1]
 ·rintro k d e a ⟨cs,st,U,v5,S,rfl⟩
  obtain⟨rfl,h⟩:=yr a;obtain⟨c,V⟩:=z51 I k;have R:Few (cs.length+1):=few (by lia);by_cases Y:(I.length:Int) % 2=1
  ·refine⟨_,?_,cs++[((st*48271+c+k+1) % 2147483647+k)*69621 % 2147483647],(st*48271+c+k+1) % 2147483647,some (.sh (.int (0+k))),some (.sh (.int (((st*48271+c+k+1) % 2147483647+k)*69621 % 2147483647))),by simp[S],rfl⟩
   have b:li 48271:=rn (by decide);have s2:li 69621:=rn (by decide);simp[zee,V,Y,dMod,dMul,b,s2,R]
  ·refine⟨_,?_,cs++[c],st,some (.sh (.int (0+k))),some (.sh (.int c)),by simp[S],rfl⟩
   simp[zee,V,Y,dMod,R]
theorem z31(a b c d:Int)(D:li b)(I:li d) :
  zgu [.tup [.int a,.int b],.tup [.int c,.int d]]=some (.int (b*c-d*a)):=by
 simp[zgu,runD,zlb,je,dMul,D,I,atI,ixN]
theorem zq7(a b c d:Int)(R:li b)(S:li d) :
  se [.tup [.int a,.int b],.tup [.int c,.int d]]=some (.int (if d*a<b*c then 1 else if b*c<d*a then -1 else 0)):=by
 have I:=z31 a b c d R S;by_cases h1:d*a<b*c
 ·have D:0<b*c-d*a:=by lia
  simp[se,runD,zfz,je,I,h1,D]
 ·have D:¬0<b*c-d*a:=by lia
  by_cases h2:b*c<d*a
  ·have J:b*c-d*a<0:=by lia
   simp[se,runD,zfz,je,I,h1,h2,D,J]
  ·have J:¬b*c-d*a<0:=by lia
   simp[se,runD,zfz,je,I,h1,h2,D,J]
theorem yp(i:Int):qi [.int i]=some (.bl true):=by
 simp[qi,runD,zkh,je]
abbrev Sk:=Int×Int×Int
abbrev k7:=List Sk
abbrev k8:=List (List Sk)
def sD(s:Sk):D:=.tup [.int s.1,.int s.2.1,.int s.2.2]
def iy(s:Sk):Prop:=1<=s.1/\s.1<=60/\1<=s.2.1/\s.2.1<=60/\0<=s.2.2/\s.2.2<=100
theorem b3:Bnd 1 1073741824 3:=⟨by decide,by decide⟩
variable{n i:Nat}
theorem t6{i:Int}(D:0<=i)(h1:i<n):ixN n i=some i.toNat:=by unfold ixN;rw[if_pos D,if_pos h1]
noncomputable def hl:FS:=sSeq (sSet 10 (fBin il (fC (.int 1)) (fBin dMod (fVar 9) (fC (.int 60))))) (sSeq (sSet 11 (fBin dMod (fBin dDiv (fVar 9) (fC (.int 60))) (fC (.int 101)))) (sSeq (sIf (fTst (fBin dEq (fVar 4) (fC (.int 1)))) (sSeq (sSet 10 (fBin il (fC (.int 1)) (fBin dMod (fVar 9) (fBin dSub (fC (.int 4)) (fBin dMul (fC (.int 2)) (fVar 5)))))) (sSet 11 (fBin dMod (fBin dDiv (fVar 9) (fC (.int 60))) (fBin dSub (fC (.int 4)) (fBin dMul (fC (.int 2)) (fVar 5)))))) (sNil)) (sSeq (sIf (fTst (fBin dEq (fVar 4) (fC (.int 2)))) (sSeq (sSet 10 (fBin dIx (fLst (f7 (aq (fC (.int 1)) (aq (fC (.int 60)) (aq (fC (.int 2)) (aq (fC (.int 59)) (fNil))))))) (fBin dMod (fVar 9) (fC (.int 4))))) (sSet 11 (fBin dIx (fLst (f7 (aq (fC (.int 0)) (aq (fC (.int 100)) (aq (fC (.int 1)) (aq (fC (.int 99)) (fNil))))))) (fBin dMod (fBin dDiv (fVar 9) (fC (.int 60))) (fC (.int 4)))))) (sNil)) (sIf (fTst (fBin dEq (fVar 4) (fC (.int 3)))) (sSeq (sSet 10 (fBin dIx (fLst (f7 (aq (fVar 10) (aq (fBin il (fC (.int 58)) (fBin dMod (fVar 9) (fC (.int 3)))) (fNil))))) (fVar 5))) (sSet 11 (fVar 10))) (sNil)))))
noncomputable def pl:FS:=sSeq (sSet 12 (fBin dMod (fBin dIx (fLst (f7 (aq (fBin dDiv (fVar 9) (fC (.int 6060))) (aq (fVar 8) (fNil))))) (fBin dMul (fBin dDiv (fVar 4) (fC (.int 3))) (fVar 5))) (fVar 2))) (sSeq (sSet 13 (z3f 7 (fBin dMod (fBin dDiv (fVar 9) (fC (.int 30300))) (jd 7)))) (ja (zwg 6 (fVar 12) (fTup (aq (fVar 13) (aq (fVar 10) (aq (fVar 11) (fNil))))))))
def z6i(s:k7):k7:=match s.getLast? with
 | none=>[]
 | some x=>s.dropLast++[(x.1,x.2.1,x.2.2+1)]
structure SInv (menu:Int) (many k:Nat) (sss:k8) (pool:g7):Prop where
 len:sss.length=many
 tot:sss.flatten.length=k
 good:∀x∈sss.flatten,iy x/\(menu=3->x.2.2<=60)
 perm:(pool++sss.flatten.map (·.1)).Perm (rngL 1 61)
structure Stk (most:Nat) (ss:k8):Prop where
 many:ss.length<=5
 tot:ss.flatten.length<=most
 good:∀x∈ss.flatten,iy x
 nd:(ss.flatten.map (·.1)).Nodup
def iT(xs:g7):D:=.tup (xs.map D.int)
variable{α:Type}{k:Nat}
theorem l3(f:α->D){xs:List α}{x:α}(h:xs[k]?=some x):atI (xs.map f) (k:Int)=some (f x):=by
 have I:=(ah.mp h).1;unfold atI;rw[t6 (by lia) (by rw[ae];lia)];simp[h]
abbrev Bk:=Int×Int×Int
def hrs(r:k7):Int:=(r.map (·.2.1)).sum
def lss(r:k7):Int:=(r.map (·.2.2)).sum
def blk(r:k7):Bk:=(r.length,hrs r,lss r)
def jn(u b:Bk):Bk:=(u.1+b.1,u.2.1+b.2.1,u.2.2+b.2.2)
def gt(u b:Bk):Prop:=b.2.2*u.2.1<u.2.2*b.2.1
instance (u b:Bk):Decidable (gt u b):=inferInstanceAs (Decidable (_<_))
def SmB(b:Bk):Prop:=li b.2.1/\li b.2.2
theorem zuk(s:Sk):zef [sD s]=some (sD (1,s.2.1,s.2.2)):=by
 rfl
theorem zul(u b:Bk):zeg [sD u,sD b]=some (sD (jn u b)):=by
 simp[zeg,runD,ziu,je,sD,z5q,zww,ye,jn]
theorem zsf(u b:Bk)(U:SmB u)(V:SmB b):sg [sD u,sD b]=some (.bl (decide (gt u b))):=by
 obtain⟨Y,I,J⟩:=u;obtain⟨Z,R,b3⟩:=b;have S:∀x y z:Int,zg [sD (x,y,z)]=some (.tup [.int y,.int z]):=λx y z=>by simp[zg,runD,zjo,je,sD,zww,ye]
 have D:=zq7 I J R b3 U.2 V.2;by_cases h1:b3*I<J*R
 ·rw[if_pos h1] at D
  simp[sg,runD,zce,je,S,D,gt,h1]
 ·rw[if_neg h1] at D
  by_cases h2:J*R<b3*I
  ·rw[if_pos h2] at D
   simp[sg,runD,zce,je,S,D,gt,h1]
  ·rw[if_neg h2] at D
   simp[sg,runD,zce,je,S,D,gt,h1]
theorem zum(bs:i0)(x:D):atI (bs++[x]) (-1)=some x:=zvx bs x
theorem oy(a b:k7):hrs (a++b)=hrs a+hrs b:=by simp[hrs]
theorem qb(a b:k7):lss (a++b)=lss a+lss b:=by simp[lss]
theorem z32(a b:k7):jn (blk a) (blk b)=blk (a++b):=by
 simp only[jn,blk,oy,qb,am];simp
theorem wc(r:k7)(h:∀x∈r,iy x):(r.length:Int)<=hrs r/\hrs r<=60*r.length/\0<=lss r/\lss r<=100*r.length:=by
 induction r with
 | nil=>simp[hrs,lss]
 | cons x r ih =>
   obtain⟨h1,h2,D,I⟩:=ih λy J=>h y (av _ J);obtain⟨_,_,R,S,U,V⟩:=h x bj;simp[hrs,lss,fm] at h1 h2 D I ⊢
   lia
theorem smB(r:k7)(h:∀x∈r,iy x)(D:r.length<=1000):SmB (blk r):=by
 obtain⟨h1,h2,I,J⟩:=wc r h;exact⟨rn (by show -1000000000000<hrs r/\hrs r<1000000000000;lia),rn (by show -1000000000000<lss r/\lss r<1000000000000;lia)⟩
def lc:k8->k7->k8×k7
 | [],b=>([],b)
 | u::r,b=>if gt (blk u) (blk b) then(u::r,b) else lc r (u++b)
def bD(r:k7):D:=sD (blk r)
theorem zpu(v0 v2:kf)(bs:i0)(u b:k7):zdg [v0,some (.ow (bs++[bD u])),v2,some (.sh (bD b))]=some (.nx,[v0,some (.ow bs),v2,some (.sh (bD (u++b)))]):=by
 have e:=zul (blk u) (blk b);rw[z32] at e;simp[zdg,bD,e]
theorem zq8(v0 v2:kf):∀(n:Nat) (D:k8) (b:k7),D.length<n->(∀r∈D,∀x∈r,iy x)->(∀x∈b,iy x)->(D.flatten.length+b.length<=1000) ->
  l4 (fAnd (fTst (fBin dGt (jd 1) (fC (.int 0)))) (fNot (fTst (d5 sg (aq (fIxV 1 (fUn dNeg (fC (.int 1)))) (aq (fVar 3) (fNil))))))) zdg n
   [v0,some (.ow (D.reverse.map bD)),v2,some (.sh (bD b))]=some (.nx,[v0,some (.ow ((lc D b).1.reverse.map bD)),v2,some (.sh (bD (lc D b).2))])
 | n+1,[],b,_,_,_,_=>by simp[l4,lc]
 | n+1,u::r,b,h,hs,hb,hl=>by
   rw[cr,am] at hl;have J:sg [bD u,bD b]=some (.bl (decide (gt (blk u) (blk b)))):=zsf (blk u) (blk b) (smB u (hs u (by simp)) (by lia)) (smB b hb (by lia));have R:(0:Int)<(r.length:Int)+1:=by lia
   have I:=zpu v0 v2 (r.reverse.map bD) u b;unfold l4;rw[List.reverse_cons,cz,ci,du];by_cases h1:gt (blk u) (blk b)
   ·simp[lc,h1,J,R,zum]
   ·have S:=zq8 v0 v2 n r (u++b) (by simpa using h) (λt U=>hs t (by simp[U])) (λx hx=>by
     rcases cw.mp hx with hx | hx
     ·exact hs u (by simp) x hx
     ·exact hb x hx) (by rw[am];lia)
    have V:lc (u::r) b=lc r (u++b):=by simp[lc,h1]
    rw[V];have Y:(fAnd (fTst (fBin dGt (jd 1) (fC (.int 0)))) (fNot (fTst (d5 sg (aq (fIxV 1 (fUn dNeg (fC (.int 1)))) (aq (fVar 3) (fNil)))))))
      [v0,some (.ow (r.reverse.map bD++[bD u])),v2,some (.sh (bD b))]=some (true,[v0,some (.ow (r.reverse.map bD++[bD u])),v2,some (.sh (bD b))]):=by
     simp[h1,J,R,zum]
    rw[Y,ac];rw[if_pos rfl,I,ac];exact S
structure Good (r:k7):Prop where
 ne:r≠[]
 beg:∀p,p <+: r->lss p*hrs r<=lss r*hrs p
theorem zyn(r:k7)(h:∀x∈r,iy x):0<=hrs r:=by have:=wc r h;lia
theorem qa(r:k7)(h:∀x∈r,iy x)(D:r≠[]):0<hrs r:=by
 have h1:=wc r h;have:0<r.length:=iu.mpr D
 lia
theorem zpv{α:Type}:∀ {u b p:List α},p <+: u++b->p <+: u\/∃t,p=u++t/\t <+: b
 | [],b,p,h=>.inr ⟨p,rfl,h⟩
 | a::u,b,[],h=>.inl List.nil_prefix
 | a::u,b,c::p,h=>by
   rw[jh,List.cons_prefix_cons] at h;obtain⟨rfl,h⟩:=h;rcases zpv h with h | ⟨t,rfl,ht⟩
   ·exact .inl (by rw[List.cons_prefix_cons];exact⟨rfl,h⟩)
   ·exact .inr ⟨t,rfl,ht⟩
variable{b:Bk}
theorem Good.join{u b:k7}(I:Good u)(R:Good b)(S:∀x∈u,iy x)(U:∀x∈b,iy x)(h:¬gt (blk u) (blk b)):Good (u++b):=by
 have h':lss u*hrs b<=lss b*hrs u:=Int.not_lt.mp h;have c:=qa u S I.ne;have V:=qa b U R.ne;refine⟨by simp[I.ne],λp D=>?_⟩;rw[oy,qb];rcases zpv D with D | ⟨t,rfl,ht⟩
 ·-- within u
  have h1:=I.beg p D;have pp:0<=hrs p:=zyn p λx J=>S x (D.subset J);have k:lss p*hrs u*(hrs u+hrs b)<=lss u*hrs p*(hrs u+hrs b):=gl h1 (by lia);have l:hrs p*(lss u*hrs b)<=hrs p*(lss b*hrs u):=o9 h' pp;have d:lss p*(hrs u+hrs b)*hrs u<=(lss u+lss b)*hrs p*hrs u:=by
   have Y:lss p*(hrs u+hrs b)*hrs u=lss p*hrs u*(hrs u+hrs b):=by rw[h9,gy (hrs u+hrs b),<-h9]
   have Z:lss u*hrs p*(hrs u+hrs b)=lss u*hrs p*hrs u+hrs p*(lss u*hrs b):=by rw[gh,gy (lss u) (hrs p),h9 (hrs p) (lss u) (hrs b)]
   have e:(lss u+lss b)*hrs p*hrs u=lss u*hrs p*hrs u+hrs p*(lss b*hrs u):=by rw[gp,gp,gy (lss b) (hrs p),h9 (hrs p) (lss b) (hrs u)]
   lia
  exact uk d c
 ·-- u and a beginning of b
  rw[oy,qb];have h1:=R.beg t ht;obtain⟨q,rfl⟩:=ht;rw[oy,qb] at h1 h' ⊢;rw[oy] at V;have f:0<=hrs q:=zyn q λx J=>U x (bw _ J);have g:lss t*hrs q<=lss q*hrs t:=by
   have Y:lss t*(hrs t+hrs q)=lss t*hrs t+lss t*hrs q:=gh _ _ _;have Z:(lss t+lss q)*hrs t=lss t*hrs t+lss q*hrs t:=gp _ _ _
   lia
  have m:lss u*(hrs t+hrs q)*hrs q<=(lss t+lss q)*hrs u*hrs q:=gl h' f;have i:0<=hrs u:=by lia
  have b3:hrs u*(lss t*hrs q)<=hrs u*(lss q*hrs t):=o9 g i;have j:lss u*hrs q*(hrs t+hrs q)<=lss q*hrs u*(hrs t+hrs q):=by
   have Y:lss u*hrs q*(hrs t+hrs q)=lss u*(hrs t+hrs q)*hrs q:=by rw[h9,gy (hrs q),<-h9]
   have Z:(lss t+lss q)*hrs u*hrs q=hrs u*(lss t*hrs q)+lss q*hrs u*hrs q:=by rw[gp,gp,gy (lss t) (hrs u),h9 (hrs u) (lss t) (hrs q)]
   have e:lss q*hrs u*(hrs t+hrs q)=hrs u*(lss q*hrs t)+lss q*hrs u*hrs q:=by rw[gh,gy (lss q) (hrs u),h9 (hrs u) (lss q) (hrs t)]
   lia
  have n:lss u*hrs q<=lss q*hrs u:=uk j V;simp only[gh,gp]
  lia
def Desc:k8->Prop
 | []=>True
 | [_]=>True
 | b::u::r=>gt (blk u) (blk b)/\Desc (u::r)
structure Runs (rs:k8) (s:k7):Prop where
 flat:rs.reverse.flatten=s
 good:∀r∈rs,Good r
 desc:Desc rs
theorem zq9:∀(R:k8) (b:k7) (s:k7),Runs R s->Good b->(∀x∈s++b,iy x)->Runs ((lc R b).2::(lc R b).1) (s++b)
 | [],b,s,h,gb,_=>by
   have:s=[]:=by have:=h.flat;simpa using this.symm
   subst this;exact⟨by simp[lc],λr I=>by simp[lc] at I;rw[I];exact gb,trivial⟩
 | u::r,b,s,h,gb,hx=>by
   have J:s=r.reverse.flatten++u:=by rw[<-h.flat];simp
   by_cases h1:gt (blk u) (blk b)
   ·have e:lc (u::r) b=(u::r,b):=by simp[lc,h1]
    rw[e];refine⟨by simp[J],λt ht=>?_,h1,h.desc⟩;rcases b7.mp ht with rfl | ht
    ·exact gb
    ·exact h.good t ht
   ·have e:lc (u::r) b=lc r (u++b):=by simp[lc,h1]
    rw[e];have I:Runs r r.reverse.flatten:=⟨rfl,λt ht=>h.good t (av _ ht),by
     have:=h.desc;cases r with
     | nil=>trivial
     | cons v r=>exact this.2⟩
    have S:Good (u++b):=(h.good u (by simp)).join gb (λx D=>hx x (by rw[J];simp[D])) (λx D=>hx x (by simp[D])) h1;have:=zq9 r (u++b) r.reverse.flatten I S (λx D=>hx x (by rw[J];simpa[or_assoc] using D));rw[J,dh];exact this
theorem zxe(x:Sk)(h:iy x):Good [x]:=⟨by simp,λp I=>by
 have:p=[]\/p=[x]:=by
  obtain⟨t,D⟩:=I;cases p with
  | nil=>exact .inl rfl
  | cons y q=>simp at D;simp[D]
 rcases this with rfl | rfl
 ·simp[lss,hrs]
 ·exact Int.le_refl _⟩
theorem zun(x:Sk):zef [sD x]=some (bD [x]):=by
 rw[zuk];simp[bD,blk,hrs,lss]
theorem zpw(S:D)(I:k8)(s:k7)(x:Sk)(v2 f:kf)(h:Runs I s)(Y:∀y∈s++[x],iy y)(n:s.length<900) :
  ∃R b,Runs R (s++[x])/\zdh [some (.sh S),some (.ow (I.reverse.map bD)),some (.sh (sD x)),f]=some (.nx,[some (.sh S),some (.ow (R.reverse.map bD)),some (.sh (sD x)),b]):=by
 have U:I.flatten.length=s.length:=by
  rw[<-h.flat,iw,iw,List.map_reverse,List.sum_reverse]
 have g:I.length<=s.length:=by
  rw[<-U];have:∀(l:k8),(∀r∈l,r≠[])->l.length<=l.flatten.length:=λl=>by
   induction l with
   | nil=>intro _;simp
   | cons a l ih =>
     intro V;have:=ih λr J=>V r (av _ J);have i:0<a.length:=iu.mpr (V a bj);rw[ak,cr,am]
     lia
  exact this I λr J=>(h.good r J).ne
 have j:=zq8 (some (.sh S)) (some (.sh (sD x))) 10000 I [x] (by lia) (λr J y Z=>Y y (by
  rw[<-h.flat];exact dy _ (f6.mpr ⟨r,by simpa using J,Z⟩))) (λy Z=>Y y (by simp at Z;simp[Z])) (by rw[U];simp;lia)
 have J:=zq9 I [x] s h (zxe x (Y x (by simp))) Y;refine⟨_,some (.sh (bD (lc I [x]).2)),J,?_⟩;have d:(lc I [x]).1.length<=s.length:=by
  have e:=J.flat;have:∀(l:k8),(∀r∈l,r≠[])->l.length<=l.flatten.length:=λl=>by
   induction l with
   | nil=>intro _;simp
   | cons a l ih =>
     intro V;have:=ih λr J=>V r (av _ J);have i:0<a.length:=iu.mpr (V a bj);rw[ak,cr,am]
     lia
  have h2:=this _ λr c=>(J.good r c).ne;have k:(((lc I [x]).2::(lc I [x]).1).flatten).length=(s++[x]).length:=by
   rw[<-e,iw,iw,List.map_reverse,List.sum_reverse]
  rw[k] at h2;simp at h2;exact h2
 have m:Few ((lc I [x]).1.length+1):=few (by lia);unfold zdh;simp only[sSeq,sSet,d5,aq,fVar,fNil,af,ai,ac,aj,zun,ax,bc,j,ja,qd,yb,ae,List.length_reverse,m,if_true];simp
theorem zh2(s:k7)(V:∀y∈s,iy y)(a:s.length<=14):∃D,Runs D s/\zf7 [.lst (s.map sD)]=some (.lst (D.reverse.map bD)):=by
 obtain⟨e',h1,D,v2,I,J,rfl⟩:=vd (i:=2) (g:=zdh) sD (λp e=>∃D v2 I,Runs D p/\e=[some (.sh (.lst (s.map sD))),some (.ow (D.reverse.map bD)),v2,I]) s
  [some (.sh (.lst (s.map sD))),some (.ow []),none,none] ⟨[],none,none,⟨rfl,λr J=>by simp at J,trivial⟩,rfl⟩ (by
   rintro p x q e R ⟨D,v2,I,J,rfl⟩;obtain⟨S,Y,U,Z⟩:=zpw (.lst (s.map sD)) D p x v2 I J (λy hy=>V y (by
    rw[R];rcases cw.mp hy with hy | hy
    ·simp[hy]
    ·simp at hy;simp[hy])) (by
    have:s.length=p.length+(q.length+1):=by rw[R];simp
    lia)
   exact⟨_,Z,S,_,_,U,rfl⟩)
 refine⟨D,J,?_⟩;refine j7 (e':=[some (.sh (.lst (s.map sD))),some (.sh (.lst (D.reverse.map bD))),v2,I]) rfl ?_;show zf6 [some (.sh (.lst (s.map sD))),none,none,none]=_;simp[zf6,h1]
theorem tj(f:α->Int)(r:List α):bSum [.lst (r.map λx=>.int (f x))]=some (.int (r.map f).sum):=by
 have:(r.map λx=>D.int (f x))=(r.map f).map D.int:=by rw[jc];rfl
 rw[this];show(ints? ((r.map f).map D.int)).map _=_;rw[ztq];rfl
theorem zow{α:Type}{ix:g0}{g:FS}(I:α->i0)(P:List α->DE0->Prop)(all:List α)(R:∀x∈all,(I x).length=ix.length)(S:∀(p:List α) (x:α) (q:List α) (e:DE0),all=p++x::q->P p e->∃e',g (oo ix (I x) e)=some (.nx,e')/\P (p++[x]) e') :
  ∀(xs J:List α) (e:DE0),all=J++xs->P J e->∃e',forU ix g (xs.map λx=>D.tup (I x)) e=some (.nx,e')/\P all e'
 | [],J,e,h,hp=>⟨e,rfl,by rw[h,de];exact hp⟩
 | x::xs,J,e,h,hp=>by
   obtain⟨U,h1,p1⟩:=S J x xs e h hp;obtain⟨V,h2,p2⟩:=zow I P all R S xs (J++[x]) U (by rw[h];simp) p1;have Y:=R x (by rw[h];simp);exact⟨V,by simp[forU,unp,Y,h1,h2],p2⟩
variable{g:FS}
theorem ww{ix:g0}(I:α->i0)(P:List α->DE0->Prop)(all:List α)(e:DE0)(J:P [] e)(R:∀x∈all,(I x).length=ix.length)(S:∀(p:List α) (x:α) (q:List α) (e:DE0),all=p++x::q->P p e->∃e',g (oo ix (I x) e)=some (.nx,e')/\P (p++[x]) e') :
  ∃e',forU ix g (all.map λx=>D.tup (I x)) e=some (.nx,e')/\P all e':=zow I P all R S all [] e rfl J
theorem zox{α:Type}(f:α->D):∀(xs:List α) (c:Nat),n9 c (xs.map f)=(xs.zipIdx c).map λp=>D.tup [.int (p.2:Nat),f p.1]
 | [],c=>rfl
 | x::xs,c=>by simp[n9,List.zipIdx_cons,zox f xs (c+1)]
theorem zra{α β:Type}(f:α->D)(g:β->D):∀(xs:List α) (ys:List β),zipD (xs.map f) (ys.map g)=(xs.zip ys).map λp=>D.tup [f p.1,g p.2]
 | [],ys=>by simp[zipD]
 | x::xs,[]=>by simp[zipD]
 | x::xs,y::ys=>by simp[zipD,zra f g xs ys]
theorem t5{u:Bk}(h:gt u b):¬gt b u:=λz=>by
 unfold gt at h z
 lia
variable{c:Bk}
theorem z8{n:Bk}(J:0<n.2.1)(R:0<c.2.1)(D:0<b.2.1)(h1:gt n c)(h2:¬gt b c):gt n b:=by
 have h2:b.2.2*c.2.1<=c.2.2*b.2.1:=Int.not_lt.mp h2;have S:b.2.2*c.2.1*n.2.1<=c.2.2*b.2.1*n.2.1:=gl h2 (by lia);have U:c.2.2*n.2.1*b.2.1<n.2.2*c.2.1*b.2.1:=su h1 D;have I:b.2.2*n.2.1*c.2.1<n.2.2*b.2.1*c.2.1:=by
  have V:b.2.2*n.2.1*c.2.1=b.2.2*c.2.1*n.2.1:=gw ..;have Y:n.2.2*b.2.1*c.2.1=n.2.2*c.2.1*b.2.1:=gw ..;have Z:c.2.2*b.2.1*n.2.1=c.2.2*n.2.1*b.2.1:=gw ..
  lia
 exact uj I (by lia)
theorem z52{n:Bk}(D:0<n.2.1)(J:0<c.2.1)(R:0<b.2.1)(h1:¬gt c n)(h2:gt c b):gt n b:=by
 have h1:c.2.2*n.2.1<=n.2.2*c.2.1:=Int.not_lt.mp h1;have S:c.2.2*n.2.1*b.2.1<=n.2.2*c.2.1*b.2.1:=gl h1 (by lia);have U:b.2.2*c.2.1*n.2.1<c.2.2*b.2.1*n.2.1:=su h2 D;have I:b.2.2*n.2.1*c.2.1<n.2.2*b.2.1*c.2.1:=by
  have V:b.2.2*n.2.1*c.2.1=b.2.2*c.2.1*n.2.1:=gw ..;have Y:n.2.2*b.2.1*c.2.1=n.2.2*c.2.1*b.2.1:=gw ..;have Z:c.2.2*b.2.1*n.2.1=c.2.2*n.2.1*b.2.1:=gw ..
  lia
 exact uj I (by lia)
theorem z33{n:Bk}(D:0<n.2.1)(I:0<c.2.1)(J:0<b.2.1)(h1:¬gt c n)(h2:¬gt b c):¬gt b n:=λz=>by
 have:=z8 (n:=b) (c:=n) (b:=c) J D I z h1;exact h2 this
abbrev Tn:=Nat×k7
abbrev k9:=List Tn
def tnD(t:Tn):D:=.tup [.int (t.1:Int),.int (t.2.length:Int),.int (hrs t.2),.int (lss t.2)]
theorem zuo(t:Tn):vj [tnD t]=some (.tup [.int (hrs t.2),.int (lss t.2)]):=by
 simp[vj,runD,zkj,je,tnD,z5t,z5u]
def geT(a b:Tn):Bool:=!decide (gt (blk b.2) (blk a.2))
variable{b:Int}{a:Nat}
theorem z0p{a b:Tn}:geT a b=true↔¬gt (blk b.2) (blk a.2):=by simp[geT]
theorem z0q(t n:Tn)(D:SmB (blk t.2))(I:SmB (blk n.2)):∃z:Int,se [.tup [.int (hrs t.2),.int (lss t.2)],.tup [.int (hrs n.2),.int (lss n.2)]]=some (.int z)/\decide (0<=z)=geT t n:=by
 refine⟨_,zq7 _ _ _ _ D.2 I.2,?_⟩;show decide ((0:Int)<=if lss n.2*hrs t.2<lss t.2*hrs n.2 then 1 else if lss t.2*hrs n.2<lss n.2*hrs t.2 then -1 else 0)=!decide (lss t.2*hrs n.2<lss n.2*hrs t.2);by_cases h1:lss n.2*hrs t.2<lss t.2*hrs n.2
 ·rw[if_pos h1]
  have h2:¬lss t.2*hrs n.2<lss n.2*hrs t.2:=by lia
  simp[h2]
 ·rw[if_neg h1]
  by_cases h2:lss t.2*hrs n.2<lss n.2*hrs t.2
  ·simp[h2]
  ·simp[h2]
def plc(ts:k9)(n:Tn):Nat:=(ts.takeWhile λt=>geT t n).length
noncomputable def zma:FT:=fAnd (fTst (fBin dLt (fVar 2) (jd 0))) (fTst (fBin dGe (d5 se (aq (d5 vj (aq (fIxV 0 (fVar 2)) (fNil))) (aq (d5 vj (aq (fVar 1) (fNil))) (fNil)))) (fC (.int 0))))
theorem zld(n:Tn)(V:SmB (blk n.2)):∀(I D:k9) (J:Nat),I.length<J->(∀t∈I,SmB (blk t.2)) ->
  l4 zma zx J [some (.sh (.lst ((D++I).map tnD))),some (.sh (tnD n)),some (.sh (.int (D.length:Int)))]=some (.nx,[some (.sh (.lst ((D++I).map tnD))),some (.sh (tnD n)),some (.sh (.int ((D.length+plc I n:Nat):Int)))])
 | [],D,f+1,h,_=>by
   unfold l4 zma;simp[plc]
 | t::r,D,f+1,h,hs=>by
   obtain⟨z,Z,a⟩:=z0q t n (hs t (by simp)) V;have R:atI ((D++t::r).map tnD) (D.length:Int)=some (tnD t):=l3 tnD (by simp);have S:(D.length:Int)<((D++t::r).map tnD).length:=by simp;lia
   have b:zma [some (.sh (.lst ((D++t::r).map tnD))),some (.sh (tnD n)),some (.sh (.int (D.length:Int)))]=some (geT t n,[some (.sh (.lst ((D++t::r).map tnD))),some (.sh (tnD n)),some (.sh (.int (D.length:Int)))]):=by
    unfold zma;generalize (D++t::r).map tnD=L at R S;simp[S,R,zuo,Z,a]
   unfold l4;rw[b,ac];cases hg:geT t n with
   | false =>
     simp[plc,hg]
   | true =>
     rw[if_pos rfl];have c:zx [some (.sh (.lst ((D++t::r).map tnD))),some (.sh (tnD n)),some (.sh (.int (D.length:Int)))]=some (.nx,[some (.sh (.lst ((D++t::r).map tnD))),some (.sh (tnD n)),some (.sh (.int ((D++[t]).length:Int)))]):=by
      simp[zx]
     rw[c,ac];have Y:=zld n V r (D++[t]) f (by simpa using h) λt' U=>hs t' (by simp[U]);rw[dh,f8] at Y;rw[Y];have:(D++[t]).length+plc r n=D.length+plc (t::r) n:=by simp[plc,hg];lia
     rw[this]
theorem zxg(ts:k9)(n:Tn)(D:SmB (blk n.2))(I:∀t∈ts,SmB (blk t.2))(J:ts.length<9000):zfo [.lst (ts.map tnD),tnD n]=some (.int (plc ts n:Int)):=by
 have h:=zld n D ts [] 10000 (by lia) I;refine j7 (e':=[some (.sh (.lst (ts.map tnD))),some (.sh (tnD n)),some (.sh (.int (plc ts n:Int)))]) rfl ?_;show zfn [some (.sh (.lst (ts.map tnD))),some (.sh (tnD n)),none]=_;have h':l4 zma zx 10000 [some (.sh (.lst (ts.map tnD))),some (.sh (tnD n)),some (.sh (.int 0))]=_:=h;unfold zma at h';simp[zfn,h']
def ins(ts:k9)(n:Tn):k9:=(ts.takeWhile λt=>geT t n)++n::ts.dropWhile λt=>geT t n
theorem z34(ts:k9)(n:Tn):(ts.map tnD).take (plc ts n)++tnD n::(ts.map tnD).drop (plc ts n)=(ins ts n).map tnD:=by
 have e:=jf (p:=λt=>geT t n) (l:=ts);have D:plc ts n=(ts.takeWhile λt=>geT t n).length:=rfl;have h1:ts.take (plc ts n)=ts.takeWhile λt=>geT t n:=by
  rw[D];generalize (ts.takeWhile λt=>geT t n)=A at e;rw[<-e];exact j0
 have h2:ts.drop (plc ts n)=ts.dropWhile λt=>geT t n:=by
  rw[D];generalize (ts.takeWhile λt=>geT t n)=A at e
  conv=>lhs;rw[<-e]
  exact List.drop_left
 rw[<-List.map_take,<-List.map_drop,h1,h2];simp[ins]
theorem z35(ts:k9)(n:Tn):plc ts n<=ts.length:=(List.takeWhile_sublist _).length_le
theorem zsg(v0 J U:kf)(ts:k9)(I:Nat)(r:k7)(V:SmB (blk r))(Y:∀t∈ts,SmB (blk t.2))(Z:ts.length<9000) :
  zt [v0,some (.ow (ts.map tnD)),some (.sh (.int (I:Int))),J,some (.sh (.int (r.length:Int))),some (.sh (.int (hrs r))),some (.sh (.int (lss r))),U] =
   some (.nx,[v0,some (.ow ((ins ts (I,r)).map tnD)),some (.sh (.int (I:Int))),J,some (.sh (.int (r.length:Int))),some (.sh (.int (hrs r))),some (.sh (.int (lss r))),some (.sh (tnD (I,r)))]):=by
 have R:=zxg ts (I,r) V Y Z;have S:=z34 ts (I,r);have h1:(plc ts (I,r):Int)<=((ts.map tnD).length:Nat):=by rw[ae];have:=z35 ts (I,r);lia
 have h2:Few ((ts.map tnD).length+1):=few (by rw[ae];lia);have a:D.tup [.int (I:Int),.int (r.length:Int),.int (hrs r),.int (lss r)]=tnD (I,r):=rfl;have b:(0:Int)<=(plc ts (I,r):Int):=by lia
 generalize ts.map tnD=L at R S h1 h2;simp[zt,zmx,yi,zwu,a,R,zz8,zz4,b,h1,h2,gg,S]
def bef(a b:Tn):Prop:=gt (blk a.2) (blk b.2)\/(¬gt (blk b.2) (blk a.2)/\a.1<b.1)
def ofS(ts:k9)(j:Nat):k8:=(ts.filter λt=>t.1==j+1).map (·.2)
structure TurnsOk (ss:k8) (ts:k9):Prop where
 lo:∀t∈ts,1<=t.1/\t.1<=ss.length
 good:∀t∈ts,Good t.2
 part:∀(j:Nat) (s:k7),ss[j]?=some s->(ofS ts j).flatten=s
 srt:ts.Pairwise bef
 perm:(ts.map (·.2)).flatten.Perm ss.flatten
variable{ss:k8}{ts:k9}
theorem TurnsOk.sk(h:TurnsOk ss ts)(D:∀x∈ss.flatten,iy x):∀t∈ts,∀x∈t.2,iy x:=λt I x J =>
 D x (h.perm.mem_iff.mp (f6.mpr ⟨t.2,fy.mpr ⟨t,I,rfl⟩,J⟩))
theorem TurnsOk.len1(h:TurnsOk ss ts):∀t∈ts,t.2.length<=ss.flatten.length:=λt D=>by
 rw[<-h.perm.length_eq];exact(d9 (fy.mpr ⟨t,D,rfl⟩)).length_le
theorem zup{α:Type}:∀(l:List (List α)),(∀r∈l,r≠[])->l.length<=l.flatten.length
 | [],_=>by simp
 | a::l,h=>by
   have:=zup l λr D=>h r (av _ D);have I:0<a.length:=iu.mpr (h a bj);rw[ak,cr,am]
   lia
theorem TurnsOk.len(h:TurnsOk ss ts):ts.length<=ss.flatten.length:=by
 have:=zup (ts.map (·.2)) λr D=>by
  obtain⟨t,I,rfl⟩:=fy.mp D;exact(h.good t I).ne
 rw[ae,h.perm.length_eq] at this;exact this
protected theorem TurnsOk.pos(h:TurnsOk ss ts)(I:∀x∈ss.flatten,iy x):∀t∈ts,0<hrs t.2:=λt D=>qa t.2 (h.sk I t D) (h.good t D).ne
theorem TurnsOk.sm(h:TurnsOk ss ts)(I:∀x∈ss.flatten,iy x)(J:ss.flatten.length<=1000):∀t∈ts,SmB (blk t.2):=λt D=>smB t.2 (h.sk I t D) (dc (h.len1 t D) J)
theorem TurnsOk.more(h:TurnsOk ss ts):TurnsOk (ss++[[]]) ts/\ofS ts ss.length=[]:=by
 have e:ofS ts ss.length=[]:=by
  unfold ofS;rw[List.filter_eq_nil_iff.mpr λt I=>by have:=(h.lo t I).2;simp;lia];rfl
 refine⟨⟨λt I=>⟨(h.lo t I).1,by have:=(h.lo t I).2;simp;lia⟩,h.good,λj s D=>?_,h.srt,by simpa using h.perm⟩,e⟩;by_cases J:j<ss.length
 ·rw[au J] at D
  exact h.part j s D
 ·have:j=ss.length:=by
   have:=(ah.mp D).1;simp at this
   lia
  subst this;simp at D;subst D;rw[e];rfl
theorem z0r{ts:k9}{n t:Tn}:t∈ins ts n↔t∈ts\/t=n:=by
 unfold ins;have e:=jf (p:=λt=>geT t n) (l:=ts);have D:t∈ts↔t∈(ts.takeWhile λt=>geT t n)\/t∈ts.dropWhile λt=>geT t n:=by
  conv=>lhs;rw[<-e]
  exact cw
 rw[D];simp[cw];constructor
 ·rintro(h | h | h)
  ·exact .inl (.inl h)
  ·exact .inr h
  ·exact .inl (.inr h)
 ·rintro((h | h) | h)
  ·exact .inl h
  ·exact .inr (.inr h)
  ·exact .inr (.inl h)
theorem TurnsOk.ins{ss:k8}{ts:k9}{D r:k7}{p:k8}(h:TurnsOk (ss++[D]) ts)(V:ofS ts ss.length=p)(m:Good r)(g:∀x∈r,iy x)(v:∀x∈(ss++[D]).flatten,iy x)(w:∀u∈p,gt (blk u) (blk r)):TurnsOk (ss++[D++r]) (LB.ins ts (ss.length+1,r))/\ofS (LB.ins ts (ss.length+1,r)) ss.length=p++[r]:=by
 have e:=jf (p:=λt=>geT t (ss.length+1,r)) (l:=ts);have hA:∀t∈(ts.takeWhile λt=>geT t (ss.length+1,r)),geT t (ss.length+1,r)=true:=λt R=>by
  have:=List.all_takeWhile (p:=λt=>geT t (ss.length+1,r)) (l:=ts);exact gk.mp this t R
 have y:0<hrs r:=qa r g m.ne;have I:=@z0r ts (ss.length+1,r);have i:∀S c,ts.dropWhile (λt=>geT t (ss.length+1,r))=S::c->gt (blk r) (blk S.2):=λS c hb=>by
  have:geT S (ss.length+1,r)=false:=by
   have:=List.head?_dropWhile_not (p:=λt=>geT t (ss.length+1,r)) ts;rw[hb] at this;simpa using this
  unfold geT at this;simpa using this
 unfold LB.ins at I ⊢;have srt:=h.srt;have pos:=h.pos v;have U:∀t∈ts,t.1=ss.length+1->gt (blk t.2) (blk r):=λt R Y=>w t.2 (by
  rw[<-V];exact fy.mpr ⟨t,i4.mpr ⟨R,by simp[Y]⟩,rfl⟩)
 have lo:=h.lo;have part:=h.part;have J:=h.perm;rw[<-e] at srt pos U lo part J V;generalize (ts.takeWhile λt=>geT t (ss.length+1,r))=A at *;generalize (ts.dropWhile λt=>geT t (ss.length+1,r))=B at *;have n:∀b∈B,gt (blk r) (blk b.2):=λb hb=>by
  cases B with
  | nil=>simp at hb
  | cons S c =>
    have o:=i S c rfl;rcases b7.mp hb with rfl | hb'
    ·exact o
    ·have C:=(ij.mp srt).2.1
     have:=(fc.mp C).1 b hb';have E:¬gt (blk b.2) (blk S.2):=by
      rcases this with z | z
      ·exact t5 z
      ·exact z.1
     exact z8 y (pos S (by simp)) (pos b (by simp[hb'])) o E
 have q:(B.filter λt=>t.1==ss.length+1)=[]:=List.filter_eq_nil_iff.mpr λt R=>by
  intro z;exact t5 (n t R) (U t (by simp[R]) (by simpa using z))
 have of:ofS (A++(ss.length+1,r)::B) ss.length=p++[r]:=by
  unfold ofS at V ⊢;rw[i7,q,de] at V;rw[i7,kj (by simp),q,cz,V];rfl
 refine⟨⟨λt R=>?_,λt R=>?_,λj s d=>?_,?_,?_⟩,of⟩
 ·rcases(I.mp R) with z | z
  ·have:=h.lo t z;simp at this ⊢;lia
  ·subst z;simp
 ·rcases(I.mp R) with z | z
  ·exact h.good t z
  ·subst z;exact m
 ·by_cases Z:j<ss.length
  ·rw[au Z] at d
   have:=part j s (by rw[au Z];exact d);rw[<-this];unfold ofS;rw[i7,i7,kl (by simp;lia)]
  ·have:j=ss.length:=by
    have:=(ah.mp d).1;simp at this
    lia
   subst this;have F:D++r=s:=by simpa using d
   rw[of,<-F];have:=part ss.length D (by simp);rw[show ofS (A++B) ss.length=p from V] at this;simp[this]
 ·have k:=ij.mp srt
  refine ij.mpr ⟨k.1,fc.mpr ⟨λb hb=>.inl (n b hb),k.2.1⟩,λa f b hb=>?_⟩;rcases b7.mp hb with rfl | hb
  ·have G:=hA a f
   by_cases Y:a.1=ss.length+1
   ·exact .inl (U a (by simp[f]) Y)
   ·have:=(lo a (by simp[f])).2
    exact .inr ⟨z0p.mp G,by simp at this ⊢;lia⟩
  ·exact k.2.2 a f b hb
 ·have Y:((A++(ss.length+1,r)::B).map (·.2)).flatten=(A.map (·.2)).flatten++(r++(B.map (·.2)).flatten):=by simp
  have H:(ss++[D++r]).flatten=(ss++[D]).flatten++r:=by simp
  rw[Y,H];have K:((A++B).map (·.2)).flatten=(A.map (·.2)).flatten++(B.map (·.2)).flatten:=by simp
  rw[K] at J;refine List.Perm.trans ?_ (J.append_right r);rw[dh];exact List.Perm.append_left _ List.perm_append_comm
theorem zpx:∀(D:k8),Desc D->(∀r∈D,0<hrs r)->D.Pairwise (λb u=>gt (blk u) (blk b))
 | [],_,_=>.nil
 | [b],_,_=>by simp
 | b::u::r,h,hp=>by
   have J:=zpx (u::r) h.2 λx I=>hp x (av _ I);refine fc.mpr ⟨λx I=>?_,J⟩;rcases b7.mp I with rfl | hx'
   ·exact h.1
   ·have:=(fc.mp J).1 x hx'
    exact z8 (hp x (by simp[hx'])) (hp u (by simp)) (hp b (by simp)) this (t5 h.1)
theorem zpy(S:D)(ss:k8)(s:k7)(ts:k9)(l v5 m n:kf)(h:TurnsOk ss ts)(A:∀x∈(ss++[s]).flatten,iy x)(t:(ss++[s]).flatten.length<=14) :
  ∃I f i j Z,TurnsOk (ss++[s]) I/\zds [some (.sh S),some (.ow (ts.map tnD)),some (.sh (.int ((ss.length+1:Nat):Int))),some (.sh (.lst (s.map sD))),l,v5,m,n] =
   some (.nx,[some (.sh S),some (.ow (I.map tnD)),some (.sh (.int ((ss.length+1:Nat):Int))),some (.sh (.lst (s.map sD))),f,i,j,Z]):=by
 have a:∀x∈s,iy x:=λx hx=>A x (by simp[hx]);have v:s.length<=14:=by simp at t;lia
 obtain⟨V,o,C⟩:=zh2 s a v;have J:=o.flat;have c:∀r∈V.reverse,Good r:=λr h=>o.good r (List.mem_reverse.mp h);have d:∀r∈V.reverse,∀x∈r,iy x:=λr h x hx=>a x (by rw[<-J];exact f6.mpr ⟨r,h,hx⟩);have k:V.reverse.Pairwise (λu b=>gt (blk u) (blk b)):=by
  rw[List.pairwise_reverse];exact zpx V o.desc λr h=>qa r (d r (List.mem_reverse.mpr h)) (o.good r h).ne
 have B:=h.more;obtain⟨e',h1,I,f,i,j,Z,w,E,rfl⟩:=ww (ix:=[4,5,6]) (g:=zt) (λr:k7=>[D.int (r.length:Int),.int (hrs r),.int (lss r)])
  (λp e=>∃I f i j Z,TurnsOk (ss++[p.flatten]) I/\ofS I ss.length=p/\e=[some (.sh S),some (.ow (I.map tnD)),some (.sh (.int ((ss.length+1:Nat):Int))),some (.sh (.lst (s.map sD))),f,i,j,Z]) V.reverse
  [some (.sh S),some (.ow (ts.map tnD)),some (.sh (.int ((ss.length+1:Nat):Int))),some (.sh (.lst (s.map sD))),l,v5,m,n] ⟨ts,l,v5,m,n,B.1,B.2,rfl⟩ (λ_ _=>rfl) (by
   rintro p r q e R ⟨I,f,i,j,Z,ok,of,rfl⟩;have U:r∈V.reverse:=by rw[R];simp
   have Y:∀x∈(ss++[p.flatten]).flatten,iy x:=λx hx=>by
    rw[e7,cw] at hx;rcases hx with hx | hx
    ·exact A x (by rw[e7];exact dy _ hx)
    ·refine a x ?_
     rw[<-J,R,e7];exact dy _ (by simpa using hx)
   have F:(ss++[p.flatten]).flatten.length<=14:=by
    have:p.flatten.length<=s.length:=by rw[<-J,R,e7,am];lia
    rw[e7,am] at t ⊢;simp only[cr,oj,de] at t ⊢
    lia
   have y:∀u∈p,gt (blk u) (blk r):=λu G=>by
    rw[R] at k;exact(ij.mp k).2.2 u G r (by simp)
   obtain⟨H,K⟩:=ok.ins of (c r U) (d r U) Y y;have L:r.length<=14:=by
    have:r.length<=V.reverse.flatten.length:=(d9 U).length_le;rw[J] at this;lia
   have body:=zsg (some (.sh S)) (some (.sh (.lst (s.map sD)))) Z I (ss.length+1) r (smB r (d r U) (by lia)) (ok.sm Y (by lia)) (by have:=ok.len;lia);exact⟨_,body,_,_,_,_,_,by simpa using H,K,rfl⟩)
 refine⟨I,f,i,j,Z,by rw[<-J];exact w,?_⟩;have z:forU [4,5,6] zt (V.reverse.map bD) [some (.sh S),some (.ow (ts.map tnD)),some (.sh (.int ((ss.length+1:Nat):Int))),some (.sh (.lst (s.map sD))),l,v5,m,n]=_:=h1;simp only[zds,nk,fiS,d5,aq,fVar,fNil,af,ai,ac,aj,C,z]
def ssL(ss:k8):D:=.lst (ss.map λs=>D.lst (s.map sD))
theorem zgd(ss:k8)(d:∀x∈ss.flatten,iy x)(f:ss.flatten.length<=14):∃ts,TurnsOk ss ts/\xv [ssL ss]=some (.lst (ts.map tnD)):=by
 obtain⟨e',h1,ts,v2,V,I,v5,J,R,ok,rfl⟩:=ww (ix:=[2,3]) (g:=zds) (λp:k7×Nat=>[D.int (p.2:Int),D.lst (p.1.map sD)])
  (λp e=>∃ts v2 V I v5 J R,TurnsOk (p.map (·.1)) ts/\e=[some (.sh (ssL ss)),some (.ow (ts.map tnD)),v2,V,I,v5,J,R]) (ss.zipIdx 1)
  [some (.sh (ssL ss)),some (.ow []),none,none,none,none,none,none] ⟨[],none,none,none,none,none,none,⟨by simp,by simp,by simp,.nil,by simp⟩,rfl⟩ (λ_ _=>rfl) (by
   rintro p x q e S ⟨ts,v2,V,I,v5,J,R,ok,rfl⟩;have Z:ss=p.map (·.1)++x.1::q.map (·.1):=by
    have:=congrArg (List.map (·.1)) S;simpa using this
   have a:x.2=(p.map (·.1)).length+1:=by
    have:(ss.zipIdx 1)[p.length]?=some x:=by rw[S];simp
    rw[List.getElem?_zipIdx] at this;cases hs:ss[p.length]? with
    | none=>rw[hs] at this;cases this
    | some s =>
      rw[hs] at this;cases this;simp;lia
   have U:ss.flatten=(p.map (·.1)++[x.1]).flatten++(q.map (·.1)).flatten:=by rw[Z];simp
   obtain⟨b,i,j,k,l,c,Y⟩:=zpy (ssL ss) (p.map (·.1)) x.1 ts I v5 J R ok (λy h=>d y (by rw[U];exact dy _ h)) (by rw[U,am] at f;lia);rw[<-a] at Y;exact⟨_,Y,b,_,_,_,_,_,_,by simpa using c,rfl⟩)
 refine⟨ts,by simpa using ok,?_⟩;refine j7 (e':=[some (.sh (ssL ss)),some (.sh (.lst (ts.map tnD))),v2,V,I,v5,J,R]) rfl ?_;show zgv [some (.sh (ssL ss)),none,none,none,none,none,none,none]=_;have Y:iEn 1 [ssL ss]=some ((ss.zipIdx 1).map λp=>D.tup [D.int (p.2:Int),D.lst (p.1.map sD)]):=by
  show some (n9 1 (ss.map λs=>D.lst (s.map sD)))=_;rw[zox]
 simp only[zgv,sSeq,sOwn,f7,fNil,ac,aj,b9,fz,if_true,ax,bc,nk,jk,aq,fVar,af,ai,Y,h1,sRet]
def im(n:Nat)(ts:k9):k8:=(List.range n).map λj=>(ofS ts j).flatten
theorem ly(n:Nat)(ts:k9):(im n ts).length=n:=by simp[im]
variable{j:Nat}
theorem nz(h:j<n):(im n ts)[j]?=some ((ofS ts j).flatten):=by simp[im,h]
protected theorem TurnsOk.left(h:TurnsOk ss ts):im ss.length ts=ss:=by
 apply eg;intro j;by_cases D:j<ss.length
 ·rw[nz D,h.part j ss[j] (by simp[D])]
  simp[D]
 ·rw[cx (by rw[ly];lia),cx (by lia)]
theorem yz(t:Tn)(ts:k9)(j:Nat)(h:t.1=j+1):ofS (t::ts) j=t.2::ofS ts j:=by
 unfold ofS;rw[kj (by simp[h])];rfl
theorem zg8(t:Tn)(ts:k9)(j:Nat)(h:t.1≠j+1):ofS (t::ts) j=ofS ts j:=by
 unfold ofS;rw[kl (by simp[h])]
variable{t:Tn}
theorem zmb(h1:1<=t.1)(h2:t.1<=n):(im n (t::ts))[t.1-1]?=some (t.2++(ofS ts (t.1-1)).flatten):=by
 rw[nz (by lia),yz t ts (t.1-1) (by lia)];simp
theorem zpz(h1:1<=t.1)(h2:t.1<=n):im n ts=(im n (t::ts)).set (t.1-1) ((ofS ts (t.1-1)).flatten):=by
 apply eg;intro j;by_cases D:j<n
 ·rw[ig,nz D,nz D,ly]
  by_cases e:t.1-1=j
  ·subst e
   simp[D]
  ·rw[if_neg e,zg8 t ts j (by lia)]
 ·rw[cx (by rw[ly];lia),cx (by rw[dj,ly];lia)]
theorem zoy(h1:1<=t.1)(h2:t.1<=n):im n (t::ts)=(im n ts).set (t.1-1) (t.2++(ofS ts (t.1-1)).flatten):=by
 apply eg;intro j;by_cases D:j<n
 ·rw[ig,nz D,nz D,ly]
  by_cases e:t.1-1=j
  ·subst e
   rw[yz t ts (t.1-1) (by lia)];simp[D]
  ·rw[if_neg e,zg8 t ts j (by lia)]
 ·rw[cx (by rw[ly];lia),cx (by rw[dj,ly];lia)]
theorem zle{α:Type}:∀ {l:List (List α)} {j:Nat} {s x:List α},l[j]?=some s->(l.set j (x++s)).flatten.Perm (x++l.flatten)
 | a::l,0,s,x,h=>by
   simp at h;subst h;simp
 | a::l,j+1,s,x,h=>by
   have D:=zle (l:=l) (j:=j) (s:=s) (x:=x) (by simpa using h);simp;refine(D.append_left a).trans ?_;rw[<-dh,<-dh];exact List.perm_append_comm.append_right _
theorem zi7{n:Nat}:∀ {ts:k9},(∀t∈ts,1<=t.1/\t.1<=n)->(ts.map (·.2)).flatten.Perm (im n ts).flatten
 | [],_=>by
   have:(im n []).flatten=[]:=by simp[im,ofS]
   rw[this];exact .nil
 | t::ts,h=>by
   have D:=zi7 (n:=n) (ts:=ts) λt' I=>h t' (av _ I);obtain⟨h1,h2⟩:=h t bj;rw[zoy h1 h2,ci,cr];exact(D.append_left t.2).trans (zle (nz (by lia))).symm
theorem TurnsOk.tail(h:TurnsOk (im n (t::ts)) (t::ts)):TurnsOk (im n ts) ts:=by
 have lo:∀t'∈ts,1<=t'.1/\t'.1<=n:=λt' D=>by
  have:=h.lo t' (av _ D);rw[ly] at this;exact this
 refine⟨λt' D=>by rw[ly];exact lo t' D,λt' D=>h.good t' (av _ D),λj s I=>?_,(fc.mp h.srt).2,zi7 lo⟩;have J:=(ah.mp I).1;rw[ly] at J;rw[nz J] at I;exact bn I
theorem z0s(a b:i0):cutD (a++b) none (some (a.length:Int))=a:=by
 unfold cutD;rw[HT.sIx_none,HT.sIx_nat];simp
theorem zuq(a b:i0):cutD (a++b) (some (a.length:Int)) none=b:=by
 unfold cutD;rw[HT.sIx_none,HT.sIx_nat];simp
variable{ar:Nat}{ds:i0}{e':DE0}
theorem zur{I:i0}(h:ds.length=ar)(J:g (je n ds)=some (.rf I,e')):runF n ar g ds=some I:=by
 unfold runF;rw[if_pos h,J]
def hT:k8->Bk
 | []=>(0,1,-1)
 | r::_=>blk r
def kD(b:Bk):D:=.lst [.int b.1,.int b.2.1,.int b.2.2]
variable{r:k7}{q:g0}
theorem z36{b q:k7}(h1:gt (blk r) (blk b))(h2:gt (blk r) (blk q)):gt (blk r) (blk (b++q)):=by
 have h1:lss b*hrs r<lss r*hrs b:=h1;have h2:lss q*hrs r<lss r*hrs q:=h2;show lss (b++q)*hrs r<lss r*hrs (b++q);rw[qb,oy,gp,gh]
 lia
theorem zyo{r:k7}(I:0<hrs r):∀(rest:k8) (q:k7),(∀b∈rest,gt (blk r) (blk b))->(∀b∈rest,Good b)->(∀b∈rest,∀x∈b,iy x)->q <+: rest.flatten->q≠[]->gt (blk r) (blk q)
 | [],q,_,_,_,hq,ne=>by simp at hq;exact absurd hq ne
 | b::rest,q,hd,hg,hs,hq,ne=>by
   have J:=hg b (by simp);have R:=hs b (by simp);rcases zpv hq with hq | ⟨q',rfl,hq'⟩
   ·have sq:∀x∈q,iy x:=λx U=>R x (hq.subset U)
    refine z8 I (qa b R J.ne) (qa q sq ne) (hd b (by simp)) ?_;have:=J.beg q hq;show ¬(lss b*hrs q<lss q*hrs b)
    lia
   ·by_cases S:q'=[]
    ·subst S
     rw[de];exact hd b (by simp)
    ·exact z36 (hd b (by simp)) (zyo I rest q' (λc D=>hd c (by simp[D])) (λc D=>hg c (by simp[D])) (λc D=>hs c (by simp[D])) hq' S)
variable{s:k7}
theorem zne(D:k<s.length):hrs (s.take (k+1))=hrs (s.take k)+s[k].2.1/\lss (s.take (k+1))=lss (s.take k)+s[k].2.2:=by
 rw[List.take_succ_eq_append_getElem D,oy,qb];simp[hrs,lss]
theorem z0t(D:∀x∈s,iy x)(J:s.length<=14)(k:Nat):0<=hrs (s.take k)/\hrs (s.take k)<=840/\0<=lss (s.take k)/\lss (s.take k)<=1400:=by
 have:=wc (s.take k) λx I=>D x (List.mem_of_mem_take I);have h2:(s.take k).length<=14:=by rw[dq];lia
 lia
theorem z0u(J:k8)(O:J.Pairwise λu b=>gt (blk u) (blk b))(G:∀r∈J,Good r)(c:∀x∈J.flatten,iy x)(H:J.flatten.length<=14):y0 [.lst (J.flatten.map sD)]=some (kD (hT J)):=by
 cases J with
 | nil=>simp[y0,runD,zgw,je,hT,kD,pz 0 (by lia),rngD,forL,show iR1 [.int 0]=some (rngD 0 0) from pz 0 (by lia)]
 | cons r rest =>
   have n:(r::rest).flatten=r++rest.flatten:=cr ..;rw[n] at c H ⊢;have o:=G r (by simp);have K:∀x∈r,iy x:=λx p=>c x (by simp[p]);have P:=qa r K o.ne;have W:=wc r K;have t:=(fc.mp O).1;generalize Y:r++rest.flatten=s at *;have v:r.length<=s.length:=by rw[<-Y];simp
   have tk:∀k,k<=r.length->s.take k <+: r:=λk f=>by
    rw[<-Y,gn f];exact List.take_prefix _ _
   obtain⟨e',h1,X,j,rfl,R,S⟩:=yu (i:=4) (g:=zf) (λk e=>∃(b:Bk) (j:kf),e=[some (.sh (.lst (s.map sD))),some (.sh (kD b)),some (.sh (.int (hrs (s.take k)))),some (.sh (.int (lss (s.take k)))),j] /\
     (k<r.length->b=(0,1,-1)\/∃q,q <+: r/\b=blk q)/\(r.length<=k->b=blk r)) (rngD 0 s.length)
    [some (.sh (.lst (s.map sD))),some (.sh (kD (0,1,-1))),some (.sh (.int 0)),some (.sh (.int 0)),none] ⟨(0,1,-1),none,by simp[hrs,lss],λ_=>.inl rfl,λh=>absurd (List.length_eq_zero_iff.mp (Nat.le_zero.mp h)) o.ne⟩ (by
     rintro k d e w ⟨b,j,rfl,R,S⟩;obtain⟨rfl,f⟩:=yr w;obtain⟨l,m⟩:=zne f;have bd:=z0t c H (k+1);have L:atI (s.map sD) (0+(k:Int))=some (sD s[k]):=by rw[jw];exact l3 sD (by simp[f])
     have D:li (hrs (s.take (k+1))):=rn (by lia);have I:li (lss (s.take (k+1))):=rn (by lia);have M:dIx (sD s[k]) (.int 1)=some (.int s[k].2.1):=rfl;have N:dIx (sD s[k]) (.int 2)=some (.int s[k].2.2):=rfl;have y:zf [some (.sh (.lst (s.map sD))),some (.sh (kD b)),some (.sh (.int (hrs (s.take k)))),some (.sh (.int (lss (s.take k)))),some (.sh (.int (0+(k:Int))))] =
       some (.nx,[some (.sh (.lst (s.map sD))),some (.sh (kD (if b.2.2*hrs (s.take (k+1))<=lss (s.take (k+1))*b.2.1 then blk (s.take (k+1)) else b))),some (.sh (.int (hrs (s.take (k+1))))),some (.sh (.int (lss (s.take (k+1))))),some (.sh (.int (0+(k:Int))))]):=by
      have a:((s.take (k+1)).length:Int)=0+(k:Int)+1:=by rw[dq];lia
      by_cases Z:b.2.2*hrs (s.take (k+1))<=lss (s.take (k+1))*b.2.1
      ·rw[if_pos Z,show blk (s.take (k+1))=(0+(k:Int)+1,hrs (s.take (k+1)),lss (s.take (k+1))) by unfold blk;rw[a]]
       rw[l] at D;rw[m] at I;rw[l,m] at Z ⊢;simp only[zf,kD,sSeq,sSet,sIf,sNil,fBin,fVar,fIxV,ixSl,fC,fTst,fLst,f7,aq,fNil,af,ai,ac,aj,ax,bc,L,M,N,il,zww,ye,uu I,zyi D,dGe,decide_eq_true Z,if_true,ak,b9,show(0+1+1+1<=64)=True by simp]
      ·rw[if_neg Z]
       rw[l] at D;rw[m] at I;rw[l,m] at Z ⊢;simp only[zf,kD,sSeq,sSet,sIf,sNil,fBin,fVar,fIxV,ixSl,fC,fTst,fLst,f7,aq,fNil,af,ai,ac,aj,ax,bc,L,M,N,il,zww,ye,uu I,zyi D,dGe,decide_eq_false Z,dm,if_false]
     refine⟨_,y,_,_,rfl,λU=>?_,λQ=>?_⟩
     ·split
      ·exact .inr ⟨_,tk (k+1) (by lia),rfl⟩
      ·exact R (by lia)
     ·by_cases A:r.length<=k
      ·have V:=S A
       subst V;rw[if_neg];have B:s.take (k+1)=r++rest.flatten.take (k+1-r.length):=by
        rw[<-Y,List.take_append,gv (by lia)]
       have C:(rest.flatten.take (k+1-r.length))≠[]:=by
        intro z;have:=congrArg List.length z;rw[dq] at this;have T:s.length=r.length+rest.flatten.length:=by rw[<-Y,am]
        simp only[b9] at this
        lia
       have U:=zyo P rest _ t (λb V=>G b (by simp[V])) (λb V x p=>c x (by rw[<-Y];exact bw _ (f6.mpr ⟨b,V,p⟩))) (List.take_prefix (k+1-r.length) rest.flatten) C;rw[B,oy,qb];have U:lss (rest.flatten.take (k+1-r.length))*hrs r<lss r*hrs (rest.flatten.take (k+1-r.length)):=U;show ¬(lss r*(hrs r+hrs _)<=(lss r+lss _)*hrs r);rw[gh,gp]
       lia
      ·have E:k+1=r.length:=by lia
       have B:s.take (k+1)=r:=by rw[E,<-Y];exact j0
       rw[B,if_pos];rcases R (by lia) with rfl | ⟨q,C,rfl⟩
       ·show -1*hrs r<=lss r*1
        lia
       ·exact o.beg q C)
   rw[uc,List.take_length] at h1;have V:=S (by rw[uc];exact v);subst V;have hi:iR1 [.int (s.length:Int)]=some (rngD 0 s.length):=pz s.length (by lia);refine j7 (e':=[some (.sh (.lst (s.map sD))),some (.sh (kD (blk r))),some (.sh (.int (hrs s))),some (.sh (.int (lss s))),j]) rfl ?_;show zgw [some (.sh (.lst (s.map sD))),none,none,none,none]=_;have F:kD (0,1,-1)=.lst [.int 0,.int 1,.int (-1)]:=rfl;rw[F] at h1;simp[zgw,hi,h1];rfl
theorem zp0(h:r∈ofS ts j):(j+1,r)∈ts:=by
 obtain⟨t,D,rfl⟩:=fy.mp h;obtain⟨h1,h2⟩:=i4.mp D;have:t.1=j+1:=by simpa using h2
 rw[<-this];exact h1
theorem z37(h:ts.Pairwise bef):(ofS ts j).Pairwise λu b=>gt (blk u) (blk b):=by
 unfold ofS;rw[List.pairwise_map,List.pairwise_filter];refine h.imp λ{a b} hab ha hb=>?_;rcases hab with z | z
 ·exact z
 ·have h1:a.1=j+1:=by simpa using ha
  have h2:b.1=j+1:=by simpa using hb
  lia
def m9(n:Nat)(ts:k9):List Bk:=(List.range n).map λj=>hT (ofS ts j)
theorem zlf(h:j<n):(m9 n ts)[j]?=some (hT (ofS ts j)):=by simp[m9,h]
theorem zkx(ok:TurnsOk (im n (t::ts)) (t::ts)):hT (ofS (t::ts) (t.1-1))=blk t.2:=by
 have h1:=(ok.lo t (by simp)).1;rw[yz t ts (t.1-1) (by lia)];rfl
theorem zyp(ok:TurnsOk (im n (t::ts)) (t::ts))(D:∀x∈(im n (t::ts)).flatten,iy x)(j:Nat) :
  ¬gt (hT (ofS (t::ts) j)) (blk t.2)/\(j<t.1-1->gt (blk t.2) (hT (ofS (t::ts) j))):=by
 have pt:=ok.pos D t (by simp);have st:=wc t.2 (ok.sk D t (by simp));cases h:ofS (t::ts) j with
 | nil =>
   have g:gt (blk t.2) (0,1,-1):=by
    show -1*hrs t.2<lss t.2*1
    lia
   exact⟨t5 g,λ_=>g⟩
 | cons r rest =>
   have hm:(j+1,r)∈t::ts:=zp0 (by rw[h];simp);rcases b7.mp hm with e | hm
   ·subst e
    exact⟨λz=>t5 z z,λz=>by simp at z⟩
   ·have I:=(fc.mp ok.srt).1 _ hm
    rcases I with z | ⟨z,z'⟩
    ·exact⟨t5 z,λ_=>z⟩
    ·exact⟨z,λw=>by simp at z';lia⟩
theorem zsh(n:Nat)(ts:k9):(im n ts).map (λs=>D.lst (s.map sD))=(List.range n).map λj=>D.lst ((ofS ts j).flatten.map sD):=by
 unfold im;rw[jc];rfl
theorem zsi(h:j<n):∀x∈(ofS ts j).flatten,x∈(im n ts).flatten:=λx D =>
 f6.mpr ⟨_,ay (nz (ts:=ts) h),D⟩
theorem zus(h:j<n):(ofS ts j).flatten.length<=(im n ts).flatten.length :=
 (d9 (ay (nz (ts:=ts) h))).length_le
theorem z38(ok:TurnsOk (im n ts) ts)(D:∀x∈(im n ts).flatten,iy x)(I:(im n ts).flatten.length<=14)(j:Nat):SmB (hT (ofS ts j)):=by
 cases h:ofS ts j with
 | nil=>exact⟨rn (by decide),rn (by decide)⟩
 | cons r rest=>exact ok.sm D (by lia) (j+1,r) (zp0 (by rw[h];simp))
theorem zut(H:List Bk)(v0 v1 v2:kf)(k p:Nat)(bk D:Bk)(Y:H[k]?=some bk)(Z:H[p]?=some D)(sk:SmB bk)(sp:SmB D) :
  xq [v0,v1,v2,some (.sh (.lst (H.map kD))),some (.sh (.int (p:Int))),some (.sh (.int (0+(k:Int))))] =
   some (.nx,[v0,v1,v2,some (.sh (.lst (H.map kD))),some (.sh (.int ((if gt bk D then k else p:Nat):Int))),some (.sh (.int (0+(k:Int))))]):=by
 rw[jw];have R:atI (H.map kD) (k:Int)=some (kD bk):=l3 kD Y;have S:atI (H.map kD) (p:Int)=some (kD D):=l3 kD Z;have U:∀b:Bk,dIx (kD b) (.int 1)=some (.int b.2.1):=λ_=>rfl;have V:∀b:Bk,dIx (kD b) (.int 2)=some (.int b.2.2):=λ_=>rfl;by_cases J:gt bk D
 ·have I:D.2.2*bk.2.1<bk.2.2*D.2.1:=J
  rw[if_pos J];simp only[xq,sIf,sSet,sNil,fTst,fBin,fIxV,ixSl,fVar,fC,af,ai,ac,aj,ax,bc,R,S,U,V,uu sk.2,uu sp.2,dGt,decide_eq_true I,if_true]
 ·have I:¬D.2.2*bk.2.1<bk.2.2*D.2.1:=J
  rw[if_neg J];simp only[xq,sIf,sSet,sNil,fTst,fBin,fIxV,ixSl,fVar,fC,af,ai,ac,aj,ax,bc,R,S,U,V,uu sk.2,uu sp.2,dGt,decide_eq_false I,dm,if_false]
theorem z0v(ok:TurnsOk (im n (t::ts)) (t::ts))(R:∀x∈(im n (t::ts)).flatten,iy x)(a:(im n (t::ts)).flatten.length<=14)(v0 v1 v2 v5:kf) :
  ∃I,forL 5 xq (rngD 0 n) [v0,v1,v2,some (.sh (.lst ((m9 n (t::ts)).map kD))),some (.sh (.int 0)),v5] =
   some (.nx,[v0,v1,v2,some (.sh (.lst ((m9 n (t::ts)).map kD))),some (.sh (.int ((t.1-1:Nat):Int))),I]):=by
 have lo:=ok.lo t (by simp);rw[ly] at lo;have S:t.1-1<n:=by lia
 obtain⟨e',h1,p,I,rfl,_,J,D⟩:=yu (i:=5) (g:=xq) (λk e=>∃(p:Nat) (v5:kf),e=[v0,v1,v2,some (.sh (.lst ((m9 n (t::ts)).map kD))),some (.sh (.int (p:Int))),v5]/\p<n/\(k<=t.1-1->p<=t.1-1/\(p<k\/p=0))/\(t.1-1<k->p=t.1-1))
  (rngD 0 n) [v0,v1,v2,some (.sh (.lst ((m9 n (t::ts)).map kD))),some (.sh (.int 0)),v5] ⟨0,v5,rfl,by lia,λ_=>⟨fz _,.inr rfl⟩,λh=>absurd h (Nat.not_lt_zero _)⟩ (by
    rintro k d e U ⟨p,v5,rfl,hpn,J,D⟩;obtain⟨rfl,b⟩:=yr U;have body:=zut (m9 n (t::ts)) v0 v1 v2 k p _ _ (zlf b) (zlf hpn) (z38 ok R a k) (z38 ok R a p);refine⟨_,body,_,_,rfl,?_,λc=>?_,λV=>?_⟩
    ·split <;> lia
    ·have:=J (by lia)
     split
     ·exact⟨by lia,.inl (by lia)⟩
     ·exact⟨this.1,by lia⟩
    ·rcases Nat.lt_or_eq_of_le (Nat.le_of_lt_succ V) with hlt' | heq
     ·have Y:=D hlt'
      subst Y;rw[zkx ok,if_neg (zyp ok R k).1]
     ·have:=J (by lia)
      subst heq;rw[zkx ok];by_cases Z:p=t.1-1
      ·subst Z
       rw[zkx ok,if_neg (λz=>t5 z z)]
      ·rw[if_pos ((zyp ok R p).2 (by lia))])
 rw[uc] at D;have Y:=D S;subst Y;exact⟨I,h1⟩
noncomputable def zrb:FT:=fTst (fBin dGt (d5 bSum (aq (fLst (iq (fiV 1) [] fYes (jd 0))) (fNil))) (fC (.int 0)))
theorem zsj(ok:TurnsOk (im n (t::ts)) (t::ts))(e:∀x∈(im n (t::ts)).flatten,iy x)(f:(im n (t::ts)).flatten.length<=14)(B:n<=1000)(v0 g h v5:kf)(M:i0)(C:M.length<=1000) :
  ∃i k V,zei [v0,some (.ow ((im n (t::ts)).map λs=>D.lst (s.map sD))),some (.ow M),g,h,v5]=some (.nx,[v0,some (.ow ((im n ts).map λs=>D.lst (s.map sD))),some (.ow (M++[tnD t])),i,k,V]):=by
 have lo:=ok.lo t (by simp);rw[ly] at lo;have c:=ng (te:=d5 y0 (aq (fVar 0) (fNil))) (base:=[]) (λj:Nat=>D.lst ((ofS (t::ts) j).flatten.map sD)) (λj:Nat=>kD (hT (ofS (t::ts) j))) (List.range n) (λj U=>by
  have U:j<n:=j1.mp U;have l:=z0u (ofS (t::ts) j) (z37 ok.srt) (λr m=>ok.good _ (zp0 m)) (λx o=>e x (zsi U x o)) (dc (zus U) f);refine⟨[some (.sh (.lst ((ofS (t::ts) j).flatten.map sD)))],?_⟩;simp only[d5,aq,fVar,fNil,af,ac,l,aj])
 have p:(List.range n).map (λj:Nat=>kD (hT (ofS (t::ts) j)))=(m9 n (t::ts)).map kD:=by unfold m9;rw[jc];rfl
 rw[p,<-zsh] at c;obtain⟨V,q⟩:=z0v ok e f v0 (some (.ow ((im n (t::ts)).map λs=>D.lst (s.map sD)))) (some (.ow M)) v5;have Y:atI ((m9 n (t::ts)).map kD) ((t.1-1:Nat):Int)=some (kD (blk t.2)):=by
  rw[<-zkx ok];exact l3 kD (zlf (by lia))
 have R:=zmb (ts:=ts) lo.1 lo.2;have S:=zpz (ts:=ts) lo.1 lo.2;have Z:atI ((im n (t::ts)).map λs=>D.lst (s.map sD)) ((t.1-1:Nat):Int)=some (.lst ((t.2++(ofS ts (t.1-1)).flatten).map sD)):=l3 (λs:k7=>D.lst (s.map sD)) R;have I:=zuq (t.2.map sD) ((ofS ts (t.1-1)).flatten.map sD);rw[<-cz,ae] at I;have a:ixN ((im n (t::ts)).map λs=>D.lst (s.map sD)).length ((t.1-1:Nat):Int)=some (t.1-1):=by
  rw[t6 (by lia) (by rw[ae,ly];lia)];congr 1
 have J:((im n (t::ts)).map λs=>D.lst (s.map sD)).set (t.1-1) (.lst ((ofS ts (t.1-1)).flatten.map sD))=(im n ts).map λs=>D.lst (s.map sD):=by
  rw[S,io]
 have u:Few ((im n (t::ts)).map λs=>D.lst (s.map sD)).length:=few (by rw[ae,ly];lia);have b:Few (M.length+1):=few (by lia);have hi:iR1 [.int (((m9 n (t::ts)).map kD).length:Int)]=some (rngD 0 n):=by
  rw[ae,show(m9 n (t::ts)).length=n by simp[m9]];exact pz n (by lia)
 have v:((t.1-1:Nat):Int)+1=(t.1:Int):=by lia
 generalize ((m9 n (t::ts)).map kD)=HL at *;generalize w:((t.1-1:Nat):Int)=pp at *;have y:dIx (kD (blk t.2)) (.int 0)=some (.int (t.2.length:Int)):=rfl;have z:dIx (kD (blk t.2)) (.int 1)=some (.int (hrs t.2)):=rfl;have A:dIx (kD (blk t.2)) (.int 2)=some (.int (lss t.2)):=rfl;have d:D.tup [.int (t.1:Int),.int (t.2.length:Int),.int (hrs t.2),.int (lss t.2)]=tnD t:=rfl;refine⟨some (.sh (.lst HL)),some (.sh (.int pp)),V,?_⟩;simp only[zei,sSeq,sSet,sFor,ja,zqq,zzy,fLst,iq,fiV,jk,aq,fNil,jd,fC,qd,yb,fTup,fBin,il,fIxV,ixSl,fVar,fSl,fO0,fO1,af,ai,ac,aj,ax,bc,du,u,b,if_true,c,hi,q,Y,y,z,A,v,d,Z,I,a,J,ak,b9,show(0+1+1+1+1<=64)=True by simp]
theorem zlg{n:Nat}(p:n<=1000)(v0:kf):∀(ts:k9) (I:Nat) (S U v5:kf) (M:i0),ts.length<I->M.length+ts.length<=1000->TurnsOk (im n ts) ts->(∀x∈(im n ts).flatten,iy x)->(im n ts).flatten.length<=14 ->
  ∃Y Z b d,l4 zrb zei I [v0,some (.ow ((im n ts).map λs=>D.lst (s.map sD))),some (.ow M),S,U,v5]=some (.nx,[v0,Y,some (.ow (M++ts.map tnD)),Z,b,d])
 | _,0,_,_,_,_,h,_,_,_,_=>by lia
 | ts,f+1,S,U,v5,M,h,hM,ok,hg,hl=>by
   have c:=ng (te:=jd 0) (base:=[]) (λs:k7=>D.lst (s.map sD)) (λs:k7=>D.int (s.length:Int)) (im n ts) λs _=>⟨_,by simp;rfl⟩;have q:=tj (λs:k7=>(s.length:Int)) (im n ts);have u:Few ((im n ts).map λs=>D.lst (s.map sD)).length:=few (by rw[ae,ly];lia);have V:((im n ts).map λs:k7=>(s.length:Int)).sum=((ts.map (·.2)).flatten.length:Int):=by
    have e:∀l:k8,(l.map λs:k7=>(s.length:Int)).sum=(l.flatten.length:Int):=λl=>by
     induction l with
     | nil=>rfl
     | cons a l g=>rw[ci,fm,g,cr,am];lia
    rw[e,ok.perm.length_eq]
   rw[V] at q;have v:zrb [v0,some (.ow ((im n ts).map λs=>D.lst (s.map sD))),some (.ow M),S,U,v5]=some (decide (0<((ts.map (·.2)).flatten.length:Int)),[v0,some (.ow ((im n ts).map λs=>D.lst (s.map sD))),some (.ow M),S,U,v5]):=by
    unfold zrb;generalize ((im n ts).map λs=>D.lst (s.map sD))=L at *;simp[iq,fiV,u,c,q]
   unfold l4;rw[v,ac];dsimp only;cases ts with
   | nil =>
     rw[if_neg (by simp)];exact⟨some (.ow ((im n []).map λs=>D.lst (s.map sD))),S,U,v5,by rw[du,de]⟩
   | cons t ts =>
     have r:0<t.2.length:=iu.mpr (ok.good t (by simp)).ne;rw[if_pos (by simp[decide_eq_true_eq];lia)];obtain⟨Z,b,d,R⟩:=zsj ok hg hl p v0 S U v5 M (by simp at hM;lia);rw[R,ac];dsimp only;have i:=ok.tail;have lo:=ok.lo t (by simp);rw[ly] at lo;have J:(t.2++(im n ts).flatten).Perm (im n (t::ts)).flatten:=by
      rw[zoy lo.1 lo.2];exact(zle (nz (by lia))).symm
     have j:=J.length_eq;rw[am] at j;obtain⟨Y,k,m,o,g⟩:=zlg p v0 ts f Z b d (M++[tnD t]) (by simp at h;lia) (by simp at hM ⊢;lia) i (λx w=>hg x (J.mem_iff.mp (bw _ w))) (by lia);exact⟨Y,k,m,o,by rw[g];simp⟩
theorem yo(ok:TurnsOk ss ts)(J:∀x∈ss.flatten,iy x)(R:ss.flatten.length<=14)(b:ss.length<=900):za [ssL ss]=some (.lst (ts.map tnD)):=by
 have S:=ok.len;have I:=ok.left;have c:=ng (te:=fLst (jk sx (aq (fVar 0) (fNil)))) (base:=[]) (λs:k7=>D.lst (s.map sD)) (λs:k7=>D.lst (s.map sD)) ss λs _=>⟨_,by simp;rfl⟩;have U:Few (ss.map λs=>D.lst (s.map sD)).length:=few (by rw[ae];lia);obtain⟨V,Y,Z,a,h⟩:=zlg (n:=ss.length) (by lia) (some (.sh (ssL ss))) ts 10000 none none none [] (by lia) (by simp;lia) (by rw[I];exact ok) (by rw[I];exact J) (by rw[I];exact R);rw[I,qo] at h;refine j7 (e':=[some (.sh (ssL ss)),V,some (.sh (.lst (ts.map tnD))),Y,Z,a]) rfl ?_;show zhv [some (.sh (.lst (ss.map λs=>D.lst (s.map sD)))),none,none,none,none,none]=_;unfold zrb ssL at h;unfold ssL;generalize (ss.map λs=>D.lst (s.map sD))=L at *;simp[zhv,iq,U,c,h]
def jm(ts:k9):g0:=(ts.map λt=>List.replicate t.2.length t.1).flatten
def iD(I:g0):i0:=I.map λn:Nat=>D.int (n:Int)
theorem qf(a b:k9):jm (a++b)=jm a++jm b:=by simp[jm]
theorem vf(t:Tn):jm [t]=List.replicate t.2.length t.1:=by simp[jm]
theorem zoz(ts:k9):(jm ts).length=(ts.map (·.2)).flatten.length:=by
 induction ts with
 | nil=>rfl
 | cons t ts ih =>
   rw[show t::ts=[t]++ts from rfl,qf,vf,am,d8,ih];simp
theorem zp1(d:D)(k:Nat):(List.replicate k [d]).flatten=List.replicate k d:=by simp_all
theorem zyq(a b:g0):iD (a++b)=iD a++iD b:=by simp[iD]
theorem zyr(k a:Nat):iD (List.replicate k a)=List.replicate k (.int (a:Int)):=by simp[iD]
theorem zys(a:g0):(iD a).length=a.length:=by simp[iD]
theorem bndN(k:Nat)(h:k<=1000000):Bnd (-(2 ^ 62)) (2 ^ 62) (k:Int):=⟨by lia,by lia⟩
theorem z0w(ok:TurnsOk ss ts)(S:∀x∈ss.flatten,iy x)(R:ss.flatten.length<=14)(U:ss.length<=900):zpt [ssL ss]=some (iD (jm ts)):=by
 have V:=yo ok S R U;have I:(jm ts).length<=14:=by rw[zoz,ok.perm.length_eq];exact R
 obtain⟨e',h1,v2,rfl⟩:=vd (i:=2) (g:=zgx) tnD (λp e=>∃v2,e=[some (.sh (ssL ss)),some (.ow (iD (jm p))),v2]) ts
  [some (.sh (ssL ss)),some (.ow []),none] ⟨none,rfl⟩ (by
   rintro p t q e J ⟨v2,rfl⟩;have Y:(jm p).length+t.2.length<=14:=by
    rw[J,qf,show t::q=[t]++q from rfl,qf,vf] at I;simp at I
    lia
   have Z:Few (1*t.2.length):=few (by lia);have a:Few ((iD (jm p)).length+(List.replicate t.2.length (D.int (t.1:Int))).length):=few (by rw[zys,d8];lia);have b:=bndN t.2.length (by lia);have c:iD (jm p)++List.replicate t.2.length (D.int (t.1:Int))=iD (jm (p++[t])):=by rw[qf,vf,zyq,zyr]
   refine⟨[some (.sh (ssL ss)),some (.ow (iD (jm (p++[t])))),some (.sh (tnD t))],?_,_,rfl⟩;rw[<-c];unfold tnD;simp only[zgx,sOwn,fCat,fVar,fLst,fRep,f7,aq,fIxV,ixSl,fC,fNil,af,ai,ac,aj,ax,bc,z5r,z5s,ak,b9,show(0+1<=64)=True by simp,if_true,gg,jv,Z,b,and_self,zp1,a])
 refine zur (e':=[some (.sh (ssL ss)),some (.ow (iD (jm ts))),v2]) rfl ?_;show zi6 [some (.sh (ssL ss)),none,none]=_;simp[zi6,V,h1]
theorem zjr(ok:TurnsOk ss ts)(S:xv [ssL ss]=some (.lst (ts.map tnD)))(Y:ss.flatten.length<=14):zb [ssL ss]=some (iD (jm ts)):=by
 have I:(jm ts).length<=14:=by rw[zoz,ok.perm.length_eq];exact Y
 obtain⟨e',h1,v2,J,R,v5,rfl⟩:=ww (ix:=[2,3,4,5]) (g:=zeh) (λt:Tn=>[D.int (t.1:Int),.int (t.2.length:Int),.int (hrs t.2),.int (lss t.2)]) (λp e=>∃v2 J R v5,e=[some (.sh (ssL ss)),some (.ow (iD (jm p))),v2,J,R,v5]) ts
  [some (.sh (ssL ss)),some (.ow []),none,none,none,none] ⟨none,none,none,none,rfl⟩ (λ_ _=>rfl) (by
   rintro p t q e U ⟨v2,J,R,v5,rfl⟩;have Z:(jm p).length+t.2.length<=14:=by
    rw[U,qf,show t::q=[t]++q from rfl,qf,vf] at I;simp at I
    lia
   have a:Few (1*t.2.length):=few (by lia);have b:Few ((iD (jm p)).length+(List.replicate t.2.length (D.int (t.1:Int))).length):=few (by rw[zys,d8];lia);have c:=bndN t.2.length (by lia);have d:iD (jm p)++List.replicate t.2.length (D.int (t.1:Int))=iD (jm (p++[t])):=by rw[qf,vf,zyq,zyr]
   refine⟨[some (.sh (ssL ss)),some (.ow (iD (jm (p++[t])))),some (.sh (.int (t.1:Int))),some (.sh (.int (t.2.length:Int))),some (.sh (.int (hrs t.2))),some (.sh (.int (lss t.2)))],?_,_,_,_,_,rfl⟩;rw[<-d];simp only[oo,zeh,ja,zmz,zz7,fRep,f7,aq,fVar,fNil,af,ai,ac,aj,ax,bc,ak,b9,show(0+1<=64)=True by simp,if_true,gg,jv,a,c,and_self,zp1,b])
 refine zur (e':=[some (.sh (ssL ss)),some (.ow (iD (jm ts))),v2,J,R,v5]) rfl ?_;show zhu [some (.sh (ssL ss)),none,none,none,none,none]=_;have V:forU [2,3,4,5] zeh (ts.map tnD) [some (.sh (ssL ss)),some (.ow []),none,none,none,none]=_:=h1;simp[zhu,S,V]
structure Whole (ss:k8) (os:g0):Prop where
 lo:∀a∈os,1<=a/\a<=ss.length
 cnt:∀(j:Nat) (s:k7),ss[j]?=some s->os.count (j+1)=s.length
theorem zuu(m:Nat):∀n:Nat,((List.range n).map λj=>if j=m then 1 else 0).sum=if m<n then 1 else 0
 | 0=>by simp
 | n+1=>by
   rw[qm,cz,kz,zuu m n];simp only[ci,du,fm,List.sum_nil];by_cases h1:m<n
   ·rw[if_pos h1,if_neg (by lia),if_pos (by lia)];rfl
   ·rw[if_neg h1]
    by_cases h2:n=m
    ·rw[if_pos h2,if_pos (by lia)];rfl
    ·rw[if_neg h2,if_neg (by lia)];rfl
theorem zuv{α:Type}(f g:α->Nat):∀l:List α,(l.map λx=>f x+g x).sum=(l.map f).sum+(l.map g).sum
 | []=>rfl
 | x::l=>by
   simp[fm,zuv f g l]
   lia
theorem zuw(n:Nat):∀(p:g0),(∀a∈p,1<=a/\a<=n)->((List.range n).map λj=>p.count (j+1)).sum=p.length
 | [],_=>by
   have:∀l:g0,(l.map λj=>([]:g0).count (j+1)).sum=0:=λl=>by
    induction l with
    | nil=>rfl
    | cons a l D=>rw[ci,fm,D];rfl
   rw[this];rfl
 | a::p,h=>by
   have D:=zuw n p λb J=>h b (av _ J);have R:=h a bj;have e:(λj=>(a::p).count (j+1))=λj=>p.count (j+1)+if j=a-1 then 1 else 0:=by
    funext j;rw[List.count_cons];by_cases I:j=a-1
    ·rw[if_pos I,if_pos (by simp;lia)]
    ·rw[if_neg I,if_neg (by simp;lia)]
   rw[e,zuv,D,zuu,if_pos (by lia),ak]
theorem zxh(ss:k8):((List.range ss.length).map λj=>(ss.getD j []).length).sum=ss.flatten.length:=by
 have:(List.range ss.length).map (λj=>(ss.getD j []).length)=ss.map List.length:=by
  apply eg;intro i;by_cases h:i<ss.length
  ·simp[h]
  ·simp[h]
 rw[this,iw]
variable{os:g0}
theorem Whole.len(h:Whole ss os):os.length=ss.flatten.length:=by
 rw[<-zuw ss.length os h.lo,<-zxh];congr 1;apply List.map_congr_left;intro j D;have D:j<ss.length:=j1.mp D;rw[h.cnt j ss[j] (by simp[D])];simp[D]
theorem zp2{P:List α->Prop}(D:P [])(I:∀p a,P p->P (p++[a]))(p:List α):P p:=by
 have:∀l:List α,P l.reverse:=λl=>by
  induction l with
  | nil=>exact D
  | cons a l ih=>rw[List.reverse_cons];exact I _ _ ih
 rw[<-List.reverse_reverse p];exact this _
def qx(ss:k8)(a c:Nat):Sk:=(ss.getD (a-1) []).getD c (0,0,0)
def tk(ss:k8)(os:g0):k7:=(List.range os.length).map λi=>qx ss (os.getD i 0) ((os.take i).count (os.getD i 0))
theorem znf(ss:k8)(p:g0)(a:Nat):tk ss (p++[a])=tk ss p++[qx ss a (p.count a)]:=by
 unfold tk;rw[am,ib,qm,cz];congr 1
 ·apply List.map_congr_left
  intro i hi;have hi:i<p.length:=j1.mp hi;have D:(p++[a]).getD i 0=p.getD i 0:=by
   rw[bu,bu,au hi]
  rw[D,gn (by lia)]
 ·have D:(p++[a]).getD p.length 0=a:=by simp
  simp only[ci,du];rw[D,j0]
theorem z39(ss:k8)(os:g0):(tk ss os).length=os.length:=by simp[tk]
theorem Whole.at{ss:k8}{p q:g0}{a:Nat}(h:Whole ss (p++a::q)):∃s,ss[a-1]?=some s/\p.count a<s.length/\s[p.count a]?=some (qx ss a (p.count a))/\1<=a/\a<=ss.length:=by
 obtain⟨h1,h2⟩:=h.lo a (by simp);have D:a-1<ss.length:=by lia
 have J:=h.cnt (a-1) ss[a-1] (by simp[D]);rw[show a-1+1=a by lia,List.count_append,List.count_cons_self] at J;have I:p.count a<ss[a-1].length:=by lia
 refine⟨ss[a-1],by simp[D],I,?_,h1,h2⟩;unfold qx;simp[D,I]
theorem Whole.mem(h:Whole ss os):∀(p:g0),∀(q:g0),os=p++q->∀x∈tk ss p,x∈ss.flatten:=by
 apply zp2
 ·intro q _ x hx
  simp[tk] at hx
 ·intro p a J q I x hx
  rw[znf] at hx;rcases cw.mp hx with hx | hx
  ·exact J (a::q) (by rw[I];simp) x hx
  ·rw[I,dh,f8] at h
   obtain⟨s,R,S,D,_⟩:=h.at;have e:x=qx ss a (p.count a):=by simpa using hx
   subst e;exact f6.mpr ⟨s,ay R,ay D⟩
theorem Whole.sk(h:Whole ss os):∀x∈tk ss os,x∈ss.flatten:=h.mem os [] (by simp)
theorem zrc(ts:k9)(j:Nat):(jm ts).count (j+1)=(ofS ts j).flatten.length:=by
 induction ts with
 | nil=>simp[jm,ofS]
 | cons t ts ih =>
   rw[show t::ts=[t]++ts from rfl,qf,vf,List.count_append,ih];by_cases e:t.1=j+1
   ·rw[f8,yz t ts j e,cr,am,e,List.count_replicate_self]
   ·rw[f8,zg8 t ts j e,List.count_replicate,if_neg (by simpa using e)]
    lia
theorem TurnsOk.whole(ok:TurnsOk ss ts):Whole ss (jm ts):=by
 refine⟨λa I=>?_,λj s J=>?_⟩
 ·obtain⟨l,R,D⟩:=f6.mp I
  obtain⟨t,S,rfl⟩:=fy.mp R;rw[List.eq_of_mem_replicate D];exact ok.lo t S
 ·rw[zrc,ok.part j s J]
def cntD(n:Nat)(f:Nat->Int):i0:=(List.range n).map λj=>D.int (f j)
theorem zng(n:Nat)(f:Nat->Int):(cntD n f).length=n:=by simp[cntD]
theorem zux(n:Nat)(f:Nat->Int)(j:Nat)(h:j<n):atI (cntD n f) (j:Int)=some (.int (f j)):=l3 (λj:Nat=>D.int (f j)) (by simp[h])
theorem zrd(n:Nat)(f g:Nat->Int)(j:Nat)(h:∀i,i<n->i≠j->g i=f i):(cntD n f).set j (.int (g j))=cntD n g:=by
 apply eg;intro i;unfold cntD;rw[ig];by_cases hi:i<n
 ·by_cases e:j=i
  ·subst e;simp[hi]
  ·rw[if_neg e]
   simp[hi,h i hi (Ne.symm e)]
 ·by_cases e:j=i
  ·subst e;simp[hi]
  ·rw[if_neg e];simp[hi]
theorem zre(n:Nat)(f:Nat->Int)(j:Nat)(h:j<n):(cntD n f)[j]?=some (.int (f j)):=by simp[cntD,h]
theorem zp3(h:ds.length=ar)(D:g (je n ds)=some (.nx,e')):runD n ar g ds=some .non:=by
 unfold runD;rw[if_pos h,D]
theorem zlp(R:1<=a)(S:a<=ss.length):zgz [ssL ss,.int (a:Int)]=some .non:=by
 have I:decide ((a:Int)<1)=false:=by simp;lia
 have J:decide (((ss.map λs=>D.lst (s.map sD)).length:Int)<(a:Int))=false:=by rw[ae];simp;lia
 refine zp3 (e':=[some (.sh (ssL ss)),some (.sh (.int (a:Int)))]) rfl ?_;show zgy [some (.sh (ssL ss)),some (.sh (.int (a:Int)))]=_;unfold ssL;generalize (ss.map λs=>D.lst (s.map sD))=L at *;simp only[zgy,sIf,sNil,fOr,fTst,fBin,fVar,fC,jd,dLt,dGt,af,ai,ac,aj,ax,bc,I,J,dm,if_false]
def lenF(ss:k8)(p:g0)(j:Nat):Int:=((ss.getD j []).length:Int)-(p.count (j+1):Int)
theorem zxi(ss:k8):(ss.map λs=>D.int (s.length:Int))=cntD ss.length (lenF ss []):=by
 apply eg;intro i;unfold cntD lenF;by_cases h:i<ss.length
 ·simp[h]
 ·simp[h]
theorem zuy(ss:k8):lu fYes (jd 0) [] (ss.map λs=>D.lst (s.map sD))=some (cntD ss.length (lenF ss [])):=by
 rw[<-zxi];exact ng (te:=jd 0) (base:=[]) (λs:k7=>D.lst (s.map sD)) (λs:k7=>D.int (s.length:Int)) ss λs _=>⟨_,by simp;rfl⟩
theorem yv(p:g0)(a b:Nat):(p++[a]).count b=p.count b+if a=b then 1 else 0:=by
 by_cases h:a=b
 ·simp[h]
 ·simp[h]
theorem zuz(ss:k8)(p:g0)(a:Nat)(h1:1<=a):lenF ss (p++[a]) (a-1)=lenF ss p (a-1)-1/\∀i,i≠a-1->lenF ss (p++[a]) i=lenF ss p i:=by
 unfold lenF;refine⟨?_,λi hi=>?_⟩
 ·rw[yv,if_pos (by lia)];lia
 ·rw[yv,if_neg (by lia)];lia
theorem zsk(h:Whole ss os)(j:Nat)(D:j<ss.length):lenF ss os j=0:=by
 unfold lenF;rw[h.cnt j ss[j] (by simp[D])];simp[D]
variable{p:g0}
theorem zxj(h:Whole ss (p++a::q)):0<lenF ss p (a-1):=by
 obtain⟨s,D,I,_,h1,h2⟩:=h.at;unfold lenF;rw[show a-1+1=a by lia,bu,D];simp
 lia
theorem zu0(n:Nat)(f:Nat->Int):ints? (cntD n f)=some ((List.range n).map f):=by
 have:cntD n f=((List.range n).map f).map D.int:=by unfold cntD;rw[jc];rfl
 rw[this,ztq]
theorem zrf(f:Nat->Int):∀n:Nat,(∀j,j<n->f j=0)->((List.range n).map f).sum=0
 | 0,_=>rfl
 | n+1,h=>by
   rw[qm,cz,kz,zrf f n λj D=>h j (by lia)];simp[h n (by lia)]
theorem zlq(h:Whole ss os)(t:ss.length<=1000):zg1 [ssL ss,.lst (iD os)]=some .non:=by
 obtain⟨e',h1,U,rfl⟩:=vd (i:=3) (g:=zdu) (λa:Nat=>D.int (a:Int)) (λp e=>∃U,e=[some (.sh (ssL ss)),some (.sh (.lst (iD os))),some (.ow (cntD ss.length (lenF ss p))),U]) os
  [some (.sh (ssL ss)),some (.sh (.lst (iD os))),some (.ow (cntD ss.length (lenF ss []))),none] ⟨none,rfl⟩ (by
   rintro p a q e V ⟨U,rfl⟩;have c:Whole ss (p++a::q):=by rw[<-V];exact h
   obtain⟨s,u,d,_,f,v⟩:=c.at;have w:=zxj c;obtain⟨k,l⟩:=zuz ss p a f;have Y:(a:Int)-1=((a-1:Nat):Int):=by lia
   have Z:=zux ss.length (lenF ss p) (a-1) (by lia);have R:=zre ss.length (lenF ss p) (a-1) (by lia);have I:=zrd ss.length (lenF ss p) (lenF ss (p++[a])) (a-1) (λi _ hi=>l i hi);rw[k] at I;have m:decide (lenF ss p (a-1)=0)=false:=by simp;lia
   have b:a-1<(cntD ss.length (lenF ss p)).length:=by rw[zng];lia
   have n:(0:Int)<=((a-1:Nat):Int):=by lia
   refine⟨[some (.sh (ssL ss)),some (.sh (.lst (iD os))),some (.ow (cntD ss.length (lenF ss (p++[a])))),some (.sh (.int (a:Int)))],?_,_,rfl⟩;rw[<-I];generalize cntD ss.length (lenF ss p)=L at *;simp only[zdu,sSeq,sIf,sNil,tm,zwo,fTst,fBin,fIxV,ixSl,fVar,fC,dSub,dEq,af,ai,ac,aj,ax,bc,Y,Z,m,dm,if_false,n,if_true,gg,R,b])
 have Y:((List.range ss.length).map (lenF ss os)).sum=0:=zrf _ _ λj o=>zsk h j o;have J:=zu0 ss.length (lenF ss os);have d:=zuy ss;have r:Few (ss.map λs=>D.lst (s.map sD)).length:=few (by rw[ae];lia);refine zp3 (e':=[some (.sh (ssL ss)),some (.sh (.lst (iD os))),some (.ow (cntD ss.length (lenF ss os))),U]) rfl ?_;show zg0 [some (.sh (ssL ss)),some (.sh (.lst (iD os))),none,none]=_;have S:forL 3 zdu (iD os) [some (.sh (ssL ss)),some (.sh (.lst (iD os))),some (.ow (cntD ss.length (lenF ss []))),none]=_:=h1;unfold ssL at S ⊢;generalize iD os=O at *;generalize (ss.map λs=>D.lst (s.map sD))=L at *;simp[zg0,iq,zwt,r,d,S,J,Y,Int.lt_irrefl]
theorem zlr(h:Whole ss os)(R:ss.length<=1000):zg3 [ssL ss,.lst (iD os)]=some .non:=by
 obtain⟨e',h1,v2,rfl⟩:=vd (i:=2) (g:=zdv) (λa:Nat=>D.int (a:Int)) (λp e=>∃v2,e=[some (.sh (ssL ss)),some (.sh (.lst (iD os))),v2]) os
  [some (.sh (ssL ss)),some (.sh (.lst (iD os))),none] ⟨none,rfl⟩ (by
   rintro p a q e I ⟨v2,rfl⟩;obtain⟨S,U⟩:=h.lo a (by rw[I];simp);have V:=zlp (ss:=ss) S U;simp[zdv,V])
 have h2:=zlq h R;refine zp3 (e':=[some (.sh (ssL ss)),some (.sh (.lst (iD os))),v2]) rfl ?_;show zg2 [some (.sh (ssL ss)),some (.sh (.lst (iD os))),none]=_;have J:forL 2 zdv (iD os) [some (.sh (ssL ss)),some (.sh (.lst (iD os))),none]=_:=h1;generalize iD os=O at *;simp[zg2,J,h2]
def cntF(p:g0)(j:Nat):Int:=(p.count (j+1):Int)
theorem zu1(p:g0)(a:Nat)(h1:1<=a):cntF (p++[a]) (a-1)=cntF p (a-1)+1/\∀i,i≠a-1->cntF (p++[a]) i=cntF p i:=by
 unfold cntF;refine⟨?_,λi hi=>?_⟩
 ·rw[yv,if_pos (by lia)];lia
 ·rw[yv,if_neg (by lia)];lia
theorem zsl(ss:k8):lu fYes (fC (.int 0)) [] (ss.map λs=>D.lst (s.map sD))=some (cntD ss.length (cntF [])):=by
 rw[ng (te:=fC (.int 0)) (base:=[]) (λs:k7=>D.lst (s.map sD)) (λs:k7=>D.int 0) ss λs _=>⟨_,by simp;rfl⟩];congr 1;apply eg;intro i;unfold cntD cntF;by_cases h:i<ss.length
 ·simp[h]
 ·simp[h]
theorem z4a(R:Whole ss (p++a::q)) :
  (a:Int)-1=((a-1:Nat):Int)/\atI (cntD ss.length (cntF p)) ((a-1:Nat):Int)=some (.int (p.count a:Int))/\(cntD ss.length (cntF p))[a-1]?=some (.int (p.count a:Int)) /\
    (cntD ss.length (cntF p)).set (a-1) (.int ((p.count a:Int)+1))=cntD ss.length (cntF (p++[a]))/\a-1<(cntD ss.length (cntF p)).length/\ixN (cntD ss.length (cntF p)).length ((a-1:Nat):Int)=some (a-1) /\
    ∃s:k7,atI (ss.map λs=>D.lst (s.map sD)) ((a-1:Nat):Int)=some (.lst (s.map sD))/\atI (s.map sD) (p.count a:Int)=some (sD (qx ss a (p.count a))):=by
 obtain⟨s,S,b,U,V,c⟩:=R.at;obtain⟨Y,Z⟩:=zu1 p a V;have J:cntF p (a-1)=(p.count a:Int):=by unfold cntF;rw[show a-1+1=a by lia]
 have I:=zrd ss.length (cntF p) (cntF (p++[a])) (a-1) (λi _ hi=>Z i hi);rw[Y,J] at I;refine⟨by lia,?_,?_,I,by rw[zng];lia,?_,s,l3 (λs:k7=>D.lst (s.map sD)) S,l3 sD U⟩
 ·rw[zux _ _ _ (by lia),J]
 ·rw[zre _ _ _ (by lia),J]
 ·rw[t6 (by lia) (by rw[zng];lia)]
  congr 1
theorem ziv(h:Whole ss os)(k:ss.length<=1000)(j:os.length<=1000):ze7 [ssL ss,.lst (iD os)]=some (.lst ((tk ss os).map sD)):=by
 obtain⟨e',h1,Y,rfl⟩:=vd (i:=4) (g:=zdw) (λa:Nat=>D.int (a:Int)) (λp e=>∃Y,e=[some (.sh (ssL ss)),some (.sh (.lst (iD os))),some (.ow (cntD ss.length (cntF p))),some (.ow ((tk ss p).map sD)),Y]) os
  [some (.sh (ssL ss)),some (.sh (.lst (iD os))),some (.ow (cntD ss.length (cntF []))),some (.ow []),none] ⟨none,rfl⟩ (by
   rintro p a q e I ⟨Y,rfl⟩;have l:Whole ss (p++a::q):=by rw[<-I];exact h
   obtain⟨m,Z,J,R,b,n,s,c,d⟩:=z4a l;have f:Few (((tk ss p).map sD).length+1):=few (by rw[ae,z39];rw[I] at j;simp at j;lia);have o:(0:Int)<=((a-1:Nat):Int):=by lia
   have r:dIx (.lst (s.map sD)) (.int (p.count a:Int))=some (sD (qx ss a (p.count a))):=d;refine⟨[some (.sh (ssL ss)),some (.sh (.lst (iD os))),some (.ow (cntD ss.length (cntF (p++[a])))),some (.ow ((tk ss (p++[a])).map sD)),some (.sh (.int (a:Int)))],?_,_,rfl⟩;rw[<-R,znf,cz,ci,du];unfold ssL;generalize (tk ss p).map sD=M at *;generalize s.map sD=S at *;simp only[zdw,sSeq,ja,tm,zwo,qd,yb,fBin,fIxV,ixSl,fVar,fC,dSub,il,af,ai,ac,aj,ax,bc,m,Z,c,r,f,o,if_true,gg,J,b])
 have U:=zlr h k;have t:=zsl ss;have f:Few (ss.map λs=>D.lst (s.map sD)).length:=few (by rw[ae];lia);refine j7 (e':=[some (.sh (ssL ss)),some (.sh (.lst (iD os))),some (.ow (cntD ss.length (cntF os))),some (.sh (.lst ((tk ss os).map sD))),Y]) rfl ?_;show zg4 [some (.sh (ssL ss)),some (.sh (.lst (iD os))),none,none,none]=_;have V:forL 4 zdw (iD os) [some (.sh (ssL ss)),some (.sh (.lst (iD os))),some (.ow (cntD ss.length (cntF []))),some (.ow []),none]=_:=h1;unfold ssL at V U ⊢;generalize (ss.map λs=>D.lst (s.map sD))=L at *;simp[zg4,iq,U,f,t,V]
def nn(h:Int):List (Nat×Sk)->List g7
 | []=>[]
 | x::r=>[x.2.1,(x.1:Int),h,h+x.2.2.1]::nn (h+x.2.2.1) r
theorem zrg(x:Sk)(r:k7):hrs (x::r)=x.2.1+hrs r:=rfl
theorem zrh(x:Sk)(r:k7):lss (x::r)=x.2.2+lss r:=rfl
theorem zmc(x:Nat×Sk):∀(p:List (Nat×Sk)) (h:Int),nn h (p++[x])=nn h p++[[x.2.1,(x.1:Int),h+hrs (p.map (·.2)),h+hrs (p.map (·.2))+x.2.2.1]]
 | [],h=>by simp[nn,hrs]
 | y::p,h=>by
   rw[jh,nn,nn,zmc x p,ci,zrg];rw[<-Int.add_assoc];rfl
def jl(h:Int):k7->Int
 | []=>0
 | x::r=>x.2.2*(h+x.2.1)+jl (h+x.2.1) r
theorem zmd(x:Sk):∀(p:k7) (h:Int),jl h (p++[x])=jl h p+x.2.2*(h+hrs p+x.2.1)
 | [],h=>by simp[jl,hrs]
 | y::p,h=>by
   rw[jh,jl,jl,zmd x p,zrg,<-Int.add_assoc h]
   lia
theorem znh(x:Sk):ud [sD x]=some (.int x.2.1):=rfl
theorem zp4(x:Sk):vi [sD x]=some (.int x.2.2):=rfl
theorem zu2(x:Sk):ze6 [sD x]=some (.int x.1):=rfl
theorem zo0:∀(p:List (Nat×Sk)) (h:Int),(nn h p).length=p.length
 | [],_=>rfl
 | x::p,h=>by rw[nn,ak,ak,zo0 p]
theorem zxk(h:Whole ss os)(U:ss.length<=1000)(c:os.length<=900):zov [ssL ss,.lst (iD os)]=some (.lst ((nn 0 (os.zip (tk ss os))).map iT)):=by
 have V:=ziv h U (by lia);obtain⟨e',h1,I,J,v5,R,rfl,rfl⟩:=ww (ix:=[4,5]) (g:=zf8) (λx:Nat×Sk=>[D.int (x.1:Int),sD x.2])
  (λp e=>∃I J v5 R,e=[some (.sh (ssL ss)),some (.sh (.lst (iD os))),some (.ow ((nn 0 p).map iT)),I,J,v5,R]/\I=some (.sh (.int (hrs (p.map (·.2)))))) (os.zip (tk ss os))
  [some (.sh (ssL ss)),some (.sh (.lst (iD os))),some (.ow []),some (.sh (.int 0)),none,none,none] ⟨_,none,none,none,rfl,rfl⟩ (λ_ _=>rfl) (by
   rintro p x q e S ⟨I,J,v5,R,rfl,rfl⟩;have Y:Few (((nn 0 p).map iT).length+1):=few (by
    rw[ae,zo0];have:=congrArg List.length S;simp[List.length_zip] at this
    lia)
   have Z:iT [x.2.1,(x.1:Int),0+hrs (p.map (·.2)),0+hrs (p.map (·.2))+x.2.2.1]=.tup [.int x.2.1,.int (x.1:Int),.int (hrs (p.map (·.2))),.int (hrs (p.map (·.2))+x.2.2.1)]:=by simp[iT]
   have a:hrs ((p++[x]).map (·.2))=hrs (p.map (·.2))+x.2.2.1:=by rw[cz,oy];simp[hrs]
   rw[zmc,cz,ci,du,Z,a];generalize (nn 0 p).map iT=M at *;simp[oo,zf8,znh,zu2,Y])
 refine j7 (e':=[some (.sh (ssL ss)),some (.sh (.lst (iD os))),some (.sh (.lst ((nn 0 (os.zip (tk ss os))).map iT))),some (.sh (.int (hrs ((os.zip (tk ss os)).map (·.2))))),J,v5,R]) rfl ?_;show zhw [some (.sh (ssL ss)),some (.sh (.lst (iD os))),none,none,none,none,none]=_;have b:iZp [.lst (iD os),.lst ((tk ss os).map sD)]=some ((os.zip (tk ss os)).map λx=>D.tup [D.int (x.1:Int),sD x.2]):=by
  show some (zipD (iD os) ((tk ss os).map sD))=_;unfold iD;rw[zra]
 simp only[zhw,sSeq,sOwn,sSet,nk,sRet,f7,fNil,fC,jk,d5,aq,fVar,af,ai,ac,aj,ax,bc,b9,fz,if_true,V,b,h1]
theorem zni(h:Whole ss os)(J:∀x∈ss.flatten,iy x)(R:ss.length<=1000)(Y:os.length<=900):zhy [ssL ss,.lst (iD os)]=some (.int (jl 0 (tk ss os))):=by
 have S:=ziv h R (by lia);obtain⟨e',h1,D,rfl⟩:=vd (i:=4) (g:=zf9) sD (λp e=>∃D,e=[some (.sh (ssL ss)),some (.sh (.lst (iD os))),some (.sh (.int (jl 0 p))),some (.sh (.int (hrs p))),D]) (tk ss os)
  [some (.sh (ssL ss)),some (.sh (.lst (iD os))),some (.sh (.int 0)),some (.sh (.int 0)),none] ⟨none,rfl⟩ (by
   rintro p x q e I ⟨D,rfl⟩;obtain⟨_,_,_,_,Z,a⟩:=J x (h.sk x (by rw[I];simp));have sm:li x.2.2:=rn (by lia);have U:hrs (p++[x])=hrs p+x.2.1:=by rw[oy];simp[hrs]
   have V:jl 0 (p++[x])=jl 0 p+x.2.2*(hrs p+x.2.1):=by rw[zmd,jw]
   rw[U,V];simp[zf9,znh,zp4,uu sm])
 refine j7 (e':=[some (.sh (ssL ss)),some (.sh (.lst (iD os))),some (.sh (.int (jl 0 (tk ss os)))),some (.sh (.int (hrs (tk ss os)))),D]) rfl ?_;show zhx [some (.sh (ssL ss)),some (.sh (.lst (iD os))),none,none,none]=_;simp[zhx,S,h1]
theorem znj(ok:TurnsOk ss ts)(I:xv [ssL ss]=some (.lst (ts.map tnD)))(S:∀x∈ss.flatten,iy x)(U:ss.length<=1000)(V:ss.flatten.length<=14):zf0 [ssL ss]=some (.int (jl 0 (tk ss (jm ts)))):=by
 have D:=zjr ok I V;have R:=ok.whole;have J:=zni R S U (by rw[R.len];lia);refine j7 (e':=[some (.sh (ssL ss))]) rfl ?_;show zhz [some (.sh (ssL ss))]=_;simp[zhz,D,J]
theorem zu3(p q:k9)(j:Nat):ofS (p++q) j=ofS p j++ofS q j:=by unfold ofS;rw[i7,cz]
theorem zu4(f:α->Int){l l':List α}(p:l.Perm l'):(l.map f).sum=(l'.map f).sum:=by
 induction p with
 | nil=>rfl
 | cons x _ ih=>simp[fm,ih]
 | swap x y l=>simp[fm];lia
 | trans _ _ h1 h2=>rw[h1,h2]
theorem zlh(d:Int):∀(r:k7) (h:Int),jl (h+d) r=jl h r+d*lss r
 | [],h=>by simp[jl,lss]
 | x::r,h=>by
   rw[jl,jl,zrh,show h+d+x.2.1=h+x.2.1+d by lia,zlh d r,gh x.2.2,gh d,gy d x.2.2]
   lia
def r3(r:g7):Int:=r.getD 2 0
def srt(r:g7):g7:=[if r.getD 0 0<=r.getD 1 0 then r.getD 0 0 else r.getD 1 0,if r.getD 0 0<=r.getD 1 0 then r.getD 1 0 else r.getD 0 0]
def cmp(h:Int):k7->Int->Int
 | [],_=>0
 | x::r,k=>if x.1=k then h+x.2.1 else cmp (h+x.2.1) r k
def PS(w C:Sk->Int)(P:Int):k7->Int
 | x::y::r=>-(P+w x)*(C y-C x-y.2.1)+PS w C (P+w x) (y::r)
 | _=>0
theorem z4b(S:Whole ss os)(U:ss[j]?=some s):s.Sublist (tk ss os):=by
 have J:∀p:g0,∀q,os=p++q->(s.take (p.count (j+1))).Sublist (tk ss p):=by
  apply zp2
  ·intro q _;simp
  ·intro p a I q R
   rw[dh,f8] at R;have I:=I (a::q) R;rw[znf,yv];by_cases e:a=j+1
   ·subst e
    rw[if_pos rfl];obtain⟨s',D,Y,V,_,_⟩:=(R ▸ S).at;rw[Nat.add_sub_cancel,U] at D;cases D;have:s.take (p.count (j+1)+1)=s.take (p.count (j+1))++[qx ss (j+1) (p.count (j+1))]:=by
     rw[List.take_succ,V];rfl
    rw[this];exact List.Sublist.append I (List.Sublist.refl _)
   ·rw[if_neg e,Nat.add_zero]
    exact I.trans (List.sublist_append_left _ _)
 have:=J os [] (by simp);rw[S.cnt j s U,List.take_length] at this;exact this
theorem z53(ok:TurnsOk ss ts)(J:Whole ss os)(D:t∈ts):t.2.Sublist (tk ss os):=by
 obtain⟨h1,h2⟩:=ok.lo t D;have I:ss[t.1-1]?=some ss[t.1-1]:=bi (by lia);refine List.Sublist.trans ?_ (z4b J I);rw[<-ok.part _ _ I];apply d9;refine fy.mpr ⟨t,i4.mpr ⟨D,?_⟩,rfl⟩;simp
 lia
theorem zyt{ss:k8}{a:Nat}{s:k7}(I:ss[a-1]?=some s)(p:g0):∀k:Nat,p.count a+k<=s.length->tk ss (p++List.replicate k a)=tk ss p++(s.drop (p.count a)).take k
 | 0,_=>by simp
 | k+1,h=>by
   rw[List.replicate_succ',<-dh,znf,zyt I p k (by lia),dh];have D:p.count a+k<s.length:=by lia
   rw[List.take_succ];unfold qx;rw[bu,bu,I];simp[D]
theorem z0x(ok:TurnsOk ss ts):tk ss (jm ts)=(ts.map (·.2)).flatten:=by
 have I:∀p:k9,∀q,ts=p++q->tk ss (jm p)=(p.map (·.2)).flatten:=by
  apply zp2
  ·intro q _;rfl
  ·intro p t J q D
   rw[dh,f8] at D;have J:=J (t::q) D;obtain⟨h1,h2⟩:=ok.lo t (by rw[D];simp);have U:ss[t.1-1]?=some ss[t.1-1]:=bi (by lia);have R:=ok.part _ _ U;rw[D,zu3,yz t q (t.1-1) (by lia),e7,cr] at R;have S:=zrc p (t.1-1);rw[show t.1-1+1=t.1 by lia] at S;rw[qf,vf,zyt U _ _ (by rw[S,<-R];simp),J,S,<-R];simp
 exact I ts [] (by simp)
theorem zp5(l:k8):(l.map λs:k7=>(s.length:Int)).sum=(l.flatten.length:Int):=by
 induction l with
 | nil=>rfl
 | cons a l ih=>rw[ci,fm,ih,cr,am];lia
theorem zo1(ss:k8)(R:ss.length<=1000):zej [ssL ss]=some (.int (ss.flatten.length:Int)):=by
 have c:=ng (te:=jd 0) (base:=[]) (λs:k7=>D.lst (s.map sD)) (λs:k7=>D.int (s.length:Int)) ss λs _=>⟨_,by simp;rfl⟩;have I:=tj (λs:k7=>(s.length:Int)) ss;have J:Few (ss.map λs=>D.lst (s.map sD)).length:=few (by rw[ae];lia);rw[zp5] at I;refine j7 (e':=[some (.sh (ssL ss))]) rfl ?_;show zga [some (.sh (ssL ss))]=_;unfold ssL;generalize (ss.map λs=>D.lst (s.map sD))=L at *;simp[zga,iq,J,c,I]
theorem zp6(ss:k8)(R:∀s∈ss,s.length<=1000):zg6 [ssL ss]=some (.int (lss ss.flatten)):=by
 obtain⟨e',h1,v2,rfl⟩:=vd (i:=2) (g:=zdx) (λs:k7=>D.lst (s.map sD)) (λp e=>∃v2,e=[some (.sh (ssL ss)),some (.sh (.int (lss p.flatten))),v2]) ss
  [some (.sh (ssL ss)),some (.sh (.int 0)),none] ⟨none,rfl⟩ (by
   rintro p s q e I ⟨v2,rfl⟩;have c:=ng (te:=d5 vi (aq (fVar 0) fNil)) (base:=[]) sD (λx:Sk=>D.int x.2.2) s λx _=>⟨_,by simp[zp4];rfl⟩;have S:=tj (λx:Sk=>x.2.2) s;have U:Few (s.map sD).length:=few (by rw[ae];have:=R s (by rw[I];simp);lia);have V:lss (p++[s]).flatten=lss p.flatten+(s.map λx:Sk=>x.2.2).sum:=by rw[e7,qb];simp[lss]
   rw[V];generalize s.map sD=L at *;simp[zdx,iq,U,c,S])
 refine j7 (e':=[some (.sh (ssL ss)),some (.sh (.int (lss ss.flatten))),v2]) rfl ?_;show zg5 [some (.sh (ssL ss)),none,none]=_;have J:forL 2 zdx (ss.map λs=>D.lst (s.map sD)) [some (.sh (ssL ss)),some (.sh (.int 0)),none]=_:=h1;unfold ssL at *;simp[zg5,J]
theorem ph(h:ss[a-1]?=some s)(I:1<=a):atI (ss.map λs=>D.lst (s.map sD)) ((a:Int)-1)=some (.lst (s.map sD)):=by
 rw[show((a:Int)-1)=((a-1:Nat):Int) by lia];exact l3 _ h
variable{x:Sk}
theorem zyu(h:ss[a-1]?=some (x::r))(D:1<=a):zie [ssL ss,.int (a:Int)]=some (sD x):=by
 have h1:=ph h D;have h2:atI ((x::r).map sD) (0:Int)=some (sD x):=l3 sD (k:=0) rfl;refine j7 (e':=[some (.sh (ssL ss)),some (.sh (.int (a:Int)))]) rfl ?_;show zj6 [some (.sh (ssL ss)),some (.sh (.int (a:Int)))]=_;unfold ssL;generalize (x::r).map sD=M at *;simp[zj6,h1,h2]
theorem zu5(l:List α)(k:Nat)(x:α)(h:k<l.length):l.take k++[x]++l.drop (k+1)=l.set k x:=by
 rw[List.set_eq_take_append_cons_drop,if_pos h];simp
theorem zri(l:i0)(k:Nat)(h:k<=l.length):cutD l none (some (k:Int))=l.take k:=by
 have:=z0s (l.take k) (l.drop k);rwa [List.take_append_drop,dq,Nat.min_eq_left h] at this
theorem zky(l:i0)(k:Nat)(h:k<=l.length):cutD l (some (k:Int)) none=l.drop k:=by
 have:=zuq (l.take k) (l.drop k);rwa [List.take_append_drop,dq,Nat.min_eq_left h] at this
theorem zg9(s:k7)(Z:1<=a)(b:a<=ss.length)(c:ss.length<=1000):xl [ssL ss,.int (a:Int),.lst (s.map sD)]=some (ssL (ss.set (a-1) s)):=by
 have d:(ss.map λs=>D.lst (s.map sD)).length=ss.length:=ae ..;have J:=zri (ss.map λs=>D.lst (s.map sD)) (a-1) (by lia);have R:=zky (ss.map λs=>D.lst (s.map sD)) a (by lia);have S:((a:Int)-1)=((a-1:Nat):Int):=by lia
 have I:=zu5 (ss.map λs=>D.lst (s.map sD)) (a-1) (D.lst (s.map sD)) (by lia);rw[show a-1+1=a by lia] at I;have U:Few ((((ss.map λs=>D.lst (s.map sD)).take (a-1)).length)+(0+1)):=few (by simp only[dq];lia);have V:Few (((ss.map λs=>D.lst (s.map sD)).take (a-1)++[D.lst (s.map sD)]).length+((ss.map λs=>D.lst (s.map sD)).drop a).length):=few (by simp[dq,fg];lia);have Y:ssL (ss.set (a-1) s)=.lst ((ss.map λs=>D.lst (s.map sD)).set (a-1) (D.lst (s.map sD))):=by unfold ssL;rw[io]
 refine j7 (e':=[some (.sh (ssL ss)),some (.sh (.int (a:Int))),some (.sh (.lst (s.map sD)))]) rfl ?_;show zh0 [some (.sh (ssL ss)),some (.sh (.int (a:Int))),some (.sh (.lst (s.map sD)))]=_;rw[Y,<-I];unfold ssL;generalize s.map sD=M at *;simp only[zh0,sRet,fLst,fCat,fSl,fO0,fO1,f7,aq,fNil,fVar,fBin,fC,dSub,S,af,ai,ac,aj,J,R,U,V,if_true,ak,b9,show(0+1<=64)=True by simp]
theorem zme(h:ss[a-1]?=some (x::r))(D:1<=a)(I:ss.length<=1000):ze8 [ssL ss,.int (a:Int)]=some (ssL (ss.set (a-1) r)):=by
 have h1:=ph h D;have R:=(ah.mp h).1;have c:cutD ((x::r).map sD) (some ((1:Nat):Int)) none=((x::r).map sD).drop 1:=zky _ 1 (by simp);have J:=zg9 (ss:=ss) r D (by lia) I;refine j7 (e':=[some (.sh (ssL ss)),some (.sh (.int (a:Int)))]) rfl ?_;show zg7 [some (.sh (ssL ss)),some (.sh (.int (a:Int)))]=_;have c:cutD ((x::r).map sD) (some (1:Int)) none=r.map sD:=c;unfold ssL at *;generalize (x::r).map sD=M at *;simp[zg7,h1,c,J]
variable{p:List Hs}
theorem z4c{p b:k7}{B:k7}(h:B=p++b)(g:Good B):¬gt (blk B) (blk b):=by
 have h1:=g.beg p ⟨b,h.symm⟩;have D:hrs B=hrs p+hrs b:=by rw[h,oy]
 have I:lss B=lss p+lss b:=by rw[h,qb]
 show ¬lss b*hrs B<lss B*hrs b;rw[D,I] at h1 ⊢;simp only[gp,gh] at h1 ⊢
 lia
theorem zxl(a:Nat)(D:k8)(j:Nat):ofS (D.map λb=>(a,b)) j=if a=j+1 then D else[]:=by
 unfold ofS;induction D with
 | nil=>simp
 | cons b r ih =>
   rw[ci];by_cases h:a=j+1
   ·rw[kj (by simp[h]),ci,ih,if_pos h,if_pos h]
   ·rw[kl (by simp[h]),ih,if_neg h,if_neg h]
theorem zsm(a:Nat)(D:k8):jm (D.map λb=>(a,b))=List.replicate D.flatten.length a:=by
 unfold jm;induction D with
 | nil=>simp
 | cons b r ih =>
   rw[ci,ci,cr,ih,cr,am,List.replicate_append_replicate]
theorem zo2(ok:TurnsOk ss ((a,x::r)::ts))(v:∀y∈ss.flatten,iy y)(g:ss.flatten.length<=14) :
  ∃tl U,ss[a-1]?=some (x::tl)/\1<=a/\a<=ss.length/\TurnsOk (ss.set (a-1) tl) U/\jm U=List.replicate r.length a++jm ts/\(U.map (·.2)).flatten=r++(ts.map (·.2)).flatten:=by
 have lo:=ok.lo (a,x::r) (by simp);have F:=ok.good (a,x::r) (by simp);have V:=ok.sk v (a,x::r) (by simp);have i:=ok.len1 (a,x::r) (by simp);have k:=ok.left;have J:=zmb (n:=ss.length) (t:=(a,x::r)) (ts:=ts) lo.1 lo.2;rw[k] at J;obtain⟨I,R,_⟩:=zh2 r (λy l=>V y (by simp[l])) (by rw[ak] at i;lia);have pos:∀b∈I,0<hrs b:=λb D=>qa b (λy l=>V y (av _ (by rw[<-R.flat];exact f6.mpr ⟨b,by simpa using D,l⟩))) (R.good b D).ne;have m:0<hrs (x::r):=qa _ V (by simp);have w:=zpx I R.desc pos;have A:∀b∈I,¬gt (blk (x::r)) (blk b):=by
  cases I with
  | nil=>intro b D;cases D
  | cons bl rs' =>
    have o:x::r=(x::rs'.reverse.flatten)++bl:=by rw[<-R.flat];simp
    have B:=z4c o F;intro b D;rcases b7.mp D with rfl | hb'
    ·exact B
    ·exact z33 (pos b D) (pos bl (by simp)) m (λz=>t5 ((fc.mp w).1 b hb') z) B
 have d:=ok.srt;obtain⟨p,q⟩:=fc.mp d;have f:∀t∈I.reverse.map (λb=>(a,b))++ts,1<=t.1/\t.1<=ss.length:=λt Y=>by
  rcases cw.mp Y with h | h
  ·obtain⟨b,_,rfl⟩:=fy.mp h;exact lo
  ·exact ok.lo t (by simp[h])
 have Z:im ss.length (I.reverse.map (λb=>(a,b))++ts)=ss.set (a-1) (r++(ofS ts (a-1)).flatten):=by
  apply eg;intro j;by_cases S:j<ss.length
  ·rw[nz S,ig,zu3,zxl]
   by_cases e:a-1=j
   ·subst e
    rw[if_pos (by lia),if_pos rfl,if_pos S,e7,R.flat]
   ·rw[if_neg (by lia),if_neg e]
    have:=ok.part j ss[j] (by simp[S]);rw[zg8 _ _ _ (by simp;lia)] at this;simp[this,S]
  ·rw[cx (by rw[ly];lia),cx (by rw[dj];lia)]
 refine⟨r++(ofS ts (a-1)).flatten,I.reverse.map (λb=>(a,b))++ts,J,lo.1,lo.2,?_,?_,?_⟩
 ·rw[<-Z]
  refine⟨λt Y=>by rw[ly];exact f t Y,λt Y=>?_,λj s S=>?_,?_,zi7 f⟩
  ·rcases cw.mp Y with h | h
   ·obtain⟨b,D,rfl⟩:=fy.mp h;exact R.good b (by simpa using D)
   ·exact ok.good t (by simp[h])
  ·have g:=(ah.mp S).1
   rw[ly] at g;rw[nz g] at S;exact bn S
  ·rw[ij]
   refine⟨?_,q,λt Y u C=>?_⟩
   ·rw[List.pairwise_map,List.pairwise_reverse]
    exact w.imp λh=>.inl h
   ·obtain⟨b,D,rfl⟩:=fy.mp Y
    have D:b∈I:=by simpa using D
    have E:0<hrs u.2:=ok.pos v u (by simp[C]);rcases p u C with z | ⟨z1,z2⟩
    ·exact .inl (z52 (n:=blk b) (c:=blk (x::r)) (b:=blk u.2) (pos b D) m E (A b D) z)
    ·exact .inr ⟨z33 (n:=blk b) (c:=blk (x::r)) (b:=blk u.2) (pos b D) m E (A b D) z1,z2⟩
 ·rw[qf,zsm,R.flat]
 ·rw[cz,e7,jc]
  show((I.reverse.map λb=>b).flatten)++_=_;rw[List.map_id',R.flat]
def zk:FS:=sIf (fOr (fTst (fBin dLt (fVar 1) (fC (.int 1)))) (fTst (fBin dGt (fVar 1) (jd 0)))) (kh "UnknownStack" (some)) (sNil)
def xp:k4->i0->ka:=runQ 2 0 2 zk
def ug:k4->i0->h6:=xQ 2 0 2 zk
def zh4:FS:=sSeq (sIf (fTst (fBin dEq (jd 0) (fC (.int 0)))) (sRet (fC (.int 0))) (sNil)) (sRet (fBin dIx (fIxV 0 (fUn dNeg (fC (.int 1)))) (fC (.int 1))))
def y9:i0->ka:=runD 1 1 zh4
def zge:FS:=sIf (fOr (fTst (fBin dLt (fVar 0) (fC (.int 0)))) (fTst (fBin dGt (fVar 0) (fC (.int 5))))) (kh "BadCount" ((λz=>(some z).bind ((λz=>((vInt (fC (.int 5))) z).bind ((λz=>(some z).bind (some)))))))) (sNil)
def zek:k4->i0->ka:=runQ 1 0 1 zge
def zel:k4->i0->h6:=xQ 1 0 1 zge
def zj:FS:=sIf (fOr (fTst (fBin dLt (fVar 0) (fC (.int 1)))) (fTst (fBin dGt (fVar 0) (fC (.int 60))))) (kh "BadHours" ((λz=>(some z).bind ((λz=>((vInt (fC (.int 60))) z).bind ((λz=>(some z).bind (some)))))))) (sNil)
def zem:k4->i0->ka:=runQ 1 0 1 zj
def xo:k4->i0->h6:=xQ 1 0 1 zj
def ze:FS:=sIf (fOr (fTst (fBin dLt (fVar 0) (fC (.int 0)))) (fTst (fBin dGt (fVar 0) (fC (.int 100))))) (kh "BadLoss" ((λz=>(some z).bind ((λz=>((vInt (fC (.int 100))) z).bind (some)))))) (sNil)
def zr:k4->i0->ka:=runQ 1 0 1 ze
def vm:k4->i0->h6:=xQ 1 0 1 ze
def ze9:FS:=sIf (fTst (fBin dGe (d5 zej (aq (fVar 0) (fNil))) (fC (.int 14)))) (kh "HouseFull" ((λz=>((vInt (fC (.int 14))) z).bind ((λz=>(some z).bind (some)))))) (sNil)
def zfa:k4->i0->ka:=runQ 1 0 1 ze9
def xu:k4->i0->h6:=xQ 1 0 1 ze9
def zen:FS:=sIf (fTst (fBin dGe (jd 0) (fC (.int 60)))) (kh "DeedsFull" ((λz=>((vInt (fC (.int 60))) z).bind ((λz=>(some z).bind (some)))))) (sNil)
def vn:k4->i0->ka:=runQ 1 0 1 zen
def sf:k4->i0->h6:=xQ 1 0 1 zen
def zjt:FS:=sRet (fBin il (fC (.int 1)) (d5 bLen (aq (fLst (iq (fiS (fVar 0)) [] (fTst (fBin dEq (fIxV 0 (fC (.int 0))) (fC (.str "put")))) (fVar 0))) (fNil))))
def zfb:i0->ka:=runD 1 1 zjt
def zc5:FS:=sSeq (sXp (lf zel [] (aq (fVar 1) (fNil))) (ja (i5 zek [] (aq (fVar 1) (fNil))))) (sSeq (x8 0 "House" "kept" (f7 (fNil))) (x8 0 "House" "states" (f7 (aq (fTup (aq (fLst (iq (jk iR1 (aq (fVar 1) (fNil))) [] fYes (fLst (f7 (fNil))))) (aq (fLst (f7 (fNil))) (fNil)))) (fNil)))))
def zw:k4->i0->k6:=runL 2 1 1 zc5
def zea:k4->i0->Option (Str×k4):=xL 2 1 1 zc5
def zgf:FS:=sRet (fBin dIx (pIx (.at (.ins false "House" iz)) 0 1 (-1)) (fC (.int 0)))
def uf:k4->i0->ka:=runQ 1 1 0 zgf
def zlt:k4->i0->h6:=xQ 1 1 0 zgf
def zgg:FS:=sRet (fBin dIx (pIx (.at (.ins false "House" iz)) 0 1 (-1)) (fC (.int 1)))
def oh:k4->i0->ka:=runQ 1 1 0 zgg
def zlu:k4->i0->h6:=xQ 1 1 0 zgg
def zha:FS:=sSeq (ja (qc (.at (.ins false "House" iz)) 0 0 (fVar 1))) (ja (qc (.at (.ins false "House" iz)) 0 1 (fTup (aq (fVar 2) (aq (fVar 3) (fNil))))))
def o7:k4->i0->k6:=runL 4 1 3 zha
def znk:k4->i0->Option (Str×k4):=xL 4 1 3 zha
def sd:FS:=sSeq (sSet 4 (fK (.ins false "House" iz) 0 (i5 uf [0] (fNil)))) (sSeq (sXp (lf ug [] (aq (fVar 4) (aq (fVar 1) (fNil)))) (ja (i5 xp [] (aq (fVar 4) (aq (fVar 1) (fNil)))))) (sSeq (sXp (lf xo [] (aq (fVar 2) (fNil))) (ja (i5 zem [] (aq (fVar 2) (fNil))))) (sSeq (sXp (lf vm [] (aq (fVar 3) (fNil))) (ja (i5 zr [] (aq (fVar 3) (fNil))))) (sSeq (sXp (lf xu [] (aq (fVar 4) (fNil))) (ja (i5 zfa [] (aq (fVar 4) (fNil))))) (sSeq (sXp (xFrz true (lf sf [] (aq (nt (.ins false "House" iz) 0 0) (fNil)))) (ja (fFrz true (i5 vn [] (aq (nt (.ins false "House" iz) 0 0) (fNil)))))) (sSeq (sSet 5 (fFrz true (d5 zfb (aq (nt (.ins false "House" iz) 0 0) (fNil))))) (sSeq (sSet 6 (fLst (fCat (fLst (f7 (aq (fTup (aq (fVar 5) (aq (fVar 2) (aq (fVar 3) (fNil))))) (fNil)))) (fIxV 4 (fBin dSub (fVar 1) (fC (.int 1))))))) (sSeq (ja (fK (.ins false "House" iz) 0 (kg o7 [0] (aq (fTup (aq (fC (.str "put")) (aq (fVar 1) (aq (fVar 2) (aq (fVar 3) (fNil)))))) (aq (d5 xl (aq (fVar 4) (aq (fVar 1) (aq (fVar 6) (fNil))))) (aq (fK (.ins false "House" iz) 0 (i5 oh [0] (fNil))) (fNil))))))) (sRet (fVar 5))))))))))
def y8:k4->i0->k6:=runL 7 1 3 sd
def xk:k4->i0->Option (Str×k4):=xL 7 1 3 sd
def zhb:FS:=sRet (d5 y9 (aq (fK (.ins false "House" iz) 0 (i5 oh [0] (fNil))) (fNil)))
def zfc:k4->i0->ka:=runQ 1 1 0 zhb
def znl:k4->i0->h6:=xQ 1 1 0 zhb
def y7:FS:=sIf (fTst (fBin dLt (fVar 3) (fVar 1))) (sSet 2 (fBin il (fVar 2) (fBin dMul (fVar 5) (fBin dSub (d5 bMin (aq (fVar 1) (aq (fVar 4) (fNil)))) (fVar 3))))) (sNil)
def zig:FS:=sSeq (sIf (fOr (fTst (fBin dLt (fVar 1) (fC (.int 0)))) (fTst (fBin dGt (fVar 1) (d5 y9 (aq (fVar 0) (fNil)))))) (kh "NotGone" (some)) (sNil)) (sSeq (sSet 2 (fC (.int 0))) (sSeq (nk [3,4,5] (fiS (fVar 0)) (y7)) (sRet (fVar 2))))
def zih:k4->i0->ka:=runQ 6 0 2 zig
def zii:k4->i0->h6:=xQ 6 0 2 zig
def zeo:FS:=sIf (fTst (fBin dEq (d5 zej (aq (fVar 0) (fNil))) (fC (.int 0)))) (kh "NothingWaits" (some)) (sNil)
def zep:k4->i0->ka:=runQ 1 0 1 zeo
def xn:k4->i0->h6:=xQ 1 0 1 zeo
def xj:FS:=sSeq (sSet 1 (fK (.ins false "House" iz) 0 (i5 uf [0] (fNil)))) (sSeq (sXp (lf xn [] (aq (fVar 1) (fNil))) (ja (i5 zep [] (aq (fVar 1) (fNil))))) (sSeq (sXp (xFrz true (lf sf [] (aq (nt (.ins false "House" iz) 0 0) (fNil)))) (ja (fFrz true (i5 vn [] (aq (nt (.ins false "House" iz) 0 0) (fNil)))))) (sSeq (sSet 2 (fBin dIx (fLst (jk zb (aq (fVar 1) (fNil)))) (fC (.int 0)))) (sSeq (sSet 3 (d5 zie (aq (fVar 1) (aq (fVar 2) (fNil))))) (sSeq (sSet 4 (fK (.ins false "House" iz) 0 (i5 zfc [0] (fNil)))) (sSeq (sSet 5 (fTup (aq (fVar 4) (aq (fBin il (fVar 4) (d5 ud (aq (fVar 3) (fNil)))) (aq (d5 zg6 (aq (fVar 1) (fNil))) (fNil)))))) (sSeq (ja (fK (.ins false "House" iz) 0 (kg o7 [0] (aq (fTup (aq (fC (.str "dry")) (fNil))) (aq (d5 ze8 (aq (fVar 1) (aq (fVar 2) (fNil)))) (aq (fLst (fCat (fK (.ins false "House" iz) 0 (i5 oh [0] (fNil))) (fLst (f7 (aq (fVar 5) (fNil)))))) (fNil))))))) (sRet (fVar 3)))))))))
def zd:k4->i0->k6:=runL 6 1 0 xj
def xi:k4->i0->Option (Str×k4):=xL 6 1 0 xj
def zfd:FS:=sXp (lf zii [] (aq (fK (.ins false "House" iz) 0 (i5 oh [0] (fNil))) (aq (fVar 1) (fNil)))) (sRet (i5 zih [] (aq (fK (.ins false "House" iz) 0 (i5 oh [0] (fNil))) (aq (fVar 1) (fNil)))))
def zp:k4->i0->ka:=runQ 2 1 1 zfd
def zhc:k4->i0->h6:=xQ 2 1 1 zfd
def zi8:FS:=sRet (d5 bSum (aq (fLst (iq (fiS (fVar 0)) [] fYes (d5 bSum (aq (fLst (iq (fiS (fVar 0)) [] fYes (fIxV 0 (fC (.int 2))))) (fNil))))) (fNil)))
def yy:i0->ka:=runD 1 1 zi8
def zeq:FS:=sSet 1 (fLst (fCat (fVar 1) (fLst (fRep (f7 (aq (fVar 4) (fNil))) (fBin dSub (fVar 3) (fVar 2))))))
def zh5:FS:=sSeq (sSet 1 (fLst (f7 (fNil)))) (sSeq (nk [2,3,4] (fiS (fVar 0)) (zeq)) (sRet (fVar 1)))
def zf1:i0->ka:=runD 5 1 zh5
def zli:FS:=sRet (fBin dIx (fLst (f7 (aq (fC (.int 5)) (aq (fC (.int 3)) (aq (fC (.int 2)) (aq (fC (.int 4)) (aq (fC (.int 1)) (aq (fC (.int 5)) (aq (fC (.int 0)) (aq (fC (.int 4)) (aq (fC (.int 3)) (aq (fC (.int 5)) (aq (fC (.int 2)) (aq (fC (.int 4)) (fNil))))))))))))))) (fBin dMod (fVar 0) (fC (.int 12))))
def zhd:i0->ka:=runD 1 1 zli
def zhe:FS:=sRet (d5 zf0 (aq (fK (.ins false "House" iz) 0 (i5 uf [0] (fNil))) (fNil)))
def qk:k4->i0->ka:=runQ 1 1 0 zhe
def znm:k4->i0->h6:=xQ 1 1 0 zhe
def zlj:FS:=sSeq (sSet 2 (jd 1)) (sSeq (sSet 3 (fLst (f7 (aq (fC (.str "put")) (aq (fC (.str "put")) (aq (fC (.str "tell")) (aq (fC (.str "dry")) (aq (fC (.str "put")) (aq (fC (.str "go")) (aq (fC (.str "put")) (aq (fC (.str "put")) (aq (fC (.str "back")) (aq (fC (.str "tell")) (aq (fC (.str "put")) (aq (fC (.str "dry")) (fNil)))))))))))))))) (sSeq (sSet 4 (fIxV 3 (fBin dMod (fVar 0) (fC (.int 12))))) (sSeq (sSet 5 (fBin dMod (fBin dDiv (fVar 0) (fC (.int 12))) (fC (.int 16)))) (sSeq (sSet 6 (fBin dDiv (fVar 0) (fC (.int 192)))) (sSeq (sSet 7 (fBin il (fC (.int 1)) (fBin dMod (fVar 6) (d5 bMax (aq (fVar 2) (aq (fC (.int 1)) (fNil))))))) (sSeq (sSet 6 (fBin dDiv (fVar 6) (fC (.int 5)))) (sSeq (sIf (fOr (fTst (fBin dEq (fVar 5) (fC (.int 5)))) (fTst (fBin dEq (fVar 2) (fC (.int 0))))) (sSet 7 (fBin dIx (fLst (f7 (aq (fC (.int 0)) (aq (fBin il (fVar 2) (fC (.int 1))) (aq (fUn dNeg (fC (.int 1))) (aq (fBin dPow (fC (.int 10)) (fC (.int 12))) (fNil))))))) (fBin dMod (fVar 6) (fC (.int 4))))) (sNil)) (sSeq (sSet 8 (fBin il (fC (.int 1)) (fBin dMod (fVar 6) (fC (.int 60))))) (sSeq (sIf (fTst (fBin dEq (fVar 5) (fC (.int 6)))) (sSet 8 (fBin dIx (fLst (f7 (aq (fC (.int 0)) (aq (fC (.int 61)) (aq (fUn dNeg (fC (.int 1))) (aq (fBin dPow (fC (.int 10)) (fC (.int 12))) (fNil))))))) (fBin dMod (fVar 6) (fC (.int 4))))) (sNil)) (sSeq (sSet 9 (fBin dMod (fBin dDiv (fVar 6) (fC (.int 60))) (fC (.int 101)))) (sSeq (sIf (fTst (fBin dGt (fVar 5) (fC (.int 9)))) (sSeq (sSet 8 (fBin il (fC (.int 1)) (fBin dMod (fVar 8) (fC (.int 3))))) (sSet 9 (fBin dMod (fVar 9) (fC (.int 4))))) (sNil)) (sSeq (sIf (fTst (fBin dEq (fVar 5) (fC (.int 7)))) (sSet 9 (fBin dIx (fLst (f7 (aq (fUn dNeg (fC (.int 1))) (aq (fC (.int 101)) (aq (fUn dNeg (fBin dPow (fC (.int 10)) (fC (.int 12)))) (aq (fBin dPow (fC (.int 10)) (fC (.int 12))) (fNil))))))) (fBin dMod (fBin dDiv (fVar 6) (fC (.int 60))) (fC (.int 4))))) (sNil)) (sSeq (sSet 10 (fC (.int 0))) (sSeq (sIf (fAnd (fTst (fBin dLe (fC (.int 1)) (fVar 7))) (fTst (fBin dLe (fVar 7) (fVar 2)))) (sSet 10 (d5 bLen (aq (fIxV 1 (fBin dSub (fVar 7) (fC (.int 1)))) (fNil)))) (sNil)) (sSeq (sSet 11 (fBin il (fC (.int 1)) (fBin dMod (fBin dDiv (fVar 6) (fC (.int 6060))) (d5 bMax (aq (fVar 10) (aq (fC (.int 1)) (fNil))))))) (sSeq (sIf (fTst (fBin dEq (fVar 5) (fC (.int 8)))) (sSet 11 (fBin dIx (fLst (f7 (aq (fC (.int 0)) (aq (fBin il (fVar 10) (fC (.int 1))) (aq (fUn dNeg (fC (.int 1))) (aq (fBin dPow (fC (.int 10)) (fC (.int 12))) (fNil))))))) (fBin dMod (fBin dDiv (fVar 6) (fC (.int 6060))) (fC (.int 4))))) (sNil)) (sSeq (sIf (fTst (fBin dEq (fVar 4) (fC (.str "put")))) (sRet (fTup (aq (fC (.str "put")) (aq (fVar 7) (aq (fVar 8) (aq (fVar 9) (fNil))))))) (sNil)) (sSeq (sIf (fTst (fBin dEq (fVar 4) (fC (.str "tell")))) (sRet (fTup (aq (fC (.str "tell")) (aq (fVar 7) (aq (fVar 11) (aq (fVar 9) (fNil))))))) (sNil)) (sSeq (sIf (fTst (fBin dEq (fVar 4) (fC (.str "go")))) (sRet (fTup (aq (fC (.str "go")) (aq (fVar 7) (fNil))))) (sNil)) (sRet (fTup (aq (fVar 4) (fNil)))))))))))))))))))))))
def yx:i0->ka:=runD 12 2 zlj
def ziw:FS:=sSeq (sSet 3 (fIxV 2 (fC (.int 0)))) (sSeq (sIf (fTst (fBin dEq (fVar 3) (fC (.str "back")))) (sRet (fBin dIx (fLst (f7 (aq (fC (.str "")) (aq (fC (.str "nothing done")) (fNil))))) (d5 bInt (aq (fBin dEq (fVar 1) (fC (.int 0))) (fNil))))) (sNil)) (sSeq (sIf (fTst (fBin dEq (fVar 3) (fC (.str "dry")))) (sIf (fTst (fBin dEq (d5 bSum (aq (fLst (iq (fiS (fVar 0)) [] fYes (jd 0))) (fNil))) (fC (.int 0)))) (sRet (fC (.str "nothing waits"))) (sNil)) (sIf (fOr (fTst (fBin dLt (fIxV 2 (fC (.int 1))) (fC (.int 1)))) (fTst (fBin dGt (fIxV 2 (fC (.int 1))) (jd 0)))) (sRet (fC (.str "unknown stack"))) (sIf (fAnd (fTst (fBin dNe (fVar 3) (fC (.str "put")))) (fTst (fBin dEq (d5 bLen (aq (fIxV 0 (fBin dSub (fIxV 2 (fC (.int 1))) (fC (.int 1)))) (fNil))) (fC (.int 0))))) (sRet (fC (.str "empty stack"))) (sNil)))) (sSeq (sIf (fAnd (fTst (fBin dEq (fVar 3) (fC (.str "tell")))) (fOr (fTst (fBin dLt (fIxV 2 (fC (.int 2))) (fC (.int 1)))) (fTst (fBin dGt (fIxV 2 (fC (.int 2))) (d5 bLen (aq (fIxV 0 (fBin dSub (fIxV 2 (fC (.int 1))) (fC (.int 1)))) (fNil))))))) (sRet (fC (.str "unknown place"))) (sNil)) (sSeq (sIf (fAnd (fTst (fBin dEq (fVar 3) (fC (.str "put")))) (fOr (fTst (fBin dLt (fIxV 2 (fC (.int 2))) (fC (.int 1)))) (fTst (fBin dGt (fIxV 2 (fC (.int 2))) (fC (.int 60)))))) (sRet (fC (.str "bad hours"))) (sNil)) (sSeq (sIf (fAnd (fOr (fTst (fBin dEq (fVar 3) (fC (.str "put")))) (fTst (fBin dEq (fVar 3) (fC (.str "tell"))))) (fOr (fTst (fBin dLt (fIxV 2 (fC (.int 3))) (fC (.int 0)))) (fTst (fBin dGt (fIxV 2 (fC (.int 3))) (fC (.int 100)))))) (sRet (fC (.str "bad loss"))) (sNil)) (sSeq (sIf (fAnd (fTst (fBin dEq (fVar 3) (fC (.str "put")))) (fTst (fBin dGe (d5 bSum (aq (fLst (iq (fiS (fVar 0)) [] fYes (jd 0))) (fNil))) (fC (.int 14))))) (sRet (fC (.str "house full"))) (sNil)) (sSeq (sIf (fTst (fBin dGe (fVar 1) (fC (.int 60)))) (sRet (fC (.str "deeds full"))) (sNil)) (sRet (fC (.str ""))))))))))
def zi:i0->ka:=runD 4 3 ziw
def ue:FS:=sSeq (zwd 3 (tq (fiS (fVar 0)) [] (jk sx (aq (fVar 0) (fNil))))) (sSeq (sSet 4 (fC (.int 0))) (sSeq (sIf (fTst (fBin dGt (jd 1) (fC (.int 1)))) (sSet 4 (fBin dSub (fIxV 1 (fC (.int 1))) (fC (.int 1)))) (sNil)) (sSeq (sIf (fTst (fBin dEq (fIxV 1 (fC (.int 0))) (fC (.str "put")))) (sSeq (uo 3 (fVar 4) (qp false (fCat (fLst (f7 (aq (fTup (aq (fVar 2) (aq (fIxV 1 (fC (.int 2))) (aq (fIxV 1 (fC (.int 3))) (fNil))))) (fNil)))) (fIxV 3 (fVar 4))))) (sRet (fLst (f7 (aq (fVar 3) (aq (fVar 2) (fNil))))))) (sNil)) (sSeq (sIf (fTst (fBin dEq (fIxV 1 (fC (.int 0))) (fC (.str "tell")))) (sSeq (sSet 5 (fFrz false (fBin dIx (fIxV 3 (fVar 4)) (fBin dSub (fIxV 1 (fC (.int 2))) (fC (.int 1)))))) (sSeq (zq5 3 (fVar 4) (fBin dSub (fIxV 1 (fC (.int 2))) (fC (.int 1))) (fTup (aq (fIxV 5 (fC (.int 0))) (aq (fIxV 5 (fC (.int 1))) (aq (fIxV 1 (fC (.int 3))) (fNil)))))) (sRet (fLst (f7 (aq (fVar 3) (aq (fIxV 5 (fC (.int 2))) (fNil)))))))) (sNil)) (sSeq (sIf (fTst (fBin dEq (fIxV 1 (fC (.int 0))) (fC (.str "dry")))) (sSet 4 (fBin dSub (fBin dIx (fBin dIx (d5 za (aq (fVar 0) (fNil))) (fC (.int 0))) (fC (.int 0))) (fC (.int 1)))) (sNil)) (sSeq (sSet 5 (fFrz false (fBin dIx (fIxV 3 (fVar 4)) (fC (.int 0))))) (sSeq (uo 3 (fVar 4) (qp false (fSl (fIxV 3 (fVar 4)) (fO1 (fC (.int 1))) (fO0)))) (sRet (fLst (f7 (aq (fVar 3) (aq (fVar 5) (fNil)))))))))))))
def ql:i0->ka:=runD 6 3 ue
def zd2:FS:=sSeq (sIf (fTst (fIsi "tuple" (fVar 1))) (sRet (d5 zu (aq (fVar 0) (aq (fVar 1) (fNil))))) (sNil)) (sRet (qu (d5 qi (aq (fVar 0) (fNil))) (fBin dEq (fVar 0) (fVar 1))))
def xw:i0->ka:=runD 2 2 zd2
def zi9:FS:=zw2 (fAgL (pCd (fLst (iq (jk iR1 (aq (fVar 0) (fNil))) [] fYes (fLst (f7 (fNil))))) (pCo (f7 (fNil)) (pCo (f7 (fNil)) (pCd (fLst (f7 (fNil))) (pNil))))))
def zhf:i0->Option Ag:=runG 1 1 zi9
def zp7:i0->h6:=xG 1 1 zi9
def zfe:FS:=sIf (fTst (fBin dEq (d5 bLen (aq (fIxV 0 (fBin dSub (fVar 1) (fC (.int 1)))) (fNil))) (fC (.int 0)))) (kh "EmptyStack" ((λz=>(some z).bind ((λz=>((vInt (fVar 1)) z).bind (some)))))) (sNil)
def zo:k4->i0->ka:=runQ 2 0 2 zfe
def vk:k4->i0->h6:=xQ 2 0 2 zfe
def vh:FS:=sSeq (sSet 2 (fK (.ins false "House" iz) 0 (i5 uf [0] (fNil)))) (sSeq (sXp (lf ug [] (aq (fVar 2) (aq (fVar 1) (fNil)))) (ja (i5 xp [] (aq (fVar 2) (aq (fVar 1) (fNil)))))) (sSeq (sXp (lf vk [] (aq (fVar 2) (aq (fVar 1) (fNil)))) (ja (i5 zo [] (aq (fVar 2) (aq (fVar 1) (fNil)))))) (sSeq (sXp (xFrz true (lf sf [] (aq (nt (.ins false "House" iz) 0 0) (fNil)))) (ja (fFrz true (i5 vn [] (aq (nt (.ins false "House" iz) 0 0) (fNil)))))) (sSeq (ja (fK (.ins false "House" iz) 0 (kg o7 [0] (aq (fTup (aq (fC (.str "go")) (aq (fVar 1) (fNil)))) (aq (d5 ze8 (aq (fVar 2) (aq (fVar 1) (fNil)))) (aq (fK (.ins false "House" iz) 0 (i5 oh [0] (fNil))) (fNil))))))) (sRet (d5 zie (aq (fVar 2) (aq (fVar 1) (fNil)))))))))
def yw:k4->i0->k6:=runL 3 1 1 vh
def xh:k4->i0->Option (Str×k4):=xL 3 1 1 vh
def zh:FS:=sIf (fOr (fTst (fBin dLt (fVar 1) (fC (.int 1)))) (fTst (fBin dGt (fVar 1) (jd 0)))) (kh "UnknownPlace" (some)) (sNil)
def zer:k4->i0->ka:=runQ 2 0 2 zh
def xm:k4->i0->h6:=xQ 2 0 2 zh
def zp8:FS:=sRet (fTup (aq (d5 ze6 (aq (fVar 0) (fNil))) (aq (d5 ud (aq (fVar 0) (fNil))) (aq (fVar 1) (fNil)))))
def zja:i0->ka:=runD 2 2 zp8
def qj:FS:=sSeq (sSet 4 (fK (.ins false "House" iz) 0 (i5 uf [0] (fNil)))) (sSeq (sXp (lf ug [] (aq (fVar 4) (aq (fVar 1) (fNil)))) (ja (i5 xp [] (aq (fVar 4) (aq (fVar 1) (fNil)))))) (sSeq (sXp (lf vk [] (aq (fVar 4) (aq (fVar 1) (fNil)))) (ja (i5 zo [] (aq (fVar 4) (aq (fVar 1) (fNil)))))) (sSeq (sSet 5 (fIxV 4 (fBin dSub (fVar 1) (fC (.int 1))))) (sSeq (sXp (lf xm [] (aq (fVar 5) (aq (fVar 2) (fNil)))) (ja (i5 zer [] (aq (fVar 5) (aq (fVar 2) (fNil)))))) (sSeq (sXp (lf vm [] (aq (fVar 3) (fNil))) (ja (i5 zr [] (aq (fVar 3) (fNil))))) (sSeq (sXp (xFrz true (lf sf [] (aq (nt (.ins false "House" iz) 0 0) (fNil)))) (ja (fFrz true (i5 vn [] (aq (nt (.ins false "House" iz) 0 0) (fNil)))))) (sSeq (sSet 6 (fIxV 5 (fBin dSub (fVar 2) (fC (.int 1))))) (sSeq (sSet 7 (fLst (fCat (fLst (fCat (fLst (fSl (fVar 5) (fO0) (fO1 (fBin dSub (fVar 2) (fC (.int 1)))))) (fLst (f7 (aq (d5 zja (aq (fVar 6) (aq (fVar 3) (fNil)))) (fNil)))))) (fLst (fSl (fVar 5) (fO1 (fVar 2)) (fO0)))))) (sSeq (ja (fK (.ins false "House" iz) 0 (kg o7 [0] (aq (fTup (aq (fC (.str "tell")) (aq (fVar 1) (aq (fVar 2) (aq (fVar 3) (fNil)))))) (aq (d5 xl (aq (fVar 4) (aq (fVar 1) (aq (fVar 7) (fNil))))) (aq (fK (.ins false "House" iz) 0 (i5 oh [0] (fNil))) (fNil))))))) (sRet (d5 vi (aq (fVar 6) (fNil)))))))))))))
def zn:k4->i0->k6:=runL 8 1 3 qj
def xt:k4->i0->Option (Str×k4):=xL 8 1 3 qj
inductive Deed where
 | put (a h l:Int) | tell (a p l:Int) | go (a:Int) | dry
abbrev ll:=List Deed
def dD:Deed->D
 | .put a h l=>.tup [.str "put",.int a,.int h,.int l]
 | .tell a p l=>.tup [.str "tell",.int a,.int p,.int l]
 | .go a=>.tup [.str "go",.int a]
 | .dry=>.tup [.str "dry"]
def Deed.isPut:Deed->Bool | .put ..=>true | _=>false
abbrev Spn:=Int×Int×Int
abbrev ln:=List Spn
abbrev Hs:=k8×ln
abbrev lx:=List Hs
def spL(sp:ln):D:=.lst (sp.map sD)
def stD(s:Hs):D:=.tup [ssL s.1,spL s.2]
abbrev kH:AK:=.ins false "House" iz
def hP(k:ll)(s:lx):kb:=[.o (k.map dD),.o (s.map stD)]
abbrev hA(k:ll)(s:lx):Ag:=(kH,hP k s)
variable{e:DE0}{κ:AK}{l:Option Nat}{ps:kb}
theorem zrj(h:e[i]?=some (some (.ag κ l ps)))(D:ps[j]?=some (.o ds)):ko (.at κ) i j e=some ds:=by
 unfold ko agAt;rw[if_pos (show Acc.ok (.at κ) e i j from(show isK κ e i from .inl ⟨_,_,h⟩)),h];dsimp;rw[D]
theorem zrk(h:e[i]?=some (some (.ro κ ps)))(D:ps[j]?=some (.o ds)):ko (.at κ) i j e=some ds:=by
 unfold ko agAt;rw[if_pos (show Acc.ok (.at κ) e i j from(show isK κ e i from .inr ⟨_,h⟩)),h];dsimp;rw[D]
variable{f:FE}
theorem z7(h:e[i]?=some (some (.ag κ l ps))):fK κ i f e=f e:=if_pos (.inl ⟨_,_,h⟩)
theorem z4d(h:e[i]?=some (some (.ro κ ps))):fK κ i f e=f e:=if_pos (.inr ⟨_,h⟩)
theorem z4e{f:XF}(h:e[i]?=some (some (.ag κ l ps))):xK κ i f e=f e:=if_pos (.inl ⟨_,_,h⟩)
variable{r:i0×DE0}{m:k4->i0->ka}{F:FA}
theorem zxn(h:e[i]?=some (some (.ro κ ps)))(D:F e=some r)(h2:r.2[i]?=some (some (.ro κ ps))):i5 m [i] F e=(m [(κ,ps)] r.1).map λd=>(d,r.2):=by
 unfold i5;rw[if_pos (show aggs e [i] from λk I=>by rw[cj.mp I];exact⟨_,h⟩),D];simp[getR,h2]
theorem zrl(h:e[i]?=some (some (.ag κ l ps)))(D:F e=some r)(h2:r.2[i]?=some (some (.ag κ l ps))):i5 m [i] F e=(m [(κ,ps)] r.1).map λd=>(d,r.2):=by
 unfold i5;rw[if_pos (show aggs e [i] from λk I=>by rw[cj.mp I];exact⟨_,h⟩),D];simp[getR,h2]
theorem lm:i5 m [] F e=(F e).bind λr=>(m [] r.1).map λd=>(d,r.2):=by
 unfold i5;rw[if_pos (show aggs e [] from λk D=>nomatch D)];rfl
variable{x:k4->i0->Option (Str×k4)}
theorem lh{x:k4->i0->h6}:lf x [] F e=(F e).bind λr=>(x [] r.1).map λd=>(d,r.2):=by
 unfold lf;rw[if_pos (show aggs e [] from λk I=>nomatch I)];rfl
variable{d:D}{ps':kb}
theorem zxo{m:k4->i0->k6}(h:e[i]?=some (some (.ag κ l ps)))(I:F e=some r)(h2:r.2[i]?=some (some (.ag κ l ps)))(J:m [(κ,ps)] r.1=some (d,[(κ,ps')])):kg m [i] F e=some (d,r.2.set i (some (.ag κ l ps'))):=by
 unfold kg;rw[if_pos (show aggs e [i] from λk R=>by rw[cj.mp R];exact⟨_,h⟩),I];simp[getA,h2,J,putA]
theorem zu6(h:e[i]?=some (some (.ag κ l ps)))(D:F e=some r)(h2:r.2[i]?=some (some (.ag κ l ps))){d:Str}(I:x [(κ,ps)] r.1=some (d,[(κ,ps')])):lv x [i] F e=some (d,r.2.set i (some (.ag κ l ps'))):=by
 unfold lv;rw[if_pos (show aggs e [i] from λk J=>by rw[cj.mp J];exact⟨_,h⟩),D];simp[getA,h2,I,putA]
theorem zu7(h:e[i]?=some (some (.ag κ l ps)))(D:F e=some r)(h2:r.2[i]?=some (some (.ag κ l ps)))(I:x [(κ,ps)] r.1=none):lv x [i] F e=none:=by
 unfold lv;rw[if_pos (show aggs e [i] from λk J=>by rw[cj.mp J];exact⟨_,h⟩),D];simp only[getA,h2,aj,ac,I];rfl
theorem znn(xs:i0)(x:D):atI (xs++[x]) (-1)=some x:=by
 unfold atI ixN;rw[if_neg (by decide),if_pos (by simp;lia),show(-1+((xs++[x]).length:Int)).toNat=xs.length by simp;lia];simp
variable{k:ll}{s:Hs}
theorem rh:uf [hA k (p++[s])] []=some (ssL s.1):=by
 unfold uf runQ;have h:ko (.at kH) 0 1 (j4 1 [hA k (p++[s])] [])=some ((p++[s]).map stD):=zrk (ps:=hP k (p++[s])) rfl rfl;simp[zgf,pIx,h,znn,stD];rfl
theorem wv:oh [hA k (p++[s])] []=some (spL s.2):=by
 unfold oh runQ;have h:ko (.at kH) 0 1 (j4 1 [hA k (p++[s])] [])=some ((p++[s]).map stD):=zrk (ps:=hP k (p++[s])) rfl rfl;simp[zgg,pIx,h,znn,stD];rfl
def hrOf(sp:ln):Int:=match sp.getLast? with | none=>0 | some x=>x.2.1
theorem zju(sp:ln):y9 [spL sp]=some (.int (hrOf sp)):=by
 unfold y9 runD spL hrOf;cases h:sp.getLast? with
 | none =>
   rw[vp.mp h];simp[zh4,je]
 | some x =>
   obtain⟨q,rfl⟩:=vo.mp h;have I:je 1 [D.lst ((q++[x]).map sD)]=[some (.sh (.lst (q.map sD++[sD x])))]:=by simp[je]
   have h1:atI (q.map sD++[sD x]) (-1)=some (sD x):=znn _ _;have h2:((q.map sD++[sD x]).length:Int)≠0:=by simp;lia
   rw[I];generalize q.map sD++[sD x]=L at *;have J:decide ((L.length:Int)=0)=false:=decide_eq_false h2;simp only[zh4,sSeq,sIf,fTst,fBin,jd,af,ac,fC,dEq,aj,J,dm,if_false,sNil,sRet,fIxV,fUn,dNeg,ixSl,h1,sD,dIx];rfl
theorem z0y:zfc [hA k (p++[s])] []=some (.int (hrOf s.2)):=by
 unfold zfc runQ;have D:(j4 1 [hA k (p++[s])] [])[0]?=some (some (.ro kH (hP k (p++[s])))):=rfl;have h1:=zxn (m:=oh) (F:=fNil) D (r:=([],j4 1 [hA k (p++[s])] [])) rfl D;have h2:=z4d (f:=i5 oh [0] fNil) D;simp[wv] at h1;simp[zhb,h2,h1,zju]
theorem wu{a:Int}(h1:1<=a)(h2:a<=ss.length):ug [] [ssL ss,.int a]=none/\xp [] [ssL ss,.int a]=some .non:=by
 have e:j4 2 [] [ssL ss,.int a]=[some (.sh (ssL ss)),some (.sh (.int a))]:=rfl;have l:((ss.map λs=>D.lst (s.map sD)).length:Int)=ss.length:=by rw[ae]
 unfold ug xp xQ runQ;rw[if_pos ⟨rfl,rfl⟩,if_pos ⟨rfl,rfl⟩,e];unfold ssL at *;generalize (ss.map λs=>D.lst (s.map sD))=L at *;simp[zk,show ¬a<1 by lia,show ¬((L.length:Int)<a) by lia]
theorem zp9{a:Int}(h:a<1\/ss.length<a):ug [] [ssL ss,.int a]=some ("UnknownStack" : Str):=by
 have e:j4 2 [] [ssL ss,.int a]=[some (.sh (ssL ss)),some (.sh (.int a))]:=rfl;have l:((ss.map λs=>D.lst (s.map sD)).length:Int)=ss.length:=by rw[ae]
 unfold ug xQ;rw[if_pos ⟨rfl,rfl⟩,e];unfold ssL at *;generalize (ss.map λs=>D.lst (s.map sD))=L at *;by_cases h1:a<1
 ·simp[zk,h1,kh]
 ·simp[zk,h1,show((L.length:Int)<a) by lia,kh]
variable{h:Int}
theorem zrm(h1:1<=h)(h2:h<=60):xo [] [.int h]=none/\zem [] [.int h]=some .non:=by
 unfold xo zem xQ runQ;rw[if_pos ⟨rfl,rfl⟩,if_pos ⟨rfl,rfl⟩,show j4 1 [] [.int h]=[some (.sh (.int h))] from rfl];simp[zj,show ¬h<1 by lia,show ¬60<h by lia]
theorem z0z(D:h<1\/60<h):xo [] [.int h]=some ("BadHours" : Str):=by
 unfold xo xQ;rw[if_pos ⟨rfl,rfl⟩,show j4 1 [] [.int h]=[some (.sh (.int h))] from rfl];by_cases h1:h<1
 ·simp[zj,h1,kh,vInt]
 ·simp[zj,h1,show 60<h by lia,kh,vInt]
theorem zno(h1:0<=h)(h2:h<=100):vm [] [.int h]=none/\zr [] [.int h]=some .non:=by
 unfold vm zr xQ runQ;rw[if_pos ⟨rfl,rfl⟩,if_pos ⟨rfl,rfl⟩,show j4 1 [] [.int h]=[some (.sh (.int h))] from rfl];simp[ze,show ¬h<0 by lia,show ¬100<h by lia]
theorem zyv(D:h<0\/100<h):vm [] [.int h]=some ("BadLoss" : Str):=by
 unfold vm xQ;rw[if_pos ⟨rfl,rfl⟩,show j4 1 [] [.int h]=[some (.sh (.int h))] from rfl];by_cases h1:h<0
 ·simp[ze,h1,kh,vInt]
 ·simp[ze,h1,show 100<h by lia,kh,vInt]
theorem zxp(h1:0<=h)(h2:h<=5):zel [] [.int h]=none/\zek [] [.int h]=some .non:=by
 unfold zel zek xQ runQ;rw[if_pos ⟨rfl,rfl⟩,if_pos ⟨rfl,rfl⟩,show j4 1 [] [.int h]=[some (.sh (.int h))] from rfl];simp[zge,show ¬h<0 by lia,show ¬5<h by lia]
theorem zu8(ss:k8)(D:ss.length<=1000):(if ss.flatten.length<14 then xu [] [ssL ss]=none/\zfa [] [ssL ss]=some .non else xu [] [ssL ss]=some ("HouseFull" : Str)):=by
 have h:=zo1 ss D;generalize ss.flatten.length=n at *;split <;> rename_i I
 ·unfold xu zfa xQ runQ
  rw[if_pos ⟨rfl,rfl⟩,if_pos ⟨rfl,rfl⟩,show j4 1 [] [ssL ss]=[some (.sh (ssL ss))] from rfl];simp[ze9,h,show ¬(14:Int)<=(n:Int) by lia]
 ·unfold xu xQ
  rw[if_pos ⟨rfl,rfl⟩,show j4 1 [] [ssL ss]=[some (.sh (ssL ss))] from rfl];simp[ze9,h,show(14:Int)<=(n:Int) by lia,kh,vInt]
theorem ua(ds:i0):(if ds.length<60 then sf [] [.lst ds]=none/\vn [] [.lst ds]=some .non else sf [] [.lst ds]=some ("DeedsFull" : Str)):=by
 split <;> rename_i I
 ·unfold sf vn xQ runQ
  rw[if_pos ⟨rfl,rfl⟩,if_pos ⟨rfl,rfl⟩,show j4 1 [] [.lst ds]=[some (.sh (.lst ds))] from rfl];simp[zen,show ¬(60:Int)<=(ds.length:Int) by lia]
 ·unfold sf xQ
  rw[if_pos ⟨rfl,rfl⟩,show j4 1 [] [.lst ds]=[some (.sh (.lst ds))] from rfl];simp[zen,show(60:Int)<=(ds.length:Int) by lia,kh,vInt]
def jx(k:ll):Int:=1+(k.filter Deed.isPut).length
theorem z00(k:ll)(J:k.length<=1000):zfb [.lst (k.map dD)]=some (.int (jx k)):=by
 have c:=zks (tt:=fTst (fBin dEq (fIxV 0 (fC (.int 0))) (fC (.str "put")))) (te:=fVar 0) (base:=[]) dD dD Deed.isPut k λx _=>by
  cases x with
  | put a h l=>exact⟨_,rfl,λ_=>⟨_,rfl⟩⟩
  | tell a p l=>exact⟨_,rfl,λz=>nomatch z⟩
  | go a=>exact⟨_,rfl,λz=>nomatch z⟩
  | dry=>exact⟨_,rfl,λz=>nomatch z⟩
 have I:Few (k.map dD).length:=few (by rw[ae];lia);unfold zfb runD;rw[if_pos (show[D.lst (k.map dD)].length=1 from rfl),show je 1 [D.lst (k.map dD)]=[some (.sh (.lst (k.map dD)))] from rfl];unfold jx;generalize k.map dD=L at *;simp[zjt,iq,I,c]
theorem fK0:fK κ 0 f (some (.ag κ l ps)::e)=f (some (.ag κ l ps)::e):=z7 rfl
theorem fK0r:fK κ 0 f (some (.ro κ ps)::e)=f (some (.ro κ ps)::e):=z4d rfl
variable{sl:Sl}
theorem cQ0:i5 m [0] F (some sl::e)=(F (some sl::e)).bind λr=>(getR r.2 [0]).bind λags=>(m ags r.1).map λd=>(d,r.2):=if_pos λk D=>by rw[cj.mp D];exact⟨_,rfl⟩
theorem cL0{m:k4->i0->k6}:kg m [0] F (some sl::e)=(F (some sl::e)).bind λr=>(getA r.2 [0]).bind λags=>(m ags r.1).bind λq=>if q.2.map (·.1)=ags.map (·.1) then some (q.1,putA r.2 [0] q.2) else none:=if_pos λk I=>by rw[cj.mp I];exact⟨_,rfl⟩
theorem z0:getA (some (.ag κ l ps)::e) [0]=some [(κ,ps)]:=rfl
variable{κ':AK}
theorem zz:putA (some (.ag κ l ps)::e) [0] [(κ',ps')]=some (.ag κ' l ps')::e:=rfl
theorem lp:getR (some (.ag κ l ps)::e) [0]=some [(κ,ps)]:=rfl
theorem zyw:getR (some (.ro κ ps)::e) [0]=some [(κ,ps)]:=rfl
theorem tf:nt kH 0 0 (frz true (some (.ag kH l (hP k p))::e))=some (.lst (k.map dD),frz true (some (.ag kH l (hP k p))::e)):=by
 unfold nt;rw[if_pos (show isK kH (frz true (some (.ag kH l (hP k p))::e)) 0 from .inr ⟨[.d (.lst (k.map dD)),.d (.lst (p.map stD))],rfl⟩)];rfl
variable{r:Nat}
theorem zmf(h:e[i]?=some (some (.ag κ (some r) ps)))(I:∀c fs,κ≠.ins true c fs)(D:ps[j]?=some (.o ds))(J:f e=some (d,e))(R:Few (ds.length+1)) :
  qc (.at κ) i j f e=some (.non,e.set i (some (.ag κ (some r) (ps.set j (.o (ds++[d])))))):=by
 unfold qc;rw[h];dsimp only;rw[if_pos (show labO κ (some r) from⟨rfl,I⟩),zrj h D,ac,J,ac];unfold appP;rw[h];dsimp only;rw[D];dsimp only;rw[if_pos ⟨rfl,rfl,rfl,R⟩];unfold setP;rw[h]
variable{sp:ln}
theorem znp{d:Deed}(D:k.length<=1000)(I:p.length<=1000):o7 [hA k p] [dD d,ssL ss,spL sp]=some (.non,[hA (k++[d]) (p++[(ss,sp)])]):=by
 have h1:=zmf (e:=[some (.ag kH (some 0) (hP k p)),some (.sh (dD d)),some (.sh (ssL ss)),some (.sh (spL sp))]) (i:=0) (j:=0) (f:=fVar 1) rfl (λc fs z=>nomatch z) rfl rfl (few (by rw[ae];lia));have h2:=zmf (e:=[some (.ag kH (some 0) ((hP k p).set 0 (.o (k.map dD++[dD d])))),some (.sh (dD d)),some (.sh (ssL ss)),some (.sh (spL sp))]) (i:=0) (j:=1) (f:=fTup (aq (fVar 2) (aq (fVar 3) fNil))) (ds:=p.map stD) rfl (λc fs z=>nomatch z) rfl rfl (few (by rw[ae];lia));unfold o7 runL;rw[if_pos ⟨rfl,rfl⟩,show jt 4 [hA k p] [dD d,ssL ss,spL sp]=[some (.ag kH (some 0) (hP k p)),some (.sh (dD d)),some (.sh (ssL ss)),some (.sh (spL sp))] from rfl];simp[zha,h1,h2];unfold hA hP;rw[cz,cz];rfl
def putX(ss:k8)(n:Nat)(a h l:Int):h6:=if a<1\/(ss.length:Int)<a then some "UnknownStack" else if h<1\/60<h then some "BadHours" else if l<0\/100<l then some "BadLoss" else if ss.flatten.length<14 then(if n<60 then none else some "DeedsFull") else some "HouseFull"
def putS(ss:k8)(a:Nat)(x:Sk):k8:=ss.set (a-1) (x::ss.getD (a-1) [])
theorem z4f{l:Int}(I:putX s.1 k.length a h l=none)(n:s.1.length<=5)(o:p.length<=100) :
  xk [hA k (p++[s])] [.int a,.int h,.int l]=none/\y8 [hA k (p++[s])] [.int a,.int h,.int l]=some (.int (jx k),[hA (k++[.put a h l]) (p++[s]++[(putS s.1 a (jx k,h,l),s.2)])]):=by
 unfold putX at I;split at I
 ·cases I
 split at I
 ·cases I
 split at I
 ·cases I
 split at I;case isFalse=>cases I
 rename_i Y;split at I;case isFalse=>cases I
 rename_i Z;have k1:=wu (ss:=s.1) (a:=a) (by lia) (by lia);have k2:=zrm (h:=h) (by lia) (by lia);have k3:=zno (h:=l) (by lia) (by lia);have V:=zu8 s.1 (by lia);rw[if_pos Y] at V;have k5:=ua (k.map dD);rw[if_pos (by rw[ae];exact Z)] at k5;have b:=z00 k (by lia);have J:(a-1:Nat)<s.1.length:=by lia
 have c:atI (s.1.map λs=>D.lst (s.map sD)) ((a:Int)-1)=some (.lst ((s.1.getD (a-1) []).map sD)):=by
  rw[show(a:Int)-1=((a-1:Nat):Int) by lia,l3 (λs:k7=>D.lst (s.map sD)) (bi J),bu,bi J];rfl
 have e:=zg9 (ss:=s.1) (a:=a) ((jx k,h,l)::s.1.getD (a-1) []) (by lia) (by lia) (by lia);have f:=znp (k:=k) (p:=p++[s]) (d:=.put a h l) (ss:=putS s.1 a (jx k,h,l)) (sp:=s.2) (by lia) (by simp;lia);have g:=rh (k:=k) (p:=p) (s:=s);have i:=wv (k:=k) (p:=p) (s:=s);have j:Few (0+1+((s.1.getD (a-1) []).map sD).length):=few (by
  have:(s.1.getD (a-1) []).length<=s.1.flatten.length:=by
   rw[bu,bi J];exact(d9 (List.getElem_mem J)).length_le
  rw[ae];lia)
 have m:jt 7 [hA k (p++[s])] [.int a,.int h,.int l]=[some (.ag kH (some 0) (hP k (p++[s]))),some (.sh (.int a)),some (.sh (.int h)),some (.sh (.int l)),none,none,none]:=rfl;have S:o7 [(kH,hP k (p++[s]))] [.tup [.str "put",.int a,.int h,.int l],ssL (putS s.1 a (jx k,h,l)),spL s.2]=some (.non,[hA (k++[.put a h l]) (p++[s]++[(putS s.1 a (jx k,h,l),s.2)])]):=f;have U:xl [ssL s.1,.int a,.lst (.tup [.int (jx k),.int h,.int l]::(s.1.getD (a-1) []).map sD)]=some (ssL (putS s.1 a (jx k,h,l))):=e;have R:sd (jt 7 [hA k (p++[s])] [.int a,.int h,.int l])=some (.rt (.int (jx k)),[some (.ag kH (some 0) (hP (k++[.put a h l]) (p++[s]++[(putS s.1 a (jx k,h,l),s.2)]))),some (.sh (.int a)),some (.sh (.int h)),some (.sh (.int l)),some (.sh (ssL s.1)),some (.sh (.int (jx k))),some (.sh (.lst (.tup [.int (jx k),.int h,.int l]::(s.1.getD (a-1) []).map sD)))]):=by
  rw[m];generalize (s.1.getD (a-1) []).map sD=TL at *;unfold ssL at *;simp[sd,fK0,cQ0,lp,g,lh,lm,k1,k2,k3,V,xFrz,fFrz,tf,k5,noL,b,c,j,cL0,z0,U,i,S,zz]
 exact⟨by unfold xk xL;rw[if_pos ⟨rfl,rfl⟩,R],by unfold y8 runL;rw[if_pos ⟨rfl,rfl⟩,R];rfl⟩
def newS(n:Nat):Hs:=(List.replicate n [],[])
theorem z01(Y:n<=5):zea [(.ins true "House" [],[])] [.int n]=none/\zw [(.ins true "House" [],[])] [.int n]=some (.non,[(.ins true "House" iz,hP [] [newS n])]):=by
 have k1:=zxp (h:=n) (by lia) (by lia);have J:Few (rngD 0 n).length:=few (by rw[uc];lia);have c:=ng (te:=fLst (f7 fNil)) (base:=[]) (λi:Nat=>D.int (0+(i:Int))) (λ_:Nat=>D.lst []) (List.range n) λi _=>⟨_,rfl⟩;have R:=pz n (by lia);have S:jt 2 [(AK.ins true "House" [],[])] [.int n]=[some (.ag (.ins true "House" []) (some 0) []),some (.sh (.int n))]:=rfl;have U:(List.range n).map (λ_=>D.lst [])=(List.replicate n ([]:k7)).map λs=>D.lst (s.map sD):=by
  rw[List.map_const',j5,mw,du]
 have I:zc5 (jt 2 [(AK.ins true "House" [],[])] [.int n])=some (.nx,[some (.ag (.ins true "House" iz) (some 0) (hP [] [newS n])),some (.sh (.int n))]):=by
  rw[S];unfold rngD at R J;rw[U] at c;have V:(True/\(Str.ofString "kept")∉([]:gj)/\0<900):=⟨trivial,by simp,by decide⟩;simp only[zc5,sSeq,sXp,lh,lm,aq,fVar,fNil,ai,af,ac,k1,ky,aj,ja,x8,f7,b9,fz,if_true,ax,qo,fTup,fLst,iq,jk,R,J,c,du,ak,show 0+1+1<=64 by decide,show 0+1<=64 by decide];rw[if_pos V];simp only[ac,ai,af,R,J,c,if_true,aj,ak,b9,show 0+1+1<=64 by decide,show 0+1<=64 by decide];rfl
 exact⟨by unfold zea xL;rw[if_pos ⟨rfl,rfl⟩,I],by unfold zw runL;rw[if_pos ⟨rfl,rfl⟩,I];rfl⟩
theorem z02(D:n<=5)(I:F e=some ([.int n],e')):x9 "House" zw F e=some ((kH,hP [] [newS n]),e'):=by
 unfold x9;rw[I,ac,(z01 D).2];rfl
theorem z03(h:e[i]?=some (some (.ag kH l (hP k p)))):fK kH i (i5 m [i] fNil) e=(m [hA k p] []).map λd=>(d,e):=by
 rw[z7 h];exact zrl h (r:=([],e)) rfl h
variable{m:k4->i0->Option (Str×k4)}
theorem wp{m:k4->i0->k6}(h:e[i]?=some (some (.ag κ l ps)))(I:F e=some (ds,e))(J:m [(κ,ps)] ds=some (d,[(κ,ps')])):kg m [i] F e=some (d,e.set i (some (.ag κ l ps'))):=zxo h (r:=(ds,e)) I h J
theorem zrn{d:Str}(h:e[i]?=some (some (.ag κ l ps)))(D:F e=some (ds,e))(I:m [(κ,ps)] ds=some (d,[(κ,ps')])):lv m [i] F e=some (d,e.set i (some (.ag κ l ps'))):=zu6 h (r:=(ds,e)) D h I
theorem zro(h:e[i]?=some (some (.ag κ l ps)))(D:F e=some (ds,e))(I:m [(κ,ps)] ds=none):lv m [i] F e=none:=zu7 h (r:=(ds,e)) D h I
def plD:D->Prop | .int _=>True | .str _=>True | _=>False
theorem zjb(xs:i0)(R:∀x∈xs,plD x)(V:xs.length<=1000):zu [.tup xs,.tup xs]=some (.bl true):=by
 obtain⟨e',h1,v2,rfl⟩:=yu (i:=2) (g:=zc2) (λk e=>∃v2,e=[some (.sh (.tup xs)),some (.sh (.tup xs)),v2]) (rngD 0 xs.length) [some (.sh (.tup xs)),some (.sh (.tup xs)),none] ⟨none,rfl⟩ (by
  rintro k d e S ⟨v2,rfl⟩;obtain⟨rfl,I⟩:=yr S;have J:atI xs (k:Int)=some xs[k]:=by
   unfold atI;rw[t6 (by lia) (by lia)];simp[I]
  have U:=R _ (List.getElem_mem I);generalize xs[k]=x at *;cases x with
  | int i=>simp[zc2,J,yp]
  | str i=>simp[zc2,J]
  | _=>exact U.elim)
 have hi:=pz xs.length (by lia);refine j7 (e':=?w) rfl ?h;show zfm [some (.sh (.tup xs)),some (.sh (.tup xs)),none]=_;simp[zfm,hi,h1];rfl
theorem zrp(ss:k8)(D:ss.length<=1000):(if 0<ss.flatten.length then xn [] [ssL ss]=none/\zep [] [ssL ss]=some .non else xn [] [ssL ss]=some ("NothingWaits" : Str)):=by
 have h:=zo1 ss D;generalize ss.flatten.length=n at *;split <;> rename_i I
 ·unfold xn zep xQ runQ
  rw[if_pos ⟨rfl,rfl⟩,if_pos ⟨rfl,rfl⟩,show j4 1 [] [ssL ss]=[some (.sh (ssL ss))] from rfl];simp[zeo,h,show ¬n=0 by lia]
 ·unfold xn xQ
  rw[if_pos ⟨rfl,rfl⟩,show j4 1 [] [ssL ss]=[some (.sh (ssL ss))] from rfl];simp[zeo,h,show n=0 by lia,kh]
def dryS(s:Hs)(a:Nat)(x:Sk)(tl:k7):Hs:=(s.1.set (a-1) tl,s.2++[(hrOf s.2,hrOf s.2+x.2.1,lss s.1.flatten)])
variable{x:Sk}{tl:k7}
theorem z4g(V:zb [ssL s.1]=some (iD (a::os)))(R:s.1[a-1]?=some (x::tl))(S:1<=a)(Y:k.length<60)(o:s.1.length<=5)(q:p.length<=100)(Z:∀y∈s.1,y.length<=1000)(b:s.2.length<=1000)(c:0<s.1.flatten.length) :
  xi [hA k (p++[s])] []=none/\zd [hA k (p++[s])] []=some (sD x,[hA (k++[.dry]) (p++[s]++[dryS s a x tl])]):=by
 have k1:=zrp s.1 (by lia);rw[if_pos c] at k1;have k5:=ua (k.map dD);rw[if_pos (by rw[ae];exact Y)] at k5;have e:=zyu R S;have f:=zme R S (by lia);have g:=zp6 s.1 Z;have h:o7 [(kH,hP k (p++[s]))] [.tup [.str "dry"],ssL (s.1.set (a-1) tl),.lst (s.2.map sD++[.tup [.int (hrOf s.2),.int (hrOf s.2+x.2.1),.int (lss s.1.flatten)]])]=some (.non,[hA (k++[.dry]) (p++[s]++[dryS s a x tl])]):=by
  have:=znp (k:=k) (p:=p++[s]) (d:=.dry) (ss:=s.1.set (a-1) tl) (sp:=s.2++[(hrOf s.2,hrOf s.2+x.2.1,lss s.1.flatten)]) (by lia) (by simp;lia);unfold spL at this;rw[cz] at this;exact this
 have i:=rh (k:=k) (p:=p) (s:=s);have U:=wv (k:=k) (p:=p) (s:=s);have j:=z0y (k:=k) (p:=p) (s:=s);have kd:ud [sD x]=some (.int x.2.1):=znh x;have l:Few ((s.2.map sD).length+(0+1)):=few (by rw[ae];lia);have J:atI (iD (a::os)) 0=some (.int (a:Int)):=by unfold iD;exact l3 (k:=0) (λn:Nat=>D.int (n:Int)) rfl
 have m:jt 6 [hA k (p++[s])] []=[some (.ag kH (some 0) (hP k (p++[s]))),none,none,none,none,none]:=rfl;have I:∃e',xj (jt 6 [hA k (p++[s])] [])=some (.rt (sD x),some (.ag kH (some 0) (hP (k++[.dry]) (p++[s]++[dryS s a x tl])))::e'):=by
  rw[m];unfold spL at U;generalize s.2.map sD=SP at *;simp[xj,fK0,cQ0,lp,i,lh,lm,k1,xFrz,fFrz,tf,k5,noL,e,V,J,j,kd,g,f,U,l,cL0,z0,h,zz]
 obtain⟨e',I⟩:=I;exact⟨by unfold xi xL;rw[if_pos ⟨rfl,rfl⟩,I],by unfold zd runL;rw[if_pos ⟨rfl,rfl⟩,I];rfl⟩
def pf:Int->ln->Prop
 | _,[]=>True
 | b,x::r=>x.1=b/\x.1<=x.2.1/\pf x.2.1 r
def n4:Int->ln->Int
 | b,[]=>b
 | _,x::r=>n4 x.2.1 r
theorem zjv:∀(sp:ln) (b:Int) (x:Spn),n4 b (sp++[x])=x.2.1
 | [],_,_=>rfl
 | y::r,_,x=>zjv r y.2.1 x
theorem ut(sp:ln):hrOf sp=n4 0 sp:=by
 unfold hrOf;cases h:sp.getLast? with
 | none=>rw[vp.mp h];rfl
 | some x=>obtain⟨q,rfl⟩:=vo.mp h;rw[zjv]
theorem zo4:∀(sp:ln) (b:Int) (x:Spn),pf b sp->x.1=n4 b sp->x.1<=x.2.1->pf b (sp++[x])
 | [],_,_,_,h,h2=>⟨h,h2,trivial⟩
 | y::r,_,x,hc,h,h2=>⟨hc.1,hc.2.1,zo4 r _ x hc.2.2 h h2⟩
theorem zrq:∀(sp:ln) (b:Int),pf b sp->b<=n4 b sp
 | [],b,_=>Int.le_refl b
 | y::r,b,hc=>by have:=zrq r _ hc.2.2;have:=hc.1;have:=hc.2.1;show b<=n4 y.2.1 r;lia
def rts(sp:ln):g7:=(sp.map λx=>List.replicate (x.2.1-x.1).toNat x.2.2).flatten
def mj(h:Int)(sp:ln):Int:=(sp.map λx=>if x.1<h then x.2.2*((if x.2.1<h then x.2.1 else h)-x.1) else 0).sum
theorem znq:∀(sp:ln) (b:Int),pf b sp->((rts sp).length:Int)=n4 b sp-b
 | [],b,_=>by show(0:Int)=b-b;lia
 | x::r,b,hc=>by
   have D:=znq r _ hc.2.2;have e:rts (x::r)=List.replicate (x.2.1-x.1).toNat x.2.2++rts r:=rfl;rw[e,am,d8];have:=hc.1;have:=hc.2.1;show _=n4 x.2.1 r-b
   lia
theorem zo5:∀(sp:ln) (b h:Int),pf b sp->h<=b->mj h sp=0
 | [],_,_,_,_=>rfl
 | x::r,b,h,hc,hb=>by
   have:=hc.1;have:=hc.2.1;have D:=zo5 r x.2.1 h hc.2.2 (by lia);unfold mj at D ⊢;rw[ci,fm,D,if_neg (by lia)];rfl
theorem zu9(n:Nat)(c:Int):(List.replicate n c).sum=c*n:=by
 induction n with
 | zero=>simp
 | succ n ih=>rw[fx,fm,ih,Int.natCast_add,gh];lia
theorem zrr:∀(sp:ln) (b h:Int),pf b sp->b<=h->mj h sp=((rts sp).take (h-b).toNat).sum
 | [],b,h,_,_=>by simp[mj,rts]
 | x::r,b,h,hc,hb=>by
   have h1:=hc.1;have h2:=hc.2.1;have e:rts (x::r)=List.replicate (x.2.1-x.1).toNat x.2.2++rts r:=rfl;have I:mj h (x::r)=(if x.1<h then x.2.2*((if x.2.1<h then x.2.1 else h)-x.1) else 0)+mj h r:=rfl;rw[e,I,List.take_append,kz,List.take_replicate,d8,zu9];by_cases c:x.2.1<h
   ·rw[zrr r x.2.1 h hc.2.2 (by lia),if_pos (by lia),if_pos c,show(h-b).toNat-(x.2.1-x.1).toNat=(h-x.2.1).toNat by lia,show min (h-b).toNat (x.2.1-x.1).toNat=(x.2.1-x.1).toNat by lia,show(((x.2.1-x.1).toNat:Nat):Int)=x.2.1-x.1 by lia]
   ·rw[zo5 r x.2.1 h hc.2.2 (by lia),show(h-b).toNat-(x.2.1-x.1).toNat=0 by lia,show min (h-b).toNat (x.2.1-x.1).toNat=(h-b).toNat by lia]
    by_cases D:x.1<h
    ·rw[if_pos D,if_neg c,show(((h-b).toNat:Nat):Int)=h-x.1 by lia];simp
    ·rw[if_neg D,show(h-b).toNat=0 by lia];simp
theorem zsn(f:0<=h)(h1:h<=hrOf sp)(V:∀x∈sp,0<=x.2.2/\x.2.2<=100000):zii [] [spL sp,.int h]=none/\zih [] [spL sp,.int h]=some (.int (mj h sp)):=by
 obtain⟨e',S,J,R,v5,rfl⟩:=ww (ix:=[3,4,5]) (g:=y7) (λx:Spn=>[D.int x.1,.int x.2.1,.int x.2.2]) (λp e=>∃J R v5,e=[some (.sh (spL sp)),some (.sh (.int h)),some (.sh (.int (mj h p))),J,R,v5]) sp
  [some (.sh (spL sp)),some (.sh (.int h)),some (.sh (.int 0)),none,none,none] ⟨none,none,none,rfl⟩ (λ_ _=>rfl) (by
   rintro p x q e U ⟨J,R,v5,rfl⟩;have i:=V x (by rw[U];simp);have sm:li x.2.2:=⟨by lia,by lia⟩;have Y:∀z:Int,dMul (.int x.2.2) (.int z)=some (.int (x.2.2*z)):=λz=>by unfold dMul;exact if_pos (.inl sm)
   have Z:mj h (p++[x])=mj h p+(if x.1<h then x.2.2*((if x.2.1<h then x.2.1 else h)-x.1) else 0):=by unfold mj;simp
   rw[Z];by_cases c:x.1<h
   ·simp[oo,y7,c,Y]
   ·simp[oo,y7,c])
 have S:forU [3,4,5] y7 (sp.map sD) [some (.sh (spL sp)),some (.sh (.int h)),some (.sh (.int 0)),none,none,none]=_:=S;have a:=zju sp;have b:decide (h<0)=false:=decide_eq_false (by lia);have d:decide (hrOf sp<h)=false:=decide_eq_false (by lia);have I:zig (j4 6 [] [spL sp,.int h])=some (.rt (.int (mj h sp)),[some (.sh (spL sp)),some (.sh (.int h)),some (.sh (.int (mj h sp))),J,R,v5]):=by
  rw[show j4 6 [] [spL sp,.int h]=[some (.sh (spL sp)),some (.sh (.int h)),none,none,none,none] from rfl];unfold spL at *;simp[zig,a,b,d,S]
 exact⟨by unfold zii xQ;rw[if_pos ⟨rfl,rfl⟩,I],by unfold zih runQ;rw[if_pos ⟨rfl,rfl⟩,I]⟩
theorem z04(I:0<=h)(h1:h<=hrOf s.2)(J:∀x∈s.2,0<=x.2.2/\x.2.2<=100000):zhc [hA k (p++[s])] [.int h]=none/\zp [hA k (p++[s])] [.int h]=some (.int (mj h s.2)):=by
 have l:=zsn I h1 J;have D:zfd (j4 2 [hA k (p++[s])] [.int h])=some (.rt (.int (mj h s.2)),[some (.ro kH (hP k (p++[s]))),some (.sh (.int h))]):=by
  rw[show j4 2 [hA k (p++[s])] [.int h]=[some (.ro kH (hP k (p++[s]))),some (.sh (.int h))] from rfl];simp[zfd,lh,lm,fK0r,cQ0,zyw,wv,l]
 exact⟨by unfold zhc xQ;rw[if_pos ⟨rfl,rfl⟩,D],by unfold zp runQ;rw[if_pos ⟨rfl,rfl⟩,D]⟩
theorem zva(ss:k8)(S:ss.length<=1000)(R:∀s∈ss,s.length<=1000):yy [ssL ss]=some (.int (lss ss.flatten)):=by
 have c:=ng (te:=d5 bSum (aq (fLst (iq (fiS (fVar 0)) [] fYes (fIxV 0 (fC (.int 2))))) (fNil))) (base:=[]) (λs:k7=>D.lst (s.map sD)) (λs:k7=>D.int (s.map λx:Sk=>x.2.2).sum) ss λs U=>by
  have V:=ng (te:=fIxV 0 (fC (.int 2))) (base:=[]) sD (λx:Sk=>D.int x.2.2) s λx _=>⟨_,by simp[sD,ye];rfl⟩;have I:=tj (λx:Sk=>x.2.2) s;have J:Few (s.map sD).length:=few (by rw[ae];have:=R s U;lia);generalize s.map sD=L at *;exact⟨_,by simp[iq,J,V,I];rfl⟩
 have I:=tj (λs:k7=>(s.map λx:Sk=>x.2.2).sum) ss;have J:Few (ss.map λs=>D.lst (s.map sD)).length:=few (by rw[ae];lia);have Y:(ss.map λs:k7=>(s.map λx:Sk=>x.2.2).sum).sum=lss ss.flatten:=by
  clear c I J S R;induction ss with
  | nil=>rfl
  | cons a l ih=>rw[ci,fm,ih,cr,qb];rfl
 rw[Y] at I;refine j7 (e':=[some (.sh (ssL ss))]) rfl ?_;show zi8 [some (.sh (ssL ss))]=_;unfold ssL;generalize (ss.map λs=>D.lst (s.map sD))=L at *;simp[zi8,iq,J] at c ⊢;simp[c,I]
theorem zqa(a b:ln):rts (a++b)=rts a++rts b:=by simp[rts]
theorem zrs(sp:ln)(I:pf b sp)(i:n4 b sp-b<=100000):zf1 [spL sp]=some (.lst ((rts sp).map D.int)):=by
 have Y:=znq sp b I;obtain⟨e',U,v2,R,S,rfl⟩:=ww (ix:=[2,3,4]) (g:=zeq) (λx:Spn=>[D.int x.1,.int x.2.1,.int x.2.2]) (λp e=>∃v2 R S,e=[some (.sh (spL sp)),some (.sh (.lst ((rts p).map D.int))),v2,R,S]) sp
  [some (.sh (spL sp)),some (.sh (.lst [])),none,none,none] ⟨none,none,none,rfl⟩ (λ_ _=>rfl) (by
   rintro p x q e J ⟨v2,R,S,rfl⟩;have Z:(rts p).length+(x.2.1-x.1).toNat<=100000:=by
    have:(rts sp).length=(rts p).length+((x.2.1-x.1).toNat+(rts q).length):=by rw[J,zqa,am];congr 1;show(List.replicate _ _++rts q).length=_;simp
    lia
   have V:Bnd (-(2 ^ 62)) (2 ^ 62) (x.2.1-x.1):=by
    have:-100000<=x.2.1-x.1:=by
     have a:∀(l:ln) (b:Int),pf b l->x∈l->x.1<=x.2.1:=by
      intro l;induction l with
      | nil=>intro b _ h;cases h
      | cons y r ih=>intro b I h;rcases b7.mp h with rfl | h;exact I.2.1;exact ih _ I.2.2 h
     have:=a sp b I (by rw[J];simp)
     lia
    exact⟨by lia,by lia⟩
   have c:Few ((0+1)*(x.2.1-x.1).toNat):=by show _<=_;lia
   have d:Few (((rts p).map D.int).length+(List.replicate (x.2.1-x.1).toNat (D.int x.2.2)).length):=by show _<=_;rw[ae,d8];lia
   have f:(rts (p++[x])).map D.int=(rts p).map D.int++List.replicate (x.2.1-x.1).toNat (D.int x.2.2):=by rw[zqa,cz,show rts [x]=List.replicate (x.2.1-x.1).toNat x.2.2 by simp[rts],mw]
   refine⟨[some (.sh (spL sp)),some (.sh (.lst ((rts (p++[x])).map D.int))),some (.sh (.int x.1)),some (.sh (.int x.2.1)),some (.sh (.int x.2.2))],?_,_,_,_,rfl⟩;rw[f];simp only[oo,zeq,sSet,fLst,fCat,fRep,f7,aq,fNil,fVar,fBin,dSub,af,ai,ac,aj,ax,bc,ak,b9,show 0+1<=64 by decide,if_true,c,V,and_self,zp1,d])
 have U:forU [2,3,4] zeq (sp.map sD) [some (.sh (spL sp)),some (.sh (.lst [])),none,none,none]=_:=U;refine j7 (e':=[some (.sh (spL sp)),some (.sh (.lst ((rts sp).map D.int))),v2,R,S]) rfl ?_;show zh5 [some (.sh (spL sp)),none,none,none,none]=_;unfold spL at *;simp[zh5,U]
theorem z05(h:zf0 [ssL s.1]=some d):qk [hA k (p++[s])] []=some d:=by
 unfold qk runQ;rw[if_pos ⟨rfl,rfl⟩,show j4 1 [hA k (p++[s])] []=[some (.ro kH (hP k (p++[s])))] from rfl];simp[zhe,fK0r,cQ0,zyw,rh,h]
variable{t:k7}
theorem znr(h:ss[a-1]?=some t)(I:1<=a)(J:ss.length<=1000):(if t.length=0 then vk [] [ssL ss,.int (a:Int)]=some ("EmptyStack" : Str) else vk [] [ssL ss,.int (a:Int)]=none/\zo [] [ssL ss,.int (a:Int)]=some .non):=by
 have h1:=ph h I;have R:=(ah.mp h).1;have e:j4 2 [] [ssL ss,.int (a:Int)]=[some (.sh (ssL ss)),some (.sh (.int (a:Int)))]:=rfl;have D:((t.map sD).length:Int)=t.length:=by rw[ae]
 generalize t.map sD=T at *;split <;> rename_i S
 ·unfold vk xQ
  rw[if_pos ⟨rfl,rfl⟩,e];unfold ssL;have c:decide ((T.length:Int)=0)=true:=decide_eq_true (by lia);simp only[zfe,sIf,fTst,fBin,d5,aq,fIxV,ixSl,fVar,fC,fNil,dSub,af,ai,ac,aj,h1,bLen,dEq,c,if_true,kh,vInt,show((a:Int)).natAbs<1000000 by lia]
 ·unfold vk zo xQ runQ
  rw[if_pos ⟨rfl,rfl⟩,if_pos ⟨rfl,rfl⟩,e];unfold ssL;have c:decide ((T.length:Int)=0)=false:=decide_eq_false (by lia);simp only[zfe,sIf,fTst,fBin,d5,aq,fIxV,ixSl,fVar,fC,fNil,dSub,af,ai,ac,aj,h1,bLen,dEq,c,dm,if_false,sNil,and_self]
def goS(s:Hs)(a:Nat)(tl:k7):Hs:=(s.1.set (a-1) tl,s.2)
theorem z54(I:s.1[a-1]?=some (x::tl))(J:1<=a)(R:k.length<60)(c:s.1.length<=5)(e:p.length<=100) :
  xh [hA k (p++[s])] [.int (a:Int)]=none/\yw [hA k (p++[s])] [.int (a:Int)]=some (sD x,[hA (k++[.go a]) (p++[s]++[goS s a tl])]):=by
 have f:=(ah.mp I).1;have k1:=wu (ss:=s.1) (a:=a) (by lia) (by lia);have k2:=znr I J (by lia);rw[if_neg (by simp)] at k2;have k5:=ua (k.map dD);rw[if_pos (by rw[ae];exact R)] at k5;have S:=zyu I J;have U:=zme I J (by lia);have V:o7 [(kH,hP k (p++[s]))] [.tup [.str "go",.int (a:Int)],ssL (s.1.set (a-1) tl),spL s.2]=some (.non,[hA (k++[.go a]) (p++[s]++[goS s a tl])]):=znp (k:=k) (p:=p++[s]) (d:=.go a) (ss:=s.1.set (a-1) tl) (sp:=s.2) (by lia) (by simp;lia);have Y:=rh (k:=k) (p:=p) (s:=s);have Z:=wv (k:=k) (p:=p) (s:=s);have b:jt 3 [hA k (p++[s])] [.int (a:Int)]=[some (.ag kH (some 0) (hP k (p++[s]))),some (.sh (.int (a:Int))),none]:=rfl;have D:vh (jt 3 [hA k (p++[s])] [.int (a:Int)])=some (.rt (sD x),[some (.ag kH (some 0) (hP (k++[.go a]) (p++[s]++[goS s a tl]))),some (.sh (.int (a:Int))),some (.sh (ssL s.1))]):=by
  rw[b];generalize spL s.2=SP at *;simp[vh,fK0,cQ0,lp,Y,lh,lm,k1,k2,xFrz,fFrz,tf,k5,noL,S,U,Z,cL0,z0,V,zz]
 exact⟨by unfold xh xL;rw[if_pos ⟨rfl,rfl⟩,D],by unfold yw runL;rw[if_pos ⟨rfl,rfl⟩,D];rfl⟩
theorem zrt{m:Int}:(if m<1\/(t.length:Int)<m then xm [] [.lst (t.map sD),.int m]=some ("UnknownPlace" : Str) else xm [] [.lst (t.map sD),.int m]=none/\zer [] [.lst (t.map sD),.int m]=some .non):=by
 have e:j4 2 [] [.lst (t.map sD),.int m]=[some (.sh (.lst (t.map sD))),some (.sh (.int m))]:=rfl;have D:((t.map sD).length:Int)=t.length:=by rw[ae]
 generalize t.map sD=T at *;split <;> rename_i I
 ·unfold xm xQ
  rw[if_pos ⟨rfl,rfl⟩,e];by_cases h1:m<1
  ·simp[zh,h1,kh]
  ·simp[zh,h1,show(T.length:Int)<m by lia,kh]
 ·unfold xm zer xQ runQ
  rw[if_pos ⟨rfl,rfl⟩,if_pos ⟨rfl,rfl⟩,e];simp[zh,show ¬m<1 by lia,show ¬(T.length:Int)<m by lia]
theorem zo6(x:Sk)(l:Int):zja [sD x,.int l]=some (sD (x.1,x.2.1,l)):=by
 rfl
theorem z06{m:Nat}{l:Int}(J:s.1[a-1]?=some t)(S:t[m-1]?=some x)(R:1<=a)(A:1<=m)(c:0<=l)(h1:l<=100)(e:k.length<60)(B:s.1.length<=5)(f:t.length<=1000)(C:p.length<=100) :
  xt [hA k (p++[s])] [.int (a:Int),.int (m:Int),.int l]=none/\zn [hA k (p++[s])] [.int (a:Int),.int (m:Int),.int l]=some (.int x.2.2,[hA (k++[.tell a m l]) (p++[s]++[(s.1.set (a-1) (t.set (m-1) (x.1,x.2.1,l)),s.2)])]):=by
 have E:=(ah.mp J).1;have F:=(ah.mp S).1;have k1:=wu (ss:=s.1) (a:=a) (by lia) (by lia);have k2:=znr J R (by lia);rw[if_neg (by lia)] at k2;have k3:=zrt (t:=t) (m:=m);rw[if_neg (by lia)] at k3;have g:=zno (h:=l) c h1;have k5:=ua (k.map dD);rw[if_pos (by rw[ae];exact e)] at k5;have i:=ph J R;have j:atI (t.map sD) ((m:Int)-1)=some (sD x):=by
  rw[show(m:Int)-1=((m-1:Nat):Int) by lia];exact l3 sD S
 have U:=zg9 (ss:=s.1) (a:=a) (t.set (m-1) (x.1,x.2.1,l)) R (by lia) (by lia);have G:(t.map sD).length=t.length:=ae ..;have V:=zri (t.map sD) (m-1) (by lia);rw[show((m-1:Nat):Int)=(m:Int)-1 by lia] at V;have n:=zky (t.map sD) m (by lia);have b:=zu5 (t.map sD) (m-1) (sD (x.1,x.2.1,l)) (by lia);rw[show m-1+1=m by lia] at b;have o:Few (((t.map sD).take (m-1)).length+(0+1)):=few (by simp only[dq];lia);have q:Few (((t.map sD).take (m-1)++[sD (x.1,x.2.1,l)]).length+((t.map sD).drop m).length):=few (by simp[dq,fg];lia);have r:(t.set (m-1) (x.1,x.2.1,l)).map sD=(t.map sD).set (m-1) (sD (x.1,x.2.1,l)):=io ..;rw[r,<-b] at U;have u:o7 [(kH,hP k (p++[s]))] [.tup [.str "tell",.int (a:Int),.int (m:Int),.int l],ssL (s.1.set (a-1) (t.set (m-1) (x.1,x.2.1,l))),spL s.2]=some (.non,[hA (k++[.tell a m l]) (p++[s]++[(s.1.set (a-1) (t.set (m-1) (x.1,x.2.1,l)),s.2)])]):=znp (k:=k) (p:=p++[s]) (d:=.tell a m l) (ss:=s.1.set (a-1) (t.set (m-1) (x.1,x.2.1,l))) (sp:=s.2) (by lia) (by simp;lia);have v:=rh (k:=k) (p:=p) (s:=s);have w:=wv (k:=k) (p:=p) (s:=s);have y:=zo6 x l;have kd:=zp4 x;have z:jt 8 [hA k (p++[s])] [.int (a:Int),.int (m:Int),.int l]=[some (.ag kH (some 0) (hP k (p++[s]))),some (.sh (.int (a:Int))),some (.sh (.int (m:Int))),some (.sh (.int l)),none,none,none,none]:=rfl;have I:∃e',qj (jt 8 [hA k (p++[s])] [.int (a:Int),.int (m:Int),.int l])=some (.rt (.int x.2.2),some (.ag kH (some 0) (hP (k++[.tell a m l]) (p++[s]++[(s.1.set (a-1) (t.set (m-1) (x.1,x.2.1,l)),s.2)])))::e'):=by
  rw[z];unfold ssL at *;generalize (s.1.map λs=>D.lst (s.map sD))=SL at *;generalize (t.map sD).take (m-1)=TA at *;generalize (t.map sD).drop m=TB at *;generalize t.map sD=T at *;generalize sD (x.1,x.2.1,l)=Y at *;generalize sD x=Z at *;refine⟨[some (.sh (.int (a:Int))),some (.sh (.int (m:Int))),some (.sh (.int l)),some (.sh (.lst SL)),some (.sh (.lst T)),some (.sh Z),some (.sh (.lst (TA++[Y]++TB)))],?_⟩;simp only[qj,sSeq,sSet,sXp,ja,fK0,cQ0,fNil,ac,lp,v,aj,bc,ax,lh,lm,aq,fVar,ai,af,k1,k2,k3,g,ky,xFrz,fFrz,tf,k5,noL,if_true,d5,fIxV,ixSl,fBin,fC,dSub,i,j,fLst,fCat,fSl,fO0,fO1,V,n,f7,y,o,q,fTup,ak,b9,show 0+1<=64 by decide,show 0+1+1+1+1<=64 by decide,U,w,cL0,z0,u,ci,du,zz,sRet,kd]
 obtain⟨e',I⟩:=I;exact⟨by unfold xt xL;rw[if_pos ⟨rfl,rfl⟩,I],by unfold zn runL;rw[if_pos ⟨rfl,rfl⟩,I];rfl⟩
abbrev dsO(ss:k8):List i0:=ss.map λs=>s.map sD
theorem zyx(h:e[j]?=some (some (.sh d))):(frz false e)[j]?=some (some (.sh d)):=by
 unfold frz;rw[bz,h];rfl
theorem zyy(h:e[j]?=some (some (.o2 (dsO ss)))):(frz false e)[j]?=some (some (.sh (ssL ss))):=by
 unfold frz;rw[bz,h];show some (some (Sl.sh (.lst ((dsO ss).map D.lst))))=_;unfold dsO ssL;rw[jc];rfl
theorem zyz(r:k7):noLs (r.map sD)=true:=by
 induction r with
 | nil=>rfl
 | cons x r ih=>rw[ci];unfold noLs;rw[ih];rfl
variable{c w:Str}
theorem zvb(h:wd c=some w):((List.range 13).filter λk=>c==kn.getD k "").map (λk=>D.str (n6.getD k ""))=[D.str w]:=by
 have I:c∈kn:=zl8 (by unfold kdT;rw[h];rfl);simp[kn] at I;rcases I with rfl | rfl | rfl | rfl | rfl | rfl | rfl | rfl | rfl | rfl | rfl | rfl | rfl <;> cases h <;> rfl
theorem zxs(c:Str)(d:D)(h:kdT c=some d):runK 4 z0o c d:=by
 obtain⟨w,J,rfl⟩:=Option.map_eq_some_iff.mp h;intro ea;have R:iR1 [.int 13]=some (rngD 0 13):=pz 13 (by decide);have S:∀n,n<=100->Few n=True:=λn Z=>eq_true (few (by lia));have cmp:=zks (tt:=fAnd (fTst (fIxV 2 (fVar 0))) (fTst (fIsx ea 3 true))) (te:=fIxV 1 (fVar 0)) (base:=[some (.sh (.lst (n6.map D.str))),some (.sh (.lst (kn.map λn=>D.bl (c==n)))),some (.sh (.exc ea))]) (λj:Nat=>D.int (0+(j:Int))) (λk=>D.str (n6.getD k "")) (λk=>c==kn.getD k "") (List.range 13) (λk I=>by
  have I:=j1.mp I;have U:atI (kn.map λn=>D.bl (c==n)) (0+(k:Int))=some (.bl (c==kn.getD k "")):=by
   rw[jw,l3 (λn:Str=>D.bl (c==n)) (bi (show k<kn.length from I)),bu,bi (show k<kn.length from I)];rfl
  have V:atI (n6.map D.str) (0+(k:Int))=some (.str (n6.getD k "")):=by
   rw[jw,l3 D.str (bi (show k<n6.length from I)),bu,bi (show k<n6.length from I)];rfl
  generalize (kn.map λn=>D.bl (c==n))=KL at *;generalize n6.map D.str=WL at *;refine⟨[some (.sh (.int (0+(k:Int)))),some (.sh (.lst WL)),some (.sh (.lst KL)),some (.sh (.exc ea))],?_,λ_=>⟨_,by simp only[fIxV,fVar,ixSl,af,ai,ac,aj,V];rfl⟩⟩;generalize (c==kn.getD k "")=bb at *;cases bb <;> simp only[fAnd,fTst,fIxV,fVar,ixSl,fIsx,U,af,ai,ac,aj,dm,if_false,if_true])
 rw[zvb J] at cmp;have cmp:lu (fAnd (fTst (fIxV 2 (fVar 0))) (fTst (fIsx ea 3 true))) (fIxV 1 (fVar 0)) [some (.sh (.lst (n6.map D.str))),some (.sh (.lst (kn.map λn=>D.bl (c==n)))),some (.sh (.exc ea))] (rngD 0 13)=some [D.str w]:=cmp;have Y:(rngD 0 13).length=13:=rfl;refine⟨[some (.sh (.exc ea)),some (.sh (.lst (kn.map λn=>D.bl (c==n)))),some (.sh (.lst (n6.map D.str))),some (.sh (.lst [.str w]))],?_⟩;show z0o ea c [some (.sh (.exc ea)),none,none,none]=_;simp[kn,n6] at cmp ⊢;simp[z0o,fIsx,S,iq,R,Y,capt,cmp,bTup]
def zm:FS:=sSeq (sIf (fTst (fBin dEq (pLen (.at (.ins false "House" iz)) 0 0) (fC (.int 0)))) (kh "NothingDone" (some)) (sNil)) (sSeq (ja (pPop (.at (.ins false "House" iz)) 0 1)) (sRet (pPop (.at (.ins false "House" iz)) 0 0)))
def zl:k4->i0->k6:=runL 1 1 0 zm
def xr:k4->i0->Option (Str×k4):=xL 1 1 0 zm
def zjc:FS:=sSeq (sIf (fTst (fBin dEq (fIxV 1 (fC (.int 0))) (fC (.str "put")))) (sXp (xK (.ins false "House" iz) 0 (lv xk [0] (aq (fIxV 1 (fC (.int 1))) (aq (fIxV 1 (fC (.int 2))) (aq (fIxV 1 (fC (.int 3))) (fNil)))))) (sRet (fK (.ins false "House" iz) 0 (kg y8 [0] (aq (fIxV 1 (fC (.int 1))) (aq (fIxV 1 (fC (.int 2))) (aq (fIxV 1 (fC (.int 3))) (fNil)))))))) (sNil)) (sSeq (sIf (fTst (fBin dEq (fIxV 1 (fC (.int 0))) (fC (.str "tell")))) (sXp (xK (.ins false "House" iz) 0 (lv xt [0] (aq (fIxV 1 (fC (.int 1))) (aq (fIxV 1 (fC (.int 2))) (aq (fIxV 1 (fC (.int 3))) (fNil)))))) (sRet (fK (.ins false "House" iz) 0 (kg zn [0] (aq (fIxV 1 (fC (.int 1))) (aq (fIxV 1 (fC (.int 2))) (aq (fIxV 1 (fC (.int 3))) (fNil)))))))) (sNil)) (sSeq (sIf (fTst (fBin dEq (fIxV 1 (fC (.int 0))) (fC (.str "go")))) (sXp (xK (.ins false "House" iz) 0 (lv xh [0] (aq (fIxV 1 (fC (.int 1))) (fNil)))) (sRet (fK (.ins false "House" iz) 0 (kg yw [0] (aq (fIxV 1 (fC (.int 1))) (fNil)))))) (sNil)) (sSeq (sIf (fTst (fBin dEq (fIxV 1 (fC (.int 0))) (fC (.str "dry")))) (sXp (xK (.ins false "House" iz) 0 (lv xi [0] (fNil))) (sRet (fK (.ins false "House" iz) 0 (kg zd [0] (fNil))))) (sNil)) (sXp (xK (.ins false "House" iz) 0 (lv xr [0] (fNil))) (sRet (fK (.ins false "House" iz) 0 (kg zl [0] (fNil))))))))
def zhh:k4->i0->k6:=runL 2 1 1 zjc
def xg:k4->i0->Option (Str×k4):=xL 2 1 1 zjc
def zf3:FS:=sSeq (sSet 2 (fTup (aq (fC (.str "refused")) (aq (fC (.str "")) (fNil))))) (sSeq (sTry (sXp (lv xg [0] (aq (fVar 1) (fNil))) (sRet (kg zhh [0] (aq (fVar 1) (fNil))))) 3 2 kdT) (sRet (fVar 2)))
def qh:k4->i0->k6:=runL 4 1 1 zf3
def zo7:k4->i0->Option (Str×k4):=xL 4 1 1 zf3
def xf:FS:=sSeq (um 1 [3,4,5,6]) (sSeq (sSet 7 (d5 zi (aq (fVar 3) (aq (pLen (.al 4) 1 1) (aq (fVar 2) (fNil)))))) (sSeq (sSet 8 (kg qh [0] (aq (fVar 2) (fNil)))) (sSeq (sIf (fTst (fBin dNe (fVar 7) (fC (.str "")))) (sRet (d5 zu (aq (fVar 8) (aq (fTup (aq (fC (.str "refused")) (aq (fVar 7) (fNil)))) (fNil))))) (sNil)) (sSeq (sIf (fTst (fBin dEq (fIxV 2 (fC (.int 0))) (fC (.str "back")))) (sSeq (sSet 9 (pPop (.al 5) 1 2)) (sSeq (pj 1 0 (fIxV 9 (fC (.int 0)))) (sSeq (pj 1 3 (fIxV 9 (fC (.int 1)))) (sRet (d5 zu (aq (fVar 8) (aq (pPop (.al 4) 1 1) (fNil)))))))) (sNil)) (sSeq (sSet 10 (d5 ql (aq (fVar 3) (aq (fVar 2) (aq (fFrz false (fBin il (fC (.int 1)) (d5 bLen (aq (fLst (iq (fiS (fVar 4)) [] (fTst (fBin dEq (fIxV 0 (fC (.int 0))) (fC (.str "put")))) (fVar 0))) (fNil))))) (fNil)))))) (sSeq (ja (qc (.al 5) 1 2 (fTup (aq (fVar 3) (aq (fVar 6) (fNil)))))) (sSeq (ja (qc (.al 4) 1 1 (fVar 2))) (sSeq (pj 1 0 (fIxV 10 (fC (.int 0)))) (sSeq (sIf (fTst (fBin dEq (fIxV 2 (fC (.int 0))) (fC (.str "dry")))) (sSeq (sSet 11 (d5 bLen (aq (d5 zf1 (aq (fVar 6) (fNil))) (fNil)))) (pj 1 3 (fLst (fCat (fVar 6) (fLst (f7 (aq (fTup (aq (fVar 11) (aq (fBin il (fVar 11) (fBin dIx (fIxV 10 (fC (.int 1))) (fC (.int 1)))) (aq (d5 yy (aq (fVar 3) (fNil))) (fNil))))) (fNil)))))))) (sNil)) (sRet (d5 xw (aq (fVar 8) (aq (fIxV 10 (fC (.int 1))) (fNil))))))))))))))
def qg:k4->i0->k6:=runL 12 2 1 xf
def zso:k4->i0->Option (Str×k4):=xL 12 2 1 xf
variable{ags:k4}
theorem vq{p:Nat}{t:k4}(h1:ags.length=p)(h2:ds.length=ar)(D:g (jt n ags ds)=some (.xc c,e))(I:outA e 0 (List.range p)=some t):xL n p ar g ags ds=some (c,t):=by
 unfold xL;rw[if_pos ⟨h1,h2⟩,D];dsimp only;rw[I];rfl
variable{a:Int}
theorem z55{l:Int}(D:putX s.1 k.length a h l=some c)(b:s.1.length<=5):xk [hA k (p++[s])] [.int a,.int h,.int l]=some (c,[hA k (p++[s])]):=by
 have I:=rh (k:=k) (p:=p) (s:=s);have S:jt 7 [hA k (p++[s])] [.int a,.int h,.int l]=[some (.ag kH (some 0) (hP k (p++[s]))),some (.sh (.int a)),some (.sh (.int h)),some (.sh (.int l)),none,none,none]:=rfl;have k5:=ua (k.map dD);rw[ae] at k5;refine vq (e:=[some (.ag kH (some 0) (hP k (p++[s]))),some (.sh (.int a)),some (.sh (.int h)),some (.sh (.int l)),some (.sh (ssL s.1)),none,none]) rfl rfl ?_ rfl;rw[S];unfold putX at D;have J:=zu8 s.1 (by lia);split at D
 ·cases D
  rename_i U;have k1:=zp9 (ss:=s.1) (a:=a) U;simp[sd,fK0,cQ0,lp,I,lh,k1]
 have k1:=wu (ss:=s.1) (a:=a) (by lia) (by lia);split at D
 ·cases D
  rename_i V;have k2:=z0z (h:=h) V;simp[sd,fK0,cQ0,lp,I,lh,lm,k1,k2]
 have k2:=zrm (h:=h) (by lia) (by lia);split at D
 ·cases D
  rename_i Y;have k3:=zyv (h:=l) Y;simp[sd,fK0,cQ0,lp,I,lh,lm,k1,k2,k3]
 have k3:=zno (h:=l) (by lia) (by lia);split at D
 ·rename_i R
  rw[if_pos R] at J;split at D
  ·cases D
  ·cases D
   rename_i Z;rw[if_neg Z] at k5;simp[sd,fK0,cQ0,lp,I,lh,lm,k1,k2,k3,J,xFrz,tf,k5]
 ·cases D
  rename_i R;rw[if_neg R] at J;simp[sd,fK0,cQ0,lp,I,lh,lm,k1,k2,k3,J]
def td(ss:k8)(n:Nat)(a m l:Int):h6:=if a<1\/(ss.length:Int)<a then some "UnknownStack" else if (ss.getD (a.toNat-1) []).length=0 then some "EmptyStack" else if m<1\/((ss.getD (a.toNat-1) []).length:Int)<m then some "UnknownPlace" else if l<0\/100<l then some "BadLoss" else if n<60 then none else some "DeedsFull"
def goX(ss:k8)(n:Nat)(a:Int):h6:=if a<1\/(ss.length:Int)<a then some "UnknownStack" else if (ss.getD (a.toNat-1) []).length=0 then some "EmptyStack" else if n<60 then none else some "DeedsFull"
def dryX(ss:k8)(n:Nat):h6:=if 0<ss.flatten.length then(if n<60 then none else some "DeedsFull") else some "NothingWaits"
theorem t4(h:¬(a<1\/(ss.length:Int)<a)):ss[a.toNat-1]?=some (ss.getD (a.toNat-1) []):=by
 rw[bu,bi (by lia)];rfl
theorem go_x(D:goX s.1 k.length a=some c)(U:s.1.length<=5):xh [hA k (p++[s])] [.int a]=some (c,[hA k (p++[s])]):=by
 have I:=rh (k:=k) (p:=p) (s:=s);have k5:=ua (k.map dD);rw[ae] at k5;refine vq (e:=[some (.ag kH (some 0) (hP k (p++[s]))),some (.sh (.int a)),some (.sh (ssL s.1))]) rfl rfl ?_ rfl;rw[show jt 3 [hA k (p++[s])] [.int a]=[some (.ag kH (some 0) (hP k (p++[s]))),some (.sh (.int a)),none] from rfl];unfold goX at D;split at D
 ·cases D
  rename_i J;have k1:=zp9 (ss:=s.1) (a:=a) J;simp[vh,fK0,cQ0,lp,I,lh,lm,k1]
 rename_i J;have k1:=wu (ss:=s.1) (a:=a) (by lia) (by lia);have k2:=znr (t4 J) (by lia) (by lia);rw[show((a.toNat:Nat):Int)=a by lia] at k2;split at D
 ·cases D
  rename_i R;rw[if_pos R] at k2;simp[vh,fK0,cQ0,lp,I,lh,lm,k1,k2]
 rename_i R;rw[if_neg R] at k2;split at D
 ·cases D
 ·cases D
  rename_i S;rw[if_neg S] at k5;simp[vh,fK0,cQ0,lp,I,lh,lm,k1,k2,xFrz,tf,k5]
theorem z4h{m l:Int}(I:td s.1 k.length a m l=some c)(g:s.1.length<=5):xt [hA k (p++[s])] [.int a,.int m,.int l]=some (c,[hA k (p++[s])]):=by
 have J:=rh (k:=k) (p:=p) (s:=s);have k5:=ua (k.map dD);rw[ae] at k5;have b:jt 8 [hA k (p++[s])] [.int a,.int m,.int l]=[some (.ag kH (some 0) (hP k (p++[s]))),some (.sh (.int a)),some (.sh (.int m)),some (.sh (.int l)),none,none,none,none]:=rfl;suffices U:∃d,qj (jt 8 [hA k (p++[s])] [.int a,.int m,.int l])=some (.xc c,[some (.ag kH (some 0) (hP k (p++[s]))),some (.sh (.int a)),some (.sh (.int m)),some (.sh (.int l)),some (.sh (ssL s.1)),d,none,none]) from let ⟨_,U⟩:=U;vq rfl rfl U rfl;rw[b];unfold td at I;split at I
 ·cases I
  rename_i R;have k1:=zp9 (ss:=s.1) (a:=a) R;exact⟨_,by simp[qj,fK0,cQ0,lp,J,lh,lm,k1];rfl⟩
 rename_i R;have k1:=wu (ss:=s.1) (a:=a) (by lia) (by lia);have k2:=znr (t4 R) (by lia) (by lia);have S:=ph (t4 R) (by lia);rw[show((a.toNat:Nat):Int)=a by lia] at k2 S;split at I
 ·cases I
  rename_i V;rw[if_pos V] at k2;generalize ssL s.1=SL at *;exact⟨_,by simp[qj,fK0,cQ0,lp,J,lh,lm,k1,k2];rfl⟩
 rename_i V;rw[if_neg V] at k2;have k3:=zrt (t:=s.1.getD (a.toNat-1) []) (m:=m);unfold ssL at *;split at I
 ·cases I
  rename_i Y;rw[if_pos Y] at k3;generalize (s.1.getD (a.toNat-1) []).map sD=TL at *;exact⟨_,by simp[qj,fK0,cQ0,lp,J,lh,lm,k1,k2,S,k3];rfl⟩
 rename_i Y;rw[if_neg Y] at k3;generalize (s.1.getD (a.toNat-1) []).map sD=TL at *;generalize (s.1.map λs=>D.lst (s.map sD))=SL at *;split at I
 ·cases I
  rename_i e;have Z:=zyv (h:=l) e;exact⟨_,by simp[qj,fK0,cQ0,lp,J,lh,lm,k1,k2,S,k3,Z];rfl⟩
 have Z:=zno (h:=l) (by lia) (by lia);split at I
 ·cases I
 ·cases I
  rename_i f;rw[if_neg f] at k5;exact⟨_,by simp[qj,fK0,cQ0,lp,J,lh,lm,k1,k2,S,k3,Z,xFrz,tf,k5];rfl⟩
theorem z56(D:dryX s.1 k.length=some c)(S:s.1.length<=5):xi [hA k (p++[s])] []=some (c,[hA k (p++[s])]):=by
 have J:=rh (k:=k) (p:=p) (s:=s);have k5:=ua (k.map dD);rw[ae] at k5;have k1:=zrp s.1 (by lia);refine vq (e:=[some (.ag kH (some 0) (hP k (p++[s]))),some (.sh (ssL s.1)),none,none,none,none]) rfl rfl ?_ rfl;rw[show jt 6 [hA k (p++[s])] []=[some (.ag kH (some 0) (hP k (p++[s]))),none,none,none,none,none] from rfl];unfold dryX at D;split at D
 ·rename_i I
  rw[if_pos I] at k1;split at D
  ·cases D
  ·cases D
   rename_i R;rw[if_neg R] at k5;simp[xj,fK0,cQ0,lp,J,lh,lm,k1,xFrz,tf,k5]
 ·cases D
  rename_i I;rw[if_neg I] at k1;simp[xj,fK0,cQ0,lp,J,lh,lm,k1]
theorem zns(D:ps[j]?=some (.o ds)):ko (.at kH) 0 j (some (.ag kH (some 0) ps)::e)=some ds:=zrj rfl D
variable{s':Hs}
theorem z07{d:Deed}:xr [hA (k++[d]) (p++[s]++[s'])] []=none/\zl [hA (k++[d]) (p++[s]++[s'])] []=some (dD d,[hA k (p++[s])]):=by
 have R:jt 1 [hA (k++[d]) (p++[s]++[s'])] []=[some (.ag kH (some 0) (hP (k++[d]) (p++[s]++[s'])))]:=rfl;have h1:ko (.at kH) 0 0 [some (.ag kH (some 0) (hP (k++[d]) (p++[s]++[s'])))]=some (k.map dD++[dD d]):=by rw[zns (j:=0) rfl];simp
 have h2:ko (.at kH) 0 1 [some (.ag kH (some 0) (hP (k++[d]) (p++[s]++[s'])))]=some ((p++[s]).map stD++[stD s']):=by rw[zns (j:=1) rfl];simp
 have I:zm (jt 1 [hA (k++[d]) (p++[s]++[s'])] [])=some (.rt (dD d),[some (.ag kH (some 0) (hP k (p++[s])))]):=by
  rw[R];have S:∀(l:i0) (x:D),(l++[x])[(l++[x]).length-1]?=some x:=λl x=>by simp
  have U:∀(l:i0) (x:D),(l++[x]).dropLast=l:=λl x=>by simp
  have V:¬(((k.map dD++[dD d]).length:Nat):Int)=0:=by simp;lia
  have J:ko (.at kH) 0 0 [some (.ag kH (some 0) [.o (k.map dD++[dD d]),.o ((p++[s]).map stD)])]=some (k.map dD++[dD d]):=zns (j:=0) rfl;unfold hP at *;rw[show((k++[d]).map dD)=k.map dD++[dD d] by simp,show((p++[s]++[s']).map stD)=(p++[s]).map stD++[stD s'] by simp] at *;generalize (p++[s]).map stD=PL at *;simp only[zm,sSeq,sIf,fTst,fBin,pLen,h1,aj,ac,fC,dEq,V,decide_false,dm,if_false,sNil,ja,pPop,af,h2,S,U,setP,bc,ax,J,sRet]
 exact⟨by unfold xr xL;rw[if_pos ⟨rfl,rfl⟩,I],by unfold zl runL;rw[if_pos ⟨rfl,rfl⟩,I];rfl⟩
theorem z4i:xr [hA [] p] []=some (("NothingDone" : Str),[hA [] p]):=by
 have h1:ko (.at kH) 0 0 [some (.ag kH (some 0) (hP [] p))]=some []:=zns (j:=0) rfl;refine vq (e:=[some (.ag kH (some 0) (hP [] p))]) rfl rfl ?_ rfl;rw[show jt 1 [hA [] p] []=[some (.ag kH (some 0) (hP [] p))] from rfl];simp[zm,pLen,h1,show(((0:Nat):Int)=0) from rfl,kh]
inductive Cmd where
 | d (x:Deed) | back
def cD:Cmd->D
 | .d x=>dD x
 | .back=>.tup [.str "back"]
def cmdX(ss:k8)(n:Nat):Cmd->h6
 | .d (.put a h l)=>putX ss n a h l
 | .d (.tell a m l)=>td ss n a m l
 | .d (.go a)=>goX ss n a
 | .d .dry=>dryX ss n
 | .back=>if n=0 then some "NothingDone" else none
def dueW(o:h6):Str:=match o with | none=>"" | some c=>(wd c).getD ""
theorem zxt(R:ss.length<=1000)(e:DE0):d5 bSum (aq (fLst (iq (fiS (fVar 0)) [] fYes (jd 0))) fNil) (some (.sh (ssL ss))::e)=some (.int (ss.flatten.length:Int),some (.sh (ssL ss))::e):=by
 have c:=ng (te:=jd 0) (base:=[]) (λs:k7=>D.lst (s.map sD)) (λs:k7=>D.int (s.length:Int)) ss λs _=>⟨_,by simp;rfl⟩;have I:=tj (λs:k7=>(s.length:Int)) ss;have J:Few (ss.map λs=>D.lst (s.map sD)).length:=few (by rw[ae];lia);rw[zp5] at I;unfold ssL;generalize (ss.map λs=>D.lst (s.map sD))=L at *;simp only[d5,aq,fLst,iq,fiS,fVar,fNil,af,ac,aj,J,if_true,du,c,I]
def Rt(r:Option (Fl×DE0))(x:Str):Prop:=∃e',r=some (.rt (.str x),e')
section
variable {c p q:FT} {f g:FE} {u v w:FS} {e:DE0} {i:Nat} {d:D} {x y:Str} {A B:Prop} [Decidable A] [Decidable B] {a b:Int}
theorem setT(h:f e=some (d,e))(k:Rt (u (e.set i (some (.sh d)))) x):Rt (sSeq (sSet i f) u e) x:=by
 rw[show sSeq (sSet i f) u e=u (e.set i (some (.sh d))) by simp[h]];exact k
theorem ifN(h:c e=some (false,e))(k:Rt (sSeq v w e) x):Rt (sSeq (sIf c u v) w e) x:=by
 rw[show sSeq (sIf c u v) w e=sSeq v w e by simp[h]];exact k
theorem ifP(h:c e=some (true,e))(k:Rt (sSeq u w e) x):Rt (sSeq (sIf c u v) w e) x:=by
 rw[show sSeq (sIf c u v) w e=sSeq u w e by simp[h]];exact k
theorem ifT(h:c e=some (decide A,e))(k:A->y=x)(k':¬A->Rt (sSeq v w e) x):Rt (sSeq (sIf c (sRet (fC (.str y))) v) w e) x:=by
 by_cases z:A
 ·exact⟨e,by simp[h,z,k z]⟩
 ·exact ifN (by rw[h,decide_eq_false z]) (k' z)
theorem ifN0(h:c e=some (false,e))(k:Rt (w e) x):Rt (sSeq (sIf c u sNil) w e) x:=ifN h k
theorem ifT0(h:c e=some (decide A,e))(k:A->y=x)(k':¬A->Rt (w e) x):Rt (sSeq (sIf c (sRet (fC (.str y))) sNil) w e) x:=ifT h k k'
theorem orq(h:p e=some (decide A,e))(h':¬A->q e=some (decide B,e)):fOr p q e=some (decide (A\/B),e):=by
 by_cases z:A
 ·simp[h,z]
 ·simp[h,h' z,z]
theorem andF(h:p e=some (false,e)):fAnd p q e=some (false,e):=by simp[h]
theorem andT(h:p e=some (true,e)):fAnd p q e=q e:=by simp[h]
theorem ltq(h:f e=some (.int a,e))(h':g e=some (.int b,e)):fTst (fBin dLt f g) e=some (decide (a<b),e):=by simp[h,h']
theorem gtq(h:f e=some (.int a,e))(h':g e=some (.int b,e)):fTst (fBin dGt f g) e=some (decide (b<a),e):=by simp[h,h']
theorem geq(h:f e=some (.int a,e))(h':g e=some (.int b,e)):fTst (fBin dGe f g) e=some (decide (b<=a),e):=by simp[h,h']
theorem eqq(h:f e=some (.int a,e))(h':g e=some (.int b,e)):fTst (fBin dEq f g) e=some (decide (a=b),e):=by simp[h,h']
end
theorem sne:(("put" : Str) = "back")=False/\(("put" : Str) = "dry")=False/\(("put" : Str) = "tell")=False/\(("tell" : Str) = "back")=False/\(("tell" : Str) = "dry")=False/\(("tell" : Str) = "put")=False/\(("go" : Str) = "back")=False/\(("go" : Str) = "dry")=False/\(("go" : Str) = "put")=False/\(("go" : Str) = "tell")=False/\(("dry" : Str) = "back")=False/\(("dry" : Str) = "put")=False/\(("dry" : Str) = "tell")=False:=by
 refine⟨?_,?_,?_,?_,?_,?_,?_,?_,?_,?_,?_,?_,?_⟩ <;> exact eq_false (by decide)
variable{x:Str}
theorem at_4{x y z w:D}:atI [x,y,z,w] 0=some x/\atI [x,y,z,w] 1=some y/\atI [x,y,z,w] 2=some z/\atI [x,y,z,w] 3=some w:=⟨rfl,rfl,rfl,rfl⟩
theorem zil(ss:k8)(n:Nat)(c:Cmd)(i:ss.length<=5):zi [ssL ss,.int (n:Int),cD c]=some (.str (dueW (cmdX ss n c))):=by
 have U:=λe=>zxt (ss:=ss) (by lia) e;suffices J:Rt (ziw [some (.sh (ssL ss)),some (.sh (.int (n:Int))),some (.sh (cD c)),none]) (dueW (cmdX ss n c)) from let ⟨_,J⟩:=J;j7 rfl J;have I:∀(d w:D),Rt (sSeq (sIf (fTst (fBin dGe (fVar 1) (fC (.int 60)))) (sRet (fC (.str "deeds full"))) (sNil)) (sRet (fC (.str ""))) [some (.sh (ssL ss)),some (.sh (.int (n:Int))),some (.sh d),some (.sh w)]) (dueW (if n<60 then none else some "DeedsFull")):=λd w =>
  ifT0 (geq rfl rfl) (λh=>by rw[if_neg (by lia)];rfl) λh=>by rw[if_pos (by lia)];exact⟨_,rfl⟩
 have R:∀r:DE0,jd 0 (some (.sh (ssL ss))::r)=some (.int (ss.length:Int),some (.sh (ssL ss))::r):=λr=>by unfold ssL;simp
 have len1:∀(d:D) (w:D) (a:Int),fIxV 2 (fC (.int 1)) [some (.sh (ssL ss)),some (.sh (.int (n:Int))),some (.sh d),some (.sh w)]=some (.int a,[some (.sh (ssL ss)),some (.sh (.int (n:Int))),some (.sh d),some (.sh w)])->¬(a<1\/(ss.length:Int)<a)->d5 bLen (aq (fIxV 0 (fBin dSub (fIxV 2 (fC (.int 1))) (fC (.int 1)))) fNil) [some (.sh (ssL ss)),some (.sh (.int (n:Int))),some (.sh d),some (.sh w)]=some (.int ((ss.getD (a.toNat-1) []).length:Int),[some (.sh (ssL ss)),some (.sh (.int (n:Int))),some (.sh d),some (.sh w)]):=λd w a h V=>by
  have g:=ph (t4 V) (by lia);rw[show((a.toNat:Nat):Int)=a by lia] at g;have S:∀F:FE,F [some (.sh (ssL ss)),some (.sh (.int (n:Int))),some (.sh d),some (.sh w)]=some (.int (a-1),[some (.sh (ssL ss)),some (.sh (.int (n:Int))),some (.sh d),some (.sh w)])->d5 bLen (aq (fIxV 0 F) fNil) [some (.sh (ssL ss)),some (.sh (.int (n:Int))),some (.sh d),some (.sh w)]=some (.int ((ss.getD (a.toNat-1) []).length:Int),[some (.sh (ssL ss)),some (.sh (.int (n:Int))),some (.sh d),some (.sh w)]):=λF Y=>by
   unfold ssL at *;simp only[d5,aq,fIxV,Y,fNil,ixSl,af,g,bLen,ac,aj,ae]
  refine S _ ?_;simp only[fBin,h,fC,dSub,ac,aj]
 cases c with
 | back =>
   refine setT (d:=.str "back") rfl ?_;by_cases z:n=0
   ·subst z;exact⟨_,rfl⟩
   ·have Z:((n:Int)=0)=False:=eq_false (by lia)
    refine⟨[some (.sh (ssL ss)),some (.sh (.int (n:Int))),some (.sh (cD .back)),some (.sh (.str "back"))],?_⟩;rw[show dueW (cmdX ss n .back) = "" by unfold cmdX;rw[if_neg z];rfl];generalize ssL ss=SL at *;have b:dIx (.lst [.str "",.str "nothing done"]) (.int 0)=some (.str ""):=rfl;simp only[sSeq,sIf,fTst,fBin,fVar,fC,dEq,bc,ax,ai,af,ac,aj,decide_true,if_true,sRet,fLst,f7,aq,fNil,d5,ak,b9,show 0+1+1<=64 by decide,Z,decide_false,bInt,b];rfl
 | d x =>
   cases x with
   | dry =>
     refine setT (d:=.str "dry") rfl (ifN0 (by rfl) (ifP (by rfl) ?_));show Rt _ (dueW (dryX ss n));unfold dryX;refine ifT0 (by exact eqq (U _) rfl) (λz=>by rw[if_neg (by lia)];rfl) λz=>?_;rw[if_pos (by lia)];refine ifN0 (by exact andF rfl) (ifN0 (by exact andF rfl) (ifN0 (by exact andF rfl) (ifN0 (by exact andF rfl) ?_)));exact I _ _
   | put a h l =>
     refine setT (d:=.str "put") rfl (ifN0 (by rfl) (ifN (by rfl) ?_));show Rt _ (dueW (putX ss n a h l));unfold putX;refine ifT (by exact orq (ltq (a:=a) rfl rfl) λ_=>gtq (a:=a) rfl (R _)) (λz=>by rw[if_pos z];rfl) λz=>?_;rw[if_neg z];refine ifN0 (by exact andF rfl) (ifN0 (by exact andF rfl) ?_);refine ifT0 (by exact(andT rfl).trans (orq (ltq (a:=h) rfl rfl) λ_=>gtq (a:=h) rfl rfl)) (λz=>by rw[if_pos z];rfl) λz=>?_;rw[if_neg z];refine ifT0 (by exact(andT rfl).trans (orq (ltq (a:=l) rfl rfl) λ_=>gtq (a:=l) rfl rfl)) (λz=>by rw[if_pos z];rfl) λz=>?_;rw[if_neg z];refine ifT0 (by exact(andT rfl).trans (geq (U _) rfl)) (λz=>by rw[if_neg (by lia)];rfl) λz=>?_;rw[if_pos (by lia)];exact I _ _
   | tell a m l =>
     refine setT (d:=.str "tell") rfl (ifN0 (by rfl) (ifN (by rfl) ?_));show Rt _ (dueW (td ss n a m l));unfold td;refine ifT (by exact orq (ltq (a:=a) rfl rfl) λ_=>gtq (a:=a) rfl (R _)) (λz=>by rw[if_pos z];rfl) λz=>?_;rw[if_neg z];refine ifT0 (by exact(andT rfl).trans (eqq (len1 _ _ a rfl z) rfl)) (λz=>by rw[if_pos (by lia)];rfl) λf=>?_;rw[if_neg (by lia)];refine ifT0 (by exact(andT rfl).trans (orq (ltq (a:=m) rfl rfl) λ_=>gtq (a:=m) rfl (len1 _ _ a rfl z))) (λz=>by rw[if_pos z];rfl) λz=>?_;rw[if_neg z];refine ifN0 (by exact andF rfl) ?_;refine ifT0 (by exact(andT rfl).trans (orq (ltq (a:=l) rfl rfl) λ_=>gtq (a:=l) rfl rfl)) (λz=>by rw[if_pos z];rfl) λz=>?_;rw[if_neg z];refine ifN0 (by exact andF rfl) ?_;exact I _ _
   | go a =>
     refine setT (d:=.str "go") rfl (ifN0 (by rfl) (ifN (by rfl) ?_));show Rt _ (dueW (goX ss n a));unfold goX;refine ifT (by exact orq (ltq (a:=a) rfl rfl) λ_=>gtq (a:=a) rfl (R _)) (λz=>by rw[if_pos z];rfl) λz=>?_;rw[if_neg z];refine ifT0 (by exact(andT rfl).trans (eqq (len1 _ _ a rfl z) rfl)) (λz=>by rw[if_pos (by lia)];rfl) λf=>?_;rw[if_neg (by lia)];refine ifN0 (by exact andF rfl) (ifN0 (by exact andF rfl) (ifN0 (by exact andF rfl) (ifN0 (by exact andF rfl) ?_)));exact I _ _
def askX:Cmd->k4->i0->Option (Str×k4)
 | .d (.put _ _ _)=>xk | .d (.tell _ _ _)=>xt | .d (.go _)=>xh | .d .dry=>xi | .back=>xr
def askM:Cmd->k4->i0->k6
 | .d (.put _ _ _)=>y8 | .d (.tell _ _ _)=>zn | .d (.go _)=>yw | .d .dry=>zd | .back=>zl
def askD:Cmd->i0
 | .d (.put a h l)=>[.int a,.int h,.int l] | .d (.tell a m l)=>[.int a,.int m,.int l] | .d (.go a)=>[.int a] | _=>[]
theorem uy{p:Nat}{t:k4}(h1:ags.length=p)(h2:ds.length=ar)(D:g (jt n ags ds)=some (.rt d,e))(I:outA e 0 (List.range p)=some t):runL n p ar g ags ds=some (d,t)/\xL n p ar g ags ds=none:=by
 unfold runL xL;rw[if_pos ⟨h1,h2⟩,if_pos ⟨h1,h2⟩,D];dsimp only;rw[I];exact⟨rfl,rfl⟩
theorem xask(D:F (some (.ag kH l ps)::e)=some (ds,some (.ag kH l ps)::e))(I:m [(kH,ps)] ds=some (x,[(kH,ps')])):xK kH 0 (lv m [0] F) (some (.ag kH l ps)::e)=some (x,some (.ag kH l ps')::e):=by
 rw[z4e (i:=0) rfl];exact zrn (i:=0) rfl D I
theorem xasn(D:F (some (.ag kH l ps)::e)=some (ds,some (.ag kH l ps)::e))(I:m [(kH,ps)] ds=none):xK kH 0 (lv m [0] F) (some (.ag kH l ps)::e)=none:=by
 rw[z4e (i:=0) rfl];exact zro (i:=0) rfl D I
variable{m:k4->i0->k6}
theorem mask{x:D}(I:F (some (.ag kH l ps)::e)=some (ds,some (.ag kH l ps)::e))(J:m [(kH,ps)] ds=some (x,[(kH,ps')])):fK kH 0 (kg m [0] F) (some (.ag kH l ps)::e)=some (x,some (.ag kH l ps')::e):=by
 rw[z7 (i:=0) rfl];exact wp (i:=0) rfl I J
local macro_rules | `(tactic| walk_at "A") => `(tactic| simp only [zjc, sSeq, sIf, fTst, fBin, fIxV, ixSl, fC, dEq, af, ai, ac, aj, decide_true, decide_false, dm, if_false, if_true, sNil, sXp, sRet, *])
theorem z57(c:Cmd)(h:askX c [(kH,ps)] (askD c)=some (x,[(kH,ps')])):xg [(kH,ps)] [cD c]=some (x,[(kH,ps')]):=by
 refine vq (e:=[some (.ag kH (some 0) ps'),some (.sh (cD c))]) rfl rfl ?_ rfl;rw[show jt 2 [(kH,ps)] [cD c]=[some (.ag kH (some 0) ps),some (.sh (cD c))] from rfl];have sn:=sne;cases c with
 | back =>
   have R:atI [D.str "back"] 0=some (.str "back"):=rfl;have J:(("back" : Str) = "put")=False/\(("back" : Str) = "tell")=False/\(("back" : Str) = "go")=False/\(("back" : Str) = "dry")=False:=by refine⟨?_,?_,?_,?_⟩ <;> exact eq_false (by decide)
   have q:=xask (l:=some 0) (F:=fNil) (e:=[some (.sh (cD .back))]) rfl h;simp only[cD,askX] at q ⊢;walk_at "A"
 | d y =>
   cases y with
   | put a b z =>
     have I:=at_4 (x:=D.str "put") (y:=.int a) (z:=.int b) (w:=.int z);have q:=xask (l:=some 0) (F:=aq (fIxV 1 (fC (.int 1))) (aq (fIxV 1 (fC (.int 2))) (aq (fIxV 1 (fC (.int 3))) fNil))) (e:=[some (.sh (cD (.d (.put a b z))))]) rfl h;simp only[cD,dD,askX] at q ⊢;walk_at "A"
   | tell a b z =>
     have I:=at_4 (x:=D.str "tell") (y:=.int a) (z:=.int b) (w:=.int z);have q:=xask (l:=some 0) (F:=aq (fIxV 1 (fC (.int 1))) (aq (fIxV 1 (fC (.int 2))) (aq (fIxV 1 (fC (.int 3))) fNil))) (e:=[some (.sh (cD (.d (.tell a b z))))]) rfl h;simp only[cD,dD,askX] at q ⊢;walk_at "A"
   | go a =>
     have I:atI [D.str "go",.int a] 0=some (.str "go"):=rfl;have q:=xask (l:=some 0) (F:=aq (fIxV 1 (fC (.int 1))) fNil) (e:=[some (.sh (cD (.d (.go a))))]) rfl h;simp only[cD,dD,askX] at q ⊢;walk_at "A"
   | dry =>
     have I:atI [D.str "dry"] 0=some (.str "dry"):=rfl;have J:(("dry" : Str) = "go")=False:=eq_false (by decide);have q:=xask (l:=some 0) (F:=fNil) (e:=[some (.sh (cD (.d .dry)))]) rfl h;simp only[cD,dD,askX] at q ⊢;walk_at "A"
theorem z58(c:Cmd)(J:askX c [(kH,ps)] (askD c)=none)(h:askM c [(kH,ps)] (askD c)=some (d,[(kH,ps')])):zhh [(kH,ps)] [cD c]=some (d,[(kH,ps')])/\xg [(kH,ps)] [cD c]=none:=by
 refine uy (e:=[some (.ag kH (some 0) ps'),some (.sh (cD c))]) rfl rfl ?_ rfl;rw[show jt 2 [(kH,ps)] [cD c]=[some (.ag kH (some 0) ps),some (.sh (cD c))] from rfl];have sn:=sne;cases c with
 | back =>
   have U:atI [D.str "back"] 0=some (.str "back"):=rfl;have S:(("back" : Str) = "put")=False/\(("back" : Str) = "tell")=False/\(("back" : Str) = "go")=False/\(("back" : Str) = "dry")=False:=by refine⟨?_,?_,?_,?_⟩ <;> exact eq_false (by decide)
   have I:=xasn (l:=some 0) (F:=fNil) (e:=[some (.sh (cD .back))]) rfl J;have q:=mask (l:=some 0) (F:=fNil) (e:=[some (.sh (cD .back))]) rfl h;simp only[cD,askX,askM] at I q ⊢;walk_at "A"
 | d y =>
   cases y with
   | put a b z =>
     have R:=at_4 (x:=D.str "put") (y:=.int a) (z:=.int b) (w:=.int z);have I:=xasn (l:=some 0) (F:=aq (fIxV 1 (fC (.int 1))) (aq (fIxV 1 (fC (.int 2))) (aq (fIxV 1 (fC (.int 3))) fNil))) (e:=[some (.sh (cD (.d (.put a b z))))]) rfl J;have q:=mask (l:=some 0) (F:=aq (fIxV 1 (fC (.int 1))) (aq (fIxV 1 (fC (.int 2))) (aq (fIxV 1 (fC (.int 3))) fNil))) (e:=[some (.sh (cD (.d (.put a b z))))]) rfl h;simp only[cD,dD,askX,askM] at I q ⊢;walk_at "A"
   | tell a b z =>
     have R:=at_4 (x:=D.str "tell") (y:=.int a) (z:=.int b) (w:=.int z);have I:=xasn (l:=some 0) (F:=aq (fIxV 1 (fC (.int 1))) (aq (fIxV 1 (fC (.int 2))) (aq (fIxV 1 (fC (.int 3))) fNil))) (e:=[some (.sh (cD (.d (.tell a b z))))]) rfl J;have q:=mask (l:=some 0) (F:=aq (fIxV 1 (fC (.int 1))) (aq (fIxV 1 (fC (.int 2))) (aq (fIxV 1 (fC (.int 3))) fNil))) (e:=[some (.sh (cD (.d (.tell a b z))))]) rfl h;simp only[cD,dD,askX,askM] at I q ⊢;walk_at "A"
   | go a =>
     have R:atI [D.str "go",.int a] 0=some (.str "go"):=rfl;have I:=xasn (l:=some 0) (F:=aq (fIxV 1 (fC (.int 1))) fNil) (e:=[some (.sh (cD (.d (.go a))))]) rfl J;have q:=mask (l:=some 0) (F:=aq (fIxV 1 (fC (.int 1))) fNil) (e:=[some (.sh (cD (.d (.go a))))]) rfl h;simp only[cD,dD,askX,askM] at I q ⊢;walk_at "A"
   | dry =>
     have R:atI [D.str "dry"] 0=some (.str "dry"):=rfl;have S:(("dry" : Str) = "go")=False:=eq_false (by decide);have I:=xasn (l:=some 0) (F:=fNil) (e:=[some (.sh (cD (.d .dry)))]) rfl J;have q:=mask (l:=some 0) (F:=fNil) (e:=[some (.sh (cD (.d .dry)))]) rfl h;simp only[cD,dD,askX,askM] at I q ⊢;walk_at "A"
theorem z4j(c:Cmd)(h:askX c [(kH,ps)] (askD c)=some (x,[(kH,ps)]))(D:wd x=some w):qh [(kH,ps)] [cD c]=some (.tup [.str "refused",.str w],[(kH,ps)]):=by
 have q:=zrn (m:=xg) (F:=aq (fVar 1) fNil) (e:=[some (.ag kH (some 0) ps),some (.sh (cD c)),some (.sh (.tup [.str "refused",.str ""])),none]) (i:=0) (l:=some 0) (ps:=ps) (ds:=[cD c]) rfl rfl (z57 c h);have k1:kdT x=some (.tup [.str "refused",.str w]):=by unfold kdT;rw[D];rfl
 refine(uy (e:=[some (.ag kH (some 0) ps),some (.sh (cD c)),some (.sh (.tup [.str "refused",.str w])),none]) rfl rfl ?_ rfl).1;rw[show jt 4 [(kH,ps)] [cD c]=[some (.ag kH (some 0) ps),some (.sh (cD c)),none,none] from rfl];simp[zf3] at q ⊢;simp[sTry,q,k1]
theorem zvc(c:Cmd)(I:askX c [(kH,ps)] (askD c)=none)(h:askM c [(kH,ps)] (askD c)=some (d,[(kH,ps')])):qh [(kH,ps)] [cD c]=some (d,[(kH,ps')]):=by
 obtain⟨J,R⟩:=z58 c I h;have D:=zro (m:=xg) (F:=aq (fVar 1) fNil) (e:=[some (.ag kH (some 0) ps),some (.sh (cD c)),some (.sh (.tup [.str "refused",.str ""])),none]) (i:=0) (l:=some 0) (ps:=ps) (ds:=[cD c]) rfl rfl R;have q:=wp (m:=zhh) (F:=aq (fVar 1) fNil) (e:=[some (.ag kH (some 0) ps),some (.sh (cD c)),some (.sh (.tup [.str "refused",.str ""])),none]) (i:=0) (l:=some 0) (ps:=ps) (ds:=[cD c]) rfl rfl J;refine(uy (e:=[some (.ag kH (some 0) ps'),some (.sh (cD c)),some (.sh (.tup [.str "refused",.str ""])),none]) rfl rfl ?_ rfl).1;rw[show jt 4 [(kH,ps)] [cD c]=[some (.ag kH (some 0) ps),some (.sh (cD c)),none,none] from rfl];simp[zf3] at D q ⊢;simp[sTry,D,q]
theorem cp_o(ss:k8)(J:ss.length<=1000)(e:DE0):tq (fiS (fVar 0)) [] (jk sx (aq (fVar 0) fNil)) (some (.sh (ssL ss))::e)=some (dsO ss,some (.sh (ssL ss))::e):=by
 have c:=zl4 (te:=jk sx (aq (fVar 0) (fNil))) (base:=[]) (λs:k7=>D.lst (s.map sD)) (λs:k7=>s.map sD) ss λs _=>⟨_,by simp;rfl⟩;have I:Few (ss.map λs=>D.lst (s.map sD)).length:=few (by rw[ae];lia);unfold ssL dsO;generalize (ss.map λs=>D.lst (s.map sD))=L at *;simp[tq,I,c]
theorem x0(ss:k8):D.lst ((dsO ss).map D.lst)=ssL ss:=by unfold dsO ssL;rw[jc];rfl
local macro_rules | `(tactic| walk_at "S") => `(tactic| simp only [ue, sSeq, zwd, sSet, fC, jd, fIxV, ixSl, fVar, fBin, fTst, sIf, sNil, dGt, dEq, dSub, af, ai, ac, aj, ax, bc, ak, b9, decide_true, decide_false, dm, if_false, if_true, sRet, fLst, f7, aq, fNil, uo, frsE, frs1, ci, du, *])
variable{x:Sk}
theorem at_0{x:D}{l:i0}:atI (x::l) 0=some x:=by unfold atI ixN;simp
variable{a:Nat}{num:Int}
theorem zxu{l:Int}(R:1<=a)(c:a<=ss.length)(d:ss.length<=5)(f:(ss.getD (a-1) []).length<=1000):ql [ssL ss,dD (.put a h l),.int num]=some (.lst [ssL (putS ss a (num,h,l)),.int num]):=by
 have g:=λe=>cp_o ss (by lia) e;have S:=at_4 (x:=D.str "put") (y:=.int (a:Int)) (z:=.int h) (w:=.int l);have i:((1:Int)<((0+1+1+1+1:Nat):Int))=True:=eq_true (by decide);have I:ss[a-1]?=some (ss.getD (a-1) []):=by rw[bu,bi (by lia)];rfl
 have j:ixN (dsO ss).length ((a:Int)-1)=some (a-1):=by
  rw[t6 (by lia) (by unfold dsO;rw[ae];lia)];congr 1;lia
 have U:(dsO ss).set (a-1) (((num,h,l)::ss.getD (a-1) []).map sD)=dsO (putS ss a (num,h,l)):=by unfold putS dsO;rw[io]
 have V:=ph I R;have Y:Few (0+1+((ss.getD (a-1) []).map sD).length):=few (by rw[ae];lia);have Z:noLs (D.tup [.int num,.int h,.int l]::(ss.getD (a-1) []).map sD)=true:=zyz ((num,h,l)::ss.getD (a-1) []);have ct:qp false (fCat (fLst (f7 (aq (fTup (aq (fVar 2) (aq (fIxV 1 (fC (.int 2))) (aq (fIxV 1 (fC (.int 3))) (fNil))))) (fNil)))) (fIxV 3 (fVar 4))) [some (.sh (ssL ss)),some (.sh (dD (.put a h l))),some (.sh (.int num)),some (.o2 (dsO ss)),some (.sh (.int ((a:Int)-1))),none]=some (((num,h,l)::ss.getD (a-1) []).map sD,[some (.sh (ssL ss)),some (.sh (dD (.put a h l))),some (.sh (.int num)),some (.o2 (dsO ss)),some (.sh (.int ((a:Int)-1))),none]):=by
  have b:frz false [some (.sh (ssL ss)),some (.sh (dD (.put a h l))),some (.sh (.int num)),some (.o2 (dsO ss)),some (.sh (.int ((a:Int)-1))),none]=[some (.sh (ssL ss)),some (.sh (dD (.put a h l))),some (.sh (.int num)),some (.sh (ssL ss)),some (.sh (.int ((a:Int)-1))),none]:=by
   rw[<-x0];rfl
  unfold qp;rw[b,show((num,h,l)::ss.getD (a-1) []).map sD=D.tup [.int num,.int h,.int l]::(ss.getD (a-1) []).map sD from rfl];unfold ssL dD;generalize (ss.getD (a-1) []).map sD=TL at *;generalize (ss.map λs=>D.lst (s.map sD))=SL at *;simp[S,V,Y,Z]
 rw[<-x0 (putS ss a (num,h,l)),<-U];suffices J:∃e',ue [some (.sh (ssL ss)),some (.sh (dD (.put a h l))),some (.sh (.int num)),none,none,none]=some (.rt (.lst [.lst (((dsO ss).set (a-1) (((num,h,l)::ss.getD (a-1) []).map sD)).map D.lst),.int num]),e') from let ⟨_,J⟩:=J;j7 rfl J;simp only[dD] at ct ⊢;walk_at "S";exact⟨_,rfl⟩
theorem zve{m:Nat}{l:Int}(I:ss[a-1]?=some t)(R:t[m-1]?=some x)(S:1<=a)(g:1<=m)(h:ss.length<=5):ql [ssL ss,dD (.tell a m l),.int num]=some (.lst [ssL (ss.set (a-1) (t.set (m-1) (x.1,x.2.1,l))),.int x.2.2]):=by
 have i:=λe=>cp_o ss (by lia) e;have sn:=sne;have U:=at_4 (x:=D.str "tell") (y:=.int (a:Int)) (z:=.int (m:Int)) (w:=.int l);have j:atI [D.int x.1,.int x.2.1,.int x.2.2] 0=some (.int x.1)/\atI [D.int x.1,.int x.2.1,.int x.2.2] 1=some (.int x.2.1)/\atI [D.int x.1,.int x.2.1,.int x.2.2] 2=some (.int x.2.2):=⟨rfl,rfl,rfl⟩;have k:((1:Int)<((0+1+1+1+1:Nat):Int))=True:=eq_true (by decide);have V:(0+1+1<=64)=True/\(0+1+1+1<=64)=True:=⟨eq_true (by decide),eq_true (by decide)⟩;have n:=(ah.mp I).1;have o:=(ah.mp R).1;have p:ixN (dsO ss).length ((a:Int)-1)=some (a-1):=by
  rw[t6 (by lia) (by unfold dsO;rw[ae];lia)];congr 1;lia
 have Y:(dsO ss)[a-1]?=some (t.map sD):=by unfold dsO;rw[bz,I];rfl
 have Z:ixN (t.map sD).length ((m:Int)-1)=some (m-1):=by
  rw[t6 (by lia) (by rw[ae];lia)];congr 1;lia
 have b:(dsO ss).set (a-1) ((t.map sD).set (m-1) (.tup [.int x.1,.int x.2.1,.int l]))=dsO (ss.set (a-1) (t.set (m-1) (x.1,x.2.1,l))):=by
  unfold dsO;rw[io,io];rfl
 have c:=ph I S;have d:atI (t.map sD) ((m:Int)-1)=some (sD x):=by
  rw[show(m:Int)-1=((m-1:Nat):Int) by lia];exact l3 sD R
 have ct:fFrz false (fBin dIx (fIxV 3 (fVar 4)) (fBin dSub (fIxV 1 (fC (.int 2))) (fC (.int 1)))) [some (.sh (ssL ss)),some (.sh (dD (.tell a m l))),some (.sh (.int num)),some (.o2 (dsO ss)),some (.sh (.int ((a:Int)-1))),none]=some (sD x,[some (.sh (ssL ss)),some (.sh (dD (.tell a m l))),some (.sh (.int num)),some (.o2 (dsO ss)),some (.sh (.int ((a:Int)-1))),none]):=by
  have f:frz false [some (.sh (ssL ss)),some (.sh (dD (.tell a m l))),some (.sh (.int num)),some (.o2 (dsO ss)),some (.sh (.int ((a:Int)-1))),none]=[some (.sh (ssL ss)),some (.sh (dD (.tell a m l))),some (.sh (.int num)),some (.sh (ssL ss)),some (.sh (.int ((a:Int)-1))),none]:=by
   rw[<-x0];rfl
  unfold fFrz;rw[f];unfold ssL dD;simp[U,c,d];rfl
 rw[<-x0 (ss.set (a-1) (t.set (m-1) (x.1,x.2.1,l))),<-b];suffices J:∃e',ue [some (.sh (ssL ss)),some (.sh (dD (.tell a m l))),some (.sh (.int num)),none,none,none]=some (.rt (.lst [.lst (((dsO ss).set (a-1) ((t.map sD).set (m-1) (.tup [.int x.1,.int x.2.1,.int l]))).map D.lst),.int x.2.2]),e') from let ⟨_,J⟩:=J;j7 rfl J;simp only[dD,sD] at ct ⊢;walk_at "S";simp only[zq5,fTup];walk_at "S";exact⟨_,rfl⟩
theorem zru{v1 v2:kf}(S:ss[a-1]?=some (x::tl))(U:1<=a)(g:ss.length<=5)(V:tl.length<=1000) :
  ∃e',(sSeq (sSet 5 (fFrz false (fBin dIx (fIxV 3 (fVar 4)) (fC (.int 0))))) (sSeq (uo 3 (fVar 4) (qp false (fSl (fIxV 3 (fVar 4)) (fO1 (fC (.int 1))) (fO0)))) (sRet (fLst (f7 (aq (fVar 3) (aq (fVar 5) (fNil)))))))) [some (.sh (ssL ss)),v1,v2,some (.o2 (dsO ss)),some (.sh (.int ((a:Int)-1))),none]=some (.rt (.lst [ssL (ss.set (a-1) tl),sD x]),e'):=by
 have h:=(ah.mp S).1;have Y:ixN (dsO ss).length ((a:Int)-1)=some (a-1):=by
  rw[t6 (by lia) (by unfold dsO;rw[ae];lia)];congr 1;lia
 have Z:(dsO ss).set (a-1) (tl.map sD)=dsO (ss.set (a-1) tl):=by unfold dsO;rw[io]
 have I:=ph S U;have b:atI (sD x::tl.map sD) 0=some (sD x):=at_0;have J:=zky (sD x::tl.map sD) 1 (by simp);have c:noLs (tl.map sD)=true:=zyz tl;have R:(0+1+1<=64)=True:=eq_true (by decide);have d:(frz false [some (.sh (ssL ss)),v1,v2,some (.o2 (dsO ss)),some (.sh (.int ((a:Int)-1))),none])[3]?=some (some (.sh (ssL ss)))/\(frz false [some (.sh (ssL ss)),v1,v2,some (.o2 (dsO ss)),some (.sh (.int ((a:Int)-1))),none])[4]?=some (some (.sh (.int ((a:Int)-1)))):=⟨zyy rfl,zyx rfl⟩;have e:(frz false [some (.sh (ssL ss)),v1,v2,some (.o2 (dsO ss)),some (.sh (.int ((a:Int)-1))),some (.sh (sD x))])[3]?=some (some (.sh (ssL ss)))/\(frz false [some (.sh (ssL ss)),v1,v2,some (.o2 (dsO ss)),some (.sh (.int ((a:Int)-1))),some (.sh (sD x))])[4]?=some (some (.sh (.int ((a:Int)-1)))):=⟨zyy rfl,zyx rfl⟩;have ct:fFrz false (fBin dIx (fIxV 3 (fVar 4)) (fC (.int 0))) [some (.sh (ssL ss)),v1,v2,some (.o2 (dsO ss)),some (.sh (.int ((a:Int)-1))),none]=some (sD x,[some (.sh (ssL ss)),v1,v2,some (.o2 (dsO ss)),some (.sh (.int ((a:Int)-1))),none]):=by
  unfold fFrz;unfold ssL at *;simp[d,I,b];rfl
 have f:qp false (fSl (fIxV 3 (fVar 4)) (fO1 (fC (.int 1))) (fO0)) [some (.sh (ssL ss)),v1,v2,some (.o2 (dsO ss)),some (.sh (.int ((a:Int)-1))),some (.sh (sD x))]=some (tl.map sD,[some (.sh (ssL ss)),v1,v2,some (.o2 (dsO ss)),some (.sh (.int ((a:Int)-1))),some (.sh (sD x))]):=by
  unfold qp;unfold ssL at *;rw[ci] at I;generalize tl.map sD=TL at *;generalize (ss.map λs=>D.lst (s.map sD))=SL at *;have J:cutD (sD x::TL) (some 1) none=TL:=J;simp[e,I,J,c]
 rw[<-x0 (ss.set (a-1) tl),<-Z];generalize tl.map sD=TL at *;generalize dsO ss=SO at *;simp only[sSeq,sSet,ct,aj,ac,ax,bc,uo,f,af,ai,frsE,frs1,ci,du,fVar,Y,sRet,fLst,f7,aq,fNil,ak,b9,R,if_true];exact⟨_,rfl⟩
theorem z08(J:ss[a-1]?=some (x::tl))(R:1<=a)(S:ss.length<=5)(I:tl.length<=1000):ql [ssL ss,dD (.go a),.int num]=some (.lst [ssL (ss.set (a-1) tl),sD x]):=by
 obtain⟨e',st⟩:=zru (v1:=some (.sh (dD (.go a)))) (v2:=some (.sh (.int num))) J R S I;have U:=λe=>cp_o ss (by lia) e;have sn:=sne;have V:atI [D.str "go",.int (a:Int)] 0=some (.str "go")/\atI [D.str "go",.int (a:Int)] 1=some (.int (a:Int)):=⟨rfl,rfl⟩;have Y:((1:Int)<((0+1+1:Nat):Int))=True:=eq_true (by decide);refine j7 (e':=e') rfl (?_:ue [some (.sh (ssL ss)),some (.sh (dD (.go a))),some (.sh (.int num)),none,none,none]=_);rw[<-st];simp only[dD];simp[ue,U,Y,V,sn]
variable{v:D}
theorem zrv{u w:D}{ts:i0}(J:za [ssL ss]=some (.lst (.tup [.int (a:Int),u,v,w]::ts)))(R:ss[a-1]?=some (x::tl))(S:1<=a)(U:ss.length<=5)(I:tl.length<=1000):ql [ssL ss,dD .dry,.int num]=some (.lst [ssL (ss.set (a-1) tl),sD x]):=by
 obtain⟨e',st⟩:=zru (v1:=some (.sh (dD .dry))) (v2:=some (.sh (.int num))) R S U I;have V:=λe=>cp_o ss (by lia) e;have sn:=sne;have Y:atI [D.str "dry"] 0=some (.str "dry"):=rfl;have Z:atI (.tup [.int (a:Int),u,v,w]::ts) 0=some (.tup [.int (a:Int),u,v,w]):=at_0;have b:atI [D.int (a:Int),u,v,w] 0=some (.int (a:Int)):=rfl;have c:((1:Int)<((0+1:Nat):Int))=False:=eq_false (by decide);refine j7 (e':=e') rfl (?_:ue [some (.sh (ssL ss)),some (.sh (dD .dry)),some (.sh (.int num)),none,none,none]=_);rw[<-st];simp only[dD];simp[ue,V,c,Y,sn,J,Z,b]
def stP(k:ll)(p:lx)(s:Hs):kb:=[.d (ssL s.1),.o (k.map dD),.o (p.map stD),.d (spL s.2)]
structure SI (n i:Nat) (s:Hs):Prop where
 len:s.1.length=n
 few:s.1.flatten.length<=14
 good:∀x∈s.1.flatten,iy x
 chain:pf 0 s.2
 rate:∀x∈s.2,0<=x.2.2/\x.2.2<=100000
 sp:s.2.length<=i
 hour:n4 0 s.2<=60*s.2.length
def Stp(k:ll)(s:Hs)(d:Deed)(s':Hs):Prop:=cmdX s.1 k.length (.d d)=none/\∃ans,ql [ssL s.1,dD d,.int (jx k)]=some (.lst [ssL s'.1,ans])/\match d with | .dry=>∃x:Sk,ans=sD x/\s'.2=s.2++[(hrOf s.2,hrOf s.2+x.2.1,lss s.1.flatten)] | _=>s'.2=s.2
structure HI (n:Nat) (k:ll) (p:lx) (s:Hs):Prop where
 n5:n<=5
 k60:k.length<=60
 kp:p.length=k.length
 all:∀i t,(p++[s])[i]?=some t->SI n i t
 st0:(p++[s])[0]?=some (newS n)
 tr:∀i d t t',k[i]?=some d->(p++[s])[i]?=some t->(p++[s])[i+1]?=some t'->Stp (k.take i) t d t'
theorem HI.at(h:HI n k p s):SI n k.length s:=h.all k.length s (by rw[<-h.kp];simp)
variable{x:Str}
theorem wo{x:Nat}(h:e[i]?=some (some (.ag .ls (some r) ps)))(h2:e[x]?=some (some (.al r (n8 ps j))))(D:ps[j]?=some (.o ds)):ko (.al x) i j e=some ds:=by
 unfold ko agAt;rw[if_pos (show Acc.ok (.al x) e i j from⟨_,_,_,h,h2⟩),h];dsimp;rw[D]
theorem z4k(h:c∈kn):∃w,wd c=some w/\(w=("" : Str))=False:=by
 simp[kn] at h;rcases h with rfl | rfl | rfl | rfl | rfl | rfl | rfl | rfl | rfl | rfl | rfl | rfl | rfl <;> exact⟨_,rfl,eq_false (by decide)⟩
variable{c:Cmd}
theorem zxv(h:cmdX ss n c=some x):x∈kn:=by
 cases c with
 | back =>
   simp only[cmdX] at h;split at h
   ·cases h;decide
   ·cases h
 | d y =>
   cases y with
   | put a b l=>simp only[cmdX,putX] at h;(repeat' split at h) <;> (first | cases h) <;> decide
   | tell a b l=>simp only[cmdX,td] at h;(repeat' split at h) <;> (first | cases h) <;> decide
   | go a=>simp only[cmdX,goX] at h;(repeat' split at h) <;> (first | cases h) <;> decide
   | dry=>simp only[cmdX,dryX] at h;(repeat' split at h) <;> (first | cases h) <;> decide
theorem z09(hi:HI n k p s)(h:cmdX s.1 k.length c=some x):askX c [hA k (p++[s])] (askD c)=some (x,[hA k (p++[s])]):=by
 have l5:s.1.length<=5:=by rw[hi.at.len];exact hi.n5
 cases c with
 | back =>
   simp only[cmdX] at h;split at h
   ·cases h
    rename_i q;obtain rfl:=jo q;exact z4i
   ·cases h
 | d y =>
   cases y with
   | put a b l=>exact z55 h l5
   | tell a b l=>exact z4h h l5
   | go a=>exact go_x h l5
   | dry=>exact z56 h l5
theorem z4l(hi:HI n k p s)(h:cmdX s.1 k.length c=some x):qg [hA k (p++[s]),(.ls,stP k p s)] [cD c]=some (.bl true,[hA k (p++[s]),(.ls,stP k p s)]):=by
 obtain⟨w,I,D⟩:=z4k (zxv h);have rf:=zil s.1 k.length c (by rw[hi.at.len];exact hi.n5);rw[h,show dueW (some x)=w by show(wd x).getD "" = w;rw[I];rfl] at rf;have cl:=z4j c (z09 hi h) I;have R:=zjb [.str "refused",.str w] (by simp[plD]) (by simp);have S:((k.map dD).length:Int)=k.length:=by rw[ae]
 have pl:=wo (e:=[some (.ag kH (some 0) (hP k (p++[s]))),some (.ag .ls (some 1) (stP k p s)),some (.sh (cD c)),some (.sh (ssL s.1)),some (.al 1 0),some (.al 1 1),some (.sh (spL s.2)),none,none,none,none,none]) (i:=1) (x:=4) (j:=1) (ds:=k.map dD) rfl rfl rfl;have J:=wp (m:=qh) (F:=aq (fVar 2) fNil) (e:=[some (.ag kH (some 0) (hP k (p++[s]))),some (.ag .ls (some 1) (stP k p s)),some (.sh (cD c)),some (.sh (ssL s.1)),some (.al 1 0),some (.al 1 1),some (.sh (spL s.2)),some (.sh (.str w)),none,none,none,none]) (i:=0) (l:=some 0) (ps:=hP k (p++[s])) (ds:=[cD c]) rfl rfl cl;refine(uy (e:=[some (.ag kH (some 0) (hP k (p++[s]))),some (.ag .ls (some 1) (stP k p s)),some (.sh (cD c)),some (.sh (ssL s.1)),some (.al 1 0),some (.al 1 1),some (.sh (spL s.2)),some (.sh (.str w)),some (.sh (.tup [.str "refused",.str w])),none,none,none]) rfl rfl ?_ rfl).1;rw[show jt 12 [hA k (p++[s]),(.ls,stP k p s)] [cD c]=[some (.ag kH (some 0) (hP k (p++[s]))),some (.ag .ls (some 1) (stP k p s)),some (.sh (cD c)),none,none,none,none,none,none,none,none,none] from rfl];have un:um 1 [3,4,5,6] [some (.ag kH (some 0) (hP k (p++[s]))),some (.ag .ls (some 1) (stP k p s)),some (.sh (cD c)),none,none,none,none,none,none,none,none,none]=some (.nx,[some (.ag kH (some 0) (hP k (p++[s]))),some (.ag .ls (some 1) (stP k p s)),some (.sh (cD c)),some (.sh (ssL s.1)),some (.al 1 0),some (.al 1 1),some (.sh (spL s.2)),none,none,none,none,none]):=rfl;generalize hP k (p++[s])=HP at *;generalize spL s.2=SP at *;rw[<-S] at rf;generalize k.map dD=KL at *;simp at J;simp[xf,un,pLen,pl,rf];simp[J,D,R]
theorem z4m(D:e[4]?=some (some (.sh (.lst (k.map dD)))))(J:k.length<=1000):fBin il (fC (.int 1)) (d5 bLen (aq (fLst (iq (fiS (fVar 4)) [] (fTst (fBin dEq (fIxV 0 (fC (.int 0))) (fC (.str "put")))) (fVar 0))) (fNil))) e=some (.int (jx k),e):=by
 have c:=zks (tt:=fTst (fBin dEq (fIxV 0 (fC (.int 0))) (fC (.str "put")))) (te:=fVar 0) (base:=[]) dD dD Deed.isPut k λx _=>by
  cases x with
  | put a h l=>exact⟨_,rfl,λ_=>⟨_,rfl⟩⟩
  | tell a p l=>exact⟨_,rfl,λz=>nomatch z⟩
  | go a=>exact⟨_,rfl,λz=>nomatch z⟩
  | dry=>exact⟨_,rfl,λz=>nomatch z⟩
 have I:Few (k.map dD).length:=few (by rw[ae];lia);unfold jx;generalize k.map dD=L at *;simp[iq,D,I,c]
variable{x:Sk}
theorem zrw{x:Nat}(h:e[1]?=some (some (.ag .ls (some r) ps)))(h2:e[x]?=some (some (.al r (n8 ps j))))(D:ps[j]?=some (.o ds))(I:f e=some (d,e))(J:Few (ds.length+1)) :
  qc (.al x) 1 j f e=some (.non,e.set 1 (some (.ag .ls (some r) (ps.set j (.o (ds++[d])))))):=by
 unfold qc;rw[h];dsimp only;rw[if_pos (show labO .ls (some r) from⟨rfl,λ_ _ z=>nomatch z⟩),wo h h2 D,ac,I,ac];unfold appP;rw[h];dsimp only;rw[D];dsimp only;rw[if_pos ⟨rfl,rfl,rfl,J⟩];unfold setP;rw[h]
def z4n:Deed->Bool | .dry=>true | _=>false
variable{d:Deed}{ss':k8}{ans:D}
theorem z59(hi:HI n k p s)(U:z4n d=false)(h:cmdX s.1 k.length (.d d)=none)(b:k.length<=100)(cl:qh [hA k (p++[s])] [dD d]=some (ans,[hA (k++[d]) (p++[s]++[(ss',s.2)])]))(st:ql [ssL s.1,dD d,.int (jx k)]=some (.lst [ssL ss',ans]))(I:xw [ans,ans]=some (.bl true))(c:noL ans=true) :
  qg [hA k (p++[s]),(.ls,stP k p s)] [dD d]=some (.bl true,[hA (k++[d]) (p++[s]++[(ss',s.2)]),(.ls,stP (k++[d]) (p++[s]) (ss',s.2))]):=by
 have rf:=zil s.1 k.length (.d d) (by rw[hi.at.len];exact hi.n5);rw[h,show dueW none = "" from rfl] at rf;have D:((k.map dD).length:Int)=k.length:=by rw[ae]
 obtain⟨w,ws,ew,hb,hdr⟩:∃w ws,dD d=.tup (.str w::ws)/\(w=("back" : Str))=False/\(w=("dry" : Str))=False:=by
  cases d with
  | put a h l=>exact⟨_,_,rfl,eq_false (by decide),eq_false (by decide)⟩
  | tell a h l=>exact⟨_,_,rfl,eq_false (by decide),eq_false (by decide)⟩
  | go a=>exact⟨_,_,rfl,eq_false (by decide),eq_false (by decide)⟩
  | dry=>cases U
 have pl:=wo (e:=[some (.ag kH (some 0) (hP k (p++[s]))),some (.ag .ls (some 1) (stP k p s)),some (.sh (dD d)),some (.sh (ssL s.1)),some (.al 1 0),some (.al 1 1),some (.sh (spL s.2)),none,none,none,none,none]) (i:=1) (x:=4) (j:=1) (ds:=k.map dD) rfl rfl rfl;have V:=wp (m:=qh) (F:=aq (fVar 2) fNil) (e:=[some (.ag kH (some 0) (hP k (p++[s]))),some (.ag .ls (some 1) (stP k p s)),some (.sh (dD d)),some (.sh (ssL s.1)),some (.al 1 0),some (.al 1 1),some (.sh (spL s.2)),some (.sh (.str "")),none,none,none,none]) (i:=0) (l:=some 0) (ps:=hP k (p++[s])) (ds:=[dD d]) rfl rfl cl;have nm:fFrz false (fBin il (fC (.int 1)) (d5 bLen (aq (fLst (iq (fiS (fVar 4)) [] (fTst (fBin dEq (fIxV 0 (fC (.int 0))) (fC (.str "put")))) (fVar 0))) (fNil)))) [some (.ag kH (some 0) (hP (k++[d]) (p++[s]++[(ss',s.2)]))),some (.ag .ls (some 1) (stP k p s)),some (.sh (dD d)),some (.sh (ssL s.1)),some (.al 1 0),some (.al 1 1),some (.sh (spL s.2)),some (.sh (.str "")),some (.sh ans),none,none,none]=some (.int (jx k),[some (.ag kH (some 0) (hP (k++[d]) (p++[s]++[(ss',s.2)]))),some (.ag .ls (some 1) (stP k p s)),some (.sh (dD d)),some (.sh (ssL s.1)),some (.al 1 0),some (.al 1 1),some (.sh (spL s.2)),some (.sh (.str "")),some (.sh ans),none,none,none]):=by
  unfold fFrz;rw[z4m (k:=k) rfl (by lia)];rfl
 have Y:=zrw (e:=[some (.ag kH (some 0) (hP (k++[d]) (p++[s]++[(ss',s.2)]))),some (.ag .ls (some 1) (stP k p s)),some (.sh (dD d)),some (.sh (ssL s.1)),some (.al 1 0),some (.al 1 1),some (.sh (spL s.2)),some (.sh (.str "")),some (.sh ans),none,some (.sh (.lst [ssL ss',ans])),none]) (x:=5) (j:=2) (ds:=p.map stD) (f:=fTup (aq (fVar 3) (aq (fVar 6) fNil))) (d:=stD s) rfl rfl rfl rfl (few (by rw[ae];have:=hi.kp;lia));have Z:=zrw (e:=[some (.ag kH (some 0) (hP (k++[d]) (p++[s]++[(ss',s.2)]))),some (.ag .ls (some 1) [.d (ssL s.1),.o (k.map dD),.o (p.map stD++[stD s]),.d (spL s.2)]),some (.sh (dD d)),some (.sh (ssL s.1)),some (.al 1 0),some (.al 1 1),some (.sh (spL s.2)),some (.sh (.str "")),some (.sh ans),none,some (.sh (.lst [ssL ss',ans])),none]) (x:=4) (j:=1) (ds:=k.map dD) (f:=fVar 2) (d:=dD d) rfl rfl rfl rfl (few (by rw[ae];lia));have J:atI (.str w::ws) 0=some (.str w):=at_0;have R:atI [ssL ss',ans] 0=some (ssL ss')/\atI [ssL ss',ans] 1=some ans:=⟨rfl,rfl⟩;refine(uy (e:=[some (.ag kH (some 0) (hP (k++[d]) (p++[s]++[(ss',s.2)]))),some (.ag .ls (some 1) (stP (k++[d]) (p++[s]) (ss',s.2))),some (.sh (dD d)),some (.sh (ssL s.1)),some (.al 1 0),some (.al 1 1),some (.sh (spL s.2)),some (.sh (.str "")),some (.sh ans),none,some (.sh (.lst [ssL ss',ans])),none]) rfl rfl ?_ rfl).1;rw[show jt 12 [hA k (p++[s]),(.ls,stP k p s)] [dD d]=[some (.ag kH (some 0) (hP k (p++[s]))),some (.ag .ls (some 1) (stP k p s)),some (.sh (dD d)),none,none,none,none,none,none,none,none,none] from rfl];have un:um 1 [3,4,5,6] [some (.ag kH (some 0) (hP k (p++[s]))),some (.ag .ls (some 1) (stP k p s)),some (.sh (dD d)),none,none,none,none,none,none,none,none,none]=some (.nx,[some (.ag kH (some 0) (hP k (p++[s]))),some (.ag .ls (some 1) (stP k p s)),some (.sh (dD d)),some (.sh (ssL s.1)),some (.al 1 0),some (.al 1 1),some (.sh (spL s.2)),none,none,none,none,none]):=rfl;have S:stP (k++[d]) (p++[s]) (ss',s.2)=[.d (ssL ss'),.o (k.map dD++[dD d]),.o (p.map stD++[stD s]),.d (spL s.2)]:=by unfold stP;simp
 have rf:zi [ssL s.1,.int (k.length:Int),dD d]=some (.str ""):=rf;rw[S];rw[<-D] at rf;unfold stP at *;generalize dD d=DD at *;subst ew;clear S D cl;generalize hP (k++[d]) (p++[s]++[(ss',s.2)])=HP2 at *;generalize k.map dD=KL at *;simp[xf,un,pLen,pl,rf];simp[V,J,hb];simp[nm,st,Y,Z,pj,R,hdr,I];simp[R,J,hdr,I]
theorem zy0{x:Nat}{d:D}(h:e[1]?=some (some (.ag .ls (some r) ps)))(h2:e[x]?=some (some (.al r (n8 ps j))))(I:ps[j]?=some (.o (ds++[d]))) :
  pPop (.al x) 1 j e=some (d,e.set 1 (some (.ag .ls (some r) (ps.set j (.o ds))))):=by
 unfold pPop;rw[wo h h2 I,ac,show(ds++[d])[(ds++[d]).length-1]?=some d by simp,aj,show(ds++[d]).dropLast=ds by simp];unfold setP;rw[h]
theorem z6a(d:Deed):∃xs,dD d=.tup xs/\(∀x∈xs,plD x)/\xs.length<=1000:=by
 cases d <;> exact⟨_,rfl,by simp[plD],by simp⟩
theorem z1a(hi:HI n (k++[d]) (p++[s]) s') :
  qg [hA (k++[d]) (p++[s]++[s']),(.ls,stP (k++[d]) (p++[s]) s')] [cD .back]=some (.bl true,[hA k (p++[s]),(.ls,stP k p s)]):=by
 have h:cmdX s'.1 (k++[d]).length .back=none:=by simp[cmdX]
 have rf:=zil s'.1 (k++[d]).length .back (by rw[hi.at.len];exact hi.n5);rw[h,show dueW none = "" from rfl] at rf;obtain⟨xs,ex,S,U⟩:=z6a d;have J:=zjb xs S U;rw[<-ex] at J;have R:=z07 (k:=k) (p:=p) (s:=s) (d:=d) (s':=s');have cl:=zvc .back R.1 R.2;have V:stP (k++[d]) (p++[s]) s'=[.d (ssL s'.1),.o (k.map dD++[dD d]),.o (p.map stD++[stD s]),.d (spL s'.2)]:=by unfold stP;simp
 have I:((k.map dD++[dD d]).length:Int)=(k++[d]).length:=by simp
 rw[<-I] at rf;rw[V];have pl:=wo (e:=[some (.ag kH (some 0) (hP (k++[d]) (p++[s]++[s']))),some (.ag .ls (some 1) [.d (ssL s'.1),.o (k.map dD++[dD d]),.o (p.map stD++[stD s]),.d (spL s'.2)]),some (.sh (cD .back)),some (.sh (ssL s'.1)),some (.al 1 0),some (.al 1 1),some (.sh (spL s'.2)),none,none,none,none,none]) (i:=1) (x:=4) (j:=1) (ds:=k.map dD++[dD d]) rfl rfl rfl;have Y:=wp (m:=qh) (F:=aq (fVar 2) fNil) (e:=[some (.ag kH (some 0) (hP (k++[d]) (p++[s]++[s']))),some (.ag .ls (some 1) [.d (ssL s'.1),.o (k.map dD++[dD d]),.o (p.map stD++[stD s]),.d (spL s'.2)]),some (.sh (cD .back)),some (.sh (ssL s'.1)),some (.al 1 0),some (.al 1 1),some (.sh (spL s'.2)),some (.sh (.str "")),none,none,none,none]) (i:=0) (l:=some 0) (ps:=hP (k++[d]) (p++[s]++[s'])) (ds:=[cD .back]) rfl rfl cl;have Z:=zy0 (e:=[some (.ag kH (some 0) (hP k (p++[s]))),some (.ag .ls (some 1) [.d (ssL s'.1),.o (k.map dD++[dD d]),.o (p.map stD++[stD s]),.d (spL s'.2)]),some (.sh (cD .back)),some (.sh (ssL s'.1)),some (.al 1 0),some (.al 1 1),some (.sh (spL s'.2)),some (.sh (.str "")),some (.sh (dD d)),none,none,none]) (x:=5) (j:=2) rfl rfl rfl;have a:=zy0 (e:=[some (.ag kH (some 0) (hP k (p++[s]))),some (.ag .ls (some 1) [.d (ssL s.1),.o (k.map dD++[dD d]),.o (p.map stD),.d (spL s.2)]),some (.sh (cD .back)),some (.sh (ssL s'.1)),some (.al 1 0),some (.al 1 1),some (.sh (spL s'.2)),some (.sh (.str "")),some (.sh (dD d)),some (.sh (.tup [ssL s.1,spL s.2])),none,none]) (x:=4) (j:=1) rfl rfl rfl;refine(uy (e:=[some (.ag kH (some 0) (hP k (p++[s]))),some (.ag .ls (some 1) (stP k p s)),some (.sh (cD .back)),some (.sh (ssL s'.1)),some (.al 1 0),some (.al 1 1),some (.sh (spL s'.2)),some (.sh (.str "")),some (.sh (dD d)),some (.sh (.tup [ssL s.1,spL s.2])),none,none]) rfl rfl ?_ rfl).1;rw[show jt 12 [hA (k++[d]) (p++[s]++[s']),(.ls,[.d (ssL s'.1),.o (k.map dD++[dD d]),.o (p.map stD++[stD s]),.d (spL s'.2)])] [cD .back]=[some (.ag kH (some 0) (hP (k++[d]) (p++[s]++[s']))),some (.ag .ls (some 1) [.d (ssL s'.1),.o (k.map dD++[dD d]),.o (p.map stD++[stD s]),.d (spL s'.2)]),some (.sh (cD .back)),none,none,none,none,none,none,none,none,none] from rfl];have un:um 1 [3,4,5,6] [some (.ag kH (some 0) (hP (k++[d]) (p++[s]++[s']))),some (.ag .ls (some 1) [.d (ssL s'.1),.o (k.map dD++[dD d]),.o (p.map stD++[stD s]),.d (spL s'.2)]),some (.sh (cD .back)),none,none,none,none,none,none,none,none,none]=some (.nx,[some (.ag kH (some 0) (hP (k++[d]) (p++[s]++[s']))),some (.ag .ls (some 1) [.d (ssL s'.1),.o (k.map dD++[dD d]),.o (p.map stD++[stD s]),.d (spL s'.2)]),some (.sh (cD .back)),some (.sh (ssL s'.1)),some (.al 1 0),some (.al 1 1),some (.sh (spL s'.2)),none,none,none,none,none]):=rfl;have b:cD .back=.tup [.str "back"]:=rfl;have c:atI [ssL s.1,spL s.2] 0=some (ssL s.1)/\atI [ssL s.1,spL s.2] 1=some (spL s.2):=⟨rfl,rfl⟩;have f:atI [D.str "back"] 0=some (.str "back"):=rfl;have es:stD s=.tup [ssL s.1,spL s.2]:=rfl;unfold stP;generalize hP (k++[d]) (p++[s]++[s'])=HP2 at *;generalize stD s=SD at *;generalize cD .back=CD at *;subst b es;simp only[xf,sSeq,un,ac,sSet,d5,aq,fNil,fVar,pLen,pl,aj,af,ai,rf,ax,bc];simp[Y,f];simp[Z,pj,c,a,J]
theorem z1b(i:Int):qi [.int i]=some (.bl true):=by
 rfl
theorem zvf(i:Int):xw [.int i,.int i]=some (.bl true)/\noL (.int i)=true:=by
 refine⟨?_,rfl⟩;have w:=z1b i;refine j7 (e':=[some (.sh (.int i)),some (.sh (.int i))]) rfl ?_;rw[show je 2 [D.int i,.int i]=[some (.sh (.int i)),some (.sh (.int i))] from rfl];simp only[zd2,sSeq,sIf,fTst,fIsi,fVar,sNil,sRet,qu,d5,aq,fNil,w,fBin,dEq,af,ai,ac,aj];simp[w]
theorem zy1(x:Sk):xw [sD x,sD x]=some (.bl true)/\noL (sD x)=true:=by
 refine⟨?_,rfl⟩;have w:=zjb [.int x.1,.int x.2.1,.int x.2.2] (by simp[plD]) (by simp);refine j7 (e':=[some (.sh (sD x)),some (.sh (sD x))]) rfl ?_;rw[show je 2 [sD x,sD x]=[some (.sh (sD x)),some (.sh (sD x))] from rfl];simp only[zd2,sSeq,sIf,fTst,fIsi,fVar,sNil,sRet,d5,aq,fNil,sD,w,af,ai,ac,aj];simp
theorem z4o(hi:HI n k p s)(h:cmdX s.1 k.length (.d .dry)=none)(cl:qh [hA k (p++[s])] [dD .dry]=some (sD x,[hA (k++[.dry]) (p++[s]++[dryS s a x tl])]))(st:ql [ssL s.1,dD .dry,.int (jx k)]=some (.lst [ssL (s.1.set (a-1) tl),sD x])) :
  qg [hA k (p++[s]),(.ls,stP k p s)] [dD .dry]=some (.bl true,[hA (k++[.dry]) (p++[s]++[dryS s a x tl]),(.ls,stP (k++[.dry]) (p++[s]) (dryS s a x tl))]):=by
 have I:=hi.at;have l5:s.1.length<=5:=by rw[I.len];exact hi.n5
 have rf:=zil s.1 k.length (.d .dry) l5;rw[h,show dueW none = "" from rfl] at rf;have J:((k.map dD).length:Int)=k.length:=by rw[ae]
 have V:=(zy1 x).1;have R:∀y∈s.1,y.length<=1000:=λy Y=>by
  have h1:=I.few;have h2:=(d9 Y).length_le
  lia
 have Z:=zva s.1 (by lia) R;have b:=I.sp;have B:=I.hour;have C:=hi.k60;have c:=zrs s.2 I.chain (by lia);have g:(((rts s.2).map D.int).length:Int)=hrOf s.2:=by rw[ae,znq _ _ I.chain,ut];lia
 have pl:=wo (e:=[some (.ag kH (some 0) (hP k (p++[s]))),some (.ag .ls (some 1) (stP k p s)),some (.sh (dD .dry)),some (.sh (ssL s.1)),some (.al 1 0),some (.al 1 1),some (.sh (spL s.2)),none,none,none,none,none]) (i:=1) (x:=4) (j:=1) (ds:=k.map dD) rfl rfl rfl;have q:=wp (m:=qh) (F:=aq (fVar 2) fNil) (e:=[some (.ag kH (some 0) (hP k (p++[s]))),some (.ag .ls (some 1) (stP k p s)),some (.sh (dD .dry)),some (.sh (ssL s.1)),some (.al 1 0),some (.al 1 1),some (.sh (spL s.2)),some (.sh (.str "")),none,none,none,none]) (i:=0) (l:=some 0) (ps:=hP k (p++[s])) (ds:=[dD .dry]) rfl rfl cl;have nm:fFrz false (fBin il (fC (.int 1)) (d5 bLen (aq (fLst (iq (fiS (fVar 4)) [] (fTst (fBin dEq (fIxV 0 (fC (.int 0))) (fC (.str "put")))) (fVar 0))) (fNil)))) [some (.ag kH (some 0) (hP (k++[.dry]) (p++[s]++[dryS s a x tl]))),some (.ag .ls (some 1) (stP k p s)),some (.sh (dD .dry)),some (.sh (ssL s.1)),some (.al 1 0),some (.al 1 1),some (.sh (spL s.2)),some (.sh (.str "")),some (.sh (sD x)),none,none,none]=some (.int (jx k),[some (.ag kH (some 0) (hP (k++[.dry]) (p++[s]++[dryS s a x tl]))),some (.ag .ls (some 1) (stP k p s)),some (.sh (dD .dry)),some (.sh (ssL s.1)),some (.al 1 0),some (.al 1 1),some (.sh (spL s.2)),some (.sh (.str "")),some (.sh (sD x)),none,none,none]):=by
  unfold fFrz;rw[z4m (k:=k) rfl (by lia)];rfl
 have r:=zrw (e:=[some (.ag kH (some 0) (hP (k++[.dry]) (p++[s]++[dryS s a x tl]))),some (.ag .ls (some 1) (stP k p s)),some (.sh (dD .dry)),some (.sh (ssL s.1)),some (.al 1 0),some (.al 1 1),some (.sh (spL s.2)),some (.sh (.str "")),some (.sh (sD x)),none,some (.sh (.lst [ssL (s.1.set (a-1) tl),sD x])),none]) (x:=5) (j:=2) (ds:=p.map stD) (f:=fTup (aq (fVar 3) (aq (fVar 6) fNil))) (d:=stD s) rfl rfl rfl rfl (few (by rw[ae];have:=hi.kp;lia));have t:=zrw (e:=[some (.ag kH (some 0) (hP (k++[.dry]) (p++[s]++[dryS s a x tl]))),some (.ag .ls (some 1) [.d (ssL s.1),.o (k.map dD),.o (p.map stD++[stD s]),.d (spL s.2)]),some (.sh (dD .dry)),some (.sh (ssL s.1)),some (.al 1 0),some (.al 1 1),some (.sh (spL s.2)),some (.sh (.str "")),some (.sh (sD x)),none,some (.sh (.lst [ssL (s.1.set (a-1) tl),sD x])),none]) (x:=4) (j:=1) (ds:=k.map dD) (f:=fVar 2) (d:=dD .dry) rfl rfl rfl rfl (few (by rw[ae];lia));have U:atI [D.str "dry"] 0=some (.str "dry"):=rfl;have u:dD .dry=.tup [.str "dry"]:=rfl;have sn:=sne;have S:atI [ssL (s.1.set (a-1) tl),sD x] 0=some (ssL (s.1.set (a-1) tl))/\atI [ssL (s.1.set (a-1) tl),sD x] 1=some (sD x):=⟨rfl,rfl⟩;have v:dIx (sD x) (.int 1)=some (.int x.2.1):=rfl;have ct:fLst (fCat (fVar 6) (fLst (f7 (aq (fTup (aq (fVar 11) (aq (fBin il (fVar 11) (fBin dIx (fIxV 10 (fC (.int 1))) (fC (.int 1)))) (aq (d5 yy (aq (fVar 3) fNil)) fNil)))) fNil))))
   [some (.ag kH (some 0) (hP (k++[.dry]) (p++[s]++[dryS s a x tl]))),some (.ag .ls (some 1) [.d (ssL (s.1.set (a-1) tl)),.o (k.map dD++[dD .dry]),.o (p.map stD++[stD s]),.d (spL s.2)]),some (.sh (dD .dry)),some (.sh (ssL s.1)),some (.al 1 0),some (.al 1 1),some (.sh (spL s.2)),some (.sh (.str "")),some (.sh (sD x)),none,some (.sh (.lst [ssL (s.1.set (a-1) tl),sD x])),some (.sh (.int (hrOf s.2)))]=some (spL (s.2++[(hrOf s.2,hrOf s.2+x.2.1,lss s.1.flatten)]),[some (.ag kH (some 0) (hP (k++[.dry]) (p++[s]++[dryS s a x tl]))),some (.ag .ls (some 1) [.d (ssL (s.1.set (a-1) tl)),.o (k.map dD++[dD .dry]),.o (p.map stD++[stD s]),.d (spL s.2)]),some (.sh (dD .dry)),some (.sh (ssL s.1)),some (.al 1 0),some (.al 1 1),some (.sh (spL s.2)),some (.sh (.str "")),some (.sh (sD x)),none,some (.sh (.lst [ssL (s.1.set (a-1) tl),sD x])),some (.sh (.int (hrOf s.2)))]):=by
  have w:Few ((s.2.map sD).length+1):=few (by rw[ae];lia);have z:spL (s.2++[(hrOf s.2,hrOf s.2+x.2.1,lss s.1.flatten)])=.lst (s.2.map sD++[.tup [.int (hrOf s.2),.int (hrOf s.2+x.2.1),.int (lss s.1.flatten)]]):=by unfold spL;rw[cz];rfl
  rw[z];unfold spL;simp only[fLst,fCat,fVar,f7,aq,fNil,fTup,fBin,fIxV,ixSl,fC,d5,af,ai,ac,aj,S,v,il,Z,ak,b9,show 0+1+1+1<=64 by decide,show 0+1<=64 by decide,w,if_true]
 refine(uy (e:=[some (.ag kH (some 0) (hP (k++[.dry]) (p++[s]++[dryS s a x tl]))),some (.ag .ls (some 1) (stP (k++[.dry]) (p++[s]) (dryS s a x tl))),some (.sh (dD .dry)),some (.sh (ssL s.1)),some (.al 1 0),some (.al 1 1),some (.sh (spL s.2)),some (.sh (.str "")),some (.sh (sD x)),none,some (.sh (.lst [ssL (s.1.set (a-1) tl),sD x])),some (.sh (.int (hrOf s.2)))]) rfl rfl ?_ rfl).1;rw[show jt 12 [hA k (p++[s]),(.ls,stP k p s)] [dD .dry]=[some (.ag kH (some 0) (hP k (p++[s]))),some (.ag .ls (some 1) (stP k p s)),some (.sh (dD .dry)),none,none,none,none,none,none,none,none,none] from rfl];have un:um 1 [3,4,5,6] [some (.ag kH (some 0) (hP k (p++[s]))),some (.ag .ls (some 1) (stP k p s)),some (.sh (dD .dry)),none,none,none,none,none,none,none,none,none]=some (.nx,[some (.ag kH (some 0) (hP k (p++[s]))),some (.ag .ls (some 1) (stP k p s)),some (.sh (dD .dry)),some (.sh (ssL s.1)),some (.al 1 0),some (.al 1 1),some (.sh (spL s.2)),none,none,none,none,none]):=rfl;have A:stP (k++[.dry]) (p++[s]) (dryS s a x tl)=[.d (ssL (s.1.set (a-1) tl)),.o (k.map dD++[dD .dry]),.o (p.map stD++[stD s]),.d (spL (s.2++[(hrOf s.2,hrOf s.2+x.2.1,lss s.1.flatten)]))]:=by unfold stP dryS;simp
 have rf:zi [ssL s.1,.int (k.length:Int),dD .dry]=some (.str ""):=rf;rw[A];rw[<-J] at rf;unfold stP at *;generalize dD .dry=DD at *;subst u;simp only[xf,sSeq,un,ac,sSet,d5,aq,fNil,fVar,pLen,pl,aj,af,ai,rf,ax,bc];simp only[q,aj,ac,ax,bc,sIf,fTst,fBin,fVar,fC,fIxV,ixSl,af,ai,dNe,dEq,U,sn,decide_true,decide_false,mi,dm,if_false,sNil];simp only[nm,aj,ac,d5,aq,fNil,fVar,af,ai,ax,bc,st,ja,r,t,pj,S,fIxV,ixSl,fC];simp only[sSeq,sSet,U,decide_true,if_true,d5,aq,fNil,fVar,af,ai,ax,bc,aj,ac,c,bLen,g,pj,ct,sRet,fIxV,ixSl,fC,S,V]
theorem znt{α:Type}:∀(ss:List (List α)) (i:Nat) (t t':List α),ss[i]?=some t->∃A B,ss.flatten=A++(t++B)/\(ss.set i t').flatten=A++(t'++B)
 | y::r,0,t,t',h=>by
   simp at h;subst h;exact⟨[],r.flatten,rfl,rfl⟩
 | y::r,i+1,t,t',h=>by
   obtain⟨A,B,h1,h2⟩:=znt r i t t' (by simpa using h);exact⟨y++A,B,by simp[h1],by simp[h2]⟩
theorem HI.push(h:HI n k p s)(U:k.length<60)(R:SI n (k.length+1) s')(st:Stp k s d s'):HI n (k++[d]) (p++[s]) s':=by
 have S:(p++[s]).length=k.length+1:=by simp[h.kp]
 have lt:∀i,i<=k.length->(p++[s]++[s'])[i]?=(p++[s])[i]?:=λi c=>au (by lia);have J:(p++[s]++[s'])[k.length+1]?=some s':=by rw[<-S,ii]
 refine⟨h.n5,by simp;lia,by simp[h.kp],λi t D=>?_,by rw[lt 0 (by lia)];exact h.st0,λi d' t t' h1 h2 I=>?_⟩
 ·by_cases c:i<=k.length
  ·exact h.all i t (lt i c ▸ D)
  ·obtain rfl:i=k.length+1:=by have:=(ah.mp D).1;simp[h.kp] at this;lia
   rw[J] at D;cases D;exact R
 ·by_cases c:i<k.length
  ·rw[gn (by lia)]
   exact h.tr i d' t t' (by rwa [au c] at h1) (by rwa [lt i (by lia)] at h2) (by rwa [lt _ c] at I)
  ·obtain rfl:i=k.length:=by have:=(ah.mp h1).1;simp at this;lia
   rw[ii] at h1;rw[lt _ (b6 _),<-h.kp,ii] at h2;rw[J] at I;cases h1;cases h2;cases I;rw[j0];exact st
theorem HI.pop(h:HI n (k++[d]) (p++[s]) s'):HI n k p s:=by
 have kp:p.length=k.length:=by have:=h.kp;simp at this;exact this
 have I:∀ {i t},(p++[s])[i]?=some t->(p++[s]++[s'])[i]?=some t:=λD=>by rw[au (ah.mp D).1];exact D
 refine⟨h.n5,by have:=h.k60;simp at this;lia,kp,λi t D=>h.all i t (I D),by have:=h.st0;rwa [au (by simp)] at this,λi d' t t' h1 h2 J=>?_⟩;have c:=(ah.mp h1).1;have:=h.tr i d' t t' (by rw[au c];exact h1) (I h2) (I J);rwa [gn (by lia)] at this
theorem SI.swap{t':k7}(h:SI n i s)(I:s.1[a]?=some t)(J:s.1.flatten.length+t'.length<=14+t.length)(R:∀x∈t',(∀y∈t,iy y)->iy x):SI n (i+1) (s.1.set a t',s.2):=by
 obtain⟨A,B,h1,h2⟩:=znt s.1 a t t' I;have g:=h.good;rw[h1] at g J;refine⟨by rw[dj];exact h.len,?_,?_,h.chain,h.rate,Nat.le_succ_of_le h.sp,h.hour⟩
 ·show(s.1.set a t').flatten.length<=14
  rw[h2];simp at *
  lia
 ·intro x D
  rw[h2,cw,cw] at D;rcases D with q | q | q
  ·exact g x (by simp[q])
  ·exact R x q λy S=>g y (by simp[S])
  ·exact g x (by simp[q])
theorem z1c(k:ll):1<=jx k/\jx k<=k.length+1:=by
 unfold jx;have:=List.length_filter_le Deed.isPut k
 lia
theorem zy2:∀(l:k7),(∀x∈l,iy x)->0<=lss l/\lss l<=100*l.length
 | [],_=>⟨by decide,by decide⟩
 | x::r,h=>by
   have J:=zy2 r λy D=>h y (by simp[D]);have I:=h x (by simp);unfold iy at I;have e:lss (x::r)=x.2.2+lss r:=by simp[lss]
   rw[e,ak]
   lia
theorem SI.dry(h:SI n i s)(I:s.1[a-1]?=some (x::tl)):SI n (i+1) (dryS s a x tl):=by
 have q:=h.swap (t':=tl) I (by have:=h.few;rw[ak];lia) λy D J=>J y (by simp[D]);have R:iy x:=h.good x (by
  obtain⟨A,B,h1,_⟩:=znt s.1 (a-1) (x::tl) tl I;rw[h1];simp)
 have S:=zy2 s.1.flatten h.good;have V:=h.few;have Y:=h.hour;have U:=h.sp;unfold iy at R;refine⟨q.len,q.few,q.good,?_,?_,?_,?_⟩
 ·exact zo4 _ _ _ h.chain (ut s.2) (by show hrOf s.2<=hrOf s.2+x.2.1;lia)
 ·intro y D
  have D:y∈s.2++[(hrOf s.2,hrOf s.2+x.2.1,lss s.1.flatten)]:=D;rw[cw,cj] at D;rcases D with D | rfl
  ·exact h.rate y D
  ·show 0<=lss s.1.flatten/\lss s.1.flatten<=100000
   lia
 ·show(s.2++[_]).length<=i+1
  simp;lia
 ·show n4 0 (s.2++[(hrOf s.2,hrOf s.2+x.2.1,lss s.1.flatten)])<=60*((s.2++[(hrOf s.2,hrOf s.2+x.2.1,lss s.1.flatten)]).length:Int)
  rw[zjv,ut,am];simp
  lia
theorem zvg{l:List α}(h:l≠[]):∃m x,l=m++[x]:=⟨l.dropLast,l.getLast h,(List.dropLast_concat_getLast h).symm⟩
def Mv(k:ll)(p:lx)(s:Hs)(c:Cmd)(k':ll)(p':lx)(s':Hs):Prop:=match cmdX s.1 k.length c with | some _=>k'=k/\p'=p/\s'=s | none=>match c with | .back=>∃d,k=k'++[d]/\p=p'++[s'] | .d d=>k'=k++[d]/\p'=p++[s]
def Done(n:Nat)(k:ll)(p:lx)(s:Hs)(c:Cmd):Prop:=∃k' p' s',HI n k' p' s'/\qg [hA k (p++[s]),(.ls,stP k p s)] [cD c]=some (.bl true,[hA k' (p'++[s']),(.ls,stP k' p' s')])/\Mv k p s c k' p' s'
protected theorem Mv.d(h:cmdX s.1 k.length (.d d)=none):Mv k p s (.d d) (k++[d]) (p++[s]) s':=by
 unfold Mv;rw[h];exact⟨rfl,rfl⟩
theorem HI.l5(hi:HI n k p s):s.1.length<=5:=by rw[hi.at.len];exact hi.n5
theorem HI.r14(hi:HI n k p s):∀y∈s.1,y.length<=14:=λy D=>by
 have h2:=(d9 D).length_le;have:=hi.at.few
 lia
theorem zqb(hi:HI n k p s)(D:z4n d=false)(I:k.length<60)(h:cmdX s.1 k.length (.d d)=none)(J:askX (.d d) [hA k (p++[s])] (askD (.d d))=none)(h1:askM (.d d) [hA k (p++[s])] (askD (.d d))=some (ans,[hA (k++[d]) (p++[s]++[(ss',s.2)])]))(st:ql [ssL s.1,dD d,.int (jx k)]=some (.lst [ssL ss',ans]))(R:xw [ans,ans]=some (.bl true))(S:noL ans=true)(U:SI n (k.length+1) (ss',s.2)):Done n k p s (.d d) :=
 ⟨_,_,_,hi.push I U ⟨h,ans,st,by cases d <;> first | rfl | cases D⟩,z59 hi D h (by lia) (zvc (.d d) J h1) st R S,Mv.d h⟩
variable{a:Int}
theorem zxw{l:Int}(hi:HI n k p s)(h:cmdX s.1 k.length (.d (.put a b l))=none):Done n k p s (.d (.put a b l)):=by
 have hx:putX s.1 k.length a b l=none:=h;have D:=hx;have l5:=hi.l5;have kp:=hi.kp;have c:=hi.k60;unfold putX at D
 (repeat' split at D) <;> try cases D
 rename_i R e f g S;obtain⟨a,rfl⟩:=i9 (show 0<=a by lia);have J:=z4f (p:=p) hx l5 (by lia);have I:=t4 R;rw[show((a:Int).toNat-1)=a-1 by simp] at I;have i:=hi.r14 _ (ay I);have sp:=zxu (num:=jx k) (h:=b) (l:=l) (a:=a) (ss:=s.1) (by lia) (by lia) l5 (by lia);have U:=z1c k;have V:iy (jx k,b,l):=⟨U.1,by show jx k<=60;lia,by show 1<=b;lia,by show b<=60;lia,by show 0<=l;lia,by show l<=100;lia⟩;have Y:SI n (k.length+1) (putS s.1 a (jx k,b,l),s.2):=hi.at.swap I (by rw[ak];lia) λx hx Z=>by
  rw[b7] at hx;rcases hx with hx | hx
  ·rw[hx];exact V
  ·exact Z x hx
 exact zqb hi rfl S h J.1 J.2 sp (zvf _).1 rfl Y
theorem zvh{m l:Int}(hi:HI n k p s)(h:cmdX s.1 k.length (.d (.tell a m l))=none):Done n k p s (.d (.tell a m l)):=by
 have D:td s.1 k.length a m l=none:=h;have l5:=hi.l5;have kp:=hi.kp;have c:=hi.at.few;unfold td at D
 (repeat' split at D) <;> try cases D
 rename_i U V Y e J;obtain⟨a,rfl⟩:=i9 (show 0<=a by lia);obtain⟨m,rfl⟩:=i9 (show 0<=m by lia);have I:=t4 U;rw[show((a:Int).toNat-1)=a-1 by simp] at I V Y;have f:=hi.r14 _ (ay I);obtain⟨x,hx2⟩:∃x,(s.1.getD (a-1) [])[m-1]?=some x:=⟨_,bi (by lia)⟩;have R:=z06 (k:=k) (p:=p) (s:=s) (l:=l) I hx2 (by lia) (by lia) (by lia) (by lia) J l5 (by lia) (by lia);have sp:=zve (num:=jx k) (l:=l) I hx2 (by lia) (by lia) l5;have Z:SI n (k.length+1) (s.1.set (a-1) ((s.1.getD (a-1) []).set (m-1) (x.1,x.2.1,l)),s.2):=hi.at.swap I (by rw[dj];lia) λz b S=>by
  rcases List.mem_or_eq_of_mem_set b with q | q
  ·exact S z q
  ·have g:=S x (ay hx2)
   rw[q];exact⟨g.1,g.2.1,g.2.2.1,g.2.2.2.1,by show 0<=l;lia,by show l<=100;lia⟩
 exact zqb hi rfl J h R.1 R.2 sp (zvf _).1 rfl Z
theorem z1d(hi:HI n k p s)(h:cmdX s.1 k.length (.d (.go a))=none):Done n k p s (.d (.go a)):=by
 have D:goX s.1 k.length a=none:=h;have l5:=hi.l5;have kp:=hi.kp;have c:=hi.at.few;unfold goX at D
 (repeat' split at D) <;> try cases D
 rename_i V J S;obtain⟨a,rfl⟩:=i9 (show 0<=a by lia);have I:=t4 V;rw[show((a:Int).toNat-1)=a-1 by simp] at I J;have R:=hi.r14 _ (ay I);obtain⟨x,tl,et⟩:∃x tl,s.1.getD (a-1) []=x::tl:=by
  cases q:s.1.getD (a-1) [] with
  | nil=>rw[q] at J;simp at J
  | cons x tl=>exact⟨x,tl,rfl⟩
 rw[et] at I R;have R:tl.length+1<=14:=by simpa using R
 have U:=z54 (k:=k) (p:=p) (s:=s) I (by lia) S l5 (by lia);have sp:=z08 (num:=jx k) I (by lia) l5 (by lia);have Y:SI n (k.length+1) (s.1.set (a-1) tl,s.2):=hi.at.swap I (by rw[ak];lia) λz Z b=>b z (by simp[Z]);exact zqb hi rfl S h U.1 U.2 sp (zy1 x).1 rfl Y
theorem zxx(hi:HI n k p s)(h:cmdX s.1 k.length (.d .dry)=none):Done n k p s (.d .dry):=by
 have D:dryX s.1 k.length=none:=h;have l5:=hi.l5;have kp:=hi.kp;have I:=hi.at;have J:=I.few;unfold dryX at D
 (repeat' split at D) <;> try cases D
 rename_i Z S;obtain⟨ts,ok,R⟩:=zgd s.1 I.good J;have c:=zjr ok R J;have e:=yo ok I.good J (by lia);cases ts with
 | nil =>
   have:=ok.perm.length_eq;simp only[du,oj,b9] at this
   lia
 | cons t ts =>
   obtain⟨a,b⟩:=t;have f:=(ok.good (a,b) (by simp)).ne;cases b with
   | nil=>exact absurd rfl f
   | cons x r =>
     obtain⟨tl,g,h1,h2,l,_⟩:=zo2 ok I.good J;have U:=hi.r14;have V:=U _ (ay h1);have V:tl.length+1<=14:=by simpa using V
     have i:=I.sp;have Y:=z4g (k:=k) (p:=p) (s:=s) c h1 h2 S l5 (by lia) (λy j=>by have:=U y j;lia) (by lia) Z;have sp:=zrv (num:=jx k) e h1 h2 l5 (by lia);exact⟨_,_,_,hi.push S (I.dry h1) ⟨h,sD x,sp,x,rfl,rfl⟩,z4o hi h (zvc (.d .dry) Y.1 Y.2) sp,Mv.d h⟩
theorem z6b(c:Cmd)(hi:HI n k p s):Done n k p s c:=by
 cases h:cmdX s.1 k.length c with
 | some x=>exact⟨k,p,s,hi,z4l hi h,by unfold Mv;rw[h];exact⟨rfl,rfl,rfl⟩⟩
 | none =>
 cases c with
 | back =>
   have D:k≠[]:=λe=>by subst e;simp[cmdX] at h
   have I:p≠[]:=λe=>by subst e;exact D (jo hi.kp.symm)
   obtain⟨k0,d,rfl⟩:=zvg D;obtain⟨J,R,rfl⟩:=zvg I;exact⟨k0,J,R,hi.pop,z1a hi,by unfold Mv;rw[h];exact⟨d,rfl,rfl⟩⟩
 | d y =>
   cases y with
   | put a b l=>exact zxw hi h
   | tell a m l=>exact zvh hi h
   | go a=>exact z1d hi h
   | dry=>exact zxx hi h
theorem z4p(U:n<=5):zhf [.int n]=some (.ls,stP [] [] (newS n)):=by
 have I:Few (rngD 0 n).length:=few (by rw[uc];lia);have c:=ng (te:=fLst (f7 fNil)) (base:=[]) (λi:Nat=>D.int (0+(i:Int))) (λ_:Nat=>D.lst []) (List.range n) λi _=>⟨_,rfl⟩;have R:rngD 0 n=(List.range n).map λi:Nat=>D.int (0+(i:Int)):=rfl;have S:(List.range n).map (λ_:Nat=>D.lst [])=(List.replicate n ([]:k7)).map λs=>D.lst (s.map sD):=by rw[List.map_const',j5,mw,du]
 have J:=pz n (by lia);unfold rngD at J;rw[S] at c;rw[R] at I;unfold zhf runG;rw[if_pos (show[D.int (n:Int)].length=1 from rfl),show je 1 [D.int (n:Int)]=[some (.sh (.int n))] from rfl];simp only[zi9,zw2,fAgL,pCd,pCo,pNil,fLst,iq,jk,aq,fVar,fNil,f7,af,ac,aj,J,I,if_true,du,c,b9,fz];rw[show frsE [some (Sl.sh (D.int (n:Int)))]=[some (.sh (.int n))] from rfl];simp only[af,ac,aj,J,I,if_true,c,ak,b9,show 0+1+1+1+1<=64 by decide];rfl
theorem HI.new(D:n<=5):HI n [] [] (newS n) :=
 ⟨D,by simp,rfl,λi t h=>by
  have e:i=0/\t=newS n:=by
   cases i with
   | zero=>simp at h;exact⟨rfl,h.symm⟩
   | succ m=>simp at h
  obtain⟨rfl,rfl⟩:=e;have z:(newS n).1.flatten=[]:=by simp[newS]
  exact⟨by simp[newS],by rw[z];simp,by rw[z];simp,trivial,λx h=>by simp[newS] at h,by simp[newS],by simp[newS,n4]⟩,rfl,λi d t t' h=>by simp at h⟩
theorem z1e(z:Int):∃n:Nat,n<=5/\zhd [.int z]=some (.int n):=by
 have h:z % 12=0\/z % 12=1\/z % 12=2\/z % 12=3\/z % 12=4\/z % 12=5\/z % 12=6\/z % 12=7\/z % 12=8\/z % 12=9\/z % 12=10\/z % 12=11:=by lia
 have q:∀r:Int,dMod (.int z) (.int 12)=some (.int r)->∀v,dIx (.lst [.int 5,.int 3,.int 2,.int 4,.int 1,.int 5,.int 0,.int 4,.int 3,.int 5,.int 2,.int 4]) (.int r)=some v->zhd [.int z]=some v:=λr h1 v h2=>by
  refine j7 (e':=[some (.sh (.int z))]) rfl ?_;rw[show je 1 [D.int z]=[some (.sh (.int z))] from rfl];simp only[zli,sRet,fBin,fLst,f7,aq,fNil,fC,fVar,af,ac,aj];rw[if_pos (by decide)];simp only[h1,h2,ac,aj,af]
 have m:dMod (.int z) (.int 12)=some (.int (z % 12)):=by
  simp[dMod]
 rcases h with h | h | h | h | h | h | h | h | h | h | h | h <;> rw[h] at m <;> exact⟨_,by decide,q _ m (.int ((_:Nat):Int)) rfl⟩
theorem ix4(a b c d x:Int):∃v:Int,dIx (.lst [.int a,.int b,.int c,.int d]) (.int (x % 4))=some (.int v):=by
 have h:x % 4=0\/x % 4=1\/x % 4=2\/x % 4=3:=by lia
 rcases h with h | h | h | h <;> rw[h] <;> exact⟨_,rfl⟩
theorem ixW(x:Int):∃w:Str,atI [D.str "put",.str "put",.str "tell",.str "dry",.str "put",.str "go",.str "put",.str "put",.str "back",.str "tell",.str "put",.str "dry"] (x % 12)=some (.str w)/\(w = "put"\/w = "tell"\/w = "go"\/w = "dry"\/w = "back"):=by
 have h:x % 12=0\/x % 12=1\/x % 12=2\/x % 12=3\/x % 12=4\/x % 12=5\/x % 12=6\/x % 12=7\/x % 12=8\/x % 12=9\/x % 12=10\/x % 12=11:=by lia
 rcases h with h | h | h | h | h | h | h | h | h | h | h | h <;> rw[h] <;> exact⟨_,rfl,by simp⟩
variable{b:Bool}{F:FE}{v0:Int}
theorem ifx{c:FT}(D:c e=some (b,e))(I:e[i]?=some (some (.sh (.int v0))))(J:b=true->∃v:Int,F e=some (.int v,e)):∃v:Int,sIf c (sSet i F) sNil e=some (.nx,e.set i (some (.sh (.int v)))):=by
 cases b with
 | false =>
   refine⟨v0,?_⟩;have:e.set i (some (.sh (.int v0)))=e:=by
    apply eg;intro j;rw[ig];split
    ·rename_i q
     subst q;rw[I,if_pos (ah.mp I).1]
    ·rfl
   rw[this];simp[D]
 | true =>
   obtain⟨v,R⟩:=J rfl;exact⟨v,by simp[D,R]⟩
theorem ul(x j:Int)(h:1<=j/\j<=10000):dDiv (.int x) (.int j)=some (.int (x / j)):=by
 exact if_pos ⟨by lia,by lia⟩
theorem pd(x j:Int)(h:1<=j):dMod (.int x) (.int j)=some (.int (x % j)):=if_pos (by lia)
theorem zvi{z n I o f a h l t p:D}{J:D}{A H L P:Int}(R:w = "put"\/w = "tell"\/w = "go"\/w = "dry"\/w = "back") :
  ∃c e',(sSeq (sIf (fTst (fBin dEq (fVar 4) (fC (.str "put")))) (sRet (fTup (aq (fC (.str "put")) (aq (fVar 7) (aq (fVar 8) (aq (fVar 9) (fNil))))))) (sNil)) (sSeq (sIf (fTst (fBin dEq (fVar 4) (fC (.str "tell")))) (sRet (fTup (aq (fC (.str "tell")) (aq (fVar 7) (aq (fVar 11) (aq (fVar 9) (fNil))))))) (sNil)) (sSeq (sIf (fTst (fBin dEq (fVar 4) (fC (.str "go")))) (sRet (fTup (aq (fC (.str "go")) (aq (fVar 7) (fNil))))) (sNil)) (sRet (fTup (aq (fVar 4) (fNil)))))))
   [some (.sh z),some (.sh J),some (.sh n),some (.sh I),some (.sh (.str w)),some (.sh o),some (.sh f),some (.sh (.int A)),some (.sh (.int H)),some (.sh (.int L)),some (.sh t),some (.sh (.int P))]=some (.rt (cD c),e'):=by
 have sn:=sne;have s2:(("back" : Str) = "put")=False/\(("back" : Str) = "tell")=False/\(("back" : Str) = "go")=False/\(("dry" : Str) = "put")=False/\(("dry" : Str) = "tell")=False/\(("dry" : Str) = "go")=False:=by
  refine⟨?_,?_,?_,?_,?_,?_⟩ <;> exact eq_false (by decide)
 rcases R with rfl | rfl | rfl | rfl | rfl
 ·exact⟨.d (.put A H L),_,by simp[cD,dD];rfl⟩
 ·exact⟨.d (.tell A P L),_,by simp[cD,dD,sn];rfl⟩
 ·exact⟨.d (.go A),_,by simp[cD,dD,sn];rfl⟩
 ·exact⟨.d .dry,_,by simp[cD,dD,sn,s2];rfl⟩
 ·exact⟨.back,_,by simp[cD,dD,sn,s2];rfl⟩
def Res(r:Option (Fl×DE0)):Prop:=∃c e',r=some (.rt (cD c),e')
theorem setR(h:F e=some (v,e))(k:Res (g (e.set i (some (.sh v))))):Res (sSeq (sSet i F) g e):=by
 rw[show sSeq (sSet i F) g e=g (e.set i (some (.sh v))) by simp[h]];exact k
theorem ifR{c:FT}(D:c e=some (b,e))(I:e[i]?=some (some (.sh (.int v0))))(J:b=true->∃v:Int,F e=some (.int v,e))(k:∀v:Int,Res (g (e.set i (some (.sh (.int v)))))):Res (sSeq (sIf c (sSet i F) sNil) g e):=by
 obtain⟨v,R⟩:=ifx D I J;rw[show sSeq (sIf c (sSet i F) sNil) g e=g (e.set i (some (.sh (.int v)))) by simp only[sSeq,R,ac]];exact k v
local macro_rules | `(tactic| walk_at "T") => `(tactic| simp only [ax, bc])
theorem seqR{f:FS}{D:DE0}(h:f e=some (.nx,D))(k:Res (g D)):Res (sSeq f g e):=by
 rw[show sSeq f g e=g D by simp[h]];exact k
theorem z1f(z:Int)(ss:k8):∃c,yx [.int z,ssL ss]=some (cD c):=by
 suffices R:Res (zlj [some (.sh (.int z)),some (.sh (ssL ss)),none,none,none,none,none,none,none,none,none,none]) from let ⟨c,_,R⟩:=R;⟨c,j7 rfl R⟩;obtain⟨w,f,g⟩:=ixW z;have S:=ul z 12 (by decide);have U:=pd z 12 (by decide);have J:dPow (.int 10) (.int 12)=some (.int 1000000000000):=rfl;refine setR (v:=.int (ss.length:Int)) (by unfold ssL;simp) ?_;refine setR (v:=.lst [.str "put",.str "put",.str "tell",.str "dry",.str "put",.str "go",.str "put",.str "put",.str "back",.str "tell",.str "put",.str "dry"]) rfl ?_;refine setR (v:=.str w) (by simp[U,f]) ?_;refine setR (v:=.int (z / 12 % 16)) (by simp[S,pd]) ?_;refine setR (v:=.int (z / 192)) (by simp[ul]) ?_;generalize z / 12 % 16=O at *;generalize z / 192=F at *;have Y:∀(x:Int) (t:Int),∃v:Int,(match D.int x,D.int (if 1 > t then 1 else t) with | .int i,.int j=>dMod (.int i) (.int j) | _,_=>none)=some (.int v):=λx t=>⟨_,pd x _ (by split <;> lia)⟩;obtain⟨Z,k⟩:=Y F ss.length;refine setR (v:=.int (1+Z)) (by simp[k]) ?_;refine setR (v:=.int (F / 5)) (by simp[ul]) ?_;walk_at "T";generalize F / 5=G at *;refine ifR (b:=decide (O=5) || decide ((ss.length:Int)=0)) (v0:=1+Z) (by by_cases q:O=5 <;> simp[q]) rfl (λ_=>?_) λA=>?_
 ·obtain⟨v,I⟩:=ix4 0 (ss.length+1) (-1) 1000000000000 G
  exact⟨v,by simp only[fBin,fLst,f7,aq,fNil,fC,fVar,fUn,dNeg,il,J,pd G 4 (by decide),I,af,ai,ac,aj,ak,b9,show 0+1+1+1+1<=64 by decide,if_true]⟩
 refine setR (v:=.int (1+G % 60)) (by simp[pd]) ?_;walk_at "T";refine ifR (b:=decide (O=6)) (v0:=1+G % 60) (by simp) rfl (λ_=>?_) λH=>?_
 ·obtain⟨v,I⟩:=ix4 0 61 (-1) 1000000000000 G
  exact⟨v,by simp only[fBin,fLst,f7,aq,fNil,fC,fVar,fUn,dNeg,il,J,pd G 4 (by decide),I,af,ai,ac,aj,ak,b9,show 0+1+1+1+1<=64 by decide,if_true]⟩
 refine setR (v:=.int (G / 60 % 101)) (by simp[pd,ul]) ?_;generalize G / 60 % 101=L at *;obtain⟨H2,V,h2⟩:∃H2 V:Int,sIf (fTst (fBin dGt (fVar 5) (fC (.int 9)))) (sSeq (sSet 8 (fBin il (fC (.int 1)) (fBin dMod (fVar 8) (fC (.int 3))))) (sSet 9 (fBin dMod (fVar 9) (fC (.int 4))))) sNil [some (.sh (.int z)),some (.sh (ssL ss)),some (.sh (.int (ss.length:Int))),some (.sh (.lst [.str "put",.str "put",.str "tell",.str "dry",.str "put",.str "go",.str "put",.str "put",.str "back",.str "tell",.str "put",.str "dry"])),some (.sh (.str w)),some (.sh (.int O)),some (.sh (.int G)),some (.sh (.int A)),some (.sh (.int H)),some (.sh (.int L)),none,none]=some (.nx,[some (.sh (.int z)),some (.sh (ssL ss)),some (.sh (.int (ss.length:Int))),some (.sh (.lst [.str "put",.str "put",.str "tell",.str "dry",.str "put",.str "go",.str "put",.str "put",.str "back",.str "tell",.str "put",.str "dry"])),some (.sh (.str w)),some (.sh (.int O)),some (.sh (.int G)),some (.sh (.int A)),some (.sh (.int H2)),some (.sh (.int V)),none,none]):=by
  by_cases q:9<O
  ·exact⟨1+H % 3,L % 4,by simp[q,pd]⟩
  ·exact⟨H,L,by simp[q]⟩
 refine seqR h2 ?_;refine ifR (b:=decide (O=7)) (v0:=V) (by simp) rfl (λ_=>?_) λn=>?_
 ·obtain⟨v,I⟩:=ix4 (-1) 101 (-1000000000000) 1000000000000 (G / 60)
  exact⟨v,by simp only[fBin,fLst,f7,aq,fNil,fC,fVar,fUn,dNeg,il,J,ul G 60 (by decide),pd (G / 60) 4 (by decide),I,af,ai,ac,aj,ak,b9,show 0+1+1+1+1<=64 by decide,if_true]⟩
 refine ifR (b:=decide (1<=A) && decide (A<=(ss.length:Int))) (v0:=0) (by by_cases q:1<=A <;> simp[q]) rfl (λq=>?_) λT=>?_
 ·simp only[ek,decide_eq_true_eq] at q
  have d:=ph (a:=A.toNat) (t4 (ss:=ss) (a:=A) (by lia)) (by lia);rw[show((A.toNat:Nat):Int)=A by lia] at d;exact⟨_,by unfold ssL at *;simp[d];rfl⟩
 obtain⟨e,m⟩:=Y (G / 6060) T;refine setR (v:=.int (1+e)) (by simp[ul G 6060 (by decide),m]) ?_;walk_at "T";refine ifR (b:=decide (O=8)) (v0:=1+e) (by simp) rfl (λ_=>?_) λP=>?_
 ·obtain⟨v,I⟩:=ix4 0 (T+1) (-1) 1000000000000 (G / 6060)
  exact⟨v,by simp only[fBin,fLst,f7,aq,fNil,fC,fVar,fUn,dNeg,il,J,ul G 6060 (by decide),pd (G / 6060) 4 (by decide),I,af,ai,ac,aj,ak,b9,show 0+1+1+1+1<=64 by decide,if_true]⟩
 exact zvi (z:=.int z) (h:=.non) (l:=.non) (a:=.non) (p:=.non) g
variable{F:FA}{l':Option Nat}
theorem z1g{J I:kb}{d:D}(S:i≠j)(h:e[i]?=some (some (.ag κ l ps)))(h':e[j]?=some (some (.ag κ' l' J)))(U:F e=some (ds,e))(V:m [(κ,ps),(κ',J)] ds=some (d,[(κ,ps'),(κ',I)])) :
  kg m [i,j] F e=some (d,(e.set i (some (.ag κ l ps'))).set j (some (.ag κ' l' I))):=by
 unfold kg;rw[if_pos (show aggs e [i,j] from λk R=>by
  simp at R;rcases R with rfl | rfl
  ·exact⟨_,h⟩
  ·exact⟨_,h'⟩),U]
 have Y:(e.set i (some (.ag κ l ps')))[j]?=some (some (.ag κ' l' J)):=by rw[db S];exact h'
 simp[getA,h,h',V,putA,Y]
theorem HI.hrs(hi:HI n k p s):0<=hrOf s.2/\hrOf s.2<=3600:=by
 have h:=hi.at;have h1:=h.hour;have h2:=h.sp;have D:=hi.k60;have I:=zrq _ _ h.chain;rw[ut]
 lia
theorem z1h(a:FS):sSeq a sNil=a:=by
 funext e;simp;cases a e with
 | none=>rfl
 | some r=>obtain⟨fl,D⟩:=r;cases fl <;> rfl
abbrev EL(A B C:kf)(k:ll)(p:lx)(s:Hs)(r:DE0):DE0:=A::B::C::some (.ag kH none (hP k (p++[s])))::some (.ag .ls none (stP k p s))::r
def bDo(x:Nat)(R:FS):FS:=sSeq (sIf (fNot (fTst (kg qg [3,4] (aq (d5 yx (aq (fVar x) (aq (fDat 4 0) fNil))) fNil)))) (sRet (fC (.bl false))) sNil) R
theorem z4q(I:i≠j)(hi:HI n k p s)(h:e[i]?=some (some (.ag kH l (hP k (p++[s])))))(h':e[j]?=some (some (.ag .ls l' (stP k p s))))(J:F e=some ([cD c],e)) :
  ∃k' p' s',HI n k' p' s'/\kg qg [i,j] F e=some (.bl true,(e.set i (some (.ag kH l (hP k' (p'++[s']))))).set j (some (.ag .ls l' (stP k' p' s'))))/\Mv k p s c k' p' s':=by
 obtain⟨k',p',s',D,R,S⟩:=z6b c hi;exact⟨k',p',s',D,z1g I h h' J R,S⟩
theorem zy3{y:Sk}(h:sD x=sD y):x=y:=by
 obtain⟨a,b,c⟩:=x;obtain⟨d,e,f⟩:=y;simp[sD] at h;simp[h]
theorem z1i{x y:k8}(h:ssL x=ssL y):x=y:=by
 unfold ssL at h;exact(List.map_inj_right λa b e=>(List.map_inj_right λ_ _=>zy3).mp (D.lst.inj e)).mp (D.lst.inj h)
theorem Mv.len{k':ll}{p':lx}(h:Mv k p s c k' p' s'):k'.length<=k.length+1:=by
 unfold Mv at h;split at h
 ·rw[h.1];lia
 ·cases c with
  | back=>obtain⟨d,e,_⟩:=h;rw[e];simp;lia
  | d d=>rw[h.1];simp
theorem zrx{A B C:kf}{r:DE0}{n:Nat}:∀(I:g7) (k:ll) (p:lx) (s:Hs) (v:kf),HI n k p s ->
  ∃k' p' s' R,HI n k' p' s'/\k'.length<=k.length+I.length/\forL 5 (bDo 5 sNil) (I.map D.int) (EL A B C k p s (v::r))=some (.nx,EL A B C k' p' s' (R::r))
 | [],k,p,s,v,hi=>⟨k,p,s,v,hi,by simp,rfl⟩
 | z::I,k,p,s,v,hi=>by
   obtain⟨c,S⟩:=z1f z s.1;have U:fDat 4 0 (EL A B C k p s (some (.sh (.int z))::r))=some (ssL s.1,EL A B C k p s (some (.sh (.int z))::r)):=rfl;obtain⟨k1,p1,J,h1,V,Y⟩:=z4q (e:=EL A B C k p s (some (.sh (.int z))::r)) (i:=3) (j:=4) (c:=c) (F:=aq (d5 yx (aq (fVar 5) (aq (fDat 4 0) fNil))) fNil) (by decide) hi rfl rfl (by simp only[aq,d5,fVar,fNil,U,S,af,ai,ac,aj]);obtain⟨k2,p2,s2,v2,h2,b,Z⟩:=zrx (A:=A) (B:=B) (C:=C) (r:=r) I k1 p1 J (some (.sh (.int z))) h1;have:=Y.len;refine⟨k2,p2,s2,v2,h2,by rw[ak];lia,?_⟩;have a:bDo 5 sNil (EL A B C k p s (some (.sh (.int z))::r))=some (.nx,EL A B C k1 p1 J (some (.sh (.int z))::r)):=by
    simp only[bDo,sSeq,sIf,fNot,fTst,V,ac,aj,mi,dm,if_false,sNil];rfl
   rw[ci,forL,show(EL A B C k p s (v::r)).set 5 (some (.sh (.int z)))=EL A B C k p s (some (.sh (.int z))::r) from rfl,a];exact Z
def flat(ts:k9):k7:=(ts.map (·.2)).flatten
theorem z4r(hi:HI n k p s)(h1:HI n (k++[.dry]) (p++[s]) s')(ok:TurnsOk s.1 ts)(f:0<s.1.flatten.length) :
  ∃x D a tl,TurnsOk s'.1 D/\flat ts=x::flat D/\s'.2=s.2++[(hrOf s.2,hrOf s.2+x.2.1,lss s.1.flatten)]/\jm ts=a::jm D/\s.1[a-1]?=some (x::tl)/\s'.1=s.1.set (a-1) tl/\1<=a/\a<=s.1.length:=by
 have I:=hi.at;have l5:=hi.l5;have V:=yo ok I.good I.few (by lia);have tr:=h1.tr k.length .dry s s' (by simp) (by rw[<-hi.kp];simp) (by rw[<-hi.kp,show p.length+1=(p++[s]).length by simp,ii]);rw[j0] at tr;obtain⟨_,ans,st,y,rfl,h2⟩:=tr;cases ts with
 | nil =>
   have:=ok.perm.length_eq;simp only[du,oj,b9] at this
   lia
 | cons t ts =>
   obtain⟨a,b⟩:=t;have Y:=(ok.good (a,b) (by simp)).ne;cases b with
   | nil=>exact absurd rfl Y
   | cons x r =>
     obtain⟨tl,D,R,S,Z,c,d,e⟩:=zo2 ok I.good I.few;have U:=hi.r14 _ (ay R);have U:tl.length+1<=14:=by simpa using U
     have sp:=zrv (num:=jx k) V R S l5 (by lia);rw[st] at sp;obtain⟨J,e2⟩:ssL s'.1=ssL (s.1.set (a-1) tl)/\sD y=sD x:=by simpa using sp
     have J:=z1i J;obtain rfl:=zy3 e2;exact⟨y,D,a,tl,by rw[J];exact c,by unfold flat;rw[e];simp,h2,by rw[d];simp[jm,fx],R,J,S,Z⟩
theorem zo9(ok:TurnsOk ss ts):(flat ts).length=ss.flatten.length/\lss (flat ts)=lss ss.flatten/\∀x∈flat ts,x∈ss.flatten:=by
 have h:=ok.perm;refine⟨h.length_eq,?_,λx D=>h.mem_iff.mp D⟩;exact zu4 (λx:Sk=>x.2.2) h
theorem zvj(x:Sk)(r:k7):jl 0 (x::r)=x.2.1*lss (x::r)+jl 0 r:=by
 have:=zlh x.2.1 r 0;rw[zrh,gh];show x.2.2*(0+x.2.1)+jl (0+x.2.1) r=_;rw[this,gy x.2.2,jw]
 lia
theorem z6c(ok:TurnsOk ss ts)(D:∀y∈ss.flatten,iy y)(I:ss.flatten.length<=14)(R:ss.length<=900):xv [ssL ss]=some (.lst (ts.map tnD)):=by
 obtain⟨S,J,h⟩:=zgd ss D I;have e:=yo J D I R;rw[yo ok D I R] at e;rw[h,e]
theorem zqd(hi:HI n k p s)(ok:TurnsOk s.1 ts):qk [hA k (p++[s])] []=some (.int (jl 0 (flat ts))):=by
 have l5:=hi.l5;have h:=znj ok (z6c ok hi.at.good hi.at.few (by lia)) hi.at.good (by lia) hi.at.few;rw[z0x ok] at h;exact z05 h
end LB
namespace S_rotstacks_k39_whole_the_cost_comes_true
open PySem L2 LB
def zmg:FS:=sRet (d5 bSum (aq (fLst (iq (fiS (fVar 0)) [] fYes (jd 0))) (fNil)))
def zka:i0->ka:=runD 1 1 zmg
def zqe:FS:=sIf (fNot (fTst (kg qg [3,4] (aq (d5 yx (aq (fVar 5) (aq (fDat 4 0) (fNil)))) (fNil))))) (sRet (fC (.bl false))) (sNil)
def zqf:FS:=sSet 6 (fBin il (fVar 6) (fVar 9))
def znu:FS:=sSeq (sSet 9 (d5 yy (aq (fDat 4 0) (fNil)))) (sSeq (sIf (fNot (fTst (kg qg [3,4] (aq (fTup (aq (fC (.str "dry")) (fNil))) (fNil))))) (sRet (fC (.bl false))) (sNil)) (sSeq (sSet 10 (fBin dSub (fBin dIx (fBin dIx (fDat 4 3) (fUn dNeg (fC (.int 1)))) (fC (.int 1))) (fBin dIx (fBin dIx (fDat 4 3) (fUn dNeg (fC (.int 1)))) (fC (.int 0))))) (sSeq (sFor 11 (jk iR1 (aq (fVar 10) (fNil))) (zqf)) (sSeq (sSet 12 (fK (.ins false "House" iz) 3 (i5 zp [3] (aq (fBin dIx (fBin dIx (fDat 4 3) (fUn dNeg (fC (.int 1)))) (fC (.int 1))) (fNil))))) (sSeq (sSet 13 (fK (.ins false "House" iz) 3 (i5 qk [3] (fNil)))) (sIf (fOr (fNot (fTst (d5 qi (aq (fVar 12) (fNil))))) (fOr (fNot (fTst (d5 qi (aq (fVar 13) (fNil))))) (fOr (fTst (fBin dNe (fVar 12) (fVar 6))) (fTst (fBin dNe (fBin il (fVar 6) (fVar 13)) (fVar 7)))))) (sRet (fC (.bl false))) (sNil)))))))
def z4s:FS:=sSeq (sSet 1 (d5 zc (aq (fVar 0) (aq (fC (.int 47)) (fNil))))) (sSeq (sSet 2 (d5 zhd (aq (fIxV 1 (fC (.int 0))) (fNil)))) (sSeq (ya 3 (x9 "House" zw (aq (fVar 2) (fNil)))) (sSeq (ya 4 (zq1 zhf (aq (fVar 2) (fNil)))) (sSeq (sFor 5 (fiS (fLst (fSl (fVar 1) (fO1 (fC (.int 1))) (fO1 (fBin dSub (fC (.int 47)) (fBin dMod (fBin dDiv (fIxV 1 (fC (.int 0))) (fC (.int 12))) (fC (.int 47)))))))) (zqe)) (sSeq (sSet 6 (d5 bSum (aq (d5 zf1 (aq (fDat 4 3) (fNil))) (fNil)))) (sSeq (sSet 7 (fK (.ins false "House" iz) 3 (i5 qk [3] (fNil)))) (sSeq (sIf (fNot (fTst (d5 qi (aq (fVar 7) (fNil))))) (sRet (fC (.bl false))) (sNil)) (sSeq (sSet 7 (fBin il (fVar 7) (fVar 6))) (sSeq (sFor 8 (jk iR1 (aq (d5 zka (aq (fDat 4 0) (fNil))) (fNil))) (znu)) (sSeq (sSet 13 (fK (.ins false "House" iz) 3 (i5 qk [3] (fNil)))) (sRet (qu (d5 qi (aq (fVar 13) (fNil))) (qu (fBin dEq (fVar 13) (fC (.int 0))) (fBin dEq (fVar 6) (fVar 7)))))))))))))))
def z4t:i0->ka:=runD 14 1 z4s
end S_rotstacks_k39_whole_the_cost_comes_true
namespace S_rotstacks_k39_whole_the_cost_comes_true
open PySem L2 LB PyProof.Rows
def top(i:Nat):Stmt:=PySem.Challenge.pw_rotstacks_k39_whole_the_cost_comes_true.main.body.getD i (.Pass ⟨0,0,0,0⟩)
def mth(j:Nat):Stmt:=match top 64 with | .ClassDef _ _ _ b _ _ _ _ _ _ _=>b.getD j (.Pass ⟨0,0,0,0⟩) | _=>.Pass ⟨0,0,0,0⟩
local macro_rules | `(tactic| walk_at "g") => `(tactic| first | exact gl_d (by kernel_rfl) | exact gl_c (by kernel_rfl) | exact gl_p (by kernel_rfl))
local macro_rules | `(tactic| exists $t:term) => `(tactic| as_aux_lemma => exact $t)
local macro_rules | `(tactic| walk_at "b") => `(tactic| exact ⟨by walk_at "g", by assumption⟩)
theorem ok_all{P:Program}{w:World}{K:h8}{mg:Str->gs}{C:Addr}(T2:Def K mg (top 2) "sack_number" ["sack"])(T3:Def K mg (top 3) "sack_hours" ["sack"])(T4:Def K mg (top 4) "sack_loss" ["sack"])(T5:Def K mg (top 5) "sacks_in_all" ["stacks"])(T6:Def K mg (top 6) "loss_in_all" ["stacks"])(T7:Def K mg (top 7) "top_sack" ["stacks", "at"])(T8:Def K mg (top 8) "with_stack" ["stacks", "at", "stack"])(T9:Def K mg (top 9) "without_top" ["stacks", "at"])(cd:Def K mg (top 11) "share_gap" ["one", "other"])(ch:Def K mg (top 12) "share_sign" ["one", "other"])(ck:Def K mg (top 13) "single_block" ["sack"])(cl:Def K mg (top 14) "joined_block" ["upper", "lower"])(cm:Def K mg (top 15) "block_share" ["block"])(cn:Def K mg (top 16) "has_greater_share" ["upper", "lower"])(co:Def K mg (top 17) "stack_blocks" ["stack"])(cp:Def K mg (top 34) "turn_share" ["turn"])(cq:Def K mg (top 35) "place_of_turn" ["turns", "turn"])(ct:Def K mg (top 36) "block_turns" ["stacks"])(cu:Def K mg (top 37) "told_order" ["stacks"])(bb:Def K mg (top 38) "check_known" ["stacks", "at"])(cv:Def K mg (top 39) "check_whole" ["stacks", "order"])(c0:Def K mg (top 40) "check_order" ["stacks", "order"])(c1:Def K mg (top 41) "taken_sacks" ["stacks", "order"])(da:Def K mg (top 43) "order_cost" ["stacks", "order"])(dd:Def K mg (top 44) "least_cost" ["stacks"])(df:Def K mg (top 46) "hours_gone" ["stretches"])(dk:Def K mg (top 47) "lost_by" ["stretches", "hour"])(dn:Def K mg (top 54) "check_count" ["many"])(dp:Def K mg (top 55) "check_hours" ["hours"])(dr:Def K mg (top 56) "check_loss" ["loss"])(ds:Def K mg (top 57) "check_room" ["stacks"])(dt:Def K mg (top 58) "check_lies" ["stacks", "at"])(dv:Def K mg (top 59) "check_place" ["stack", "place"])(dx:Def K mg (top 60) "check_waits" ["stacks"])(d0:Def K mg (top 61) "check_deeds" ["deeds"])(d1:Def K mg (top 62) "next_number" ["deeds"])(d2:Def K mg (top 63) "told_anew" ["sack", "loss"])(T:Mef K C (mth 0) "__init__" "House.__init__" ["self", "many"])(X:Mef K C (mth 1) "piles" "House.piles" ["self"])(aa:Mef K C (mth 2) "spans" "House.spans" ["self"])(ab:Mef K C (mth 3) "keep" "House.keep" ["self", "deed", "piles", "spans"])(ag:Mef K C (mth 4) "put" "House.put" ["self", "at", "hours", "loss"])(al:Mef K C (mth 5) "tell" "House.tell" ["self", "at", "place", "loss"])(an:Mef K C (mth 6) "go" "House.go" ["self", "at"])(ap:Mef K C (mth 8) "back" "House.back" ["self"])(ar:Mef K C (mth 11) "hour" "House.hour" ["self"])(a0:Mef K C (mth 7) "dry" "House.dry" ["self"])(a1:Mef K C (mth 14) "cost" "House.cost" ["self"])(a2:Mef K C (mth 19) "lost" "House.lost" ["self", "hour"])(d3:Def K mg (top 66) "_law_whole" ["_law_found"])(d4:Def K mg (top 67) "_law_at" ["_law_script", "_law_k"])(ea:Def K mg (top 68) "_law_draws" ["_law_script", "_law_many_here"])(eb:Def K mg (top 69) "_law_best" ["_law_sacks"])(ec:Def K mg (top 70) "_law_turns" ["_law_stacks"])(ed:Def K mg (top 71) "_law_same_row" ["_law_found", "_law_due"])(ee:Def K mg (top 72) "_law_kind" ["_law_error"])(ef:Def K mg (top 73) "_law_deed" ["_law_cell", "_law_piles"])(eh:Def K mg (top 74) "_law_refusal" ["_law_piles", "_law_kept", "_law_deed_here"])(ei:Def K mg (top 75) "_law_ask" ["_law_house", "_law_deed_here"])(ej:Def K mg (top 76) "_law_call" ["_law_house", "_law_deed_here"])(el:Def K mg (top 77) "_law_step" ["_law_piles", "_law_deed_here", "_law_number"])(en:Def K mg (top 78) "_law_rate" ["_law_piles"])(eo:Def K mg (top 79) "_law_same_answer" ["_law_found", "_law_due"])(ep:Def K mg (top 80) "_law_many" ["_law_header"])(er:Def K mg (top 81) "_law_rates" ["_law_dried"])(es:Def K mg (top 82) "_law_do" ["_law_house", "_law_state", "_law_deed_here"])(et:Def K mg (top 83) "_law_new" ["_law_many_here"])(eu:Def K mg (top 84) "_law_sum" ["_law_piles"])(A:Cl K "House" C)(cs:Cls K C)(mC:mg "House" = some (.ref C))(kC:PySem.W.makesIn K C=true)(pC:PySem.W.keepIn K (.ref C)=true)(a3:PySem.W.findIn K (.ref C) "kept" = some none)(L:PySem.W.findIn K (.ref C) "states" = some none)(o:Exc K mg "BadCount")(p:Exc K mg "BadHours")(s:Exc K mg "BadLoss")(k:Exc K mg "DeedsFull")(j:Exc K mg "EmptyStack")(l:Exc K mg "HouseFull")(x:Exc K mg "NotGone")(i:Exc K mg "NothingDone")(c:Exc K mg "NothingWaits")(d:Exc K mg "UnknownPlace")(e:Exc K mg "UnknownStack")(V:∃t,mg "MOST_DEEDS" = some (.int 60 t))(Y:∃t,mg "MOST_HOURS" = some (.int 60 t))(Z:∃t,mg "MOST_LOSS" = some (.int 100 t))(U:∃t,mg "MOST_STACKS" = some (.int 5 t))(S:∃t,mg "MOST_WAITING" = some (.int 14 t))(z:KFacts K mg)(O:mg "ValueError" = none)(ca:mg "bool" = none)(a4:mg "enumerate" = none)(ev:mg "int" = none)(Q:mg "isinstance" = none)(ew:mg "len" = none)(cc:mg "list" = none)(ex:mg "max" = none)(ey:mg "min" = none)(bd:mg "range" = none)(ez:mg "str" = none)(e0:mg "sum" = none)(be:mg "tuple" = none):∀base f fd,Fun K "law" "law" (top 85) f fd->FnOk P w K mg base CX0 11 f fd ["_law_script"] (dSp K z4t):=by
 intro base;have D:Atr K "House" "kept":=⟨C,cs,a3,A⟩;have J:Atr K "House" "states":=⟨C,cs,L,A⟩;have c2:Cal P w K mg base CX0 "sack_number" 1 (dSp K ze6):=by exists jg T2 ["sack"] λr a t=>dw (ft (fb ce a))
 have c3:Cal P w K mg base CX0 "sack_hours" 1 (dSp K ud):=by exists jg T3 ["sack"] λr a t=>dw (ft (fb ce a))
 have c4:Cal P w K mg base CX0 "sack_loss" 1 (dSp K vi):=by exists jg T4 ["sack"] λr a t=>dw (ft (fb ce a))
 have c5:Cal P w K mg base CX0 "sacks_in_all" 1 (dSp K zej):=by exists jg T5 ["stacks"] λr a t=>dw (ft (qz (bf (gc (rd a (kq (bg a)) (λ_ _ _ _ _ _ _ a=>kx a))) cy)))
 have c6:Cal P w K mg base CX0 "loss_in_all" 2 (dSp K zg6):=by exists jg T6 ["stacks", "total", "stack"] λr a t=>di (fu t ce) (di (ny (kq (bg a)) t.pg (dw (yn t (qz (bf (gc (rd a (kq (bg a)) (λ_ _ _ _ _ _ _ a=>gq c4 r (bf (bg a) cy)))) cy))))) (dw (ft (bg a))))
 have c7:Cal P w K mg base CX0 "top_sack" 1 (dSp K zie):=by exists jg T7 ["stacks", "at"] λr a t=>dw (ft (jy (fb (km (bg a) ce) a) ce))
 have c8:Cal P w K mg base CX0 "with_stack" 1 (dSp K xl):=by exists jg T8 ["stacks", "at", "stack"] λr a t=>dw (ft (gc (l6 (gc (l6 (gc (sw (bg a) u8 (re (km (bg a) ce)))) (gc (jb (bf (bg a) cy))))) (gc (sw (bg a) (re (bg a)) u8)))))
 have c9:Cal P w K mg base CX0 "without_top" 2 (dSp K ze8):=by exists jg T9 ["stacks", "at"] λr a t=>dw (ft (gq c8 r (bf (bg a) (bf (bg a) (bf (gc (sw (fb (km (bg a) ce) a) (re ce) u8)) cy)))))
 have e1:Cal P w K mg base CX0 "share_gap" 1 (dSp K zgu):=by exists jg cd ["one", "other"] λr a t=>dw (ft (km (p9 (fb ce a) (fb ce a)) (p9 (fb ce a) (fb ce a))))
 have bk:Cal P w K mg base CX0 "share_sign" 2 (dSp K se):=by exists jg ch ["one", "other", "gap"] λr a t=>di (fu t (gq e1 r (bf (bg a) (bf (bg a) cy)))) (di (gz (lz (bg a) ce) (dw (ft ce)) ie) (di (gz (my (bg a) ce) (dw (ft (oa ce))) ie) (dw (ft ce))))
 have e2:Cal P w K mg base CX0 "single_block" 2 (dSp K zef):=by exists jg ck ["sack"] λr a t=>dw (ft (ki (bf ce (bf (gq c3 r (bf (bg a) cy)) (bf (gq c4 r (bf (bg a) cy)) cy)))))
 have e3:Cal P w K mg base CX0 "joined_block" 1 (dSp K zeg):=by exists jg cl ["upper", "lower"] λr a t=>dw (ft (ki (bf (kr (fb ce a) (fb ce a)) (bf (kr (fb ce a) (fb ce a)) (bf (kr (fb ce a) (fb ce a)) cy)))))
 have bl:Cal P w K mg base CX0 "block_share" 1 (dSp K zg):=by exists jg cm ["block"] λr a t=>dw (ft (ki (bf (fb ce a) (bf (fb ce a) cy))))
 have e4:Cal P w K mg base CX0 "has_greater_share" 3 (dSp K sg):=by exists jg cn ["upper", "lower"] λr a t=>dw (ft (z5g (gq bk r (bf (gq bl r (bf (bg a) cy)) (bf (gq bl r (bf (bg a) cy)) cy))) ce))
 have e5:Cal P w K mg base CX0 "stack_blocks" 4 (dSp K zf7):=by exists jg co ["stack", "blocks", "sack", "block"] λr a t=>di (qy (t.psF (jb cy))) (di (ny (kq (bg a)) t.pg (di (fu t (gq e2 r (bf (bg a) cy))) (di (zmv (dt_w (oq (lz (kx a) ce) (oz (p8 (m8 (gq e4 r (bf (fb (oa ce) a) (bf (bg a) cy)))))))) (dw (fu t (gq e3 r (bf (z3e a) (bf (bg a) cy)))))) (dw (ju (zjj (bg a) a)))))) (dw (ft (bg a))))
 have bm:Cal P w K mg base CX0 "turn_share" 1 (dSp K vj):=by exists jg cp ["turn"] λr a t=>dw (ft (ki (bf (fb ce a) (bf (fb ce a) cy))))
 have e6:Cal P w K mg base CX0 "place_of_turn" 3 (dSp K zfo):=by exists jg cq ["turns", "turn", "place"] λr a t=>di (fu t ce) (di (zmv (dt_w (oq (my (bg a) (kx a)) (oz (vy (gq bk r (bf (gq bm r (bf (fb (bg a) a) cy)) (bf (gq bm r (bf (bg a) cy)) cy))) ce)))) (dw (yn t ce))) (dw (ft (bg a))))
 have e8:Cal P w K mg base CX0 "block_turns" 5 (dSp K xv):=by exists jg ct ["stacks", "turns", "at", "stack", "many", "hours", "loss", "turn"] λr a t=>di (qy (t.psF (jb cy))) (di (zz6 (zwm (bf (bg a) cy)) (lw t (lw t wf)) (dw (zmy (kq (gq e5 r (bf (bg a) cy))) (lw t (lw t (lw t wf))) (di (fu t (ki (bf (bg a) (bf (bg a) (bf (bg a) (bf (bg a) cy)))))) (dw (ju (ztz (zwv e6 r (z0a (z5p (bf (bg a) cy)) a)) (bg a) a))))))) (dw (ft (bg a))))
 have bo:Cal P w K mg base CX0 "told_order" 6 (fSp K zb):=by exists z5w cu ["stacks", "order", "at", "many", "hours", "loss"] λr a t=>di (qy (t.psF (jb cy))) (di (zmy (kq (gq e8 r (bf (bg a) cy))) (lw t (lw t (lw t (lw t wf)))) (dw (ju (zt6 (zye (jb (bf (bg a) cy)) (bg a)) a)))) (dw (zzx a)))
 have M:Cal P w K mg base (CXr P w) "check_known" 1 (qSp K xp ug):=by exists pi bb ["stacks", "at"] λr a t=>dw (gz (dt_w (l9 (my (bg a) ce) (mz (lz (bg a) (kx a))))) (dw (o6 e yh)) ie)
 have e9:Cal P w K mg base CX0 "check_known" 1 (dSp K zgz):=by exists jg bb ["stacks", "at"] λr a t=>dw (gz (dt_w (l9 (my (bg a) ce) (mz (lz (bg a) (kx a))))) (dw zmu) ie)
 have fa:Cal P w K mg base CX0 "check_whole" 1 (dSp K zg1):=by exists jg cv ["stacks", "order", "left", "at"] λr a t=>di (qy (zmw a t (kq (bg a)) (λ_ _ _ _ _ _ _ a=>kx a))) (di (ny (kq (bg a)) t.pg (di (gz (js (fb (km (bg a) ce) a) ce) (dw zmu) ie) (dw (zwq (km (bg a) ce) ce a)))) (dw (gz (lz (zz9 a) ce) (dw zmu) ie)))
 have fe:Cal P w K mg base CX0 "check_order" 2 (dSp K zg3):=by exists jg c0 ["stacks", "order", "at"] λr a t=>di (ny (kq (bg a)) t.pg (dw (ju (gq e9 r (bf (bg a) (bf (bg a) cy)))))) (dw (ju (gq fa r (bf (bg a) (bf (bg a) cy)))))
 have fh:Cal P w K mg base CX0 "taken_sacks" 3 (dSp K ze7):=by exists jg c1 ["stacks", "order", "taken", "sacks", "at"] λr a t=>di (ju (gq fe r (bf (bg a) (bf (bg a) cy)))) (di (qy (zmw a t (kq (bg a)) (λ_ _ _ _ _ _ _ a=>ce))) (di (qy (t.psF (jb cy))) (di (ny (kq (bg a)) t.pg (di (ju (zjj (jy (fb (km (bg a) ce) a) (fb (km (bg a) ce) a)) a)) (dw (zwp (km (bg a) ce) ce a)))) (dw (ft (bg a))))))
 have fi:Cal P w K mg base CX0 "order_cost" 4 (dSp K zhy):=by exists jg da ["stacks", "order", "cost", "hour", "sack"] λr a t=>di (fu t ce) (di (fu t ce) (di (ny (kq (gq fh r (bf (bg a) (bf (bg a) cy)))) t.pg (di (yn t (gq c3 r (bf (bg a) cy))) (dw (yn t (p9 (gq c4 r (bf (bg a) cy)) (bg a)))))) (dw (ft (bg a)))))
 have fk:Cal P w K mg base CX0 "least_cost" 7 (dSp K zf0):=by exists jg dd ["stacks"] λr a t=>dw (ft (gq fi r (bf (bg a) (bf (gc (ztn bo r (bf (bg a) cy))) cy))))
 have bp:Cal P w K mg base CX0 "hours_gone" 1 (dSp K y9):=by exists jg df ["stretches"] λr a t=>di (gz (js (kx a) ce) (dw (ft ce)) ie) (dw (ft (jy (fb (oa ce) a) ce)))
 have br:Cal P w K mg base (CXr P w) "lost_by" 2 (qSp K zih zii):=by exists pi dk ["stretches", "hour", "lost", "begun", "dry", "rate"] λr a t=>di (gz (dt_w (l9 (my (bg a) ce) (mz (lz (bg a) (gq bp r (bf (bg a) cy)))))) (dw (o6 x yh)) ie) (di (fu t ce) (di (zmy (kq (bg a)) (lw t (lw t (lw t wf))) (dw (gz (my (bg a) (bg a)) (dw (yn t (p9 (bg a) (km (z29 (bf (bg a) (bf (bg a) cy))) (bg a))))) ie))) (dw (ft (bg a)))))
 have bs:Cal P w K mg base (CXr P w) "check_count" 1 (qSp K zek zel):=by exists pi dn ["many"] λr a t=>dw (gz (dt_w (l9 (my (bg a) ce) (mz (lz (bg a) (qe U))))) (dw (o6 o (wq (nc t3 (nc (wm (qe U)) (nc t3 wt)))))) ie)
 have bt:Cal P w K mg base (CXr P w) "check_hours" 1 (qSp K zem xo):=by exists pi dp ["hours"] λr a t=>dw (gz (dt_w (l9 (my (bg a) ce) (mz (lz (bg a) (qe Y))))) (dw (o6 p (wq (nc t3 (nc (wm (qe Y)) (nc t3 wt)))))) ie)
 have a5:Cal P w K mg base (CXr P w) "check_loss" 1 (qSp K zr vm):=by exists pi dr ["loss"] λr a t=>dw (gz (dt_w (l9 (my (bg a) ce) (mz (lz (bg a) (qe Z))))) (dw (o6 s (wq (nc t3 (nc (wm (qe Z)) wt))))) ie)
 have bv:Cal P w K mg base (CXr P w) "check_room" 2 (qSp K zfa xu):=by exists pi ds ["stacks"] λr a t=>dw (gz (vy (gq c5 r (bf (bg a) cy)) (qe S)) (dw (o6 l (wq (nc (wm (qe S)) (nc t3 wt))))) ie)
 have a6:Cal P w K mg base (CXr P w) "check_lies" 1 (qSp K zo vk):=by exists pi dt ["stacks", "at"] λr a t=>dw (gz (js (uw (bf (fb (km (bg a) ce) a) cy)) ce) (dw (o6 j (wq (nc t3 (nc (wm (bg a)) wt))))) ie)
 have b0:Cal P w K mg base (CXr P w) "check_place" 1 (qSp K zer xm):=by exists pi dv ["stack", "place"] λr a t=>dw (gz (dt_w (l9 (my (bg a) ce) (mz (lz (bg a) (kx a))))) (dw (o6 d yh)) ie)
 have b1:Cal P w K mg base (CXr P w) "check_waits" 2 (qSp K zep xn):=by exists pi dx ["stacks"] λr a t=>dw (gz (js (gq c5 r (bf (bg a) cy)) ce) (dw (o6 c yh)) ie)
 have q:Cal P w K mg base (CXr P w) "check_deeds" 1 (qSp K vn sf):=by exists pi d0 ["deeds"] λr a t=>dw (gz (vy (kx a) (qe V)) (dw (o6 k (wq (nc (wm (qe V)) (nc t3 wt))))) ie)
 have fl:Cal P w K mg base CX0 "next_number" 1 (dSp K zfb):=by exists jg d1 ["deeds"] λr a t=>dw (ft (kr ce (uw (bf (gc (zog a (kq (bg a)) (λ_ _ _ _ _ _ _ a=>js (fb ce a) gi) (λ_ _ _ _ _ _ _ a=>bg a))) cy))))
 have fp:Cal P w K mg base CX0 "told_anew" 2 (dSp K zja):=by exists jg d2 ["sack", "loss"] λr a t=>dw (ft (ki (bf (gq c2 r (bf (bg a) cy)) (bf (gq c3 r (bf (bg a) cy)) (bf (bg a) cy)))))
 have a7:KCal P w K mg base "House" 2 (lSp K zw zea):=by exists z5y A mC kC pC T ["self", "many"] λr a t=>di (kv (ju (mh bs r (ji (bf (bg a) cy)))) (mn (me bs r (ji (bf (bg a) cy))))) (di (zq4 D a (jb cy)) (dw (zq4 J a (jb (bf (ki (bf (gc (rd a (ub (bf (bg a) cy)) (λ_ _ _ _ _ _ _ a=>gc (jb cy)))) (bf (gc (jb cy)) cy))) cy)))))
 have b:MCal P w K mg base "House" "piles" 1 (qSp K uf zlt):=by exists x6 A cs X ["self"] λr a t=>dw (ft (jy (zua (va J a) (zyl zyk)) ce))
 have R:MCal P w K mg base "House" "spans" 1 (qSp K oh zlu):=by exists x6 A cs aa ["self"] λr a t=>dw (ft (jy (zua (va J a) (zyl zyk)) ce))
 have g:MCal P w K mg base "House" "keep" 1 (lSp K o7 znk):=by exists vt A cs ab ["self", "deed", "piles", "spans"] λr a t=>di (ju (zgt (va D a) (bg a))) (dw (ju (zgt (va J a) (ki (bf (bg a) (bf (bg a) cy))))))
 have B:MCal P w K mg base "House" "put" 3 (lSp K y8 xk):=by exists vt A cs ag ["self", "at", "hours", "loss", "piles", "number", "stack"] λr a t=>di (fu t (mq b r a)) (di (kv (ju (mh M r (ji (bf (bg a) (bf (bg a) cy))))) (mn (me M r (ji (bf (bg a) (bf (bg a) cy)))))) (di (kv (ju (mh bt r (ji (bf (bg a) cy)))) (mn (me bt r (ji (bf (bg a) cy))))) (di (kv (ju (mh a5 r (ji (bf (bg a) cy)))) (mn (me a5 r (ji (bf (bg a) cy))))) (di (kv (ju (mh bv r (ji (bf (bg a) cy)))) (mn (me bv r (ji (bf (bg a) cy))))) (di (kv (ju (t0 (λ_ _=>mh q r (ji (bf (rj D a) cy))))) (mn (zq2 (λ_ _=>me q r (ji (bf (rj D a) cy)))))) (di (fu t (t0 (λ_ _=>gq fl r (bf (rj D a) cy)))) (di (fu t (gc (l6 (gc (jb (bf (ki (bf (bg a) (bf (bg a) (bf (bg a) cy)))) cy))) (fb (km (bg a) ce) a)))) (di (ju (vg g r (bf (ki (bf gi (bf (bg a) (bf (bg a) (bf (bg a) cy))))) (bf (gq c8 r (bf (bg a) (bf (bg a) (bf (bg a) cy)))) (bf (mq R r a) cy))) a)) (dw (ft (bg a)))))))))))
 have E:MCal P w K mg base "House" "tell" 3 (lSp K zn xt):=by exists vt A cs al ["self", "at", "place", "loss", "piles", "stack", "sack", "changed"] λr a t=>di (fu t (mq b r a)) (di (kv (ju (mh M r (ji (bf (bg a) (bf (bg a) cy))))) (mn (me M r (ji (bf (bg a) (bf (bg a) cy)))))) (di (kv (ju (mh a6 r (ji (bf (bg a) (bf (bg a) cy))))) (mn (me a6 r (ji (bf (bg a) (bf (bg a) cy)))))) (di (fu t (fb (km (bg a) ce) a)) (di (kv (ju (mh b0 r (ji (bf (bg a) (bf (bg a) cy))))) (mn (me b0 r (ji (bf (bg a) (bf (bg a) cy)))))) (di (kv (ju (mh a5 r (ji (bf (bg a) cy)))) (mn (me a5 r (ji (bf (bg a) cy))))) (di (kv (ju (t0 (λ_ _=>mh q r (ji (bf (rj D a) cy))))) (mn (zq2 (λ_ _=>me q r (ji (bf (rj D a) cy)))))) (di (fu t (fb (km (bg a) ce) a)) (di (fu t (gc (l6 (gc (l6 (gc (sw (bg a) u8 (re (km (bg a) ce)))) (gc (jb (bf (gq fp r (bf (bg a) (bf (bg a) cy))) cy))))) (gc (sw (bg a) (re (bg a)) u8))))) (di (ju (vg g r (bf (ki (bf gi (bf (bg a) (bf (bg a) (bf (bg a) cy))))) (bf (gq c8 r (bf (bg a) (bf (bg a) (bf (bg a) cy)))) (bf (mq R r a) cy))) a)) (dw (ft (gq c4 r (bf (bg a) cy)))))))))))))
 have F:MCal P w K mg base "House" "go" 3 (lSp K yw xh):=by exists vt A cs an ["self", "at", "piles"] λr a t=>di (fu t (mq b r a)) (di (kv (ju (mh M r (ji (bf (bg a) (bf (bg a) cy))))) (mn (me M r (ji (bf (bg a) (bf (bg a) cy)))))) (di (kv (ju (mh a6 r (ji (bf (bg a) (bf (bg a) cy))))) (mn (me a6 r (ji (bf (bg a) (bf (bg a) cy)))))) (di (kv (ju (t0 (λ_ _=>mh q r (ji (bf (rj D a) cy))))) (mn (zq2 (λ_ _=>me q r (ji (bf (rj D a) cy)))))) (di (ju (vg g r (bf (ki (bf gi (bf (bg a) cy))) (bf (gq c9 r (bf (bg a) (bf (bg a) cy))) (bf (mq R r a) cy))) a)) (dw (ft (gq c7 r (bf (bg a) (bf (bg a) cy)))))))))
 have G:MCal P w K mg base "House" "back" 1 (lSp K zl xr):=by exists vt A cs ap ["self"] λr a t=>di (gz (js (zqz (va D a)) ce) (dw (o6 i yh)) ie) (di (ju (zkv (va J a))) (dw (ft (zkv (va D a)))))
 have a8:MCal P w K mg base "House" "hour" 2 (qSp K zfc znl):=by exists x6 A cs ar ["self"] λr a t=>dw (ft (gq bp r (bf (mq R r a) cy)))
 have H:MCal P w K mg base "House" "dry" 7 (lSp K zd xi):=by exists vt A cs a0 ["self", "piles", "at", "sack", "begun", "stretch"] λr a t=>di (fu t (mq b r a)) (di (kv (ju (mh b1 r (ji (bf (bg a) cy)))) (mn (me b1 r (ji (bf (bg a) cy))))) (di (kv (ju (t0 (λ_ _=>mh q r (ji (bf (rj D a) cy))))) (mn (zq2 (λ_ _=>me q r (ji (bf (rj D a) cy)))))) (di (fu t (jy (gc (ztn bo r (bf (bg a) cy))) ce)) (di (fu t (gq c7 r (bf (bg a) (bf (bg a) cy)))) (di (fu t (mq a8 r a)) (di (fu t (ki (bf (bg a) (bf (kr (bg a) (gq c3 r (bf (bg a) cy))) (bf (gq c6 r (bf (bg a) cy)) cy))))) (di (ju (vg g r (bf (ki (bf gi cy)) (bf (gq c9 r (bf (bg a) (bf (bg a) cy))) (bf (gc (l6 (mq R r a) (gc (jb (bf (bg a) cy))))) cy))) a)) (dw (ft (bg a))))))))))
 have m:MCal P w K mg base "House" "cost" 8 (qSp K qk znm):=by exists x6 A cs a1 ["self"] λr a t=>dw (ft (gq fk r (bf (mq b r a) cy)))
 have a9:MCal P w K mg base "House" "lost" 3 (qSp K zp zhc):=by exists x6 A cs a2 ["self", "hour"] λr a t=>dw (kv (ft (mh br r (ji (bf (mq R r a) (bf (bg a) cy))))) (u6 (me br r (ji (bf (mq R r a) (bf (bg a) cy))))))
 have N:Cal P w K mg base CX0 "_law_whole" 1 (dSp K qi):=by exists jg d3 ["_law_found"] λr a t=>dw (ft (zql (uv z3h (bg a)) (ztm (z20 (uv zz1 (bg a))))))
 have fr:Cal P w K mg base CX0 "_law_at" 1 (dSp K yt):=by exists jg d4 ["_law_script", "_law_k"] λr a t=>di (gz (my (bg a) (kx a)) (dw (ft (fb (bg a) a))) ie) (dw (ft ce))
 have fs:Cal P w K mg base CX0 "_law_draws" 2 (dSp K zc):=by exists jg ea ["_law_script", "_law_many_here", "_law_made", "_law_state", "_law_k", "_law_cell"] λr a t=>di (qy (t.psF (jb cy))) (di (fu t ce) (di (ny (ub (bf (bg a) cy)) t.pg (di (fu t (gq fr r (bf (bg a) (bf (bg a) cy)))) (di (gz (js (ma (kx a) ce) ce) (di (fu t (ma (kr (kr (kr (p9 (bg a) ce) (bg a)) (bg a)) ce) ce)) (dw (fu t (ma (p9 (kr (bg a) (bg a)) ce) ce)))) ie) (dw (ju (zjj (bg a) a)))))) (dw (ft (bg a)))))
 have fv:Cal P w K mg base CX0 "_law_best" 1 (dSp K y0):=by exists jg eb ["_law_sacks", "_law_best_here", "_law_hours", "_law_loss", "_law_k"] λr a t=>di (fu t (gc (jb (bf ce (bf ce (bf (oa ce) cy)))))) (di (fu t ce) (di (fu t ce) (di (ny (ub (bf (kx a) cy)) t.pg (di (fu t (kr (bg a) (jy (fb (bg a) a) ce))) (di (fu t (kr (bg a) (jy (fb (bg a) a) ce))) (dw (gz (vy (p9 (bg a) (fb ce a)) (p9 (fb ce a) (bg a))) (dw (fu t (gc (jb (bf (kr (bg a) ce) (bf (bg a) (bf (bg a) cy))))))) ie))))) (dw (ft (bg a))))))
 have fw:Cal P w K mg base CX0 "_law_turns" 2 (dSp K za):=by exists jg ec ["_law_stacks", "_law_left", "_law_made", "_law_heads", "_law_pick", "_law_k"] λr a t=>di (qy (zmw a t (kq (bg a)) (λ_ _ _ _ _ _ _ a=>gc (ztr (bf (bg a) cy))))) (di (qy (t.psF (jb cy))) (di (zmv (lz (qz (bf (gc (zwr a (zyg a) (λ_ _ _ _ _ _ _ a=>kx a))) cy)) ce) (di (ztw (zws a t (zyg a) (λ_ _ _ _ _ _ _ a=>gq fv r (bf (bg a) cy)))) (di (fu t ce) (di (ny (ub (bf (kx a) cy)) t.pg (dw (gz (lz (p9 (jy (fb (bg a) a) ce) (jy (fb (bg a) a) ce)) (p9 (jy (fb (bg a) a) ce) (jy (fb (bg a) a) ce))) (dw (fu t (bg a))) ie))) (di (ju (zjj (ki (bf (kr (bg a) ce) (bf (jy (fb (bg a) a) ce) (bf (jy (fb (bg a) a) ce) (bf (jy (fb (bg a) a) ce) cy))))) a)) (dw (zwc (bg a) (gc (sw (fb (bg a) a) (re (jy (fb (bg a) a) ce)) u8)) a))))))) (dw (ft (bg a)))))
 have ba:Cal P w K mg base CX0 "_law_same_row" 2 (dSp K zu):=by exists jg ed ["_law_found", "_law_due", "_law_k"] λr a t=>di (gz (dt_w (l9 (p8 (m8 (uv zqs (bg a)))) (mz (vw (kx a) (kx a))))) (dw (ft qt)) ie) (di (ny (ub (bf (kx a) cy)) t.pg (di (gz (dt_w (oq (m8 (uv ztx (fb (bg a) a))) (oz (p8 (m8 (uv ztx (fb (bg a) a))))))) (dw (ft qt)) ie) (di (gz (dt_w (oq (p8 (m8 (uv ztx (fb (bg a) a)))) (oz (p8 (m8 (gq N r (bf (fb (bg a) a) cy))))))) (dw (ft qt)) ie) (dw (gz (vw (fb (bg a) a) (fb (bg a) a)) (dw (ft qt)) ie))))) (dw (ft qt)))
 obtain⟨RA,hR,hS⟩:=z.rot;have kk:KCl P w K mg base "_law_kind" 1 kdT:=by exists z50 ee ["_law_error", "_law_kinds", "_law_words", "_law_found"] zxs λu v y a t=>di (fu t (gc (jb (bf (nv z u v y a) (bf (nv z u v y a) cy))))) (di (fu t (gc (l6 (bg a) (gc (jb (bf (nv z u v y a) (bf (nv z u v y a) cy))))))) (di (fu t (gc (l6 (bg a) (gc (jb (bf (nv z u v y a) (bf (nv z u v y a) cy))))))) (di (fu t (gc (l6 (bg a) (gc (jb (bf (nv z u v y a) (bf (nv z u v y a) cy))))))) (di (fu t (gc (l6 (bg a) (gc (jb (bf (nv z u v y a) (bf (nv z u v y a) cy))))))) (di (fu t (gc (l6 (bg a) (gc (jb (bf (nv z u v y a) (bf (nv z u v y a) cy))))))) (di (fu t (gc (l6 (bg a) (gc (jb (bf (nv z u v y a) cy)))))) (di (fu t (gc (jb (bf gi (bf gi (bf gi (bf gi (bf gi (bf gi cy))))))))) (di (fu t (gc (l6 (bg a) (gc (jb (bf gi (bf gi (bf gi (bf gi (bf gi cy)))))))))) (di (fu t (gc (l6 (bg a) (gc (jb (bf gi (bf gi cy))))))) (di (ztw (zpi (λ_ _ _ _ _ _ _ I h=>y.comp I h) a t (zl2 (λit lo n=>zpr it lo n) (bf ce cy)) (λ_ _ _ _ _ _ _ y a=>dt_w (oq (m8 (fb (bg a) a)) (oz (m8 (z30 z u v y a))))) (λ_ _ _ _ _ _ _ y a=>fb (bg a) a))) (dw (ft (z0k (bf (gc (l6 (gc (jb (bf gi cy))) (bg a))) cy))))))))))))))
 have f0:Cal P w K mg base CX0 "_law_deed" 1 (dSp K yx):=by exists jg ef ["_law_cell", "_law_piles", "_law_many_here", "_law_words", "_law_word", "_law_odd", "_law_figure", "_law_at_here", "_law_hours", "_law_loss", "_law_tall", "_law_place"] λr a t=>di (fu t (kx a)) (di (fu t (gc (jb (bf gi (bf gi (bf gi (bf gi (bf gi (bf gi (bf gi (bf gi (bf gi (bf gi (bf gi (bf gi cy))))))))))))))) (di (fu t (fb (ma (bg a) ce) a)) (di (fu t (ma (tx (bg a) ce) ce)) (di (fu t (tx (bg a) ce)) (di (fu t (kr ce (ma (bg a) (zyc (bf (bg a) (bf ce cy)))))) (di (fu t (tx (bg a) ce)) (di (gz (dt_w (l9 (js (bg a) ce) (mz (js (bg a) ce)))) (dw (fu t (jy (gc (jb (bf ce (bf (kr (bg a) ce) (bf (oa ce) (bf (yf ce ce) cy)))))) (ma (bg a) ce)))) ie) (di (fu t (kr ce (ma (bg a) ce))) (di (gz (js (bg a) ce) (dw (fu t (jy (gc (jb (bf ce (bf ce (bf (oa ce) (bf (yf ce ce) cy)))))) (ma (bg a) ce)))) ie) (di (fu t (ma (tx (bg a) ce) ce)) (di (gz (lz (bg a) ce) (di (fu t (kr ce (ma (bg a) ce))) (dw (fu t (ma (bg a) ce)))) ie) (di (gz (js (bg a) ce) (dw (fu t (jy (gc (jb (bf (oa ce) (bf ce (bf (oa (yf ce ce)) (bf (yf ce ce) cy)))))) (ma (tx (bg a) ce) ce)))) ie) (di (fu t ce) (di (gz (dt_w (oq (z2z ce (bg a)) (oz (z2z (bg a) (bg a))))) (dw (fu t (uw (bf (fb (km (bg a) ce) a) cy)))) ie) (di (fu t (kr ce (ma (tx (bg a) ce) (zyc (bf (bg a) (bf ce cy)))))) (di (gz (js (bg a) ce) (dw (fu t (jy (gc (jb (bf ce (bf (kr (bg a) ce) (bf (oa ce) (bf (yf ce ce) cy)))))) (ma (tx (bg a) ce) ce)))) ie) (di (gz (js (bg a) gi) (dw (ft (ki (bf gi (bf (bg a) (bf (bg a) (bf (bg a) cy))))))) ie) (di (gz (js (bg a) gi) (dw (ft (ki (bf gi (bf (bg a) (bf (bg a) (bf (bg a) cy))))))) ie) (di (gz (js (bg a) gi) (dw (ft (ki (bf gi (bf (bg a) cy))))) ie) (dw (ft (ki (bf (bg a) cy)))))))))))))))))))))))
 have f1:Cal P w K mg base CX0 "_law_refusal" 1 (dSp K zi):=by exists jg eh ["_law_piles", "_law_kept", "_law_deed_here", "_law_word"] λr a t=>di (fu t (fb ce a)) (di (gz (js (bg a) gi) (dw (ft (jy (gc (jb (bf gi (bf gi cy)))) (zzu (bf (zv5 (bg a) ce) cy))))) ie) (di (gz (js (bg a) gi) (dw (gz (js (qz (bf (gc (rd a (kq (bg a)) (λ_ _ _ _ _ _ _ a=>kx a))) cy)) ce) (dw (ft gi)) ie)) (dw (gz (dt_w (l9 (my (fb ce a) ce) (mz (lz (fb ce a) (kx a))))) (dw (ft gi)) (dw (gz (dt_w (oq (vw (bg a) gi) (oz (js (uw (bf (fb (km (fb ce a) ce) a) cy)) ce)))) (dw (ft gi)) ie))))) (di (gz (dt_w (oq (js (bg a) gi) (oz (dt_w (l9 (my (fb ce a) ce) (mz (lz (fb ce a) (uw (bf (fb (km (fb ce a) ce) a) cy))))))))) (dw (ft gi)) ie) (di (gz (dt_w (oq (js (bg a) gi) (oz (dt_w (l9 (my (fb ce a) ce) (mz (lz (fb ce a) ce))))))) (dw (ft gi)) ie) (di (gz (dt_w (oq (dt_w (l9 (js (bg a) gi) (mz (js (bg a) gi)))) (oz (dt_w (l9 (my (fb ce a) ce) (mz (lz (fb ce a) ce))))))) (dw (ft gi)) ie) (di (gz (dt_w (oq (js (bg a) gi) (oz (vy (qz (bf (gc (rd a (kq (bg a)) (λ_ _ _ _ _ _ _ a=>kx a))) cy)) ce)))) (dw (ft gi)) ie) (di (gz (vy (bg a) ce) (dw (ft gi)) ie) (dw (ft gi)))))))))
 have b2:Cal P w K mg base (CXr P w) "_law_ask" 8 (lSp K zhh xg):=by exists z0h ei ["_law_house", "_law_deed_here"] λr a t=>di (gz (js (fb ce a) gi) (dw (kv (ft (vg B r (bf (fb ce a) (bf (fb ce a) (bf (fb ce a) cy))) a)) (u6 (zm7 B r (bf (fb ce a) (bf (fb ce a) (bf (fb ce a) cy))) a)))) ie) (di (gz (js (fb ce a) gi) (dw (kv (ft (vg E r (bf (fb ce a) (bf (fb ce a) (bf (fb ce a) cy))) a)) (u6 (zm7 E r (bf (fb ce a) (bf (fb ce a) (bf (fb ce a) cy))) a)))) ie) (di (gz (js (fb ce a) gi) (dw (kv (ft (vg F r (bf (fb ce a) cy) a)) (u6 (zm7 F r (bf (fb ce a) cy) a)))) ie) (di (gz (js (fb ce a) gi) (dw (kv (ft (zl5 H r a)) (u6 (zoo H r a)))) ie) (dw (kv (ft (zl5 G r a)) (u6 (zoo G r a)))))))
 have f2:Cal P w K mg base (CXr P w) "_law_call" 9 (lSp K qh zo7):=by exists z0h ej ["_law_house", "_law_deed_here", "_law_refused", "e"] λr a t=>di (fu t (ki (bf gi (bf gi cy)))) (di (z0m hR hS kk r a t (λ_ _ a t=>dw (kv (ft (zjn b2 r (vb (ji (bf (bg a) cy)) a))) (u6 (zw0 b2 r (vb (ji (bf (bg a) cy)) a)))))) (dw (ft (bg a))))
 have f3:Cal P w K mg base CX0 "_law_step" 3 (dSp K ql):=by exists jg el ["_law_piles", "_law_deed_here", "_law_number", "_law_left", "_law_k", "_law_sack"] λr a t=>di (zzz (zwe a t (kq (bg a)) (λ_ _ _ _ _ _ _ a=>ztr (bf (bg a) cy)))) (di (fu t ce) (di (gz (lz (kx a) ce) (dw (fu t (km (fb ce a) ce))) ie) (di (gz (js (fb ce a) gi) (di (zq6 (λ_ _=>bg a) (zue (λ_ _=>l6 (gc (jb (bf (ki (bf (bg a) (bf (fb ce a) (bf (fb ce a) cy)))) cy))) (fb (bg a) a))) a) (dw (ft (gc (jb (bf (bg a) (bf (bg a) cy))))))) ie) (di (gz (js (fb ce a) gi) (di (fu t (t0 (λ_ _=>jy (fb (bg a) a) (km (fb ce a) ce)))) (di (zug (λ_ _=>bg a) (λ_ _=>km (fb ce a) ce) (ki (bf (fb ce a) (bf (fb ce a) (bf (fb ce a) cy)))) a) (dw (ft (gc (jb (bf (bg a) (bf (fb ce a) cy)))))))) ie) (di (gz (js (fb ce a) gi) (dw (fu t (km (jy (jy (gq fw r (bf (bg a) cy)) ce) ce) ce))) ie) (di (fu t (t0 (λ_ _=>jy (fb (bg a) a) ce))) (di (zq6 (λ_ _=>bg a) (zue (λ_ _=>sw (fb (bg a) a) (re ce) u8)) a) (dw (ft (gc (jb (bf (bg a) (bf (bg a) cy)))))))))))))
 have b3:Cal P w K mg base CX0 "_law_rate" 1 (dSp K yy):=by exists jg en ["_law_piles"] λr a t=>dw (ft (qz (bf (gc (rd a (kq (bg a)) (λ_ _ _ _ _ _ _ a=>qz (bf (gc (rd a (kq (bg a)) (λ_ _ _ _ _ _ _ a=>fb ce a))) cy)))) cy)))
 have f4:Cal P w K mg base CX0 "_law_same_answer" 3 (dSp K xw):=by exists jg eo ["_law_found", "_law_due"] λr a t=>di (gz (m8 (uv zqs (bg a))) (dw (ft (gq ba r (bf (bg a) (bf (bg a) cy))))) ie) (dw (ft (zql (gq N r (bf (bg a) cy)) (ztm (zv5 (bg a) (bg a))))))
 have f5:Cal P w K mg base CX0 "_law_many" 1 (dSp K zhd):=by exists jg ep ["_law_header"] λr a t=>dw (ft (jy (gc (jb (bf ce (bf ce (bf ce (bf ce (bf ce (bf ce (bf ce (bf ce (bf ce (bf ce (bf ce (bf ce cy)))))))))))))) (ma (bg a) ce)))
 have b4:Cal P w K mg base CX0 "_law_rates" 1 (dSp K zf1):=by exists jg er ["_law_dried", "_law_rates_here", "_law_begun", "_law_dry", "_law_rate_here"] λr a t=>di (fu t (gc (jb cy))) (di (zmy (kq (bg a)) (lw t (lw t (lw t wf))) (dw (fu t (gc (l6 (bg a) (gc (zye (jb (bf (bg a) cy)) (km (bg a) (bg a))))))))) (dw (ft (bg a))))
 have b5:Cal P w K mg base (CXr P w) "_law_do" 10 (lSp K qg zso):=by exists z0h es ["_law_house", "_law_state", "_law_deed_here", "_law_piles", "_law_kept", "_law_past", "_law_dried", "_law_due", "_law_found", "_law_ahead", "_law_step_here", "_law_hour"] λr a t=>di (zw8 (lw t (lw t (lw t (lw t wf)))) a) (di (fu t (gq f1 r (bf (bg a) (bf (zqz (yg a)) (bf (bg a) cy))))) (di (fu t (zjn f2 r (vb (ji (bf (bg a) cy)) a))) (di (gz (vw (bg a) gi) (dw (ft (gq ba r (bf (bg a) (bf (ki (bf gi (bf (bg a) cy))) cy))))) ie) (di (gz (js (fb ce a) gi) (di (fu t (zkv (yg a))) (di (zkw (fb ce a) a) (di (zkw (fb ce a) a) (dw (ft (gq ba r (bf (bg a) (bf (zkv (yg a)) cy)))))))) ie) (di (fu t (gq f3 r (bf (bg a) (bf (bg a) (bf (t0 (λ_ _=>kr ce (uw (bf (gc (zog a (kq (bg a)) (λ_ _ _ _ _ _ _ a=>js (fb ce a) gi) (λ_ _ _ _ _ _ _ a=>bg a))) cy)))) cy))))) (di (ju (zgt (yg a) (ki (bf (bg a) (bf (bg a) cy))))) (di (ju (zgt (yg a) (bg a))) (di (zkw (fb ce a) a) (di (gz (js (fb ce a) gi) (di (fu t (uw (bf (gq b4 r (bf (bg a) cy)) cy))) (dw (zkw (gc (l6 (bg a) (gc (jb (bf (ki (bf (bg a) (bf (kr (bg a) (jy (fb ce a) ce)) (bf (gq b3 r (bf (bg a) cy)) cy)))) cy))))) a))) ie) (dw (ft (gq f4 r (bf (bg a) (bf (fb ce a) cy))))))))))))))
 have ga:Cal P w K mg base (CXr P w) "_law_new" 1 (gSp K zhf zp7):=by exists z5x et ["_law_many_here"] λr a t=>dw (zw3 (z0g (z3u (λ_ _=>gc (rd a (ub (bf (bg a) cy)) (λ_ _ _ _ _ _ _ a=>gc (jb cy)))) (z3v (λ_ _=>jb cy) (z3v (λ_ _=>jb cy) (z3u (λ_ _=>gc (jb cy)) z0f))))))
 have gb:Cal P w K mg base CX0 "_law_sum" 1 (dSp K zka):=by exists jg eu ["_law_piles"] λr a t=>dw (ft (qz (bf (gc (rd a (kq (bg a)) (λ_ _ _ _ _ _ _ a=>kx a))) cy)))
 exact z5z ["_law_script", "_law_draws_here", "_law_many_here", "_law_house", "_law_state", "_law_cell", "_law_lost", "_law_total", "_law_k", "_law_rate_here", "_law_hours", "_law_hour", "_law_found", "_law_left"] λr a t=>di (fu t (gq fs r (bf (bg a) (bf ce cy)))) (di (fu t (gq f5 r (bf (fb ce a) cy))) (di (zq0 t (zw5 a7 r (bf (bg a) cy))) (di (zq0 t (zw4 ga r (bf (bg a) cy))) (di (ny (kq (gc (sw (bg a) (re ce) (re (km ce (ma (tx (fb ce a) ce) ce)))))) t.pg (dw (gz (p8 (m8 (zjn b5 r (vb (vb (ji (bf (gq f0 r (bf (bg a) (bf (u5 a) cy))) cy)) a) a)))) (dw (ft qt)) ie))) (di (fu t (qz (bf (gq b4 r (bf (u5 a) cy)) cy))) (di (fu t (mq m r a)) (di (gz (p8 (m8 (gq N r (bf (bg a) cy)))) (dw (ft qt)) ie) (di (fu t (kr (bg a) (bg a))) (di (ny (ub (bf (gq gb r (bf (u5 a) cy)) cy)) t.pg (di (fu t (gq b3 r (bf (u5 a) cy))) (di (gz (p8 (m8 (zjn b5 r (vb (vb (ji (bf (ki (bf gi cy)) cy)) a) a)))) (dw (ft qt)) ie) (di (fu t (km (jy (jy (u5 a) (oa ce)) ce) (jy (jy (u5 a) (oa ce)) ce))) (di (ny (ub (bf (bg a) cy)) t.pg (dw (fu t (kr (bg a) (bg a))))) (di (fu t (zt9 a9 r (bf (jy (jy (u5 a) (oa ce)) ce) cy) a)) (di (fu t (mq m r a)) (dw (gz (dt_w (l9 (p8 (m8 (gq N r (bf (bg a) cy)))) (l9 (p8 (m8 (gq N r (bf (bg a) cy)))) (l9 (vw (bg a) (bg a)) (mz (vw (kr (bg a) (bg a)) (bg a))))))) (dw (ft qt)) ie))))))))) (di (fu t (mq m r a)) (dw (ft (zql (gq N r (bf (bg a) cy)) (zql (zv5 (bg a) ce) (ztm (zv5 (bg a) (bg a)))))))))))))))))
end S_rotstacks_k39_whole_the_cost_comes_true
namespace S_rotstacks_k39_whole_the_cost_comes_true
open PySem L2 LB
variable{A B C v5:kf}
theorem z4u(L:Int)(J V R S U:kf)(k:ll)(p:lx)(s:Hs):∀(ds:i0) (l:Int) (I:kf),∃Y,forL 11 zqf ds (EL A B C k p s [v5,some (.sh (.int l)),J,V,some (.sh (.int L)),R,I,S,U])=some (.nx,EL A B C k p s [v5,some (.sh (.int (l+ds.length*L))),J,V,some (.sh (.int L)),R,Y,S,U])
 | [],l,I=>⟨I,by simp[forL]⟩
 | d::ds,l,I=>by
   obtain⟨w,Z⟩:=z4u L J V R S U k p s ds (l+L) (some (.sh d));refine⟨w,?_⟩;rw[show l+((d::ds).length:Int)*L=l+L+(ds.length:Int)*L by rw[ak,Int.natCast_add,gp];lia];unfold EL at *;simp only[forL,zqf,sSet,fBin,fVar,il,bc,ax,ai,af,ac,aj];exact Z
theorem z1j{ss:k8}(R:ss.length<=1000):zka [ssL ss]=some (.int (ss.flatten.length:Int)):=by
 have c:=ng (te:=jd 0) (base:=[]) (λs:k7=>D.lst (s.map sD)) (λs:k7=>D.int (s.length:Int)) ss λs _=>⟨_,by simp;rfl⟩;have I:=tj (λs:k7=>(s.length:Int)) ss;have J:Few (ss.map λs=>D.lst (s.map sD)).length:=few (by rw[ae];lia);rw[zp5] at I;refine j7 (e':=[some (.sh (ssL ss))]) rfl ?_;rw[show je 1 [ssL ss]=[some (.sh (ssL ss))] from rfl];unfold ssL;generalize (ss.map λs=>D.lst (s.map sD))=L at *;simp only[zmg,sRet,d5,aq,fLst,iq,fiS,fVar,fNil,af,ac,aj,J,if_true,du,c,I]
variable{n:Nat}
theorem z6d(N:Nat)(hN:N<=14)(k0:ll)(H:lx)(o:Hs)(Y:k9)(h0:HI n k0 H o)(M:TurnsOk o.1 Y)(O:(flat Y).length=N)(P:k0.length<=46) :
  ∃k p s ts u q V U D R,HI n k p s/\TurnsOk s.1 ts/\flat ts=[]/\forL 8 znu (rngD 0 N) (EL A B C k0 H o [v5,some (.sh (.int (rts o.2).sum)),some (.sh (.int (jl 0 (flat Y)+(rts o.2).sum))),none,none,none,none,none,none])=some (.nx,EL A B C k p s [v5,some (.sh (.int (jl 0 (flat Y)+(rts o.2).sum))),some (.sh (.int (jl 0 (flat Y)+(rts o.2).sum))),u,q,V,U,D,R]):=by
 obtain⟨I,et⟩:∃I,I=jl 0 (flat Y)+(rts o.2).sum:=⟨_,rfl⟩;rw[<-et];obtain⟨e',h1,k,p,s,ts,u,q,V,U,D,R,hi,ok,Q,hk,T,rfl⟩:=yu (i:=8) (g:=znu) (λi e=>∃k p s ts u q V U D R,HI n k p s/\TurnsOk s.1 ts/\(flat ts).length+i=N/\k.length<=46+i/\jl 0 (flat ts)+(rts s.2).sum=I/\e=EL A B C k p s [v5,some (.sh (.int (rts s.2).sum)),some (.sh (.int I)),u,q,V,U,D,R]) (rngD 0 N) (EL A B C k0 H o [v5,some (.sh (.int (rts o.2).sum)),some (.sh (.int I)),none,none,none,none,none,none]) ⟨k0,H,o,Y,none,none,none,none,none,none,h0,M,O,P,et.symm,rfl⟩ (by
  rintro i d e hd ⟨k,p,s,ts,u,q,V,U,D,R,hi,ok,Q,hk,T,rfl⟩;obtain⟨rfl,al⟩:=yr hd;have fp:=zo9 ok;have l5:=hi.l5;have hs:=hi.at;have hx:cmdX s.1 k.length (.d .dry)=none:=by
   show dryX s.1 k.length=none;unfold dryX;rw[if_pos (by lia),if_pos (by lia)]
  obtain⟨L,eL⟩:∃L,L=lss s.1.flatten:=⟨_,rfl⟩;obtain⟨k1,p1,J,Z,v,W⟩:=z4q (e:=EL A B C k p s [v5,some (.sh (.int (rts s.2).sum)),some (.sh (.int I)),some (.sh (.int (0+(i:Int)))),some (.sh (.int L)),V,U,D,R]) (i:=3) (j:=4) (c:=.d .dry) (F:=aq (fTup (aq (fC (.str "dry")) fNil)) fNil) (by decide) hi rfl rfl rfl;unfold Mv at W;rw[hx] at W;obtain⟨rfl,rfl⟩:=W;obtain⟨x,b,a,tl,w,K,E,-,-,-,-,-⟩:=z4r hi Z ok (by lia);have gx:iy x:=hs.good x (fp.2.2 x (by rw[K];simp));unfold iy at gx;rw[<-eL] at E;obtain⟨S,eh⟩:∃S,S=hrOf s.2:=⟨_,rfl⟩;rw[<-eh] at E;have ra:=zva s.1 (by lia) λy hy=>by have:=hi.r14 y hy;lia
  rw[<-eL] at ra;have t:=Z.hrs;have h2:hrOf J.2=S+x.2.1:=by rw[ut,E,zjv]
  have er:rts J.2=rts s.2++List.replicate x.2.1.toNat L:=by
   rw[E,zqa];congr 1;simp[rts,show S+x.2.1-S=x.2.1 by lia]
  have es:(rts J.2).sum=(rts s.2).sum+(x.2.1.toNat:Int)*L:=by rw[er,kz,zu9,gy]
  have rl:=znq J.2 0 Z.at.chain;rw[<-ut] at rl;have lo:=z04 (k:=k++[.dry]) (p:=p++[s]) (s:=J) t.1 (Int.le_refl _) Z.at.rate;have lr:mj (hrOf J.2) J.2=(rts J.2).sum:=by rw[zrr J.2 0 _ Z.at.chain t.1,gv (by lia)]
  rw[lr,es,h2] at lo;have ec:jl 0 (flat ts)=x.2.1*L+jl 0 (flat b):=by rw[K,zvj,<-K,fp.2.1,<-eL]
  have ca:=zqd Z w;have X:jl 0 (flat b)+(rts J.2).sum=I:=by rw[<-T,ec,es,show(x.2.1.toNat:Int)=x.2.1 by lia];lia
  have d3:fDat 4 3 (EL A B C (k++[.dry]) (p++[s]) J [v5,some (.sh (.int (rts s.2).sum)),some (.sh (.int I)),some (.sh (.int (0+(i:Int)))),some (.sh (.int L)),V,U,D,R])=some (spL J.2,EL A B C (k++[.dry]) (p++[s]) J [v5,some (.sh (.int (rts s.2).sum)),some (.sh (.int I)),some (.sh (.int (0+(i:Int)))),some (.sh (.int L)),V,U,D,R]):=rfl;have d4:∀l U,fDat 4 3 (EL A B C (k++[.dry]) (p++[s]) J [v5,some (.sh (.int l)),some (.sh (.int I)),some (.sh (.int (0+(i:Int)))),some (.sh (.int L)),some (.sh (.int (S+x.2.1-S))),U,D,R])=some (spL J.2,EL A B C (k++[.dry]) (p++[s]) J [v5,some (.sh (.int l)),some (.sh (.int I)),some (.sh (.int (0+(i:Int)))),some (.sh (.int L)),some (.sh (.int (S+x.2.1-S))),U,D,R]):=λ_ _=>rfl;have d0:fDat 4 0 (EL A B C k p s [v5,some (.sh (.int (rts s.2).sum)),some (.sh (.int I)),some (.sh (.int (0+(i:Int)))),q,V,U,D,R])=some (ssL s.1,EL A B C k p s [v5,some (.sh (.int (rts s.2).sum)),some (.sh (.int I)),some (.sh (.int (0+(i:Int)))),q,V,U,D,R]):=rfl;have la:dIx (spL J.2) (.int (-1))=some (.tup [.int S,.int (S+x.2.1),.int L]):=by
   rw[E];unfold spL;rw[cz];exact znn _ _
  have ir:=z0b (S+x.2.1-S) (by lia) (by lia);rw[show(S+x.2.1-S).toNat=x.2.1.toNat by lia] at ir;obtain⟨h,G⟩:=z4u (A:=A) (B:=B) (C:=C) (v5:=v5) L (some (.sh (.int I))) (some (.sh (.int (0+(i:Int))))) (some (.sh (.int (S+x.2.1-S)))) D R (k++[.dry]) (p++[s]) J (rngD 0 x.2.1.toNat) (rts s.2).sum U;rw[uc,<-es] at G;have lq:=zrl (m:=zp) (F:=aq (fBin dIx (fBin dIx (fDat 4 3) (fUn dNeg (fC (.int 1)))) (fC (.int 1))) fNil) (e:=EL A B C (k++[.dry]) (p++[s]) J [v5,some (.sh (.int (rts J.2).sum)),some (.sh (.int I)),some (.sh (.int (0+(i:Int)))),some (.sh (.int L)),some (.sh (.int (S+x.2.1-S))),h,D,R]) (i:=3) (l:=none) (ps:=hP (k++[.dry]) (p++[s]++[J])) rfl (r:=([.int (S+x.2.1)],EL A B C (k++[.dry]) (p++[s]) J [v5,some (.sh (.int (rts J.2).sum)),some (.sh (.int I)),some (.sh (.int (0+(i:Int)))),some (.sh (.int L)),some (.sh (.int (S+x.2.1-S))),h,D,R])) (by simp only[aq,fBin,d4,fUn,fC,fNil,dNeg,la,ac,aj];rfl) rfl;rw[lo.2,<-es] at lq;have fk:∀(f:FE) (D:kf),fK kH 3 f (EL A B C (k++[.dry]) (p++[s]) J [v5,some (.sh (.int (rts J.2).sum)),some (.sh (.int I)),some (.sh (.int (0+(i:Int)))),some (.sh (.int L)),some (.sh (.int (S+x.2.1-S))),h,D,R])=f (EL A B C (k++[.dry]) (p++[s]) J [v5,some (.sh (.int (rts J.2).sum)),some (.sh (.int I)),some (.sh (.int (0+(i:Int)))),some (.sh (.int L)),some (.sh (.int (S+x.2.1-S))),h,D,R]):=λf D=>z7 (l:=none) (ps:=hP (k++[.dry]) (p++[s]++[J])) rfl;have cq:=λD=>z03 (m:=qk) (e:=EL A B C (k++[.dry]) (p++[s]) J [v5,some (.sh (.int (rts J.2).sum)),some (.sh (.int I)),some (.sh (.int (0+(i:Int)))),some (.sh (.int L)),some (.sh (.int (S+x.2.1-S))),h,D,R]) (i:=3) (l:=none) (k:=k++[.dry]) (p:=p++[s]++[J]) rfl;simp only[ca,fk] at cq;have w1:=yp (rts J.2).sum;have w2:=yp (jl 0 (flat b));refine⟨EL A B C (k++[.dry]) (p++[s]) J [v5,some (.sh (.int (rts J.2).sum)),some (.sh (.int I)),some (.sh (.int (0+(i:Int)))),some (.sh (.int L)),some (.sh (.int (S+x.2.1-S))),h,some (.sh (.int (rts J.2).sum)),some (.sh (.int (jl 0 (flat b))))],?_,k++[.dry],p++[s],J,b,_,_,_,_,_,_,Z,w,by rw[K,ak] at Q;lia,by simp;lia,X,rfl⟩;unfold EL at *;have aa:(rts J.2).sum+jl 0 (flat b)=I:=by lia
  have ab:dIx (.tup [.int S,.int (S+x.2.1),.int L]) (.int 1)=some (.int (S+x.2.1)):=rfl;have ag:dIx (.tup [.int S,.int (S+x.2.1),.int L]) (.int 0)=some (.int S):=rfl;generalize hP (k++[.dry]) (p++[s]++[J])=HP1 at *;generalize stP (k++[.dry]) (p++[s]) J=SP1 at *;generalize hP k (p++[s])=HP at *;generalize stP k p s=SP at *;generalize ssL s.1=SS at *;generalize spL J.2=ZZ at *;generalize rngD 0 x.2.1.toNat=RR at *;simp only[bc,ax] at v;simp only[znu,sSeq,sSet,d5,aq,fNil,fVar,d0,ra,af,ai,bc,ax,ac,aj,sIf,fNot,fTst,v,mi,dm,if_false,sNil,fBin,fUn,fC,dNeg,d3,la,ab,ag,dSub,sFor,jk,ir,G,fk,lq,cq,fOr,w1,w2,dNe,il,decide_true,aa])
 rw[uc] at Q;have z:=jo (show(flat ts).length=0 by lia);have e:(rts s.2).sum=I:=by rw[<-T,z];simp[jl]
 rw[e] at h1;exact⟨k,p,s,ts,u,q,V,U,D,R,hi,ok,z,h1⟩
theorem good(I:g7)(hn:I.length<=63):z4t [.lst (I.map D.int)]=some (.bl true):=by
 obtain⟨cs,U,h⟩:=zxd I 47 (by lia);have h:zc [.lst (I.map D.int),.int 47]=some (.lst (cs.map D.int)):=h;have K:atI (cs.map D.int) 0=some (.int cs[0]):=l3 (k:=0) D.int (by simp[U]);obtain⟨n,R,L⟩:=z1e cs[0];have j:=z4p R;obtain⟨V,hz,hzl⟩:∃V:g7,cutD (cs.map D.int) (some 1) (some ((47:Int)-cs[0] / 12 % 47))=V.map D.int/\V.length<=46:=by
  unfold cutD;rw[<-List.map_drop,<-List.map_take];refine⟨_,rfl,?_⟩;have M:HT.sIx (cs.map D.int).length 0 (some 1)=1:=by rw[ae,U];rfl
  rw[M,dq,fg]
  lia
 have N:=z02 (n:=n) R (F:=aq (fVar 2) fNil) (e:=[some (.sh (.lst (I.map D.int))),some (.sh (.lst (cs.map D.int))),some (.sh (.int n)),none,none,none,none,none,none,none,none,none,none,none]) rfl;obtain⟨k,p,s,v,J,S,d⟩:=zrx (A:=some (.sh (.lst (I.map D.int)))) (B:=some (.sh (.lst (cs.map D.int)))) (C:=some (.sh (.int n))) (r:=[none,none,none,none,none,none,none,none]) V [] [] (newS n) none (HI.new R);have S:k.length<=46:=by simp at S;lia
 obtain⟨ts,ok,_⟩:=zgd s.1 J.at.good J.at.few;have fp:=zo9 ok;have O:=J.at.few;have hr:=J.hrs;have l5:=J.l5;obtain⟨k1,p1,Y,P,y,z,Z,a,b,o,q,t,Q,c⟩:=z6d (A:=some (.sh (.lst (I.map D.int)))) (B:=some (.sh (.lst (cs.map D.int)))) (C:=some (.sh (.int n))) (v5:=v) s.1.flatten.length O k p s ts J ok fp.1 S;obtain⟨T,eT⟩:∃T,T=jl 0 (flat ts)+(rts s.2).sum:=⟨_,rfl⟩;rw[<-eT] at c;have W:=zrs s.2 J.at.chain (by rw[<-ut];lia);have bs:=tj (λx:Int=>x) (rts s.2);rw[List.map_id'] at bs;have bs:bSum [.lst ((rts s.2).map D.int)]=some (.int (rts s.2).sum):=bs;have E:=λf g=>z03 (m:=qk) (e:=EL (some (.sh (.lst (I.map D.int)))) (some (.sh (.lst (cs.map D.int)))) (some (.sh (.int n))) k p s [v,f,g,none,none,none,none,none,none]) (i:=3) (l:=none) (k:=k) (p:=p++[s]) rfl;have G:=z03 (m:=qk) (e:=EL (some (.sh (.lst (I.map D.int)))) (some (.sh (.lst (cs.map D.int)))) (some (.sh (.int n))) k1 p1 Y [v,some (.sh (.int T)),some (.sh (.int T)),y,z,Z,a,b,o]) (i:=3) (l:=none) (k:=k1) (p:=p1++[Y]) rfl;have H:=zqd q t;rw[Q] at H;simp only[zqd J ok] at E;rw[H] at G;have X:=yp (jl 0 (flat ts));have w2:=yp (jl 0 []);have sm:=z1j (ss:=s.1) (by lia);have r14:=pz s.1.flatten.length (by lia);have d3:fDat 4 3 (EL (some (.sh (.lst (I.map D.int)))) (some (.sh (.lst (cs.map D.int)))) (some (.sh (.int n))) k p s [v,none,none,none,none,none,none,none,none])=some (spL s.2,EL (some (.sh (.lst (I.map D.int)))) (some (.sh (.lst (cs.map D.int)))) (some (.sh (.int n))) k p s [v,none,none,none,none,none,none,none,none]):=rfl;have d0:∀f g,fDat 4 0 (EL (some (.sh (.lst (I.map D.int)))) (some (.sh (.lst (cs.map D.int)))) (some (.sh (.int n))) k p s [v,f,g,none,none,none,none,none,none])=some (ssL s.1,EL (some (.sh (.lst (I.map D.int)))) (some (.sh (.lst (cs.map D.int)))) (some (.sh (.int n))) k p s [v,f,g,none,none,none,none,none,none]):=λ_ _=>rfl;have u:dDiv (.int cs[0]) (.int 12)=some (.int (cs[0] / 12)):=z0d (by decide) (by decide);have w:dMod (.int (cs[0] / 12)) (.int 47)=some (.int (cs[0] / 12 % 47)):=z0c (by decide);rw[show bDo 5 sNil=zqe from z1h _] at d;have d:forL 5 zqe (V.map D.int) [some (.sh (.lst (I.map D.int))),some (.sh (.lst (cs.map D.int))),some (.sh (.int n)),some (.ag kH none (hP [] [newS n])),some (.ag .ls none (stP [] [] (newS n))),none,none,none,none,none,none,none,none,none]=_:=d;refine j7 rfl (e':=EL (some (.sh (.lst (I.map D.int)))) (some (.sh (.lst (cs.map D.int)))) (some (.sh (.int n))) k1 p1 Y [v,some (.sh (.int T)),some (.sh (.int T)),y,z,Z,a,b,some (.sh (.int (jl 0 [])))]) ?_;rw[show je 14 [D.lst (I.map D.int)]=[some (.sh (.lst (I.map D.int))),none,none,none,none,none,none,none,none,none,none,none,none,none] from rfl];unfold EL at *;generalize ssL s.1=SS at *;generalize spL s.2=ZZ at *;generalize hP k1 (p1++[Y])=HP1 at *;generalize stP k1 p1 Y=SP1 at *;generalize hP k (p++[s])=HP at *;generalize stP k p s=SP at *;generalize hP [] [newS n]=HP0 at *;generalize stP [] [] (newS n)=SP0 at *;generalize rngD 0 s.1.flatten.length=RR at *;have e0:decide (jl 0 []=0)=true:=rfl;simp only[z4s,sSeq,sSet,d5,aq,fVar,fC,fNil,af,ai,bc,ax,ac,aj,h,fIxV,ixSl,K,L,ya,N,zq1,j,sNil,sFor,fiS,fLst,fSl,fO1,fBin,dSub,il,u,w,hz,d,d3,W,bs,E,sIf,fNot,fTst,X,mi,dm,if_false,<-eT,jk,d0,sm,r14,c,G,sRet,qu,w2,dEq,e0,decide_true]
end S_rotstacks_k39_whole_the_cost_comes_true
end
open PySem PySem.W PyProof.Rows
open L2 (us1 us2 us3 us4 us5)
local macro_rules | `(tactic| walk_at "df") => `(tactic| (refine' L2.def_mk (by assumption) (by assumption) ?a ?l ?c ?k ?b; (case a => k_is); (case l => k_is); (case c => k_is); (case k => k_is); (case b => intro us hl; first | (obtain ⟨_, e⟩ := us1 hl; subst e; exact rfl) | (obtain ⟨_, _, e⟩ := us2 hl; subst e; exact rfl) | (obtain ⟨_, _, _, e⟩ := us3 hl; subst e; exact rfl) | (obtain ⟨_, _, _, _, e⟩ := us4 hl; subst e; exact rfl) | (obtain ⟨_, _, _, _, _, e⟩ := us5 hl; subst e; exact rfl))))
local macro_rules | `(tactic| walk_at "mf") => `(tactic| (refine' L2.mef_mk ?a ?l ?c ?k ?i ?b; (case a => k_is); (case l => k_is); (case c => k_is); (case k => k_is); (case i => k_is); (case b => intro us hl; first | (obtain ⟨_, e⟩ := us1 hl; subst e; exact rfl) | (obtain ⟨_, _, e⟩ := us2 hl; subst e; exact rfl) | (obtain ⟨_, _, _, e⟩ := us3 hl; subst e; exact rfl) | (obtain ⟨_, _, _, _, e⟩ := us4 hl; subst e; exact rfl) | (obtain ⟨_, _, _, _, _, e⟩ := us5 hl; subst e; exact rfl))))
theorem PySem.Challenge.cw_rotstacks_k39_whole_the_cost_comes_true_holds : PySem.Challenge.rw_rotstacks_k39_whole_the_cost_comes_true.Holds := by
 refine headO ?_
 k_fill
 refine L2.walkD (k:=11) (s:="_law_script") (l:=PySem.Challenge.rw_rotstacks_k39_whole_the_cost_comes_true) ⟨rfl,by decide,by decide⟩ rfl rfl (λw h Y=>PySem.W.kIn_of Y) ?F;case F =>
  intro w mg fa h KX G hmg;refine' L2.law_mk KX G hmg ?a ?l ?c ?k ?b (S_rotstacks_k39_whole_the_cost_comes_true.ok_all _ _ _ _ _ _ _ _ _ _ _ _ _ _ _ _ _ _ _ _ _ _ _ _ _ _ _ _ _ _ _ _ _ _ _ _ _ _ _ _ _ _ _ _ _ _ _ _ _ _ _ _ _ _ _ _ _ _ _ _ _ _ _ _ _ _ _ _ ?hhC _ _ _ _ _ _ _ _ _ _ _ _ _ _ _ _ _ _ _ _ _ _ _ _ _ _ _ _ _ _ _ _ _ _ _ _) S_rotstacks_k39_whole_the_cost_comes_true.good
  (case a=>k_is)
  (case l=>k_is)
  (case c=>k_is)
  (case k=>k_is)
  (case b=>exact λv=>rfl)
  (case hhC=>unfold L2.Cl;k_is)
  all_goals first | walk_at "df" | walk_at "mf" | exact⟨by k_is,by k_is,by k_is,by k_is⟩ | exact PySem.W.mg_none_of KX G (by k_is) | exact j9 KX G (by k_is) | (refine' L2.exc_mk KX G ?a ?b (by decide +kernel);(case a=>k_is);(case b=>k_exc)) | (refine' L2.con_mk KX G ?a;(case a=>k_is)) | exact L2.kf_mk KX G (by kernel_rfl) | k_is

