import PyProof.Rows.All
import Wide.All
import OpenK.AllK
import Wide.FinOn
import Lean
import PyProof.EqAt
import PyProof.EqKinds
import PyProof.TupleCall
import PyProof.Draws
import PyProof.ZipIter
import PyProof.EnumMake
import PyProof.AttrMissHeap
import KE.KDictOf
import PyProof.Rows.SeqMore2
import PyProof.Rows.SortWalk
import KE.KTryMore
import PyProof.RulesAs
import PyProof.NsDelKeeps
import KE.KIsAll
import PyProof.ExcArgs
import PySem.Challenge.RW_rotstacks_k24_bounds
set_option Elab.async false
set_option linter.all false
set_option maxRecDepth 100000
set_option compiler.extract_closed false
set_option bootstrap.genMatcherCode false
local macro_rules | `(↑$t)=>`(some $t)
local macro_rules | `(command|@[simp] def $i:declId $s:optDeclSig $v:declVal)=>`(command|@[simp] noncomputable def $i:declId $s:optDeclSig $v:declVal)
local macro_rules | `(⋯)=>`(by lia)
local macro_rules | `(command|def $i:declId $s:optDeclSig $v:declVal)=>`(command|noncomputable def $i:declId $s:optDeclSig $v:declVal)
set_option maxHeartbeats 0
def ac:=@Option.bind_some
def ae:=@List.getElem?_cons_zero
def af:=@List.length_map
def ah:=@List.getElem?_cons_succ
def aj:=@Option.map_some
def ak:=@List.getElem?_eq_some_iff
def am:=@List.length_cons
def ao:=@List.set_cons_zero
def aq:=@List.set_cons_succ
def au:=@List.length_append
def av:=@List.getElem?_eq_getElem
def aw:=@PySem.Heap.get?_push_of_some
def ay:=@List.getElem?_append_left
def az:=@List.mem_of_getElem?
def bc:=@List.mem_cons_of_mem
def bf:=@Bool.false_eq_true
def bi:=@List.map_cons
def bj:=@List.length_nil
def bn:=@List.size_toArray
def bq:=@Nat.lt_of_lt_of_le
def bu:=@PySem.Heap.lt_size
def bw:=@List.getElem?_map
def bx:=@List.getD_eq_getElem?_getD
def bz:=@Option.some.inj
def b6:=@List.mem_cons_self
def b7:=@Nat.le_refl
def b8:=@List.map_append
def b9:=@List.nodup_cons
def ce:=@List.mem_cons
def cf:=@List.mem_append_right
def cg:=@List.getElem?_eq_none
def cj:=@Nat.ne_of_lt
def cq:=@List.map_nil
def cr:=@Nat.le_trans
def cw:=@Bool.false_ne_true
def cy:=@PySem.Heap.get?_push_size
def cz:=@PySem.Heap.get?_update_other
def db:=@List.lookup_cons
def de:=@List.mem_singleton
def df:=@List.flatten_cons
def dg:=@List.mem_append
def dh:=@List.getElem?_set_ne
def di:=@List.append_nil
def dn:=@List.getElem?_append_right
def dq:=@Option.bind_eq_some_iff
def du:=@List.length_take
def dw:=@List.sublist_flatten_of_mem
def dz:=@List.length_set
def d7:=@List.append_assoc
def d8:=@List.mem_append_left
def eg:=@List.getElem_mem
def eh:=@Bool.and_eq_true
def ek:=@List.ext_getElem?
def em:=@List.getElem?_set_self
def e7:=@PySem.W.kia_one
def fb:=@List.length_drop
def fc:=@PySem.mem_of_lookup
def ff:=@List.length_replicate
def fg:=@Nat.zero_le
def fm:=@List.drop_eq_getElem_cons
def fo:=@List.length_pos_iff
def fq:=@List.flatten_append
def ft:=@List.pairwise_cons
def fu:=@PySem.F.plainAttrs_list
def fx:=@Nat.lt_succ_self
def fy:=@Int.eq_ofNat_of_zero_le
def f6:=@Int.toNat_natCast
def f9:=@Nat.lt_irrefl
def gc:=@List.mem_map
def gh:=@List.take_append_of_le_length
def gi:=@List.mem_range
def gk:=@PySem.Heap.get?_update_self
def gm:=@Int.zero_add
def gn:=@List.mem_flatten
def gv:=@Nat.lt_succ_of_lt
def gw:=@List.map_set
def gy:=@List.sum_cons
def h9:=@List.replicate_succ
def ib:=@List.all_eq_true
def ie:=@Int.mul_le_mul_of_nonneg_right
def im:=@Option.map_eq_some_iff
def io:=@List.take_of_length_le
def ip:=@List.map_map
def iq:=@Int.mul_right_comm
def iw:=@List.mem_filter
def iz:=@Int.mul_assoc
def i4:=@Bool.not_true
def i5:=@List.length_singleton
def i6:=@PyProof.Rows.callWith_type1
def i7:=@List.getElem?_set
def i9:=@List.pairwise_append
def ja:=@Int.add_mul
def jf:=@List.length_flatten
def jg:=@List.getElem_of_mem
def jh:=@List.getElem?_range
def ji:=@List.getD_cons_zero
def jk:=@PySem.Heap.size_push
def jl:=@PySem.W.callWith_K
def jm:=@List.filter_append
def jo:=@List.length_eq_zero_iff
def jp:=@Int.mul_add
def jt:=@List.length_range
def ju:=@Int.mul_comm
def jz:=@PyProof.Rows.slot_tuple_getitem
def j0:=@List.takeWhile_append_dropWhile
def j2:=@List.singleton_append
def j3:=@List.dropLast_eq_take
def j8:=@List.drop_length
def j9:=@List.cons_append
def kg:=@List.eq_nil_of_length_eq_zero
def ki:=@List.of_mem_zip
def kj:=@List.map_congr_left
def km:=@List.filterMap_cons
def ko:=@Nat.zero_add
def kq:=@Nat.le_of_lt
def kr:=@List.getElem?_concat_length
def ky:=@Nat.lt_of_le_of_lt
def kz:=@List.zip_cons_cons
def lb:=@Array.getElem?_eq_some_iff
def li:=@Nat.le_succ
def lj:=@Bool.not_eq_true'
def lr:=@PySem.W.mg_of
def lu:=@Option.isSome_iff_exists
def l6:=@Nat.le_of_not_lt
def l7:=@List.filter_cons_of_pos
def l8:=@List.filter_cons_of_neg
def mi:=@PySem.W.cellsFrom_some
def mj:=@Nat.ne_of_gt
def ml:=@Option.map_none
def mq:=@List.range_succ
def mr:=@List.nil_append
def mw:=@List.length_zip
def mx:=@Bool.eq_iff_iff
def mz:=@PySem.F.type_list_pop
def m6:=@PySem.F.slot_list_pop
def m7:=@List.mem_iff_getElem?
def nn:=@Nat.sub_succ_lt_self
def nr:=@List.take_left
def nt:=@List.getElem?_zipIdx
def oo:=@PySem.W.plainGet_of
def oq:=@Array.length_toList
def o9:=@List.map_take
def pi:=@List.mem_filterMap
def pj:=@List.map_replicate
def qy:=@PySem.W.kitx_list
def qz:=@Nat.lt_of_succ_le
def rd:=@Nat.le_succ_of_le
def re:=@List.set_set
def su:=@List.eraseIdxIfInBounds_toArray
def t3:=@List.map_snd_zip
def t4:=@List.flatten_nil
def ui:=@Int.mul_le_mul_of_nonneg_left
def va:=@Nat.le_antisymm
def vb:=@List.sum_append
def wg:=@Int.mul_lt_mul_of_pos_right
def xj:=@PySem.boot_len
def xk:=@PySem.F.excBase_ValueError
def xl:=@Int.lt_of_mul_lt_mul_right
def xm:=@Int.le_of_mul_le_mul_right
def ym:=@List.getLast?_eq_some_iff
def yn:=@List.getLast?_eq_none_iff
abbrev h7:=List PySem.Str
abbrev h8:=List PySem.Value
abbrev ia:=Option PySem.Value
abbrev ic:=List PySem.Addr
abbrev ik:=List Nat
abbrev i0:=List Int
abbrev ka:=List PySem.Env
abbrev kb:=List PySem.Expr
abbrev kf:=Option PySem.Str
abbrev k4:=Option Int
abbrev k6:=PySem.W.Frag
abbrev k7:=List (PySem.Addr×PySem.Obj)
abbrev k8:=Array PySem.Value
namespace PySem.W.Fast
def tw9872610955363114584:=0
def tw15322368539271036669:=0
def tw16532565388948089689:=0
def tw8763362985707160605:=0
def tw12228147544654841872:=0
def tw8304341065487614260:=0
def tw3301900299095288138:=0
def tw10061143278951088905:=0
def tw13494128715974936559:=0
def tw322729853329696326:=0
def tw2566217684597027983:=0
def tw5721976631286687531:=0
def tw8858794619932646265:=0
def tw7803279730508470376:=0
def tw14726039395708169042:=0
def tw11257016545637818783:=0
def tw13211135914812361414:=0
def tw16443253333803420104:=0
def tw3081121813497292077:=0
def tw12900544123078580037:=0
def tw7725012626891826632:=0
def tw83686271494855530:=0
def tw2360446847297263352:=0
def tw14767782586175439492:=0
def tw18424013207920332442:=0
def tw2903587536570550830:=0
def tw10900955558412200155:=0
def tw1197844309002456482:=0
def tw13313881657851200425:=0
def tw11426443043654593942:=0
def tw1489821537144307907:=0
def tw11223450378524075063:=0
def tw10143343062441790778:=0
def tw12264938177008825913:=0
def tw17548525900877467917:=0
def tw8221379785114272625:=0
def tw1030786325826500318:=0
def tw5400519122571244047:=0
def tw207844607496620087:=0
def tw11259471920729424210:=0
def tw17783028322453504069:=0
def tw267220488418714694:=0
def tw17702111594606338733:=0
def tw13413012072783188425:=0
def tw3599352512664547791:=0
def tw16452817190893736414:=0
def tw13613329712079379203:=0
def tw6493330665566167147:=0
def tw3307053570587155738:=0
def tw11262589385775625546:=0
def tw2455845457240328603:=0
def tw7556450903620949716:=0
def tw5034716454303145026:=0
def tw5106441590265517144:=0
def tw11026720062418087932:=0
def tw6575327488482023919:=0
def tw10462138171525502897:=0
def tw8672185609985027439:=0
def tw3074404603848668348:=0
def tw9861558533797506370:=0
def tw5598528202930427401:=0
def tw15359102603107413231:=0
def tw3823070681319032280:=0
def tw9202857814364518035:=0
def tw12668837403108445984:=0
def tw210044324623842073:=0
def tw12791392028554949626:=0
def tw13906768216415945468:=0
def tw4034797779667044739:=0
def tw3940656549514326351:=0
def tw13372310052145129520:=0
def tw2686233890626738665:=0
def tw8106365122697232209:=0
def tw6163023441807191163:=0
def tw10959613180006933657:=0
def tw15271102585143624053:=0
def tw2375006567970996351:=0
def tw7319031757845495107:=0
def tw3140074797282361975:=0
def tw1941158131923050496:=0
def tw5044657848819888094:=0
def tw1504364230453371224:=0
def tw13848392978245017679:=0
def tw90743548125290388:=0
def tw2850334971432590260:=0
def tw3602109726442100541:=0
def tw13026136331304254567:=0
def tw713925798845973743:=0
def tw11457838680292950747:=0
def tw14057238044761739051:=0
def tw871618039370766144:=0
def tw13252475720556201039:=0
def tw13062734196947188476:=0
def tw17806559798037380195:=0
def tw13960719575924556613:=0
def tw3364652684642082450:=0
def tw15803686785222356702:=0
def tw2049765247624823710:=0
def tw6296575575862129534:=0
def tw15552618252400785101:=0
def tw8287477372257394460:=0
def tw520760608191861299:=0
def tw9386486049590100709:=0
def tw5317498474899054006:=0
def tw5141834587752207717:=0
def tw15839639340431583497:=0
def tw4752798683845683672:=0
def tw8936502833500920895:=0
def tw7571543187569416755:=0
def tw8168842266489454260:=0
def tw650778303681627707:=0
def tw15711869671402154468:=0
def tw772585827993199724:=0
def tw11237023367331401364:=0
def tw10051351566672146426:=0
def tw6483710568601462799:=0
def tw9798687865813937216:=0
def tw11783018575412727463:=0
def tw956844536867546939:=0
def tw919646863622198488:=0
def tw16670337082191713251:=0
def tw2388936564005763016:=0
def tw8342137133837284574:=0
def tw18251893030405360759:=0
def tw7848409590926522962:=0
def tw7122239765987411625:=0
def tw16852722182879557646:=0
def tw596264357689304544:=0
def tw7068168932148428858:=0
def tw8528296176800286927:=0
def tw923929161578708131:=0
def tw13111393704196124666:=0
def tw16518523057615377998:=0
def tw8369070374558896570:=0
def tw2975443145256112729:=0
def tw7027161504191823226:=0
def tw12787879425846906538:=0
def tw10184082262108008333:=0
def tw10977614666817070673:=0
def tw6325669893785667225:=0
def tw16929985832543967965:=0
def tw4432724790468297698:=0
def tw5051928251995058599:=0
def tw17436130570902122954:=0
def tw13945133173953209716:=0
def tw8596935767243345797:=0
def tw4773739135089289116:=0
def tw7079707947466958888:=0
def tw4857545685011892401:=0
def tw3018418718631485023:=0
def tw14568005782239985718:=0
def tw2071606587056475718:=0
def tw4895425382642465790:=0
def tw10064278401438594924:=0
def tw9234954786079030011:=0
def tw3614790197501818629:=0
def tw12820195605933434369:=0
def tw3221712509440020763:=0
def tw8668784508862897318:=0
def tw16534366105450581242:=0
def tw8226255479208371499:=0
def tw18167784821210252591:=0
def tw18258044017837031756:=0
def tw10405927150804094027:=0
def tw13053231961161858130:=0
def tw2779806356483853326:=0
def tw5350862455573231912:=0
def tw14616072416306043124:=0
def tw17856697825165580096:=0
def tw8988019465479778588:=0
def tw17731801680971310:=0
def tw18255438350264991735:=0
def tw1552103926435129499:=0
def tw17814047037683550049:=0
def tw13916040809530369296:=0
def tw9238318764281012090:=0
def tw5942794519226860146:=0
def tw2982656165015346588:=0
def tw15346517549140329626:=0
def tw12576081000109285875:=0
def tw17081379799441678081:=0
def tw13431528681176638448:=0
def tw3874008476511197758:=0
def tw9218007220701248928:=0
def tw953458651356121817:=0
def tw7268222223166270178:=0
def tw13390658044978220976:=0
def tw15469945006531455178:=0
def tw11066789057533804942:=0
def tw2510093546764134355:=0
def tw13536869062205639005:=0
def tw12340551673284875809:=0
def tw7881732657216084209:=0
def tw11638739722516940127:=0
def tw6016840223995648031:=0
def tw3626200723580813935:=0
def tw11546335813446654231:=0
def tw4348695930679769728:=0
def tw10850915588502522953:=0
def tw2702439272556505636:=0
def tw16445658823089599976:=0
def tw2811824731477432661:=0
def tw10472215586378509919:=0
def tw14556549848296369481:=0
def tw18099234228738475600:=0
def tw4050732226601590682:=0
def tw23336477830775565:=0
def tw15745789919013403160:=0
def tw4889039987935711080:=0
def tw15594794917597159775:=0
def tw16350272775003310265:=0
def tw15848108554550008055:=0
def tw11073039516269669748:=0
def tw14632740516913751278:=0
def tw15623725677461450909:=0
def tw8857405079697988701:=0
def tw4268622498170725944:=0
def tw6807043632278035834:=0
def tw16888146075410284241:=0
def tw9679322562879927657:=0
def tw17533547994073296204:=0
def tw10986931170350255741:=0
def tw5166654182613107631:=0
def tw5129834713597648956:=0
def tw4721184679926851813:=0
def tw16095411511866042282:=0
def tw12538974470732270587:=0
def tw6126246310323976670:=0
def tw1672570849053800847:=0
def tw10390463854679879373:=0
def tw13617027138147984029:=0
def tw16873000933375481214:=0
def tw15718571074454230969:=0
def tw16461218191327465503:=0
def tw9825519608591523203:=0
def tw15146276678955778912:=0
def tw11320290147706564035:=0
def tw15509039178638469261:=0
def tw2955106872690358488:=0
def tw8972079347622455915:=0
def tw10020126217023852985:=0
def tw3663230652001387455:=0
def tw17685319784748762084:=0
def tw7470472829763555575:=0
def tw12455167005163577674:=0
def tw12619148345953009265:=0
def tw10887978806130140343:=0
def tw2620867373401844138:=0
def tw11114441641902549053:=0
def tw16944876944197547581:=0
def tw6731854756357519614:=0
def tw2046811785664083416:=0
def tw683955573386985426:=0
def tw7658150630077258010:=0
def tw15399392379912836652:=0
def tw5652481992068153864:=0
end PySem.W.Fast
open_top headO for PySem.Challenge.rw_rotstacks_k24_bounds
noncomputable section
namespace L2
open PySem PySem.Spec PyProof.Rows
abbrev Key:=Sum Int Str
def z5q:Key->Value->Bool
 | .inl k,v=>Value.isInt k v | .inr x,v=>Value.isStrOf x v
def keyH(w:World):Key->Int
 | .inl k=>hashInt k | .inr x=>hashStr w x
def vt:∀ {k:Key} {v:Value},z5q k v=true->(∃i t,k=Sum.inl i/\v=Value.int i t)\/(∃x t,k=Sum.inr x/\v=Value.str x t)
 | .inl i,v,h=>by
   obtain⟨t,e⟩:=Value.isInt_shape (k:=i) (v:=v) h;exact .inl ⟨i,t,rfl,e⟩
 | .inr x,v,h=>by
   obtain⟨t,e⟩:=Value.isStrOf_shape (x:=x) (v:=v) h;exact .inr ⟨x,t,rfl,e⟩
def z5r(a b:Int):decide ((Sum.inl a:Key)=Sum.inl b)=(a==b):=by
 by_cases e:a=b
 ·subst e;simp
 ·have h:¬(Sum.inl a:Key)=Sum.inl b:=λq=>e (Sum.inl.inj q)
  rw[decide_eq_false h];exact(beq_eq_false_iff_ne.mpr e).symm
def z5s(a b:Str):decide ((Sum.inr a:Key)=Sum.inr b)=decide (a=b):=by
 by_cases e:a=b
 ·subst e;simp
 ·have h:¬(Sum.inr a:Key)=Sum.inr b:=λq=>e (Sum.inr.inj q)
  rw[decide_eq_false h,decide_eq_false e]
def z5t(a:Int)(b:Str):decide ((Sum.inl a:Key)=Sum.inr b)=false:=decide_eq_false (λq=>nomatch q)
def z5u(a:Str)(b:Int):decide ((Sum.inr a:Key)=Sum.inl b)=false:=decide_eq_false (λq=>nomatch q)
def zwf(prog:Program)(w:World):PySem.KeyKind prog w Key where
 is:=z5q
 hash:=keyH w
 inj:=λv a b J I=>by
  rcases vt J with⟨i,t,rfl,rfl⟩ | ⟨x,t,rfl,rfl⟩
  ·rcases vt I with⟨j,u,rfl,e⟩ | ⟨y,u,rfl,e⟩
   ·injection e with e1 _;rw[e1]
   ·exact nomatch e
  ·rcases vt I with⟨j,u,rfl,e⟩ | ⟨y,u,rfl,e⟩
   ·exact nomatch e
   ·injection e with e1 _;rw[e1]
 byValue:=λk v h=>by
  rcases vt h with⟨i,t,rfl,rfl⟩ | ⟨x,t,rfl,rfl⟩ <;> rfl
 pyHash:=λD h=>by
  rcases vt D with⟨i,t,rfl,rfl⟩ | ⟨x,t,rfl,rfl⟩
  ·exact wpAny_pyHash_int h
  ·exact wpAny_pyHash_str h
 eqBool:=λR D h=>by
  rcases vt R with⟨i,t,rfl,rfl⟩ | ⟨x,t,rfl,rfl⟩
  ·rcases vt D with⟨j,u,rfl,rfl⟩ | ⟨y,u,rfl,rfl⟩
   ·rw[z5r] at h;exact wpAny_eqBool_int h
   ·rw[z5t] at h;exact SeqAt.EqAt.int_str i t y u _ _ _ _ h
  ·rcases vt D with⟨j,u,rfl,rfl⟩ | ⟨y,u,rfl,rfl⟩
   ·rw[z5u] at h;exact SeqAt.EqAt.str_int x t j u _ _ _ _ h
   ·rw[z5s] at h;exact wpAny_eqBool_str h
 «strs»:=λk x t v h=>by
  rcases vt h with⟨i,u,rfl,e⟩ | ⟨y,u,rfl,e⟩
  ·exact nomatch e
  ·injection e with e1 _
   subst e1;cases v <;> rfl
inductive V where
 |non |bl (b:Bool) |int (i:Int) |str (x:Str) |byt (b:Array UInt8) |flt (b:UInt64) |ref (a:Addr) |ty (n:String)
 deriving DecidableEq
abbrev k9:=List V
def RelV:V->Value->Prop
 | .non,u=>u=Value.none | .bl b,u=>u=Value.bool b | .int i,u=>∃t,u=Value.int i t
 | .str x,u=>∃t,u=Value.str x t | .byt b,u=>∃t,u=Value.bytes b t | .flt b,u=>∃t,u=Value.float b t | .ref a,u=>u=Value.ref a | .ty n,u=>u=Value.type n
abbrev Vals:k9->h8->Prop:=Paired RelV
def Vals.length{xs:k9}{us:h8}(r:Vals xs us):xs.length=us.length:=Paired.length r
def Vals.get:∀ {xs:k9} {us:h8} {i:Nat} {x:V},Vals xs us->xs[i]?=↑x->∃u,us[i]?=↑u/\RelV x u
 |_,_,_,_,.nil,e=>by simp at e |_,_,0,_,.cons r _,e=>by simp at e;subst e;exact⟨_,rfl,r⟩ |_,_,i+1,x,.cons _ t,e=>by
   obtain⟨u,h1,h2⟩:=Vals.get (i:=i) (x:=x) t (by simpa using e);exact⟨u,by simpa using h1,h2⟩
def Vals.set{x:V}{u:Value}(r:RelV x u):∀ {xs:k9} {us:h8} (i:Nat),Vals xs us->Vals (xs.set i x) (us.set i u)
 |_,_,_,.nil=>.nil |_,_,0,.cons _ t=>.cons r t |_,_,i+1,.cons q t=>.cons q (Vals.set r i t)
variable{xs ys:k9}{us:h8}
def Vals.append{ws:h8}(h:Vals xs us)(s:Vals ys ws):Vals (xs++ys) (us++ws):=by
 induction h with
 |nil=>exact s |cons r _ q=>exact .cons r q
def Vals.take:∀ {xs:k9} {us:h8} (n:Nat),Vals xs us->Vals (xs.take n) (us.take n)
 |_,_,0,_=>.nil |_,_,_+1,.nil=>.nil |_,_,n+1,.cons r t=>.cons r (Vals.take n t)
def Vals.drop:∀ {xs:k9} {us:h8} (n:Nat),Vals xs us->Vals (xs.drop n) (us.drop n)
 |_,_,0,r=>r |_,_,_+1,.nil=>.nil |_,_,n+1,.cons _ t=>Vals.drop n t
def RelO:Option V->ia->Prop
 |some v,↑u=>RelV v u |none,none=>True |_,_=>False
def KV{κ:Type}:List (κ×V)->List (κ×Value)->Prop:=Paired λ(p:κ×V) (q:κ×Value)=>p.1=q.1/\RelV p.2 q.2
def kV:Key->V
 | .inl i=>.int i
 | .inr x=>.str x
inductive HO where
 |lst (xs:k9)
 |tup (xs:k9)
 |dK (kvs:List (Key×V)) |dT (kvs:List (List Key×V))
 |set (S:Int->Bool) (n:Nat)
 |ins (C dx:Addr) (fs:List (Str×V))
 |own (x:Addr)
 |xd (fs:List (Str×V))
 |met (f x:Addr)
 |rng (lo hi:Int)
 |frz (o:Obj) (u:HO)
 |tbl (ps:k8)
 |ext (φ:Heap->Prop)
abbrev Hp:=Addr->Option HO
def upd(H:Hp)(a:Addr)(o:HO):Hp:=λb=>if b=a then ↑o else H b
variable{H:Hp}{a:Addr}{o:HO}
def kx:upd H a o a=↑o:=by unfold upd;rw[if_pos rfl]
variable{b:Addr}
def ii(h:b≠a):upd H a o b=H b:=by unfold upd;rw[if_neg h]
def qh(h:H a=↑o)(h':H b=none):a≠b:=by
 intro e;subst e;rw[h] at h';cases h'
section
variable (P:Program) (w:World)
def ObjOk(H:Hp)(h:Heap)(a:Addr):HO->Prop
 | .lst xs=>xs.length<=sizeLine/\∃(its:h8) (n:Nat),Vals xs its/\h.get? a=some { cls:=.type "list",data:=.seq its.toArray n } | .tup xs=>xs.length<=sizeLine/\∃its:h8,Vals xs its/\IsTup h a its.toArray | .dK kvs=>kvs.length<=sizeLine/\(a==sysModules)=false/\∃vs,KV kvs vs/\h.DictOf (zwf P w) a vs | .dT kvs=>kvs.length<=sizeLine/\(a==sysModules)=false/\∃xs:List (List Key×Addr×Value),
    Paired (λ(p:List Key×V) (q:List Key×Addr×Value)=>p.1=q.1/\H q.2.1=↑(.tup (p.1.map kV))/\RelV p.2 q.2.2) kvs xs /\
    ∃o es D,h.get? a=↑o/\o.ExactDict/\o.data=.dict es D/\es.toList=xs.map (entryOfKey (tupleKind (zwf P w)))/\(xs.map (·.1)).Nodup
 | .set S n=>h.SetOf (intKind P w) a S n | .ins C dx fs=>H dx=↑(.own a)/\fs.length<=1000/\dx≠a/\h.get? a=↑(PySem.W.instObj C dx) /\
    ∃mA,h.Ns1 dx mA/\(∀f,RelO (fs.lookup f) (mA f))/\PySem.Within mA (fs.map (·.1))
 | .own _=>∃o,h.get? a=↑o | .xd fs=>∃mA,h.Ns1 a mA/\∀f,RelO (fs.lookup f) (mA f) | .rng lo hi=>∃t u v,h.get? a=some { cls:=.type "range",data:=.fields #[.int lo t,.int hi u,.int 1 v] } | .frz o u=>h.get? a=↑o/\ObjOk H h a u | .tbl ps=>h.get? a=some { cls:=.none,data:=.fields ps } | .met f x=>h.get? a=↑(PySem.W.methodObj (.ref f) (.ref x)) | .ext φ=>φ h/\(∃o,h.get? a=↑o)/\∀h1 h2:Heap,φ h1->(∀o,h1.get? a=↑o->h2.get? a=↑o)->φ h2
def HOk(H:Hp)(h:Heap):Prop:=∀a o,H a=↑o->ObjOk P w H h a o
end
variable{P:Program}{w:World}{h:Heap}
def ObjOk.lt(x:ObjOk P w H h a o):a<h.objs.size:=by
 cases o with
 |lst xs=>obtain⟨_,_,_,_,e⟩:=x;exact bu e |tup xs=>obtain⟨_,_,_,p⟩:=x;exact p.lt |dK kvs=>obtain⟨_,_,_,_,o,_,_,e,_⟩:=x;exact bu e |dT kvs=>obtain⟨_,_,_,_,o,_,_,e,_⟩:=x;exact bu e |set S n=>obtain⟨o,_,_,_,e,_⟩:=x;exact bu e |ins C dx fs=>obtain⟨_,_,_,e,_⟩:=x;exact bu e |own y=>obtain⟨_,e⟩:=x;exact bu e |xd fs=>obtain⟨_,⟨_,_,_,e,_⟩,_⟩:=x;exact bu e |rng lo hi=>obtain⟨_,_,_,e⟩:=x;exact bu e |frz ob u=>obtain⟨e,_⟩:=x;exact bu e |tbl ps=>exact bu (show h.get? a=↑_ from x) |met f y=>exact bu (show h.get? a=↑_ from x) |ext φ=>obtain⟨_,⟨_,e⟩,_⟩:=x;exact bu e
variable{α:Type}
def Paired.mapP{β:Type}{F G:α->β->Prop}{D:List α}{I:List β}(h:Paired F D I)(f:∀a b,F a b->G a b):Paired G D I:=by
 induction h with
 |nil=>exact .nil |cons r _ q=>exact .cons (f _ _ r) q
variable{H':Hp}{h':Heap}
def ObjOk.stay(x:ObjOk P w H h a o)(k:∀b u,(b=a\/H b=↑(.own a))->h.get? b=↑u->h'.get? b=↑u)(J:∀b,H b=↑(.own a)->H' b=↑(.own a))(R:∀b xs,H b=↑(.tup xs)->H' b=↑(.tup xs)):ObjOk P w H' h' a o:=by
 induction o with
 |lst xs=>obtain⟨z,its,n,r,e⟩:=x;exact⟨z,its,n,r,k _ _ (.inl rfl) e⟩ |tup xs=>obtain⟨z,its,r,D,e,c⟩:=x;exact⟨z,its,r,D,k _ _ (.inl rfl) e,c⟩ |dK kvs=>obtain⟨z,y,vs,r,D,es,I,e,c⟩:=x;exact⟨z,y,vs,r,D,es,I,k _ _ (.inl rfl) e,c⟩ |dT kvs =>
   obtain⟨z,y,xs,r,D,es,I,e,c⟩:=x;exact⟨z,y,xs,Paired.mapP r λp q z=>⟨z.1,R _ _ z.2.1,z.2.2⟩,D,es,I,k _ _ (.inl rfl) e,c⟩
 |set S n=>obtain⟨D,es,I,t,e,c⟩:=x;exact⟨D,es,I,t,k _ _ (.inl rfl) e,c⟩ |ins C dx fs =>
   obtain⟨d,z,U,e,mA,⟨od,es,I,V,c⟩,r⟩:=x;exact⟨J _ d,z,U,k _ _ (.inl rfl) e,mA,⟨od,es,I,k _ _ (.inr d) V,c⟩,r⟩
 |own y=>obtain⟨D,e⟩:=x;exact⟨D,k _ _ (.inl rfl) e⟩ |xd fs=>obtain⟨mA,⟨od,es,I,e,c⟩,r⟩:=x;exact⟨mA,⟨od,es,I,k _ _ (.inl rfl) e,c⟩,r⟩ |rng lo hi=>obtain⟨t,u,v,e⟩:=x;exact⟨t,u,v,k _ _ (.inl rfl) e⟩ |frz D u ih=>obtain⟨e,q⟩:=x;exact⟨k _ _ (.inl rfl) e,ih q⟩ |tbl ps =>
   have e:h.get? a=some { cls:=.none,data:=.fields ps }:=x;show h'.get? a=some { cls:=.none,data:=.fields ps };exact k a _ (.inl rfl) e
 |met f y =>
   have e:h.get? a=↑(PySem.W.methodObj (.ref f) (.ref y)):=x;show h'.get? a=↑(PySem.W.methodObj (.ref f) (.ref y));exact k a _ (.inl rfl) e
 |ext φ=>obtain⟨p,⟨o,e⟩,st⟩:=x;exact⟨st _ _ p λo q=>k _ _ (.inl rfl) q,⟨o,k _ _ (.inl rfl) e⟩,st⟩
def HOk.lt(x:HOk P w H h)(e:H a=↑o):a<h.objs.size:=(x a o e).lt
def HOk.fresh(x:HOk P w H h)(e:h.objs.size<=a):H a=none:=by
 cases q:H a with
 |none=>rfl |some u=>exact absurd (bq (x.lt q) e) (f9 _)
def HOk.kept(x:HOk P w H h)(k:∀b u,h.get? b=↑u->h'.get? b=↑u):HOk P w H h':=λa o e =>
 (x a o e).stay (λb u _ q=>k b u q) (λ_ q=>q) λ_ _ q=>q
def HOk.laid(x:HOk P w H h)(k:∀b u,h.get? b=↑u->h'.get? b=↑u)(J:h.objs.size<=a)(new:ObjOk P w (upd H a o) h' a o):HOk P w (upd H a o) h':=λb u e=>by
 have D:=x.fresh J;by_cases I:b=a
 ·subst I;rw[kx] at e;cases e;exact new
 ·rw[ii I] at e
  exact(x b u e).stay (λc v _ q=>k c v q) (λc q=>by rw[ii (qh q D)];exact q) λc xs q=>by rw[ii (qh q D)];exact q
def Rd(H:Hp)(a:Addr)(u:HO):Prop:=H a=↑u\/∃o,H a=↑(.frz o u)
variable{u:Value}
def Rd.ok{u:HO}(r:Rd H a u)(x:HOk P w H h):ObjOk P w H h a u:=by
 rcases r with r | ⟨o,r⟩
 ·exact x a u r
 ·obtain⟨_,q⟩:=x a _ r
  exact q
def Mut:Option HO->Prop
 |some (.lst _)=>True |some (.dK _)=>True |some (.dT _)=>True |some (.set _ _)=>True |some (.ins _ _ _)=>True |some (.ext _)=>True |_=>False
variable{x e:Addr}{o':HO}
def HOk.write(ok:HOk P w H h)(R:Mut (H x))(V:e=x\/H e=↑(.own x))(k:∀b u,b≠e->h.get? b=↑u->h'.get? b=↑u)(U:∃u,h'.get? e=↑u)(new:ObjOk P w (upd H x o') h' x o'):HOk P w (upd H x o') h':=λb u q=>by
 have I:∀c y,H c=↑(.own y)->c≠x:=λc y r z=>by subst z;rw[r] at R;exact R
 have J:∀c xs,H c=↑(.tup xs)->c≠x:=λc xs r z=>by subst z;rw[r] at R;exact R
 by_cases S:b=x
 ·subst S;rw[kx] at q;cases q;exact new
 ·rw[ii S] at q
  by_cases D:b=e
  ·have Y:H b=↑(.own x):=by
    rcases V with z |z
    ·exact absurd (D.trans z) S
    ·rw[D];exact z
   rw[q] at Y;cases Y;obtain⟨v,Z⟩:=U;exact⟨v,by rw[D];exact Z⟩
  ·refine(ok b u q).stay (λc v hc r=>k c v ?_ r) (λc r=>by rw[ii (I c b r)];exact r) λc xs r=>by rw[ii (J c xs r)];exact r
   rcases hc with rfl |hc
   ·exact D
   ·rintro rfl
    rcases V with z |z
    ·exact I c b hc z
    ·rw[hc] at z;cases z;exact S rfl
structure Un (fs ex:ic) (H H':Hp) (h h':Heap):Prop where
 keep:∀b o,h.get? b=↑o->H b=none->b∉fs->b∉ex->h'.get? b=↑o
 slot:∀b o,h.get? b=↑o->H b=none->b∈fs->b∉ex->∃sl,h'.get? b=some { o with slots:=sl }
 free:∀b o,h.get? b=↑o->H b=none->b∉ex->H' b=none
 there:∀b o,h.get? b=↑o->b∉ex->∃o',h'.get? b=↑o'
 tups:∀b xs,H b=↑(.tup xs)->H' b=↑(.tup xs)
 frzs:∀b o u,H b=↑(.frz o u)->H' b=↑(.frz o u)
 tbls:∀b ps,H b=↑(.tbl ps)->∃more,H' b=↑(.tbl (ps++more))
variable{fs ex:ic}{H1:Hp}{h1:Heap}
def Un.any(u:Un fs ex H H1 h h1){D:Obj}(q:h.get? b=↑D)(n:H b=none)(I:b∉ex):∃sl,h1.get? b=some { D with slots:=sl }:=by
 by_cases J:b∈fs
 ·exact u.slot b D q n J I
 ·exact⟨D.slots,u.keep b D q n J I⟩
def Un.kept(k:∀b u,h.get? b=↑u->h'.get? b=↑u):Un fs ex H H h h' :=
 ⟨λb D q _ _ _=>k b D q,λb D q _ _ _=>⟨D.slots,k b D q⟩,λ_ _ _ n _=>n,λb D q _=>⟨D,k b D q⟩,λ_ _ q=>q,λ_ _ _ q=>q,λ_ ps q=>⟨#[],by rw[q];simp⟩⟩
def Un.refl:Un fs ex H H h h:=Un.kept λ_ _ q=>q
def Un.laid(k:∀b u,h.get? b=↑u->h'.get? b=↑u)(I:h.objs.size<=a)(D:H a=none):Un fs ex H (upd H a o) h h' where
 keep:=λb u q _ _ _=>k b u q
 slot:=λb u q _ _ _=>⟨u.slots,k b u q⟩
 free:=λb u q n _=>by rw[ii (cj (bq (bu q) I))];exact n
 there:=λb u q _=>⟨u,k b u q⟩
 tups:=λb xs q=>by rw[ii (qh q D)];exact q
 frzs:=λb u xs q=>by rw[ii (qh q D)];exact q
 tbls:=λb ps q=>⟨#[],by rw[ii (qh q D),q];simp⟩
def Un.write(I:Mut (H x))(V:e=x\/H e=↑(.own x))(k:∀b u,b≠e->h.get? b=↑u->h'.get? b=↑u)(J:∃u,h'.get? e=↑u):Un fs ex H (upd H x o) h h':=by
 have S:∀b,H b=none->b≠x:=λb n z=>by subst z;rw[n] at I;exact I
 have U:∀b,H b=none->b≠e:=λb n z=>by
  subst z;rcases V with r |r
  ·exact S b n r
  ·rw[n] at r;cases r
 have R:∀b u,H b=↑u->¬Mut ↑u->b≠x:=λb u q nm z=>by subst z;rw[q] at I;exact nm I
 refine⟨λb u q n _ _=>k b u (U b n) q,λb u q n _ _=>⟨u.slots,k b u (U b n) q⟩,λb u q n _=>by rw[ii (S b n)];exact n,λb u q _=>?_,
  λb xs q=>by rw[ii (R b _ q λz=>z)];exact q,λb u xs q=>by rw[ii (R b _ q λz=>z)];exact q,λb ps q=>⟨#[],by rw[ii (R b _ q λz=>z),q];simp⟩⟩
 by_cases D:b=e
 ·subst D;exact J
 ·exact⟨u,k b u D q⟩
def trk(h:Heap)(H:Hp):ic:=(List.range h.objs.size).filter λa=>(H a).isSome
def hidT(h:Heap)(H:Hp):Heap:=PySem.W.hideAll h (trk h H)
def zwg(h:Heap)(H:Hp):(hidT h H).objs.size=h.objs.size:=PySem.W.hideAll_size _ _
variable{o:Obj}
def zzl(e:h.get? b=↑o)(n:H b=none):(hidT h H).get? b=↑o :=
 PySem.W.hideAll_get _ e λD=>by
  have q:(H b).isSome=true:=(iw.mp D).2;rw[n] at q;simp at q
def z25(e:(hidT h H).get? b=↑o):h.get? b=↑o/\H b=none:=by
 have e':h.get? b=↑o:=PySem.W.of_hideAll (trk h H) e;refine⟨e',?_⟩;cases q:H b with
 |none=>rfl |some x =>
   have D:b∈trk h H:=iw.mpr ⟨gi.mpr (bu e'),by simp[q]⟩;have z:(hidT h H).get? b=none:=PySem.W.hideAll_none (trk h H) D;rw[z] at e;cases e
structure Mod (K:k6) (mg:Str->ia) (base:Heap):Prop where
 kin:K.In base
 glob:base.Ns mainGlobals mg
 blt:∃mb,base.Ns builtinsNs mb/\∀x:Str,x ≠ "__name__"->mb x=bootBuiltins x
 nolimit:base.NoLimit
structure Cx where
 prog:Program
 w:World
 K:k6
 mg:Str->ia
 base:Heap
 A:Around
 N:h7
 s₀:Shared
 H₀:Hp
 env:Env
 outer:ka
 stack:ka
 ex:ic
 fn:Str->Bool
 calm:Bool
 pn:k7
 xe:Value->Shared->Prop
def frs(l:ka):ic:=l.filterMap (·.frame)
protected abbrev Cx.fs(X:Cx):ic:=frs X.outer
def Vis(sc:Scope)(x:Str):Prop:=sc.names.lookup x=some .local\/sc.names.lookup x=some .cell\/sc.names.lookup x=some .free
def Loc(sc:Scope)(x:Str):Prop:=sc.names.lookup x=some .local\/sc.names.lookup x=some .cell
def Look(env:Env)(h:Heap)(m:Str->ia)(x:Str)(u:Value):Prop :=
 (env.kindOf x=some .local/\m x=↑u)\/((env.kindOf x=some .cell\/env.kindOf x=some .free)/\∃c,env.cells.lookup x=↑c/\h.IsCell c ↑u)
structure Cx.Ok (X:Cx):Prop where
 mod:Mod X.K X.mg X.base
 kind:X.env.scope.kind=.function
 glob:X.env.globals=mainGlobals
 blt:X.env.builtins=builtinsNs
 above:X.s₀.heap.objs.size<=X.env.locals
 inj:∀x y c,X.env.cells.lookup x=↑c->X.env.cells.lookup y=↑c->x=y
 has:∀x,(X.env.kindOf x=some .cell\/X.env.kindOf x=some .free)->∃c,X.env.cells.lookup x=↑c
 cab:∀x c,X.fn x=true->X.env.cells.lookup x=↑c->X.s₀.heap.objs.size<=c
 hd:X.calm=true->X.A.handled=none
 frames:X.A.frames=↑X.stack
 stk:X.stack=X.outer\/(X.stack=X.env::X.outer/\X.env.frame=↑X.env.locals)
 exf:∀b∈X.ex,b≠X.env.locals/\∀x c,X.env.cells.lookup x=↑c->c≠b
 bs:∀b o,X.base.get? b=↑o->X.s₀.heap.get? b=↑o/\X.H₀ b=none
 bsz:X.base.objs.size<=X.s₀.heap.objs.size
 noex:∀b o,X.base.get? b=↑o->b∉X.ex
 exfs:∀b∈X.ex,b∉X.fs
 funs:X.s₀.heap.FunFrames X.base X.outer
 frf:∀b∈X.fs,X.H₀ b=none
structure Inv (X:Cx) (pins:k7) (σ:List (Option V)) (H:Hp) (s:Shared):Prop where
 ok:X.Ok
 os:s.os=X.s₀.os
 bare:AllBare s.gens
 base:Un X.fs X.ex X.H₀ H X.s₀.heap s.heap
 loc:∃m,s.heap.Ns X.env.locals m/\∀(i:Nat) (x:Str) (v:V),X.N[i]?=↑x->σ[i]?=↑↑v->Vis X.env.scope x->∃u,RelV v u/\Look X.env s.heap m x u
 cell:∀x c,X.env.cells.lookup x=↑c->∃v,s.heap.IsCell c v
 free:H X.env.locals=none
 freeC:∀x c,X.env.cells.lookup x=↑c->H c=none
 pin:∀p∈X.pn++pins,s.heap.get? p.1=↑p.2/\H p.1=none/\p.1≠X.env.locals/\p.1∉X.fs/\∀v,p.2.data≠.cell v
 hok:HOk X.prog X.w H s.heap
 len:σ.length=X.N.length
variable{X:Cx}
def Cx.Ok.nofr(ok:X.Ok)(e:X.base.get? b=↑o):b∉X.fs:=λD=>by
 have:=(ok.funs.mem D).1;rw[e] at this;cases this
variable{pins:k7}{σ:List (Option V)}{s:Shared}
protected def Inv.bs(I:Inv X pins σ H s):∀b o,X.base.get? b=↑o->s.heap.get? b=↑o/\H b=none:=λb o e =>
 ⟨I.base.keep b o (I.ok.bs b o e).1 (I.ok.bs b o e).2 (I.ok.nofr e) (I.ok.noex b o e),I.base.free b o (I.ok.bs b o e).1 (I.ok.bs b o e).2 (I.ok.noex b o e)⟩
def Inv.bk(I:Inv X pins σ H s):∀b o,X.base.get? b=↑o->s.heap.get? b=↑o:=λb o e=>(I.bs b o e).1
def Inv.mod(I:Inv X pins σ H s):Mod X.K X.mg X.base:=I.ok.mod
def Inv.kIn(I:Inv X pins σ H s):X.K.In s.heap:=I.ok.mod.kin.keeps I.bk
def Inv.lt(I:Inv X pins σ H s):X.env.locals<s.heap.objs.size:=let ⟨_,D,_⟩:=I.loc;D.lt
def Inv.sz(I:Inv X pins σ H s):X.s₀.heap.objs.size<=s.heap.objs.size:=cr I.ok.above (kq I.lt)
def Inv.nofs(I:Inv X pins σ H s)(h:s.heap.objs.size<=a):a∉X.fs:=λD=>by
 obtain⟨_,o,J,_⟩:=I.ok.funs.mem D;exact absurd (bq (bu J) (cr I.sz h)) (f9 _)
def Inv.cne(I:Inv X pins σ H s):∀x c,X.env.cells.lookup x=↑c->c≠X.env.locals:=λx c e z=>by
 obtain⟨v,o,R,hd⟩:=I.cell x c e;obtain⟨m,⟨o',es,S,D,J,_⟩,_⟩:=I.loc;rw[z,D] at R;cases R;rw[J] at hd;cases hd
def Inv.funs(I:Inv X pins σ H s):s.heap.FunFrames X.base X.outer:=by
 have all:∀(l:ka),(∀b∈frs l,b∈X.fs)->X.s₀.heap.FunFrames X.base l->s.heap.FunFrames X.base l:=by
  intro l;induction l with
  |nil=>intro _ _;trivial
  |cons env r ih =>
    intro S U;obtain⟨V,⟨L,o,D,Y,Z,hd⟩,a⟩:=U;have J:L∈X.fs:=S L (by unfold frs;rw[km,D];exact b6);obtain⟨sl,e⟩:=I.base.slot L o Z (I.ok.frf L J) J λz=>I.ok.exfs L z J;exact⟨V,⟨L,_,D,Y,e,hd⟩,ih (λb R=>S b (by unfold frs;rw[km,D];exact bc _ R)) a⟩
 exact all X.outer (λ_ R=>R) I.ok.funs
def Inv.stack(I:Inv X pins σ H s):s.heap.FunFrames X.base X.stack:=by
 rcases I.ok.stk with e | ⟨e,hf⟩
 ·rw[e];exact I.funs
 ·rw[e]
  obtain⟨m,D,_⟩:=I.loc;refine .cons (by rw[I.ok.kind];decide) hf D ?_ I.funs;exact Heap.get?_none_of_le (cr I.ok.bsz I.ok.above)
def Inv.stkSub(I:Inv X pins σ H s):∀b∈frs X.stack,b∈X.env.locals::X.fs:=λb D=>by
 rcases I.ok.stk with e | ⟨e,hf⟩
 ·rw[e] at D;exact bc _ D
 ·rw[e] at D
  unfold frs at D;rw[km,hf] at D;exact D
def Inv.stkFree(I:Inv X pins σ H s):∀b∈frs X.stack,H b=none:=λb hb=>by
 rcases ce.mp (I.stkSub b hb) with e |hb
 ·rw[e];exact I.free
 ·obtain⟨_,o,D,_⟩:=I.ok.funs.mem hb
  exact I.base.free b o D (I.ok.frf b hb) λz=>I.ok.exfs b z hb
variable{g':Array GenState}{t':Nat}{d':Drawn}{ch:ic}
protected def Inv.step(I:Inv X pins σ H s)(J:∀b∈ch,(b∈X.ex\/X.s₀.heap.objs.size<=b)/\b≠X.env.locals/\(∀x c,X.env.cells.lookup x=↑c->c≠b)/\∀p∈X.pn++pins,p.1≠b)(keep:∀b o,b≠X.env.locals->b∉X.fs->b∉ch->s.heap.get? b=↑o->H b=none->h'.get? b=↑o)(Y:∀b o,b≠X.env.locals->b∈X.fs->b∉ch->s.heap.get? b=↑o->H b=none->∃sl,h'.get? b=some { o with slots:=sl })(free:∀b o,b∉ch->s.heap.get? b=↑o->H b=none->H' b=none)(Z:∀b o,b∉ch->s.heap.get? b=↑o->∃o',h'.get? b=↑o')(g:∀b xs,H b=↑(.tup xs)->H' b=↑(.tup xs))(h:∀b o u,H b=↑(.frz o u)->H' b=↑(.frz o u))(j:∀b ps,H b=↑(.tbl ps)->∃more,H' b=↑(.tbl (ps++more)))(K:∀m,s.heap.Ns X.env.locals m->h'.Ns X.env.locals m)(A:HOk X.prog X.w H' h')(L:AllBare g') :
  Inv X pins σ H' { s with heap:=h',gens:=g',drawn:=d',toks:=t' }:=by
 have t:∀b o,X.s₀.heap.get? b=↑o->b≠X.env.locals:=λb o e=>cj (bq (bu e) I.ok.above);have U:∀b o,X.s₀.heap.get? b=↑o->b∉X.ex->b∉ch:=λb o e D a=>by
  rcases(J b a).1 with z |z
  ·exact D z
  ·exact absurd (bq (bu e) z) (f9 _)
 have R:∀x c,X.env.cells.lookup x=↑c->∀v,s.heap.IsCell c v->h'.IsCell c v:=λx c e v M=>by
  obtain⟨o,f,hd⟩:=M;have S:c∉ch:=λz=>(J c z).2.2.1 x c e rfl;by_cases C:c∈X.fs
  ·obtain⟨sl,q⟩:=Y c o (I.cne x c e) C S f (I.freeC x c e)
   exact⟨_,q,hd⟩
  ·exact⟨o,keep c o (I.cne x c e) C S f (I.freeC x c e),hd⟩
 refine⟨I.ok,I.os,L,⟨λb o e n a D=>?_,λb o e n a D=>?_,λb o e n D=>?_,λb o e D=>?_,λb xs e=>g b xs (I.base.tups b xs e),λb o xs e=>h b o xs (I.base.frzs b o xs e),λb ps e=>?_⟩,?_,λx c e=>?_,?_,λx c e=>?_,λp E=>?_,A,I.len⟩
 ·exact keep b o (t b o e) a (U b o e D) (I.base.keep b o e n a D) (I.base.free b o e n D)
 ·obtain⟨sl,V⟩:=I.base.slot b o e n a D
  obtain⟨B,y⟩:=Y b _ (t b o e) a (U b o e D) V (I.base.free b o e n D);exact⟨B,y⟩
 ·obtain⟨o',V⟩:=I.base.there b o e D
  exact free b o' (U b o e D) V (I.base.free b o e n D)
 ·obtain⟨o',V⟩:=I.base.there b o e D
  exact Z b o' (U b o e D) V
 ·obtain⟨N,V⟩:=I.base.tbls b ps e
  obtain⟨O,y⟩:=j b _ V;exact⟨N++O,by rw[y,Array.append_assoc]⟩
 ·obtain⟨m,P,Q⟩:=I.loc
  refine⟨m,K m P,λi x v V y T=>?_⟩;obtain⟨u,r,l⟩:=Q i x v V y T;refine⟨u,r,?_⟩;rcases l with l | ⟨k,c,e,z⟩
  ·exact .inl l
  ·exact .inr ⟨k,c,e,R x c e _ z⟩
 ·obtain⟨v,z⟩:=I.cell x c e
  exact⟨v,R x c e v z⟩
 ·obtain⟨m,⟨o,_,_,f,_⟩,_⟩:=I.loc
  exact free _ o (λz=>(J _ z).2.1 rfl) f I.free
 ·obtain⟨v,o,f,hd⟩:=I.cell x c e
  exact free c o (λz=>(J c z).2.2.1 x c e rfl) f (I.freeC x c e)
 ·obtain⟨e,n,F,G,d⟩:=I.pin p E
  have S:p.1∉ch:=λz=>(J p.1 z).2.2.2 p E rfl;exact⟨keep p.1 p.2 F G S e n,free p.1 p.2 S e n,F,G,d⟩
def Inv.un(I:Inv X pins σ H s)(u:Un X.fs [] H H' s.heap h')(J:HOk X.prog X.w H' h'):Inv X pins σ H' { s with heap:=h',toks:=t' }:=by
 obtain⟨m,⟨o,es,c,V,r⟩,_⟩:=id I.loc;obtain⟨sl,Y⟩:=u.any V I.free (by simp);exact I.step (g':=s.gens) (d':=s.drawn) (ch:=[]) (λ_ z=>nomatch z) (λb o _ R _ e n=>u.keep b o e n R (by simp)) (λb o _ R _ e n=>u.slot b o e n R (by simp)) (λb o _ e n=>u.free b o e n (by simp)) (λb o _ e=>u.there b o e (by simp)) u.tups u.frzs u.tbls (λd Z=>by
  obtain⟨o',S,U,D,a⟩:=Z;rw[V] at D;cases D;exact⟨_,S,U,Y,a⟩) J I.bare
def Inv.call(I:Inv X pins σ H s)(u:Un (frs X.stack) ch H H' s.heap h')(S:HOk X.prog X.w H' h')(a:AllBare g')(J:∀b∈ch,(b∈X.ex\/X.s₀.heap.objs.size<=b)/\b≠X.env.locals/\(∀x c,X.env.cells.lookup x=↑c->c≠b)/\∀p∈X.pn++pins,p.1≠b) :
  Inv X pins σ H' { s with heap:=h',gens:=g',drawn:=d',toks:=t' }:=by
 obtain⟨m,⟨o,es,h,Z,r⟩,_⟩:=id I.loc;obtain⟨sl,U⟩:=u.any Z I.free λz=>(J _ z).2.1 rfl;exact I.step (ch:=ch) J (λb o U d D e n=>u.keep b o e n (λz=>(ce.mp (I.stkSub b z)).elim U d) D) (λb o _ _ D e n=>u.any e n D) (λb o D e n=>u.free b o e n D) (λb o D e=>u.there b o e D) u.tups u.frzs u.tbls (λi f=>by
  obtain⟨o',V,Y,R,g⟩:=f;rw[Z] at R;cases R;exact⟨_,V,Y,U,g⟩) S a
variable{it:Addr}
def Inv.turned(I:Inv X pins σ H s)(k:∀b o,b≠it->s.heap.get? b=↑o->h'.get? b=↑o)(S:H it=none)(R:it≠X.env.locals)(h1:it∈X.ex\/X.s₀.heap.objs.size<=it)(h2:∀x c,X.env.cells.lookup x=↑c->c≠it)(U:∀p∈X.pn++pins,p.1≠it):Inv X pins σ H { s with heap:=h',toks:=t' }:=by
 have J:∀b u,H b=↑u->b≠it:=λb u e z=>by rw[z,S] at e;cases e
 refine I.step (g':=s.gens) (d':=s.drawn) (ch:=[it]) (λb V=>?_) (λb o _ _ D e _=>k b o (λz=>D (by simp[z])) e) (λb o _ _ D e _=>⟨o.slots,k b o (λz=>D (by simp[z])) e⟩) (λ_ _ _ _ n=>n)
  (λb o D e=>⟨o,k b o (λz=>D (by simp[z])) e⟩) (λ_ _ e=>e) (λ_ _ _ e=>e) (λb ps e=>⟨#[],by rw[e];simp⟩) (λm Y=>?_) (λb u e=>?_) I.bare
 ·have e:b=it:=by simpa using V
  subst e;exact⟨h1,R,h2,U⟩
 ·obtain⟨o,es,Z,a,r⟩:=Y
  exact⟨o,es,Z,k _ o (Ne.symm R) a,r⟩
 ·refine(I.hok b u e).stay (λc v D q=>k c v ?_ q) (λ_ q=>q) λ_ _ q=>q
  rcases D with z |z
  ·rw[z];exact J b u e
  ·exact J c _ z
def Inv.tok(I:Inv X pins σ H s)(t:Nat):Inv X pins σ H { s with toks:=t }:=I.un (h':=s.heap) (t':=t) Un.refl I.hok
def Inv.kept{t':Nat}(I:Inv X pins σ H s)(k:∀b u,s.heap.get? b=↑u->h'.get? b=↑u):Inv X pins σ H { s with heap:=h',toks:=t' }:=I.un (Un.kept k) (I.hok.kept k)
def Inv.laid{a:Addr}{o:HO}{t':Nat}(I:Inv X pins σ H s)(k:∀b u,s.heap.get? b=↑u->h'.get? b=↑u)(D:s.heap.objs.size<=a)(new:ObjOk X.prog X.w (upd H a o) h' a o) :
  Inv X pins σ (upd H a o) { s with heap:=h',toks:=t' }:=I.un (Un.laid k D (I.hok.fresh D)) (I.hok.laid k D new)
def Inv.write{x e:Addr}{o:HO}{t':Nat}(I:Inv X pins σ H s)(J:Mut (H x))(R:e=x\/H e=↑(.own x))(k:∀b u,b≠e->s.heap.get? b=↑u->h'.get? b=↑u)(D:∃u,h'.get? e=↑u)(new:ObjOk X.prog X.w (upd H x o) h' x o):Inv X pins σ (upd H x o) { s with heap:=h',toks:=t' }:=I.un (Un.write J R k D) (I.hok.write J R k D new)
def Inv.pins_of{D:k7}(I:Inv X pins σ H s)(h:∀p∈D,s.heap.get? p.1=↑p.2/\H p.1=none/\p.1≠X.env.locals/\p.1∉X.fs/\∀v,p.2.data≠.cell v):Inv X D σ H s :=
 ⟨I.ok,I.os,I.bare,I.base,I.loc,I.cell,I.free,I.freeC,λp J=>(dg.mp J).elim (λz=>I.pin p (d8 _ z)) (h p),I.hok,I.len⟩
variable{x:Str}{N:h7}{i:Nat}{j:Int}
def zpm(D:N.Nodup){j:Nat}(a:N[i]?=↑x)(b:N[j]?=↑x):i=j:=by
 obtain⟨h1,I⟩:=ak.mp a;obtain⟨h2,J⟩:=ak.mp b;exact(List.getElem_inj D).mp (I.trans J.symm)
variable{M:Model}{A:Around}{E:Value->Shared->Prop}{v:V}{Q:Unit->Shared->Prop}
def zno(I:Inv X pins σ H s)(hN:X.N.Nodup)(hi:X.N[i]?=↑x)(S:Loc X.env.scope x)(r:RelV v u)(h:∀s',Inv X pins (σ.set i ↑v) H s'->(∃a,Heap.SameBut a s.heap s'.heap/\(a=X.env.locals\/X.env.cells.lookup x=↑a))->Q () s')(hf:X.fn x=true\/X.env.scope.names.lookup x=some .local:=by first |exact .inl rfl |exact .inr rfl |assumption):wpAny M A (storeName X.env x u) Q E s:=by
 obtain⟨m,O,hl⟩:=id I.loc;have l:(X.env.scope.kind==.class || (X.env.scope.kind==.module && X.env.locals != X.env.globals))=false:=by rw[I.ok.kind];rfl
 have Y:i<σ.length:=by rw[I.len];exact(ak.mp hi).1
 have cne:=I.cne;have J:∀ {a:Addr} {h':Heap},(∃o,s.heap.get? a=↑o/\H a=none)->Heap.SameBut a s.heap h'->HOk X.prog X.w H h':=λ{a h'} ha D b ob e=>by
  obtain⟨_,_,U⟩:=ha;refine(I.hok b ob e).stay (λc G hc q=>(D.2 c ?_).trans q) (λ_ q=>q) λ_ _ q=>q;rintro rfl;rcases hc with rfl |hc
  ·rw[U] at e;cases e
  ·rw[U] at hc;cases hc
 rcases S with hk |hk
 ·refine wpAny_storeName_local hk O (λh' P D=>?_) l
  obtain⟨oL,_,_,T,_⟩:=id O;refine h _ ⟨I.ok,I.os,I.bare,⟨λb o e n Z S=>?_,λb o e n Z S=>?_,I.base.free,λb o e S=>?_,I.base.tups,I.base.frzs,I.base.tbls⟩,⟨_,P,λj y W R V e3=>?_⟩,λy c e=>?_,I.free,I.freeC,λp hp=>?_,J ⟨oL,T,I.free⟩ D,by simpa using I.len⟩ ⟨_,D,.inl rfl⟩
  ·exact(D.2 b (cj (bq (bu e) I.ok.above))).trans (I.base.keep b o e n Z S)
  ·obtain⟨sl,R⟩:=I.base.slot b o e n Z S
   exact⟨sl,(D.2 b (cj (bq (bu e) I.ok.above))).trans R⟩
  ·obtain⟨o',R⟩:=I.base.there b o e S
   exact⟨o',(D.2 b (cj (bq (bu e) I.ok.above))).trans R⟩
  ·by_cases f:j=i
   ·subst f
    rw[hi] at R;cases R;rw[em Y] at V;cases V;exact⟨u,r,.inl ⟨hk,by simp⟩⟩
   ·rw[dh (Ne.symm f)] at V
    obtain⟨u',r',q⟩:=hl j y W R V e3;refine⟨u',r',?_⟩;rcases q with⟨k,e⟩ | ⟨k,c,e,z⟩
    ·refine .inl ⟨k,?_⟩
     have:y≠x:=λe=>f (zpm hN R (e ▸ hi));simp[this,e]
    ·exact .inr ⟨k,c,e,z.sameBut D (cne y c e)⟩
  ·obtain⟨G,z⟩:=I.cell y c e
   exact⟨G,z.sameBut D (cne y c e)⟩
  ·obtain⟨e,n,K,nf,d⟩:=I.pin p hp
   exact⟨(D.2 p.1 K).trans e,n,K,nf,d⟩
 ·have g:X.fn x=true:=by
   rcases hf with z |z
   ·exact z
   ·rw[z] at hk;cases hk
  obtain⟨c,hc⟩:=I.ok.has x (.inl hk);obtain⟨G,z⟩:=I.cell x c hc;refine wpAny_storeName_cell I.ok.kind hk hc z (λh' t D=>?_);obtain⟨oc,B,C⟩:=id z;refine h { s with heap:=h' } ⟨I.ok,I.os,I.bare,⟨λb o e n Z S=>?_,λb o e n Z S=>?_,I.base.free,λb o e S=>?_,I.base.tups,I.base.frzs,I.base.tbls⟩,⟨m,O.sameBut D (Ne.symm (cne x c hc)),λj y W R V e3=>?_⟩,λy L e=>?_,I.free,I.freeC,λp hp=>?_,J ⟨oc,B,I.freeC x c hc⟩ D,by simpa using I.len⟩ ⟨c,D,.inr hc⟩
  ·exact(D.2 b (cj (bq (bu e) (I.ok.cab x c g hc)))).trans (I.base.keep b o e n Z S)
  ·obtain⟨sl,R⟩:=I.base.slot b o e n Z S
   exact⟨sl,(D.2 b (cj (bq (bu e) (I.ok.cab x c g hc)))).trans R⟩
  ·obtain⟨o',R⟩:=I.base.there b o e S
   exact⟨o',(D.2 b (cj (bq (bu e) (I.ok.cab x c g hc)))).trans R⟩
  ·by_cases f:j=i
   ·subst f
    rw[hi] at R;cases R;rw[em Y] at V;cases V;exact⟨u,r,.inr ⟨.inl hk,c,hc,t⟩⟩
   ·rw[dh (Ne.symm f)] at V
    obtain⟨u',r',q⟩:=hl j y W R V e3;refine⟨u',r',?_⟩;rcases q with q | ⟨k,L,e,z'⟩
    ·exact .inl q
    ·refine .inr ⟨k,L,e,z'.sameBut D ?_⟩
     rintro rfl;exact f (zpm hN R (I.ok.inj _ _ _ e hc ▸ hi))
  ·by_cases F:L=c
   ·subst F;exact⟨_,t⟩
   ·obtain⟨w2,z2⟩:=I.cell y L e
    exact⟨w2,z2.sameBut D F⟩
  ·obtain⟨e,n,K,nf,d⟩:=I.pin p hp
   refine⟨(D.2 p.1 ?_).trans e,n,K,nf,d⟩;intro q;rw[q,B] at e;have q':oc=p.2:=bz e;exact d G (by rw[<-q'];exact C)
def zm8(I:Inv X pins σ H s)(D:X.N.Nodup)(hi:X.N[i]?=↑x)(J:Loc X.env.scope x)(r:RelV v u)(h:∀s',Inv X pins (σ.set i ↑v) H s'->Q () s')(R:X.fn x=true\/X.env.scope.names.lookup x=some .local:=by first |exact .inl rfl |exact .inr rfl |assumption):wpAny M A (storeName X.env x u) Q E s :=
 zno I D hi J r (λs' S _=>h s' S) R
variable{s':Shared}
def Inv.call'(I:Inv X pins σ H s)(R:s'.os=s.os)(u:Un (frs X.stack) ch H H' s.heap s'.heap)(D:HOk X.prog X.w H' s'.heap)(S:AllBare s'.gens)(J:∀b∈ch,(b∈X.ex\/X.s₀.heap.objs.size<=b)/\b≠X.env.locals/\(∀x c,X.env.cells.lookup x=↑c->c≠b)/\∀p∈X.pn++pins,p.1≠b):Inv X pins σ H' s':=by
 obtain⟨h',g',d',t',o'⟩:=s';have e:o'=s.os:=R;subst e;exact I.call (g':=g') (t':=t') (d':=d') u D S J
abbrev XK:=Value->Option Addr->Hp->Prop
abbrev St:=List (Option V)
abbrev VK:=V->Hp->Prop
abbrev TE:=St->Hp->VK->Prop
abbrev TT:=St->Hp->(Bool->Hp->Prop)->Prop
abbrev TA:=St->Hp->(k9->Hp->Prop)->Prop
structure Ends where
 nx:St->Hp->Prop
 rt:VK
 bk:St->Hp->Prop:=λ_ _=>False
 ct:St->Hp->Prop:=λ_ _=>False
abbrev TS:=Ends->St->Hp->Prop
inductive EP (X:Cx) (pins:k7) (σ:St) (Q:VK) (u:Value) (s':Shared):Prop
 |mk (v:V) (H':Hp) (i:Inv X pins σ H' s') (r:RelV v u) (q:Q v H'):EP X pins σ Q u s'
inductive TP (X:Cx) (pins:k7) (σ:St) (Q:Bool->Hp->Prop) (b:Bool) (s':Shared):Prop
 |mk (H':Hp) (i:Inv X pins σ H' s') (q:Q b H'):TP X pins σ Q b s'
inductive AP (X:Cx) (pins:k7) (σ:St) (Q:k9->Hp->Prop) (us:h8) (s':Shared):Prop
 |mk (vs:k9) (H':Hp) (i:Inv X pins σ H' s') (r:Vals vs us) (q:Q vs H'):AP X pins σ Q us s'
def SP(X:Cx)(pins:k7)(D:Ends)(f:Flow)(s':Shared):Prop :=
 match f with
 | .next=>∃I H',Inv X pins I H' s'/\D.nx I H' | .brk=>∃I H',Inv X pins I H' s'/\D.bk I H' | .cont=>∃I H',Inv X pins I H' s'/\D.ct I H' | .ret u=>∃v I H',Inv X pins I H' s'/\RelV v u/\D.rt v H'
def PE(X:Cx)(e:Expr)(t:TE):Prop :=
 ∀(pins:k7) (s:Shared) (σ:St) (H:Hp) (Q:VK),Inv X pins σ H s->t σ H Q->wpAny (model X.prog X.w) X.A (eval e X.env) (EP X pins σ Q) X.xe s
def PT(X:Cx)(e:Expr)(t:TT):Prop :=
 ∀(pins:k7) (s:Shared) (σ:St) (H:Hp) (Q:Bool->Hp->Prop),Inv X pins σ H s->t σ H Q->wpAny (model X.prog X.w) X.A (isTrue e X.env (eval e X.env)) (TP X pins σ Q) X.xe s
def PW(X:Cx)(e:Expr)(t:TT):Prop :=
 ∀(whole:Sem Value) (pins:k7) (s:Shared) (σ:St) (H:Hp) (Q:Bool->Hp->Prop),Inv X pins σ H s->t σ H Q->wpAny (model X.prog X.w) X.A (isTrue e X.env whole) (TP X pins σ Q) X.xe s
variable{e:Expr}{t:TE}
def PW.pt{t:TT}(h:PW X e t):PT X e t:=h _
def PA(X:Cx)(es:kb)(t:TA):Prop :=
 ∀(pos:Pos) (pins:k7) (s:Shared) (σ:St) (H:Hp) (Q:k9->Hp->Prop),Inv X pins σ H s->t σ H Q->wpAny (model X.prog X.w) X.A (spliced (backTo pos (starEach es X.env))) (AP X pins σ Q) X.xe s
def PS(X:Cx)(st:Stmt)(t:TS):Prop :=
 ∀(pins:k7) (s:Shared) (σ:St) (H:Hp) (D:Ends),Inv X pins σ H s->t D σ H->wpAny (model X.prog X.w) X.A (exec st X.env) (SP X pins D) X.xe s
def PSs(X:Cx)(st:List Stmt)(t:TS):Prop :=
 ∀(pins:k7) (s:Shared) (σ:St) (H:Hp) (D:Ends),Inv X pins σ H s->t D σ H->wpAny (model X.prog X.w) X.A (execs st X.env) (SP X pins D) X.xe s
def thn{t:Sem α}{Q D:α->Shared->Prop}(h:wpAny M A t Q E s)(I:∀a s,Q a s->D a s):wpAny M A t D E s:=wpAny_mono h I λ_ _ x=>x
def tVar(i:Nat):TE:=λσ H Q=>∃v,σ[i]?=↑↑v/\Q v H
def tC(v:V):TE:=λ_ H Q=>Q v H
variable{pos:Pos}
def z5v(R:X.N[i]?=↑x)(S:Vis X.env.scope x)(hd:(x==("__debug__" : Str))=false:=by decide)(J:(x==("__classdict__" : Str))=false:=by decide):PE X (.Name x pos) (tVar i):=by
 intro pins s σ H Q I h;obtain⟨v,e,h⟩:=h;obtain⟨m,U,V⟩:=I.loc;obtain⟨u,r,l⟩:=V i x v R e S;have D:EP X pins σ Q u s:=⟨v,H,I,r,h⟩;rcases l with⟨hk,Y⟩ | ⟨hk,c,hc,hcell⟩
 ·exact wpAny_Name (wpAny_loadName_local I.ok.kind hk U Y D) hd
 ·rcases hk with hk |hk
  ·exact wpAny_Name (wpAny_loadName_cell I.ok.kind hk hc hcell D) hd
  ·exact wpAny_Name (wpAny_loadName_free I.ok.kind hk hc hcell D J) hd
def y8{i j pos}:PE X (.Constant (.int i) j pos) (tC (.int i)):=λ_ _ _ H _ I h=>wpAny_Constant_int ⟨.int i,H,I.tok _,⟨_,rfl⟩,h⟩
def z9e{b j pos}:PE X (.Constant (.bool b) j pos) (tC (.bl b)):=λ_ _ _ H _ I h=>Constant_bool ⟨.bl b,H,I,rfl,h⟩
def z11{x j pos}:PE X (.Constant (.str x) j pos) (tC (.str x)):=λ_ _ _ H _ I h=>Calls.Constant_str ⟨.str x,H,I.tok _,⟨_,rfl⟩,h⟩
def Gl(X:Cx)(x:Str):Prop:=X.env.kindOf x=some .globalImplicit
variable{σ:St}{Q:Value->Shared->Prop}
def ya(I:Inv X pins σ H s)(D:Gl X x)(J:X.mg x=↑u)(h:Q u s)(hd:(x==("__debug__" : Str))=false:=by decide):wpAny (model X.prog X.w) X.A (eval (.Name x pos) X.env) Q E s :=
 Calls.Name_function_global I.ok.kind D (Calls.loadGlobal_global (by rw[I.ok.glob];exact I.mod.glob.keeps I.bk) J h) hd
def xy(I:Inv X pins σ H s)(D:Gl X x)(J:X.mg x=none)(R:bootBuiltins x=↑u)(h:Q u s)(S:x ≠ "__name__":=by decide)(hd:(x==("__debug__" : Str))=false:=by decide):wpAny (model X.prog X.w) X.A (eval (.Name x pos) X.env) Q E s:=by
 obtain⟨U,h1,h2⟩:=I.mod.blt;exact Calls.Name_function_global I.ok.kind D (Calls.loadGlobal_builtin (by rw[I.ok.glob];exact I.mod.glob.keeps I.bk) J (by rw[I.ok.blt];exact h1.keeps I.bk) ((h2 x S).trans R) h) hd
def zwh(D:Gl X x)(J:X.mg x=↑u)(r:RelV v u)(hd:(x==("__debug__" : Str))=false:=by decide):PE X (.Name x pos) (tC v) :=
 λ_ _ _ H _ I h=>ya I D J ⟨v,H,I,r,h⟩ hd
def zwi(D:Gl X x)(J:X.mg x=none)(R:bootBuiltins x=↑u)(r:RelV v u)(S:x ≠ "__name__":=by decide)(hd:(x==("__debug__" : Str))=false:=by decide):PE X (.Name x pos) (tC v) :=
 λ_ _ _ H _ I h=>xy I D J R ⟨v,H,I,r,h⟩ S hd
def tB(t:TE):TT:=λσ H Q=>t σ H λx H1=>∃c,x=.bl c/\Q c H1
def z5w(h:PE X e t)(D:∀whole,isTrue e X.env whole=(do let v <-whole;standAt e.pos;holding [v] (truthy v)):=by intro _;rfl):PT X e (tB t):=by
 intro pins s σ H Q I J;refine isTrue_plain (thn (h pins s σ H _ I J) λv Y R=>?_) (D _);obtain⟨x,H1,S,U,V⟩:=R;obtain⟨d,rfl,q⟩:=V;cases U;exact wpAny_truthy_bool ⟨H1,S,q⟩
def tAnd(t u:TT):TT:=λσ H Q=>t σ H λc H1=>if c=true then u σ H1 Q else Q false H1
def tOr(t u:TT):TT:=λσ H Q=>t σ H λc H1=>if c=true then Q true H1 else u σ H1 Q
def tNot(t:TT):TT:=λσ H Q=>t σ H λc H1=>Q (!c) H1
variable{a:Expr}{tA:TT}
def z26(D:PT X a tA):PW X (.BoolOp .And [a] pos) tA:=by
 intro J pins s σ H Q I h;refine isTrue_and (thn (D pins s σ H Q I h) λc R e=>?_);cases c with
 |true=>exact isTrue_and_nil e |false=>exact e
def z5x(D:PT X a tA):PW X (.BoolOp .Or [a] pos) tA:=by
 intro J pins s σ H Q I h;refine isTrue_or (thn (D pins s σ H Q I h) λc R e=>?_);cases c with
 |false=>exact isTrue_or_nil e |true=>exact e
variable{b:Expr}{tB':TT}{rest:kb}
def z5y(R:PT X a tA)(S:PW X (.BoolOp .And (b::rest) pos) tB'):PW X (.BoolOp .And (a::b::rest) pos) (tAnd tA tB'):=by
 intro U pins s σ H Q I h;refine isTrue_and (thn (R pins s σ H _ I h) λc V Y=>?_);obtain⟨H1,D,J⟩:=Y;cases c with
 |true=>exact S U pins V σ H1 Q D J |false=>exact⟨H1,D,J⟩
def z9f(R:PT X a tA)(S:PW X (.BoolOp .Or (b::rest) pos) tB'):PW X (.BoolOp .Or (a::b::rest) pos) (tOr tA tB'):=by
 intro U pins s σ H Q I h;refine isTrue_or (thn (R pins s σ H _ I h) λc V Y=>?_);obtain⟨H1,D,J⟩:=Y;cases c with
 |true=>exact⟨H1,D,J⟩ |false=>exact S U pins V σ H1 Q D J
def z5z(D:PT X a tA):PT X (.UnaryOp .Not a pos) (tNot tA):=by
 intro pins s σ H Q I h;refine isTrue_not (thn (D pins s σ H (λc H1=>Q (!c) H1) I h) λc R h=>?_);obtain⟨H1,J,q⟩:=h;exact⟨H1,J,q⟩
def z9g(ta tb:TE):TE:=λσ H Q=>ta σ H λx H1=>∃c,x=.bl c/\if c=true then tb σ H1 Q else Q (.bl false) H1
def z9h(ta:TE):TE:=λσ H Q=>ta σ H λx H1=>∃c,x=.bl c/\Q (.bl (!c)) H1
def z50{op}(h:PE X a t):PE X (.BoolOp op [a] pos) t:=λpins s σ H Q I D=>BoolOp_one (h pins s σ H Q I D)
variable{ta tb:TE}
def z51(R:PE X a ta)(S:PE X (.BoolOp .And (b::rest) pos) tb):PE X (.BoolOp .And (a::b::rest) pos) (z9g ta tb):=by
 intro pins s σ H Q I h;refine BoolOp_and (thn (R pins s σ H _ I h) λv U V=>?_);obtain⟨x,H1,J,Y,D⟩:=V;obtain⟨c,rfl,D⟩:=D;cases Y;refine wpAny_truthy_bool ?_;cases c with
 |true=>exact S pins U σ H1 Q J D |false=>exact⟨.bl false,H1,J,rfl,D⟩
def z52(J:PE X a ta):PE X (.UnaryOp .Not a pos) (z9h ta):=by
 intro pins s σ H Q I h;refine UnaryOp_ (thn (J pins s σ H _ I h) λv V R=>?_);obtain⟨x,H1,S,U,D⟩:=R;obtain⟨c,rfl,D⟩:=D;cases U;exact not_of (wpAny_truthy_bool ⟨.bl (!c),H1,S,rfl,D⟩)
def SqL(K:k6)(H:Hp)(a:Addr)(xs:k9):Prop :=
 Rd H a (.lst xs) \/
  ∃(o:Obj) (its:k8) (n:Nat),K.lookup a=↑o/\o.cls=.type "list"/\o.dict=none/\o.data=.seq its n/\its.size<=sizeLine/\Vals xs its.toList
def SqT(K:k6)(H:Hp)(a:Addr)(xs:k9):Prop :=
 Rd H a (.tup xs) \/
  ∃(o:Obj) (its:k8) (n:Nat),K.lookup a=↑o/\o.cls=.type "tuple"/\o.data=.seq its n/\its.size<=sizeLine/\Vals xs its.toList
def absV:Value->Option V
 | .none=>some .non | .bool b=>↑(.bl b) | .int i _=>↑(.int i)
 | .str x _=>↑(.str x) | .bytes b _=>↑(.byt b) | .float b _=>↑(.flt b) | .ref a=>↑(.ref a) | .type n=>↑(.ty n) |_=>none
def RelV.abs{x:V}(r:RelV x u):absV u=↑x:=by
 cases x with
 |non=>cases r;rfl
 |bl _=>cases r;rfl
 |int _=>obtain⟨t,rfl⟩:=r;rfl |str _=>obtain⟨t,rfl⟩:=r;rfl |byt _=>obtain⟨t,rfl⟩:=r;rfl |flt _=>obtain⟨t,rfl⟩:=r;rfl |ref _=>cases r;rfl
 |ty _=>cases r;rfl
def RelV.inj{x y:V}{u:Value}(r:RelV x u)(q:RelV y u):x=y:=bz (r.abs.symm.trans q.abs)
def Vals.inj{xs ys:k9}{us:h8}(h:Vals xs us)(g:Vals ys us):xs=ys:=by
 induction h generalizing ys with
 |nil=>cases g;rfl
 |cons r t ih=>cases g with |cons p q=>rw[r.inj p,ih q]
variable{a:Addr}{K:k6}
def SqT.of(h:H a=↑(.tup xs)):SqT K H a xs:=.inl (.inl h)
def Inv.list(I:Inv X pins σ H s)(h:SqL X.K H a xs):∃its:h8,Vals xs its/\PlainL s.heap a its.toArray/\xs.length<=sizeLine:=by
 rcases h with h | ⟨o,its,n,hk,hc,hd,hs,hz,r⟩
 ·obtain⟨z,its,n,r,e⟩:=h.ok I.hok
  exact⟨its,r,⟨_,n,e,rfl,rfl,rfl⟩,z⟩
 ·refine⟨its.toList,r,⟨o,n,I.kIn a o hk,hc,hd,by simpa using hs⟩,?_⟩
  have e:=r.length;simp only[oq] at e;omega
def Inv.tuple(I:Inv X pins σ H s)(h:SqT X.K H a xs):∃its:h8,Vals xs its/\IsTup s.heap a its.toArray/\xs.length<=sizeLine:=by
 rcases h with h | ⟨o,its,n,hk,hc,hs,hz,r⟩
 ·obtain⟨z,its,r,p⟩:=h.ok I.hok
  exact⟨its,r,p,z⟩
 ·refine⟨its.toList,r,⟨o,I.kIn a o hk,hc,n,by simpa using hs⟩,?_⟩
  have e:=r.length;simp only[oq] at e;omega
def Inv.list_inj(I:Inv X pins σ H s)(h:SqL X.K H a xs)(h':SqL X.K H a ys):xs=ys:=by
 obtain⟨its,r,⟨o,n,e,_,_,d⟩,_⟩:=I.list h;obtain⟨its',D,⟨o',J,e',_,_,d'⟩,_⟩:=I.list h';rw[e] at e';cases e';rw[d] at d';injection d' with d1 _;have:its=its':=by simpa using congrArg Array.toList d1
 subst this;exact r.inj D
def Inv.tuple_inj(I:Inv X pins σ H s)(h:SqT X.K H a xs)(h':SqT X.K H a ys):xs=ys:=by
 obtain⟨its,r,⟨o,e,_,n,d⟩,_⟩:=I.tuple h;obtain⟨its',D,⟨o',e',_,J,d'⟩,_⟩:=I.tuple h';rw[e] at e';cases e';rw[d] at d';injection d' with d1 _;have:its=its':=by simpa using congrArg Array.toList d1
 subst this;exact r.inj D
abbrev Cx.wish(X:Cx)(E:Value->Shared->Prop):Cx:={ X with xe:=E }
abbrev Cx.nox(X:Cx):Cx:=X.wish λ_ _=>False
def Cx.Ok.wish(ok:X.Ok)(E:Value->Shared->Prop):(X.wish E).Ok :=
 ⟨ok.mod,ok.kind,ok.glob,ok.blt,ok.above,ok.inj,ok.has,ok.cab,ok.hd,ok.frames,ok.stk,ok.exf,ok.bs,ok.bsz,ok.noex,ok.exfs,ok.funs,ok.frf⟩
def Cx.Ok.unwish(ok:(X.wish E).Ok):X.Ok :=
 ⟨ok.mod,ok.kind,ok.glob,ok.blt,ok.above,ok.inj,ok.has,ok.cab,ok.hd,ok.frames,ok.stk,ok.exf,ok.bs,ok.bsz,ok.noex,ok.exfs,ok.funs,ok.frf⟩
def Inv.wish(I:Inv X pins σ H s)(E:Value->Shared->Prop):Inv (X.wish E) pins σ H s:=⟨I.ok.wish E,I.os,I.bare,I.base,I.loc,I.cell,I.free,I.freeC,I.pin,I.hok,I.len⟩
def Inv.unwish(I:Inv (X.wish E) pins σ H s):Inv X pins σ H s:=⟨I.ok.unwish,I.os,I.bare,I.base,I.loc,I.cell,I.free,I.freeC,I.pin,I.hok,I.len⟩
def SP.unwish{D:Ends}{f:Flow}{s':Shared}(h:SP (X.wish E) pins D f s'):SP X pins D f s':=by
 cases f with
 |next=>obtain⟨J,H',I,q⟩:=h;exact⟨J,H',I.unwish,q⟩ |brk=>obtain⟨J,H',I,q⟩:=h;exact⟨J,H',I.unwish,q⟩ |cont=>obtain⟨J,H',I,q⟩:=h;exact⟨J,H',I.unwish,q⟩ |ret u=>obtain⟨v,J,H',I,r,q⟩:=h;exact⟨v,J,H',I.unwish,r,q⟩
variable{t:TS}{st:Stmt}
def PSs.nox{st:List Stmt}(h:PSs X.nox st t):PSs X st t:=λpins s σ H D I J =>
 wpAny_mono (h pins s σ H D (I.wish _) J) (λ_ _ q=>q.unwish) λ_ _ z=>False.elim z
def z9i:TS:=λD σ H=>D.nx σ H
def tSeq(t u:TS):TS:=λD σ H=>t { D with nx:=u D } σ H
def z27:PSs X [] z9i:=λ_ _ σ H _ I h=>wpAny_execs_nil ⟨σ,H,I,h⟩
variable{u:TS}{rest:List Stmt}
def zzm(h1:PS X st t)(h2:PSs X rest u):PSs X (st::rest) (tSeq t u):=by
 intro pins s σ H D I h;refine wpAny_execs_cons (thn (h1 pins s σ H { D with nx:=u D } I h) λf R q=>?_);cases f with
 |next =>
   obtain⟨J,H',S,q⟩:=q;exact h2 pins R J H' D S q
 |ret v=>exact q |brk=>exact q |cont=>exact q
def z28(h1:PS X st t):PSs X [st] t:=by
 intro pins s σ H D I h;refine wpAny_execs_cons (thn (h1 pins s σ H D I h) λf J q=>?_);cases f with
 |next=>exact wpAny_execs_nil q |ret v=>exact q |brk=>exact q |cont=>exact q
def Inv.quiet(I:Inv X pins σ H s):interactive X.env=false:=by simp[interactive,I.ok.kind]
def z9j(te:TE):TS:=λD σ H=>te σ H λ_ H1=>D.nx σ H1
variable{te:TE}
def zwj(J:PE X e te)(R:swapsWith e none pos.line X.env=pure false:=by rfl):PS X (.Expr e pos) (z9j te):=by
 intro pins s σ H D I h;exact wpAny_Expr_any (thn (J pins s σ H _ I h) λv s1 ⟨x,H1,I1,r1,q1⟩=>⟨σ,H1,I1,q1⟩) I.quiet R
def tRet(te:TE):TS:=λD σ H=>te σ H D.rt
def zd(J:PE X e te):PS X (.Return ↑e pos) (tRet te):=by
 intro pins s σ H D I h;exact wpAny_Return_some (thn (J pins s σ H _ I h) λv s1 ⟨x,H1,I1,r1,q1⟩=>⟨x,σ,H1,I1,r1,q1⟩)
def tIfS(c:TT)(t u:TS):TS:=λD σ H=>c σ H λb H1=>if b=true then t D σ H1 else u D σ H1
variable{a c:Expr}{tc:TT}
def z9k{a b:List Stmt}(U:PT X c tc)(V:PSs X a t)(Y:PSs X b u):PS X (.If c a b pos) (tIfS tc t u):=by
 intro pins s σ H D I h;refine wpAny_If (thn (U pins s σ H _ I h) λd J Z=>?_);obtain⟨H1,R,S⟩:=Z;cases d with
 |true=>exact V pins J σ H1 D R S |false=>exact Y pins J σ H1 D R S
def z53:TS:=λ_ _ _=>False
def zzn:PS X st z53:=λ_ _ _ _ _ _ h=>h.elim
abbrev TG:=V->St->Hp->(St->Hp->Prop)->Prop
abbrev TGs:=k9->St->Hp->(St->Hp->Prop)->Prop
def PG(X:Cx)(D:Expr)(t:TG):Prop :=
 ∀(pins:k7) (s:Shared) (σ:St) (H:Hp) (v:V) (u:Value) (Q:St->Hp->Prop),Inv X pins σ H s->RelV v u->t v σ H Q ->
  wpAny (model X.prog X.w) X.A (assign D X.env u) (λ_ s'=>∃I H',Inv X pins I H' s'/\Q I H') X.xe s
def PGs(X:Cx)(ts:kb)(t:TGs):Prop :=
 ∀(pins:k7) (s:Shared) (σ:St) (H:Hp) (vs:k9) (us:h8) (Q:St->Hp->Prop),Inv X pins σ H s->Vals vs us->t vs σ H Q ->
  wpAny (model X.prog X.w) X.A (assignInOrder ((assignEach ts X.env).map (·.2)) us) (λ_ s'=>∃D H',Inv X pins D H' s'/\Q D H') X.xe s
abbrev TSet:=V->V->V->Hp->(Hp->Prop)->Prop
def PSet(X:Cx)(t:TSet):Prop :=
 ∀(pins:k7) (s:Shared) (σ:St) (H:Hp) (o i v:V) (D I u:Value) (Q:Hp->Prop),Inv X pins σ H s->RelV o D->RelV i I->RelV v u->t o i v H Q ->
  wpAny (model X.prog X.w) X.A (setItem D I u) (λ_ s'=>∃H',Inv X pins σ H' s'/\Q H') X.xe s
abbrev TIp:=V->V->Hp->VK->Prop
def PIp(X:Cx)(op:Operator)(t:TIp):Prop :=
 ∀(pins:k7) (s:Shared) (σ:St) (H:Hp) (x y:V) (v u:Value) (Q:VK),Inv X pins σ H s->RelV x v->RelV y u->t x y H Q ->
  wpAny (model X.prog X.w) X.A (inplaceOp op v u) (EP X pins σ Q) X.xe s
def ng(i:Nat):TG:=λv σ H Q=>Q (σ.set i ↑v) H
def zwk(D:X.N.Nodup)(hi:X.N[i]?=↑x)(J:Loc X.env.scope x)(R:X.fn x=true\/X.env.scope.names.lookup x=some .local:=by first |exact .inl rfl |exact .inr rfl |assumption):PG X (.Name x pos) (ng i):=by
 intro pins s σ H v u Q I r h;exact wpAny_assign_Name (zm8 I D hi J r (λs' S=>⟨_,H,S,h⟩) R)
def gNil:TGs:=λvs σ H Q=>vs=[]/\Q σ H
def z54(t:TG)(u:TGs):TGs:=λvs σ H Q=>∃v r,vs=v::r/\t v σ H λD H'=>u r D H' Q
def z29:PGs X [] gNil:=by
 intro pins s σ H vs us Q I r h;obtain⟨e,h⟩:=h;subst e;cases r;exact assignInOrder_nil ⟨σ,H,I,h⟩
variable{u:Value}{t:TA}{es:kb}
def zzo{t:TG}{u:TGs}(h1:PG X e t)(h2:PGs X es u)(J:(assignEach (e::es) X.env).map (·.2)=assign e X.env::(assignEach es X.env).map (·.2):=by rfl):PGs X (e::es) (z54 t u):=by
 intro pins s σ H vs us Q I r h;obtain⟨v,Z,R,h⟩:=h;subst R;cases r with
 |cons r rr =>
   rw[J];refine assignInOrder_cons (thn (h1 pins s σ H _ _ _ I r h) λ_ S U=>?_);obtain⟨D,H1,V,Y⟩:=U;exact h2 pins S D H1 _ _ Q V rr Y
def gTup(K:k6)(n:Nat)(t:TGs):TG:=λv σ H Q=>∃a xs,v=.ref a/\SqT K H a xs/\xs.length=n/\t xs σ H Q
variable{k n:Nat}
def z12{t:TGs}(S:X.calm=true)(h:PGs X es t)(U:(assignEach es X.env).length=n:=by rfl)(D:(assignEach es X.env).findIdx? (·.1)=none:=by rfl):PG X (.Tuple es k pos) (gTup X.K n t):=by
 intro pins s σ H v u Q I r J;obtain⟨a,xs,V,Y,Z,J⟩:=J;subst V;cases r;obtain⟨its,R,c,g⟩:=I.tuple Y;refine assign_Tuple_tuple (I.ok.hd S) c (by simp[U,<-Z,R.length]) D λh' d=>?_;have f:Inv X pins σ H { s with heap:=h' }:=I.kept (t':=s.toks) λb o e=>d b o (cj (bu e)) e;exact h pins _ σ H xs _ Q f (by simpa using R) J
def gSub(to ti:TE)(t:TSet):TG:=λv σ H Q=>to σ H λo H1=>ti σ H1 λi H2=>t o i v H2 λD=>Q σ D
variable{to ti:TE}
def zt1{o i:Expr}{t:TSet}(S:PE X o to)(hi:PE X i ti)(U:PSet X t)(V:∀v,assign (.Subscript o i pos) X.env v=(do
   let D <-holding [v] (eval o X.env);let J <-holding [v,D] (eval i X.env)
   standAt pos
   holding [v,D,J] (setItem D J v)
   release [v,D,J] []):=by intro _;rfl):PG X (.Subscript o i pos) (gSub to ti t):=by
 intro pins s σ H v u Q I r h;rw[V];refine wpAny_bind (wpAny_holding (thn (S pins s σ H _ I h) λD Y R=>?_));obtain⟨x,H1,Z,a,b⟩:=R;refine wpAny_bind (wpAny_holding (thn (hi pins Y σ H1 _ Z b) λJ s2 R=>?_));obtain⟨y,H2,c,d,e⟩:=R;refine wpAny_bind (wpAny_standAt (wpAny_bind (wpAny_holding (thn (U pins s2 σ H2 x y v D J u _ c a d r e) λ_ k R=>?_))));obtain⟨f,g,j⟩:=R;exact wpAny_release ⟨σ,f,g,j⟩
def tAsg(te:TE)(g:TG):TS:=λD σ H=>te σ H λx H1=>g x σ H1 D.nx
variable{tg:Expr}{g:TG}
def zc(J:PE X e te)(R:PG X tg g)(S:swapsWithSole [tg] e pos.line X.env=pure false:=by rfl)(U:swappedStores [tg] e X.env=pure none:=by rfl)(h1:(assignEach [tg] X.env).map (·.2)=[assign tg X.env]:=by rfl):PS X (.Assign [tg] e pos) (tAsg te g):=by
 intro pins s σ H D I h;refine wpAny_Assign_stores (thn (J pins s σ H _ I h) λv V Y=>?_) S U;obtain⟨x,H1,Z,a,b⟩:=Y;rw[h1];exact thn (R pins V σ H1 x v _ Z a b) λ_ s2 q=>q
variable{pos':Pos}
def zq6(J:X.N.Nodup)(hi:X.N[i]?=↑x)(R:Loc X.env.scope x)(S:PE X e te)(U:swapsWith e ↑(.Name x pos') pos.line X.env=pure false:=by rfl)(V:X.fn x=true\/X.env.scope.names.lookup x=some .local:=by first |exact .inl rfl |exact .inr rfl |assumption) :
  PS X (.Assign [.Name x pos'] e pos) (tAsg te (ng i)):=by
 intro pins s σ H D I h;refine wpAny_Assign_Name (thn (S pins s σ H _ I h) λv d Y=>?_) U;obtain⟨y,H1,Z,a,b⟩:=Y;exact zm8 Z J hi R a (λs2 c=>⟨_,H1,c,b⟩) V
def tAug(i:Nat)(te:TE)(ti:TIp):TS:=λD σ H=>∃x,σ[i]?=↑↑x/\te σ H λy H1=>ti x y H1 λz H2=>D.nx (σ.set i ↑z) H2
variable{op:Operator}
def z55{ti:TIp}(V:X.N.Nodup)(hi:X.N[i]?=↑x)(R:Loc X.env.scope x)(Y:PE X e te)(Z:PIp X op ti)(a:X.fn x=true\/X.env.scope.names.lookup x=some .local:=by first |exact .inl rfl |exact .inr rfl |assumption) :
  PS X (.AugAssign (.Name x pos') op e pos) (tAug i te ti):=by
 intro pins s σ H D I h;obtain⟨v,b,h⟩:=h;obtain⟨m,d,f⟩:=I.loc;have S:Vis X.env.scope x:=by rcases R with k |k;exact .inl k;exact .inr (.inl k)
 obtain⟨u,r,l⟩:=f i x v hi b S;refine wpAny_AugAssign_Name ?_;have go:wpAny (model X.prog X.w) X.A (eval e X.env) (λw s₂=>wpAny (model X.prog X.w) X.A (inplaceOp op u w) (λr J=>wpAny (model X.prog X.w) X.A (storeName X.env x r) (λ_=>SP X pins D .next) X.xe J) X.xe s₂) X.xe s:=by
  refine thn (Y pins s σ H _ I h) λw g U=>?_;obtain⟨y,H1,j,n,o⟩:=U;refine thn (Z pins g σ H1 v y u w _ j r n o) λz s2 U=>?_;obtain⟨E,H2,p,q,t⟩:=U;exact zm8 p V hi R q (λF B=>⟨_,H2,B,t⟩) a
 rcases l with⟨hk,C⟩ | ⟨hk,c,hc,hcell⟩
 ·exact wpAny_loadName_local I.ok.kind hk d C go
 ·rcases hk with hk |hk
  ·exact wpAny_loadName_cell I.ok.kind hk hc hcell go
  ·rcases R with k |k
   ·have:X.env.scope.names.lookup x=some .free:=hk
    rw[k] at this;cases this
   ·have:X.env.scope.names.lookup x=some .free:=hk
    rw[k] at this;cases this
def z56(to ti te:TE)(I:V->V->Hp->VK->Prop)(R:TIp)(J:TSet):TS:=λD σ H=>to σ H λo H1=>ti σ H1 λi H2=>I o i H2 λx S=>te σ S λy U=>R x y U λz Y=>J o i z Y λZ=>D.nx σ Z
def PGet(X:Cx)(t:V->V->Hp->VK->Prop):Prop :=
 ∀(pins:k7) (s:Shared) (σ:St) (H:Hp) (o i:V) (D I:Value) (Q:VK),Inv X pins σ H s->RelV o D->RelV i I->t o i H Q ->
  wpAny (model X.prog X.w) X.A (getItem D I) (EP X pins σ Q) X.xe s
variable{i:Int}
def zwl{o i:Expr}{R:V->V->Hp->VK->Prop}{Z:TIp}{S:TSet}{a:Pos}(j:PE X o to)(hi:PE X i ti)(k:PGet X R)(l:PE X e te)(m:PIp X op Z)(n:PSet X S)(p:∀U Y new,augStore i U Y new=(do holding [new,U,Y] (setItem U Y new);release [new,U,Y] [];pure .next):=by intros;rfl):PS X (.AugAssign (.Subscript o i a) op e pos) (z56 to ti te R Z S):=by
 intro pins s σ H D I h;refine wpAny_AugAssign_SubscriptAny (thn (j pins s σ H _ I h) λU q J=>?_) p;obtain⟨c,H1,r,d,t⟩:=J;refine thn (hi pins q σ H1 _ r t) λY s2 J=>?_;obtain⟨f,H2,u,g,w⟩:=J;refine thn (k pins s2 σ H2 c f U Y _ u d g w) λb x J=>?_;obtain⟨y,z,A,r3,B⟩:=J;refine thn (l pins x σ z _ A B) λv C J=>?_;obtain⟨E,F,G,K,L⟩:=J;refine thn (m pins C σ F y E b v _ G r3 K L) λnew M J=>?_;obtain⟨N,O,P,Q,T⟩:=J;exact thn (n pins M σ O c f N U Y new _ P d g Q T) λ_ s6 ⟨H6,I6,q6⟩=>⟨σ,H6,I6,q6⟩
def ipI(f:Int->Int->Int):TIp:=λx y H Q=>∃i j,x=.int i/\y=.int j/\Q (.int (f i j)) H
def z13:PIp X .Add (ipI λi j=>i+j):=by
 intro pins s σ H x y v u Q I D J h;obtain⟨i,j,R,S,q⟩:=h;subst R;subst S;obtain⟨t,rfl⟩:=D;obtain⟨t',rfl⟩:=J;exact iadd_int ⟨.int _,H,I.tok _,⟨_,rfl⟩,q⟩
def z57:PIp X .Sub (ipI λi j=>i-j):=by
 intro pins s σ H x y v u Q I D J h;obtain⟨i,j,R,S,q⟩:=h;subst R;subst S;obtain⟨t,rfl⟩:=D;obtain⟨t',rfl⟩:=J;exact isub_int ⟨.int _,H,I.tok _,⟨_,rfl⟩,q⟩
def z58(c:TT)(tb:TS):TS:=λD σ H=>∃W:Nat->St->Hp->Prop,(∃m,W m σ H)/\∀m σ H,W m σ H ->
 c σ H λb H1=>if b=true then ∃N:St->Hp->Prop,(∀I H',N I H'->∃J,J<m/\W J I H')/\tb { D with nx:=N,ct:=N,bk:=D.nx } σ H1 else D.nx σ H1
variable{body:List Stmt}
def zzp{tb:TS}(g:PassesOwn (model X.prog X.w) X.A X.env X.xe)(k:PT X c tc)(l:PSs X body tb):PS X (.While c body [] pos) (z58 tc tb):=by
 intro pins s σ H D I h;obtain⟨W,⟨m,o⟩,turn⟩:=h;refine wpAny_While (codeAny_whileLoop (λn s'=>∃R H',Inv X pins R H' s'/\W n R H') ?_ m ⟨σ,H,I,o⟩);rintro n p ⟨σ1,H1,I1,w1⟩;refine wpAny_passesOwn g (thn (k pins p σ1 H1 _ I1 (turn n σ1 H1 w1)) λb s2 q=>?_);obtain⟨H2,i,U⟩:=q;cases b with
 |true =>
   obtain⟨N,j,U⟩:=U;rw[if_pos rfl];refine wpAny_passesOwn g (thn (l pins s2 σ1 H2 _ i U) λf r V=>?_);cases f with
   |next =>
     obtain⟨J,S,Y,Z⟩:=V;obtain⟨a,d,e⟩:=j J S Z;exact⟨a,d,J,S,Y,e⟩
   |cont =>
     obtain⟨J,S,Y,Z⟩:=V;obtain⟨a,d,e⟩:=j J S Z;exact⟨a,d,J,S,Y,e⟩
   |brk=>exact V |ret v=>exact V
 |false =>
   rw[if_neg cw];exact wpAny_execs_nil ⟨σ1,H2,i,U⟩
structure It where
 go:Nat->Hp->Prop
 yld:Nat->Hp->V->Hp->Prop
 stop:Nat->Hp->Prop
def FpOk(X:Cx)(pins:k7)(H:Hp)(b:Addr):Prop :=
 H b=none/\b≠X.env.locals/\b∉X.fs/\(b∈X.ex\/X.s₀.heap.objs.size<=b)/\(∀x c,X.env.cells.lookup x=↑c->c≠b)/\∀p∈X.pn++pins,p.1≠b
def Inv.fpOk{b:Addr}(I:Inv X pins σ H s)(D:s.heap.objs.size<=b)(J:H' b=none):FpOk X pins H' b:=by
 refine⟨J,mj (bq I.lt D),I.nofs D,.inr (cr I.sz D),λx c e z=>?_,λp R z=>?_⟩
 ·obtain⟨v,q⟩:=I.cell x c e
  exact absurd (bq q.lt (by rw[z];exact D)) (f9 _)
 ·exact absurd (bq (bu (I.pin p R).1) (by rw[z];exact D)) (f9 _)
structure xt (Cm:Cx->Prop) (P:Program) (w:World) (K:k6) (tg:Expr) (J:It) (fp:ic) (it:Addr) (tn:Nat->Heap->Prop):Prop where
 mem:it∈fp
 obj:∀i h,tn i h->∀b∈fp,∃o,h.get? b=↑o/\∀v,o.data≠.cell v
 keep:∀i h h',tn i h->(∀b∈fp,∀o,h.get? b=↑o->h'.get? b=↑o)->tn i h'
 item:∀(X:Cx),X.prog=P->X.w=w->X.K=K->Cm X->∀(i:Nat) (pins:k7) (s:Shared) (σ:St) (H:Hp) (E:Value->Shared->Prop),Inv X pins σ H s->(∀b∈fp,FpOk X pins H b)->tn i s.heap->J.go i H ->
  wpAny (model P w) X.A (pyNext (.ref it)) (λr s1=>∃u,r=↑u /\
   wpAny (model P w) X.A (letOwnedTupleGo tg (.ref it) u) (λ_ s2=>∃x H',Inv X pins σ H' s2/\RelV x u/\J.yld i H x H'/\tn (i+1) s2.heap/\∀b∈fp,H' b=none) E s1) E s
 done:∀(X:Cx),X.prog=P->X.w=w->X.K=K->Cm X->∀(i:Nat) (pins:k7) (s:Shared) (σ:St) (H:Hp) (E:Value->Shared->Prop),Inv X pins σ H s->(∀b∈fp,FpOk X pins H b)->tn i s.heap->J.stop i H ->
  wpAny (model P w) X.A (pyNext (.ref it)) (λr s1=>r=none/\Inv X pins σ H s1) E s
 self:∀(A:Around) (i:Nat) (s:Shared) (Q:Value->Shared->Prop) (E:Value->Shared->Prop),tn i s.heap->Q (.ref it) s->wpAny (model P w) A (pyIter (.ref it)) Q E s
abbrev Turn:=xt λX=>X.calm=true
abbrev TI:=St->Hp->(It->Hp->Prop)->Prop
def PIEC(Cm:Cx->Prop)(X:Cx)(pins:k7)(σ:St)(tg:Expr)(R:It->Hp->Prop)(D:Value)(s2:Shared):Prop :=
 ∃(it:Addr) (fp:ic) (I:Nat->Heap->Prop) (J:It) (H':Hp),D=.ref it/\Inv X pins σ H' s2/\xt Cm X.prog X.w X.K tg J fp it I/\I 0 s2.heap/\(∀b∈fp,FpOk X pins H' b)/\R J H'
def PIC(Cm:Cx->Prop)(X:Cx)(tg iter:Expr)(wi:TI):Prop :=
 ∀(pins:k7) (s:Shared) (σ:St) (H:Hp) (R:It->Hp->Prop),Inv X pins σ H s->wi σ H R ->
  wpAny (model X.prog X.w) X.A (eval iter X.env) (λv D=>wpAny (model X.prog X.w) X.A (pyIter v) (PIEC Cm X pins σ tg R) X.xe D) X.xe s
abbrev PI:=PIC λX=>X.calm=true
variable{vs:k9}
def zzq{n:String}{vs:k8}{Q:Unit->Shared->Prop}(I:s.heap.get? it=↑o)(J:o.cls=.type n)(hd:o.data=.fields vs)(R:["enumerate", "zip", "dict_itemiterator", "dict_reverseitemiterator", "odict_iterator", "itertools.zip_longest", "itertools.pairwise"].contains n=false)(D:Q () s):wpAny M A (letOwnedTupleGo tg (.ref it) u) Q E s:=by
 unfold letOwnedTupleGo;cases tg <;> first
  |exact wpAny_pure D
  | (cases u <;> first
      |exact wpAny_pure D
      | (refine wpAny_bind (wpAny_load I ?_)
         rw[J,hd];show wpAny M A (if (["enumerate", "zip", "dict_itemiterator", "dict_reverseitemiterator", "odict_iterator", "itertools.zip_longest", "itertools.pairwise"].contains n && vs[0]?==↑(rawInt _))=true then _ else _) Q E s;rw[if_neg (by intro h;rw[R,Bool.false_and] at h;cases h)];exact wpAny_pure D))
def Itl(K:k6)(a:Addr):It :=
 ⟨λi H=>∃xs x,SqL K H a xs/\xs[i]?=↑x,λi H x H'=>H'=H/\∀xs,SqL K H a xs->xs[i]?=↑x,λi H=>∃xs,SqL K H a xs/\xs.length<=i⟩
def Itt(K:k6)(a:Addr):It :=
 ⟨λi H=>∃xs x,SqT K H a xs/\xs[i]?=↑x,λi H x H'=>H'=H/\∀xs,SqT K H a xs->xs[i]?=↑x,λi H=>∃xs,SqT K H a xs/\xs.length<=i⟩
def Itr(lo:Int)(n:Nat):It:=⟨λi _=>i<n,λi H x H'=>H'=H/\x=.int (lo+i),λi _=>n<=i⟩
def zwm(a it:Addr):Turn P w K tg (Itl K a) [it] it (λi h=>h.IsListIter it a i) where
 mem:=by simp
 obj:=λi h st b D=>by
  have e:b=it:=by simpa using D
  subst e;obtain⟨o,e,c,d⟩:=st;exact⟨o,e,λv z=>by rw[d] at z;cases z⟩
 keep:=λi h h' st k=>st.at λo e=>k it (by simp) o e
 item:=by
  intro X hP U V q i pins s σ H E I R st Y;subst hP U V;obtain⟨xs,x,S,Z⟩:=Y;obtain⟨its,f,p,r⟩:=I.list S;obtain⟨u,t,y⟩:=f.get Z;obtain⟨g,j,f2,l,m,n⟩:=R it (by simp);refine wpAny_pyNext_list_item st p.isList (x:=u) (by simpa using t) λh' J A=>?_;have B:Inv X pins σ H { s with heap:=h' }:=I.turned (t':=s.toks) (λb o D e=>(A.2 b D).trans e) g j l m n;obtain⟨o,e,c,d⟩:=id J;exact⟨u,rfl,zzq (s:={ s with heap:=h' }) e c d (by decide) ⟨x,H,B,y,⟨rfl,λys C=>by rw[I.list_inj C S];exact Z⟩,J,λb D=>(R b D).1⟩⟩
 done:=by
  intro X hP U V q i pins s σ H E I R st Y;subst hP U V;obtain⟨xs,S,Z⟩:=Y;obtain⟨its,f,p,r⟩:=I.list S;obtain⟨g,j,f2,l,m,n⟩:=R it (by simp);have G:=f.length;exact wpAny_pyNext_list_end (I.ok.hd q) st p.isList (by simp;omega) λh' F=>⟨rfl,I.turned (t':=s.toks) (λb o D e=>F b o D e) g j l m n⟩
 self:=λ_ _ _ _ _ st h=>wpAny_pyIter_listiter st h
def zvi(a it:Addr):Turn P w K tg (Itt K a) [it] it (λi h=>h.IsTupleIter it a i) where
 mem:=by simp
 obj:=λi h st b D=>by
  have e:b=it:=by simpa using D
  subst e;obtain⟨o,e,c,d⟩:=st;exact⟨o,e,λv z=>by rw[d] at z;cases z⟩
 keep:=λi h h' st k=>st.at λo e=>k it (by simp) o e
 item:=by
  intro X hP U V q i pins s σ H E I R st Y;subst hP U V;obtain⟨xs,x,S,Z⟩:=Y;obtain⟨its,f,p,r⟩:=I.tuple S;obtain⟨u,t,y⟩:=f.get Z;obtain⟨g,j,f2,l,m,n⟩:=R it (by simp);refine wpAny_pyNext_tuple_item st (show s.heap.IsTuple a its.toArray from p) (x:=u) (by simpa using t) λh' J A=>?_;have B:Inv X pins σ H { s with heap:=h' }:=I.turned (t':=s.toks) (λb o D e=>(A.2 b D).trans e) g j l m n;obtain⟨o,e,c,d⟩:=id J;exact⟨u,rfl,zzq (s:={ s with heap:=h' }) e c d (by decide) ⟨x,H,B,y,⟨rfl,λys C=>by rw[I.tuple_inj C S];exact Z⟩,J,λb D=>(R b D).1⟩⟩
 done:=by
  intro X hP U V q i pins s σ H E I R st Y;subst hP U V;obtain⟨xs,S,Z⟩:=Y;obtain⟨its,f,p,r⟩:=I.tuple S;obtain⟨g,j,f2,l,m,n⟩:=R it (by simp);have G:=f.length;exact wpAny_pyNext_tuple_end (I.ok.hd q) st (show s.heap.IsTuple a its.toArray from p) (by simp;omega) λh' F=>⟨rfl,I.turned (t':=s.toks) (λb o D e=>F b o D e) g j l m n⟩
 self:=λ_ _ _ _ _ st h=>wpAny_pyIter_tupleiter st h
def zki(it:Addr)(lo:Int)(n:Nat):Turn P w K tg (Itr lo n) [it] it (λi h=>IsRangeIter h it (lo+(i:Nat)*1) ((n:Int)-(i:Nat)) 1) where
 mem:=by simp
 obj:=λi h st b D=>by
  have e:b=it:=by simpa using D
  subst e;exact⟨_,st,λv z=>by
   have g:Data.fields _=Data.cell v:=z;cases g⟩
 keep:=λi h h' st k=>k it (by simp) _ st
 item:=by
  intro X hP S U V i pins s σ H E I R st Y;subst hP S U;obtain⟨Z,a,f2,c,d,f⟩:=R it (by simp);have W:=Walks.range (prog:=X.prog) (w:=X.w) (I.ok.hd V) it lo 1 n;refine W.item i s _ _ Y st λv h' tk j J kk=>?_;obtain⟨t,rfl⟩:=j;have l:Inv X pins σ H { s with heap:=h',toks:=tk }:=I.turned (λb o D e=>kk b o (by simpa using D) e) Z a c d f;refine⟨_,rfl,zzq (s:={ s with heap:=h',toks:=tk }) (n:="range_iterator") J rfl rfl (by decide) ⟨.int (lo+i),H,l,⟨t,?_⟩,⟨rfl,rfl⟩,J,λb D=>(R b D).1⟩⟩;rw[Int.mul_one]
 done:=by
  intro X hP S U V i pins s σ H E I R st Y;subst hP S U;obtain⟨Z,a,f2,c,d,f⟩:=R it (by simp);exact wpAny_pyNext_range_end (I.ok.hd V) st (by have:n<=i:=Y;omega) λh' m=>⟨rfl,I.turned (t':=s.toks) (λb o D e=>m b o D e) Z a c d f⟩
 self:=λ_ _ _ _ _ st h=>wpAny_pyIter_rangeiter st h
def z9l(K:k6)(tl:TE):TI:=λσ H R=>tl σ H λx H1=>∃a,x=.ref a/\(∃xs,SqL K H1 a xs)/\R (Itl K a) H1
def iTup(K:k6)(tl:TE):TI:=λσ H R=>tl σ H λx H1=>∃a,x=.ref a/\(∃xs,SqT K H1 a xs)/\R (Itt K a) H1
variable{l:Expr}{tl:TE}
def zwn(S:PE X l tl):PI X tg l (z9l X.K tl):=by
 intro pins s σ H R I h;refine thn (S pins s σ H _ I h) λv D U=>?_;obtain⟨x,H1,J,V,Y⟩:=U;obtain⟨a,e,⟨xs,Z⟩,q⟩:=Y;subst e;cases V;obtain⟨its,d,p,f⟩:=J.list Z;refine wpAny_pyIter_list p.isList ?_;refine⟨D.heap.objs.size,[D.heap.objs.size],_,_,H1,rfl,J.kept (t':=D.toks) λb o e=>aw _ e,zwm a _,⟨_,cy _ rfl,rfl,rfl⟩,λb c=>?_,q⟩;have e:b=D.heap.objs.size:=by simpa using c
 subst e;exact J.fpOk (b7 _) (J.hok.fresh (b7 _))
def z59(S:PE X l tl):PI X tg l (iTup X.K tl):=by
 intro pins s σ H R I h;refine thn (S pins s σ H _ I h) λv D U=>?_;obtain⟨x,H1,J,V,Y⟩:=U;obtain⟨a,e,⟨xs,Z⟩,q⟩:=Y;subst e;cases V;obtain⟨its,d,p,f⟩:=J.tuple Z;refine wpAny_pyIter_tuple (show D.heap.IsTuple a its.toArray from p) ?_;refine⟨D.heap.objs.size,[D.heap.objs.size],_,_,H1,rfl,J.kept (t':=D.toks) λb o e=>aw _ e,zvi a _,⟨_,cy _ rfl,rfl,rfl⟩,λb c=>?_,q⟩;have e:b=D.heap.objs.size:=by simpa using c
 subst e;exact J.fpOk (b7 _) (J.hok.fresh (b7 _))
variable{v:Value}{Cm:Cx->Prop}
def zzr(hT:∀(it:Addr) (lo:Int) (n:Nat),xt Cm X.prog X.w X.K tg (Itr lo n) [it] it (λi h=>IsRangeIter h it (lo+(i:Nat)*1) ((n:Int)-(i:Nat)) 1)){R:It->Hp->Prop}{lo hi:Int}{t u v:Tok}{tk:Nat}(I:Inv X pins σ H s)(h1:-(2 ^ 62)<=lo)(h2:lo<2 ^ 62)(J:-(2 ^ 62)<=hi)(S:hi<2 ^ 62)(q:R (Itr lo (hi-lo).toNat) H):wpAny (model X.prog X.w) X.A (pyIter (.ref s.heap.objs.size)) (PIEC Cm X pins σ tg R) E { s with heap:=s.heap.push { cls:=.type "range",data:=.fields #[.int lo t,.int hi u,.int 1 v] },toks:=tk }:=by
 refine wpAny_pyIter_range (IsRange.new ..) (small_one h1 h2 J S) ?_;have D:Inv X pins σ H { s with heap:=s.heap.push { cls:=.type "range",data:=.fields #[.int lo t,.int hi u,.int 1 v] },toks:=tk }:=I.kept λb o e=>aw _ e;refine⟨(s.heap.push { cls:=.type "range",data:=.fields #[.int lo t,.int hi u,.int 1 v] }).objs.size,[(s.heap.push { cls:=.type "range",data:=.fields #[.int lo t,.int hi u,.int 1 v] }).objs.size],_,_,H,rfl,
  D.kept (t':=tk) λb o e=>aw _ e,hT _ lo (hi-lo).toNat,?_,λb U=>?_,q⟩
 ·have V:lo+((0:Nat):Int)*1=lo:=by simp
  have Y:(((hi-lo).toNat:Nat):Int)-((0:Nat):Int)=Builtin.Range.rangeSize lo hi 1:=by rw[rangeSize_one];split <;> omega
  show IsRangeIter _ _ (lo+((0:Nat):Int)*1) ((((hi-lo).toNat:Nat):Int)-((0:Nat):Int)) 1;rw[V,Y];exact cy _ rfl
 ·have e:b=(s.heap.push { cls:=.type "range",data:=.fields #[.int lo t,.int hi u,.int 1 v] }).objs.size:=by simpa using U
  subst e;exact D.fpOk (b7 _) (D.hok.fresh (b7 _))
def z9m(ta:TA):TI:=λσ H R=>ta σ H λvs H1=>∃j:Int,vs=[.int j]/\-(2 ^ 62)<=j/\j<2 ^ 62/\R (Itr 0 j.toNat) H1
variable{p:Pos}
def zvj(hT:∀(it:Addr) (lo:Int) (n:Nat),xt Cm X.prog X.w X.K tg (Itr lo n) [it] it (λi h=>IsRangeIter h it (lo+(i:Nat)*1) ((n:Int)-(i:Nat)) 1)){ta:TA}(J:Gl X "range")(S:X.mg "range" = none)(U:PA X [a] ta)(V:starEach [a] X.env=[(false,eval a X.env)]:=by rfl):PIC Cm X tg (.Call (.Name "range" p) [a] [] pos) (z9m ta):=by
 intro pins s σ H R I h;refine Call_ (xy I J S boot_range (i6 (thn (U pos pins s σ H _ I h) λus d Y=>?_) V rfl));obtain⟨vs,H1,Z,b,D⟩:=Y;obtain⟨j,e,D,c,q⟩:=D;subst e;cases b with
 |cons r rr =>
   cases rr;obtain⟨t,rfl⟩:=r;exact call_range_1 (zzr hT Z (by omega) (by omega) D c (by simpa using q))
def tFor(wi:TI)(g:TG)(tb:TS):TS:=λD σ H=>wi σ H λJ H1=>∃W:Nat->Nat->St->Hp->Prop,(∃m,W 0 m σ H1)/\∀i m σ H,W i m σ H ->
 (J.stop i H/\D.nx σ H)\/(J.go i H/\∃N:St->Hp->Prop,(∀I H',N I H'->∃S,S<m/\W (i+1) S I H')/\∀x H',J.yld i H x H'->g x σ H' λR H2=>tb { D with nx:=N,ct:=N,bk:=D.nx } R H2)
def zq7(fp:ic)(h:Heap):k7:=fp.filterMap λb=>(h.get? b).map λo=>(b,o)
variable{fp:ic}
def zkj{b:Addr}(D:b∈fp)(e:h.get? b=↑o):(b,o)∈zq7 fp h:=pi.mpr ⟨b,D,by rw[e];rfl⟩
def zwo{p:Addr×Obj}(D:p∈zq7 fp h):p.1∈fp/\h.get? p.1=↑p.2:=by
 obtain⟨b,I,e⟩:=pi.mp D;cases q:h.get? b with
 |none=>rw[q] at e;cases e
 |some o =>
   rw[q] at e;have e':(b,o)=p:=bz e;subst e';exact⟨I,q⟩
def Inv.pinned(I:Inv X pins σ H s)(J:∀b∈fp,FpOk X pins H b)(R:∀b∈fp,∃o,s.heap.get? b=↑o/\∀v,o.data≠.cell v):Inv X (pins++zq7 fp s.heap) σ H s :=
 I.pins_of λp S=>(dg.mp S).elim (λz=>I.pin p (cf _ z)) λz=>by
  obtain⟨D,e⟩:=zwo z;obtain⟨U,V,f2,_⟩:=J p.1 D;obtain⟨o,e',d⟩:=R p.1 D;rw[e] at e';cases e';exact⟨e,U,V,f2,d⟩
variable{pl:Sem Bool}
def Inv.unpinned{pl:k7}(I:Inv X (pins++pl) σ H s):Inv X pins σ H s:=I.pins_of λp D=>I.pin p (cf _ (d8 _ D))
def z6a{iter:Expr}{wi:TI}{tb:TS}(k:PassesOwn (model X.prog X.w) X.A X.env X.xe)(E:X.calm=true)(hi:PI X tg iter wi)(M:PG X tg g)(S:PSs X body tb)(O:∀x,foldedSetIterable iter X.env x=pure x:=by intro _;rfl):PS X (.For tg iter body [] pos) (tFor wi g tb):=by
 intro pins s σ H D I h;refine wpAny_For (thn (hi pins s σ H _ I h) λv s1 h1=>thn h1 λP s2 h2=>?_) O;obtain⟨it,fp,F,J,H2,e,Q,T,q,f2,W,⟨m0,w0⟩,turn⟩:=h2;subst e;have U:∀ {H':Hp},(∀b∈fp,H' b=none)->∀b∈fp,FpOk X pins H' b:=λhn b S=>⟨hn b S,(f2 b S).2⟩;refine codeAny_forLoop_any (λn s'=>∃i V H',Inv X pins V H' s'/\F i s'.heap/\(∀b∈fp,H' b=none)/\W i n V H') ?_ m0 ⟨0,σ,H2,Q,q,λb S=>(f2 b S).1,w0⟩;rintro n G ⟨i,σ3,H3,I3,st3,fr3,w3⟩;rcases turn i n σ3 H3 w3 with⟨l,qn⟩ | ⟨go,N,hN,step⟩
 ·refine wpAny_passesOwn k (thn (T.done X rfl rfl rfl E i pins G σ3 H3 X.xe I3 (U fr3) st3 l) λr s4 c=>?_)
  obtain⟨t,I4⟩:=c;subst t;exact wpAny_execs_nil ⟨σ3,H3,I4,qn⟩
 ·refine wpAny_passesOwn k (thn (T.item X rfl rfl rfl E i pins G σ3 H3 X.xe I3 (U fr3) st3 go) λr s4 c=>?_)
  obtain⟨u,t,h4⟩:=c;subst t;refine wpAny_passesOwn k (thn h4 λ_ K c=>?_);obtain⟨x,L,I5,r5,y5,j,y⟩:=c;have z:=I5.pinned (U y) (T.obj _ _ j);refine wpAny_passesOwn k (thn (M _ K σ3 L x u _ z r5 (step x L y5)) λ_ s6 c=>?_);obtain⟨B,H6,I6,q6⟩:=c;refine wpAny_passesOwn k (thn (S _ s6 B H6 _ I6 q6) λf C a=>?_);have again:∀ {R:St} {Y:Hp},Inv X (pins++zq7 fp K.heap) R Y C->N R Y->∃m,m<n/\∃i V H',Inv X pins V H' C/\F i C.heap/\(∀b∈fp,H' b=none)/\W i m V H':=λ{R Y} Z p=>by
   obtain⟨m',hm,w7⟩:=hN R Y p;refine⟨m',hm,i+1,R,Y,Z.unpinned,T.keep _ _ _ j λb S o e=>(Z.pin (b,o) (cf _ (cf _ (zkj S e)))).1,λb S=>?_,w7⟩;obtain⟨o,e,d⟩:=T.obj _ _ j b S;exact(Z.pin (b,o) (cf _ (cf _ (zkj S e)))).2.1
  cases f with
  |next=>obtain⟨R,Y,Z,p⟩:=a;exact again Z p |cont=>obtain⟨R,Y,Z,p⟩:=a;exact again Z p |brk=>obtain⟨R,Y,Z,a⟩:=a;exact⟨R,Y,Z.unpinned,a⟩ |ret v=>obtain⟨x7,R,Y,Z,r7,a⟩:=a;exact⟨x7,R,Y,Z.unpinned,r7,a⟩
abbrev R2:=V->V->Hp->VK->Prop
def OpR(X:Cx)(f:Value->Value->Sem Value)(r:R2):Prop :=
 ∀(pins:k7) (s:Shared) (σ:St) (H:Hp) (x y:V) (v u:Value) (Q:VK),Inv X pins σ H s->RelV x v->RelV y u->r x y H Q ->
  wpAny (model X.prog X.w) X.A (f v u) (EP X pins σ Q) X.xe s
def UnR(X:Cx)(f:Value->Sem Value)(r:V->Hp->VK->Prop):Prop :=
 ∀(pins:k7) (s:Shared) (σ:St) (H:Hp) (x:V) (v:Value) (Q:VK),Inv X pins σ H s->RelV x v->r x H Q ->
  wpAny (model X.prog X.w) X.A (f v) (EP X pins σ Q) X.xe s
def qp(X:Cx)(f:Value)(r:k9->Hp->VK->Prop):Prop :=
 ∀(pins:k7) (s:Shared) (σ:St) (H:Hp) (xs:k9) (us:h8) (Q:VK),Inv X pins σ H s->Vals xs us->r xs H Q ->
  wpAny (model X.prog X.w) X.A (call f us) (EP X pins σ Q) X.xe s
def tOp(r:R2)(ta tb:TE):TE:=λσ H Q=>ta σ H λx H1=>tb σ H1 λy H2=>r x y H2 Q
def tUn(r:V->Hp->VK->Prop)(ta:TE):TE:=λσ H Q=>ta σ H λx H1=>r x H1 Q
def rI(C:Int->Int->Prop)(g:Int->Int->V):R2:=λx y H Q=>∃i j,x=.int i/\y=.int j/\C i j/\Q (g i j) H
def rI0(g:Int->Int->V):R2:=λx y H Q=>∃i j,x=.int i/\y=.int j/\Q (g i j) H
def rU(g:Int->V):V->Hp->VK->Prop:=λx H Q=>∃i,x=.int i/\Q (g i) H
variable{f:Value->Value->Sem Value}
def binT(S:PE X a ta)(U:PE X b tb){R:V->V->Hp->Prop}(I:Inv X pins σ H s)(h:ta σ H λx H1=>tb σ H1 λy H2=>R x y H2)(Y:∀v u s2 x y H2,Inv X pins σ H2 s2->RelV x v->RelV y u->R x y H2->wpAny (model X.prog X.w) X.A (f v u) Q X.xe s2) :
  wpAny (model X.prog X.w) X.A (eval a X.env) (λv D=>wpAny (model X.prog X.w) X.A (eval b X.env) (λu s₂=>wpAny (model X.prog X.w) X.A (f v u) Q X.xe s₂) X.xe D) X.xe s:=by
 refine thn (S pins s σ H _ I h) λv Z J=>?_;obtain⟨x,H1,c,d,e⟩:=J;refine thn (U pins Z σ H1 _ c e) λu s2 J=>?_;obtain⟨y,H2,g,i,j⟩:=J;exact Y v u s2 x y H2 g d i j
variable{r:R2}
def z3a(D:OpR X (binaryOp op) r)(J:PE X a ta)(R:PE X b tb):PE X (.BinOp a op b pos) (tOp r ta tb):=by
 intro pins s σ H Q I h;exact wpAny_BinOp (binT J R I h λv u s2 x y H2 S U V q=>D pins s2 σ H2 x y v u Q S U V q)
variable{op:CmpOp}
def z6b{op:UnaryOp}{r:V->Hp->VK->Prop}(D:UnR X (unaryOp op) r)(J:PE X a ta):PE X (.UnaryOp op a pos) (tUn r ta):=by
 intro pins s σ H Q I h;exact UnaryOp_ (thn (J pins s σ H _ I h) λv s1 ⟨x,H1,I1,r1,q1⟩=>D pins s1 σ H1 x v Q I1 r1 q1)
variable{g:Int->Int->Int}{C:Addr}
def opI{C:Int->Int->Prop}(rule:∀(i j:Int) (t u:Tok) (s:Shared) (Q:Value->Shared->Prop) (E:Value->Shared->Prop),C i j->Q (.int (g i j) s.toks) { s with toks:=s.toks+1 }->wpAny (model X.prog X.w) X.A (f (.int i t) (.int j u)) Q E s) :
  OpR X f (rI C λi j=>.int (g i j)):=by
 intro pins s σ H x y v u Q I D J h;obtain⟨i,j,rfl,rfl,R,q⟩:=h;obtain⟨t,rfl⟩:=D;obtain⟨t',rfl⟩:=J;exact rule i j t t' s _ _ R ⟨.int (g i j),H,I.tok _,⟨_,rfl⟩,q⟩
def opI0(rule:∀(i j:Int) (t u:Tok) (s:Shared) (Q:Value->Shared->Prop) (E:Value->Shared->Prop),Q (.int (g i j) s.toks) { s with toks:=s.toks+1 }->wpAny (model X.prog X.w) X.A (f (.int i t) (.int j u)) Q E s) :
  OpR X f (rI0 λi j=>.int (g i j)):=by
 intro pins s σ H x y v u Q I D J h;obtain⟨i,j,rfl,rfl,q⟩:=h;obtain⟨t,rfl⟩:=D;obtain⟨t',rfl⟩:=J;exact rule i j t t' s _ _ ⟨.int (g i j),H,I.tok _,⟨_,rfl⟩,q⟩
def opB0{g:Int->Int->Bool}(rule:∀(i j:Int) (t u:Tok) (s:Shared) (Q:Value->Shared->Prop) (E:Value->Shared->Prop),Q (.bool (g i j)) s->wpAny (model X.prog X.w) X.A (f (.int i t) (.int j u)) Q E s) :
  OpR X f (rI0 λi j=>.bl (g i j)):=by
 intro pins s σ H x y v u Q I D J h;obtain⟨i,j,rfl,rfl,q⟩:=h;obtain⟨t,rfl⟩:=D;obtain⟨t',rfl⟩:=J;exact rule i j t t' s _ _ ⟨.bl (g i j),H,I,rfl,q⟩
def CDiv(i j:Int):Prop:=0<j/\j<1073741824
def CMul(i j:Int):Prop:=(-(2 ^ 64)<i/\i<2 ^ 64)\/(-(2 ^ 64)<j/\j<2 ^ 64)
def CMul.ok(h:CMul i j):IntMulOk i j:=by
 rcases h with⟨h1,h2⟩ | ⟨h1,h2⟩
 ·exact .of_left (intBits_le_64 h1 h2)
 ·exact .of_right (intBits_le_64 h1 h2)
def z6c:OpR X (binaryOp .Add) (rI0 λi j=>.int (i+j)):=opI0 λ_ _ _ _ _ _ _ q=>add_int q
def z6d:OpR X (binaryOp .Sub) (rI0 λi j=>.int (i-j)):=opI0 λ_ _ _ _ _ _ _ q=>sub_int q
def z6e:OpR X (binaryOp .Mult) (rI CMul λi j=>.int (i*j)):=opI λ_ _ _ _ _ _ _ D q=>mul_int q D.ok
def z3b:OpR X (binaryOp .FloorDiv) (rI CDiv λi j=>.int (i / j)):=opI λi j _ _ _ _ _ D q=>by
 have h1:(0:Int)<j:=D.1;have h2:j<1073741824:=D.2;exact floordiv_int (by omega) (by rw[Int.fdiv_eq_ediv_of_nonneg i (by omega)];exact q) (.inl (PyProof.noPylong_small (by omega)))
def z6f:OpR X (binaryOp .Mod) (rI (λ_ j=>0<j) λi j=>.int (i % j)):=opI λi j _ _ _ _ _ D q=>by
 have h1:(0:Int)<j:=D;exact mod_int' (by omega) (by rw[Int.fmod_eq_emod_of_nonneg i (by omega)];exact q)
variable{f:Addr}
def unI{f:Value->Sem Value}{g:Int->Int}(rule:∀(i:Int) (t:Tok) (s:Shared) (Q:Value->Shared->Prop) (E:Value->Shared->Prop),Q (.int (g i) s.toks) { s with toks:=s.toks+1 }->wpAny (model X.prog X.w) X.A (f (.int i t)) Q E s) :
  UnR X f (rU λi=>.int (g i)):=by
 intro pins s σ H x v Q I D h;obtain⟨i,rfl,q⟩:=h;obtain⟨t,rfl⟩:=D;exact rule i t s _ _ ⟨.int (g i),H,I.tok _,⟨_,rfl⟩,q⟩
def z14:UnR X (unaryOp .USub) (rU λi=>.int (-i)):=unI λ_ _ _ _ _ q=>neg_int q
def scal:V->V->Bool
 | .non,.non=>true | .non,.int _=>true | .int _,.non=>true | .non,.bl _=>true | .bl _,.non=>true | .non,.str _=>true | .str _,.non=>true | .int _,.int _=>true | .bl _,.bl _=>true | .str _,.str _=>true | .byt _,.byt _=>true | .int _,.str _=>true | .str _,.int _=>true | .bl _,.str _=>true | .str _,.bl _=>true |_,_=>false
def rEq:R2:=λx y H Q=>scal x y=true/\Q (.bl (decide (x=y))) H
def rNe:R2:=λx y H Q=>scal x y=true/\Q (.bl (!decide (x=y))) H
def zwp:decide (V.int i=V.int j)=(i==j):=by
 rw[mx];simp
def z15{i j:Bool}:decide (V.bl i=V.bl j)=(i==j):=by
 rw[mx];simp
def zwq{i j:Str}:decide (V.str i=V.str j)=(i==j):=by
 rw[mx];simp
def zwr{i j:Array UInt8}:decide (V.byt i=V.byt j)=(i.toList==j.toList):=by
 rw[mx];cases i;cases j;simp
def kv{Q:VK}{k k':Bool}(I:Inv X pins σ H s)(q:Q (.bl k) H)(e:k=k'):EP X pins σ Q (.bool k') s:=by
 subst e;exact⟨.bl k,H,I,rfl,q⟩
def z6g:OpR X (compareOp .Eq) rEq:=by
 intro pins s σ H x y v u Q I R D h;obtain⟨J,q⟩:=h;cases x with
 |non =>
   cases R;cases y with
   |non=>cases D;exact PySem.EqNone.eq_none_none (kv I q (by simp))
   |bl j=>cases D;exact PySem.EqNone.eq_none_bool (kv I q (by simp))
   |int j=>obtain⟨t',rfl⟩:=D;exact PySem.EqNone.eq_none_int (kv I q (by simp)) |str j=>obtain⟨t',rfl⟩:=D;exact PySem.EqNone.eq_none_str (kv I q (by simp)) |_=>exact absurd (show false=true from J) cw
 |bl i =>
   cases R;cases y with
   |non=>cases D;exact PySem.EqNone.eq_bool_none (kv I q (by simp))
   |bl j=>cases D;exact eq_bool (kv I q z15)
   |str j=>obtain⟨t',rfl⟩:=D;exact PySem.EqMixed.eq_bool_str (kv I q (by simp)) |_=>exact absurd (show false=true from J) cw
 |int i =>
   obtain⟨t,rfl⟩:=R;cases y with
   |non=>cases D;exact PySem.EqNone.eq_int_none (kv I q (by simp))
   |int j=>obtain⟨t',rfl⟩:=D;exact eq_int (kv I q zwp) |str j=>obtain⟨t',rfl⟩:=D;exact PySem.EqMixed.eq_int_str (kv I q (by simp)) |_=>exact absurd (show false=true from J) cw
 |str i =>
   obtain⟨t,rfl⟩:=R;cases y with
   |non=>cases D;exact PySem.EqNone.eq_str_none (kv I q (by simp))
   |bl j=>cases D;exact PySem.EqMixed.eq_str_bool (kv I q (by simp))
   |int j=>obtain⟨t',rfl⟩:=D;exact PySem.EqMixed.eq_str_int (kv I q (by simp)) |str j=>obtain⟨t',rfl⟩:=D;exact eq_str (kv I q zwq) |_=>exact absurd (show false=true from J) cw
 |byt i =>
   obtain⟨t,rfl⟩:=R;cases y with
   |byt j=>obtain⟨t',rfl⟩:=D;exact PySem.W.eq_bytes (kv I q zwr) |_=>exact absurd (show false=true from J) cw
 |_=>cases y <;> exact absurd (show false=true from J) cw
def z9n:OpR X (compareOp .NotEq) rNe:=by
 intro pins s σ H x y v u Q I R D h;obtain⟨J,q⟩:=h;cases x with
 |non =>
   cases R;cases y with
   |non=>cases D;exact PySem.EqNone.ne_none_none (kv I q (by simp))
   |bl j=>cases D;exact PySem.EqNone.ne_none_bool (kv I q (by simp))
   |int j=>obtain⟨t',rfl⟩:=D;exact PySem.EqNone.ne_none_int (kv I q (by simp)) |str j=>obtain⟨t',rfl⟩:=D;exact PySem.EqNone.ne_none_str (kv I q (by simp)) |_=>exact absurd (show false=true from J) cw
 |bl i =>
   cases R;cases y with
   |non=>cases D;exact PySem.EqNone.ne_bool_none (kv I q (by simp))
   |bl j=>cases D;exact ne_bool (kv I q (congrArg not z15))
   |str j=>obtain⟨t',rfl⟩:=D;exact PySem.EqMixed.ne_bool_str (kv I q (by simp)) |_=>exact absurd (show false=true from J) cw
 |int i =>
   obtain⟨t,rfl⟩:=R;cases y with
   |non=>cases D;exact PySem.EqNone.ne_int_none (kv I q (by simp))
   |int j=>obtain⟨t',rfl⟩:=D;exact ne_int (kv I q (congrArg not zwp)) |str j=>obtain⟨t',rfl⟩:=D;exact PySem.EqMixed.ne_int_str (kv I q (by simp)) |_=>exact absurd (show false=true from J) cw
 |str i =>
   obtain⟨t,rfl⟩:=R;cases y with
   |non=>cases D;exact PySem.EqNone.ne_str_none (kv I q (by simp))
   |bl j=>cases D;exact PySem.EqMixed.ne_str_bool (kv I q (by simp))
   |int j=>obtain⟨t',rfl⟩:=D;exact PySem.EqMixed.ne_str_int (kv I q (by simp)) |str j=>obtain⟨t',rfl⟩:=D;exact ne_str (kv I q (congrArg not zwq)) |_=>exact absurd (show false=true from J) cw
 |byt i =>
   obtain⟨t,rfl⟩:=R;cases y with
   |byt j=>obtain⟨t',rfl⟩:=D;exact PySem.W.ne_bytes (kv I q (congrArg not zwr)) |_=>exact absurd (show false=true from J) cw
 |_=>cases y <;> exact absurd (show false=true from J) cw
def z9o:OpR X (compareOp .Lt) (rI0 λi j=>.bl (decide (i<j))):=opB0 λ_ _ _ _ _ _ _ q=>lt_int q
def z6h:OpR X (compareOp .Gt) (rI0 λi j=>.bl (decide (j<i))):=opB0 λ_ _ _ _ _ _ _ q=>gt_int q
def z9p:OpR X (compareOp .GtE) (rI0 λi j=>.bl (decide (j<=i))):=opB0 λ_ _ _ _ _ _ _ q=>ge_int q
def wu(b:Expr)(h:op≠.In:=by decide)(h2:op≠.NotIn:=by decide):behindInMarks op b=false:=by
 have D:(op==CmpOp.In)=false:=by cases op <;> first |rfl |exact absurd rfl h
 have I:(op==CmpOp.NotIn)=false:=by cases op <;> first |rfl |exact absurd rfl h2
 cases b <;> simp[behindInMarks,D,I]
def z3c(D:OpR X (compareOp op) r)(J:PE X a ta)(R:PE X b tb)(S:behindInMarks op b=false):PE X (.Compare a [op] [b] pos) (tOp r ta tb):=by
 intro pins s σ H Q I h;exact wpAny_Compare1 (binT J R I h λv u s2 x y H2 U V Y q=>D pins s2 σ H2 x y v u Q U V Y q) S
def z6i(t:TE):TT:=λσ H Q=>t σ H λx H'=>∃k,x=.bl k/\Q k H'
def z3d(D:OpR X (compareOp op) r)(J:PE X a ta)(R:PE X b tb)(S:behindInMarks op b=false):PT X (.Compare a [op] [b] pos) (z6i (tOp r ta tb)):=by
 intro pins s σ H Q I h;refine wpAny_isTrue_Compare1 (thn (J pins s σ H _ I h) λv s1 ⟨x,H1,I1,r1,q1⟩=>thn (R pins s1 σ H1 _ I1 q1) λu s2 ⟨y,H2,I2,r2,q2⟩ =>
  thn (D pins s2 σ H2 x y v u _ I2 r1 r2 q2) λc s3 ⟨z,H3,I3,r3,k,e,q3⟩=>?_) S
 subst e;cases r3;exact wpAny_truthy_bool ⟨H3,I3,q3⟩
def zb:(sizeLine:Nat)<2 ^ 63:=by rw[sizeLine_eq];decide
variable{x:V}
def xr(r:Vals [x] us):∃u,us=[u]/\RelV x u:=by
 cases r with
 |cons r1 r2=>cases r2;exact⟨_,rfl,r1⟩
variable{y:V}
def zzs(r:Vals [x,y] us):∃u D,us=[u,D]/\RelV x u/\RelV y D:=by
 cases r with
 |cons r1 r2 =>
   cases r2 with
   |cons r3 r4=>cases r4;exact⟨_,_,rfl,r1,r3⟩
def zws(J:X.calm=true):qp X (.builtin "max") (λxs H Q=>∃i j,xs=[.int i,.int j]/\Q (.int (if j > i then j else i)) H):=by
 intro pins s σ H xs us Q I r h;obtain⟨i,j,rfl,q⟩:=h;obtain⟨u,R,rfl,⟨t,rfl⟩,⟨t',rfl⟩⟩:=zzs r;refine max_two_ints (I.ok.hd J) λh' tk k=>⟨_,H,I.kept k,?_,q⟩;by_cases D:j > i
 ·rw[if_pos D,if_pos D];exact⟨_,rfl⟩
 ·rw[if_neg D,if_neg D];exact⟨_,rfl⟩
def zwt(J:X.calm=true):qp X (.builtin "min") (λxs H Q=>∃i j,xs=[.int i,.int j]/\Q (.int (if j<i then j else i)) H):=by
 intro pins s σ H xs us Q I r h;obtain⟨i,j,rfl,q⟩:=h;obtain⟨u,R,rfl,⟨t,rfl⟩,⟨t',rfl⟩⟩:=zzs r;refine min_two_ints (I.ok.hd J) λh' tk k=>⟨_,H,I.kept k,?_,q⟩;by_cases D:j<i
 ·rw[if_pos D,if_pos D];exact⟨_,rfl⟩
 ·rw[if_neg D,if_neg D];exact⟨_,rfl⟩
def zwu:qp X (.type "int") (λxs H Q=>(∃i,xs=[.int i]/\Q (.int i) H)\/∃k,xs=[.bl k]/\Q (.int (if k then 1 else 0)) H):=by
 intro pins s σ H xs us Q I r h;rcases h with⟨i,rfl,q⟩ | ⟨k,rfl,q⟩
 ·obtain⟨u,rfl,t,rfl⟩:=xr r
  exact call_int_int ⟨.int i,H,I,⟨_,rfl⟩,q⟩
 ·obtain⟨u,rfl,D⟩:=xr r
  cases D;exact call_int_bool ⟨.int (if k then 1 else 0),H,I.tok _,⟨_,rfl⟩,q⟩
structure ObjM (h:Heap) (x dx C:Addr) (mA:Str->ia):Prop where
 obj:h.get? x=↑(PySem.W.instObj C dx)
 ns:h.Ns1 dx mA
 ne:dx≠x
variable{dx:Addr}{mA:Str->ia}
def zwv(n:h.Ns1 dx mA):∃od,h.get? dx=↑od/\∀name,PySem.W.lookIn name od=↑(mA name):=by
 obtain⟨o,es,V,I,hd,J,_,R⟩:=n;refine⟨o,I,λname=>?_⟩;have e:=R name;unfold nsFind findBy at e;rw[<-Array.find?_toList] at e;unfold PySem.W.lookIn;rw[hd];dsimp only;split
 ·rename_i y q
  rw[q] at e;exact congrArg some e
 ·rename_i q
  rw[q] at e;have a:es.toList.any (·.refKey)=false:=by
   rw[List.any_eq_false];intro y S;obtain⟨z,t,D⟩:=J y (Array.mem_toList_iff.mp S);simp[DictEntry.refKey,D]
  have U:¬es.toList.any (·.refKey)=true:=by rw[a];exact cw
  rw[if_neg U];exact congrArg some e
variable{x:Addr}
def ObjM.look(I:ObjM h x dx C mA):∃od,PySem.W.InstAt h x (PySem.W.instObj C dx) C ↑od/\∀name,PySem.W.lookIn name od=↑(mA name) :=
 let ⟨od,D,J⟩:=zwv I.ns
 ⟨od,⟨I.obj,rfl,rfl,D⟩,J⟩
variable{prog:Program}{name:Str}
def z3e{D:Bool}(X:K.In s.heap)(I:ObjM s.heap x dx C mA)(S:PySem.W.plainGet K C name=true)(U:PySem.W.hasDictIn K C=true)(V:PySem.W.findIn K (.ref C) name=↑none)(Y:mA name=↑v)(R:PySem.W.handedIn v=true)(h:Q v { s with toks:=s.toks+1 }) :
  wpAny (model prog w) A (getAttr (.ref x) name D) Q E s:=by
 obtain⟨od,J,Z⟩:=I.look;exact PySem.W.get_value X J (oo S).1 (PySem.W.findObj_own U V rfl (by rw[Z,Y])) R h
def zzt{Q:Value×h8->Shared->Prop}(X:K.In s.heap)(I:ObjM s.heap x dx C mA)(D:PySem.W.plainGet K C name=true)(R:PySem.W.findIn K (.ref C) name=↑↑(.ref f))(S:PySem.W.isFn K (.ref f)=true)(U:mA name=none)(h:Q (.ref f,[.ref x]) s) :
  wpAny (model prog w) A (getMethod (.ref x) name pl) Q E s:=by
 obtain⟨od,J,V⟩:=I.look;exact PySem.W.method_fn X J (oo D).1 (oo D).2 R (beq_iff_eq.mp S) (by show(PySem.W.lookIn name od).map (·.isSome)=↑false;rw[V,U];rfl) h
def z3f{Z:h7}{Q:Unit->Shared->Prop}(X:K.In s.heap)(I:ObjM s.heap x dx C mA)(c:PySem.W.findIn K (.ref C) "__setattr__" = ↑↑(.builtin "object.__setattr__"))(d:PySem.W.plainOver K C=true)(e:PySem.W.takerIn K C name=↑none)(f:PySem.W.hasDictIn K C=true)(g:PySem.Within mA Z)(i:Z.length<=sizeLine)(h:∀h',ObjM h' x dx C (λy=>if y=name then ↑v else mA y)->Heap.SameBut dx s.heap h'->Q () { s with heap:=h',toks:=s.toks+2 }) :
  wpAny (model prog w) A (setAttr (.ref x) name v) Q E s:=by
 obtain⟨od,J,n⟩:=I.look;refine PySem.W.set_plain X J c (PySem.W.osa_open (s:={ s with toks:=s.toks+1 }) (r:=none) X J d e λb=>?_);obtain⟨cd,j,S⟩:=PySem.W.any_some f;have k:s.heap.get? x=↑⟨.ref C,↑dx,.plain,#[]⟩:=I.obj;refine wpAny_bind (wpAny_pure (wpAny_bind (wpAny_bind (wpAny_loadPart k (wpAny_bind (PySem.W.Looks.here (s:={ s with toks:=s.toks+1 }) (PySem.W.looks_clsIn X j) ?_))))));rw[S];refine wpAny_pure (a:=↑dx) (wpAny_bind (wpAny_pure (wpAny_bind ?_)));refine wpAny_nsSet1 (s:={ s with toks:=s.toks+1 }) I.ns λh' D R=>?_;obtain⟨o,l,m,U,V,Y⟩:=D.count (PySem.Within.cons name v g);refine wpAny_bind (wpAny_lookBehind U (by rw[V];exact pastItsLine_dict (cr Y (by rw[am];omega))) ?_);exact wpAny_pure (h _ ⟨(R.2 _ (Ne.symm I.ne)).trans I.obj,D,I.ne⟩ R)
variable{kw:List (Str×Value)}
def zzu{R:Result->Shared->Prop}{vs:h8}(X:K.In s.heap)(I:PySem.W.makesIn K C=true)(hi:PySem.W.findIn K (.ref C) "__init__" = ↑↑(.ref f))(J:PySem.W.typeIn K (.ref f)=↑(.type "function"))(h:codeAny (model prog w) (A.under (.builtin "type.__call__" ⟨.ref C::vs,kw⟩)) (.call (.ref f) ⟨.ref (s.heap.objs.size+1)::vs,kw⟩) (PySem.W.InitBack (s.heap.objs.size+1) R)
   { s with heap:=(s.heap.push PySem.W.emptyDict).push (PySem.W.instObj C s.heap.objs.size) }) :
  codeAny (model prog w) A (.call (.ref C) ⟨vs,kw⟩) R s:=by
 obtain⟨S,g,d,t,os⟩:=s;exact PySem.W.make_core (PySem.W.makes_of X I) (PySem.W.looks_findIn X hi) (λD=>PySem.W.bind_fn X D J) (.inl rfl) h
def putF(f:Str)(v:V):List (Str×V)->List (Str×V)
 | []=>[(f,v)] | (g,x)::r=>if g=f then(g,v)::r else(g,x)::putF f v r
def znq(f g:Str)(v:V):∀fs:List (Str×V),(putF f v fs).lookup g=if g=f then ↑v else fs.lookup g
 | []=>by
   show List.lookup g [(f,v)]=_;by_cases h:g=f
   ·have D:(g==f)=true:=beq_iff_eq.mpr h
    simp only[List.lookup,D,if_pos h]
   ·have D:(g==f)=false:=beq_eq_false_iff_ne.mpr h
    simp only[List.lookup,D,if_neg h]
 | (k,x)::r=>by
   have J:=znq f g v r;rw[show putF f v ((k,x)::r)=(if k=f then(k,v)::r else(k,x)::putF f v r) from rfl];by_cases I:k=f
   ·rw[if_pos I]
    by_cases h:g=k
    ·have D:(g==k)=true:=beq_iff_eq.mpr h
     simp only[List.lookup,D,if_pos (h.trans I)]
    ·have D:(g==k)=false:=beq_eq_false_iff_ne.mpr h
     simp only[List.lookup,D,if_neg (λe:g=f=>h (e.trans I.symm))]
   ·rw[if_neg I]
    by_cases h:g=k
    ·have D:(g==k)=true:=beq_iff_eq.mpr h
     simp only[List.lookup,D,if_neg (λe:g=f=>I (h.symm.trans e))]
    ·have D:(g==k)=false:=beq_eq_false_iff_ne.mpr h
     simp only[List.lookup,D];exact J
def znr(f:Str)(v:V):∀fs:List (Str×V),f∈(putF f v fs).map (·.1)/\∀g,g∈fs.map (·.1)->g∈(putF f v fs).map (·.1)
 | []=>⟨by simp[putF],λg h=>by simp at h⟩ | (k,x)::r=>by
   obtain⟨I,J⟩:=znr f v r;rw[show putF f v ((k,x)::r)=(if k=f then(k,v)::r else(k,x)::putF f v r) from rfl];by_cases D:k=f
   ·rw[if_pos D]
    subst D;exact⟨by simp,λg h=>by simpa using h⟩
   ·rw[if_neg D]
    refine⟨?_,λg h=>?_⟩
    ·rw[bi]
     exact bc _ I
    ·rw[bi] at h ⊢
     rcases ce.mp h with e |e
     ·exact ce.mpr (.inl e)
     ·exact bc _ (J g e)
def zns(f:Str)(v:V):∀fs:List (Str×V),(putF f v fs).length<=fs.length+1
 | []=>by simp[putF] | (k,x)::r=>by
   have I:=zns f v r;rw[show putF f v ((k,x)::r)=(if k=f then(k,v)::r else(k,x)::putF f v r) from rfl];by_cases D:k=f
   ·rw[if_pos D,am,am];omega
   ·rw[if_neg D,am,am];omega
variable{o:ia}{v:V}
def RelO.some_of(r:RelO ↑v o):∃u,o=↑u/\RelV v u:=by
 cases o with
 |none=>exact(show False from r).elim |some u=>exact⟨u,rfl,r⟩
def RelO.none_of(r:RelO none o):o=none:=by
 cases o with
 |none=>rfl |some u=>exact(show False from r).elim
def zww(r:RelV v u):PySem.W.handedIn u=true:=by
 cases v with
 |non=>cases (show u=Value.none from r);rfl
 |bl b=>cases (show u=Value.bool b from r);rfl
 |int i=>obtain⟨t,e⟩:=(show ∃t,u=Value.int i t from r);cases e;rfl
 |str x=>obtain⟨t,e⟩:=(show ∃t,u=Value.str x t from r);cases e;rfl
 |byt b=>obtain⟨t,e⟩:=(show ∃t,u=Value.bytes b t from r);cases e;rfl
 |flt b=>obtain⟨t,e⟩:=(show ∃t,u=Value.float b t from r);cases e;rfl
 |ref a=>cases (show u=Value.ref a from r);rfl
 |ty n=>cases (show u=Value.type n from r);rfl
variable{a:Addr}{fs:List (Str×V)}
def zpn(D:HOk P w H h)(e:H a=↑(.ins C dx fs)):∃mA,ObjM h a dx C mA/\(∀f,RelO (fs.lookup f) (mA f))/\PySem.Within mA (fs.map (·.1))/\fs.length<=1000/\H dx=↑(.own a):=by
 obtain⟨d,z,I,J,mA,n,r,q⟩:=(show ObjOk P w H h a (.ins C dx fs) from D a _ e);exact⟨mA,⟨J,n,I⟩,r,q,z,d⟩
structure Cls (K:k6) (C:Addr):Prop where
 pg:PySem.W.plainGet K C Str.empty=true
 hd:PySem.W.hasDictIn K C=true
 po:PySem.W.plainOver K C=true
 sa:PySem.W.findIn K (.ref C) "__setattr__" = ↑↑(.builtin "object.__setattr__")
def Cls.get(c:Cls K C)(f:Str):PySem.W.plainGet K C f=true:=c.pg
def NoAttr(K:k6)(C:Addr)(f:Str):Prop:=PySem.W.findIn K (.ref C) f=↑none
variable{f:Str}
def NoAttr.taker(n:NoAttr K C f):PySem.W.takerIn K C f=↑none:=by
 unfold PySem.W.takerIn;rw[show PySem.W.findIn K (.ref C) f=↑none from n];rfl
structure Con (K:k6) (C:Addr) (f:Str) (v:V) (u:Value):Prop where
 at_:PySem.W.findIn K (.ref C) f=↑↑u
 rel:RelV v u
 get:PySem.W.specialIn K u "__get__" = ↑none
 cp:PySem.W.copiedNames.contains f=false
structure Meth (K:k6) (C:Addr) (m:Str) (f:Addr):Prop where
 at_:PySem.W.findIn K (.ref C) m=↑↑(.ref f)
 fn:PySem.W.isFn K (.ref f)=true
 kp:PySem.W.keepIn K (.ref f)=true
variable{b:Bool}
def zvk(I:Inv X pins σ H s)(e:H a=↑(.ins C dx fs))(c:Cls X.K C)(n:NoAttr X.K C f)(l:fs.lookup f=↑v)(h:∀u s',Inv X pins σ H s'->RelV v u->Q u s'):wpAny (model X.prog X.w) A (getAttr (.ref a) f b) Q E s:=by
 obtain⟨mA,O,r,_,_,_⟩:=zpn I.hok e;obtain⟨u,J,D⟩:=RelO.some_of (v:=v) (o:=mA f) (by rw[<-l];exact r f);exact z3e I.kIn O (c.get f) c.hd n J (zww D) (h u _ (I.tok _) D)
def zo3{m:Str}{g:Addr}{Q:Value×h8->Shared->Prop}(I:Inv X pins σ H s)(e:H a=↑(.ins C dx fs))(c:Cls X.K C)(k:Meth X.K C m g)(l:fs.lookup m=none)(h:Q (.ref g,[.ref a]) s):wpAny (model X.prog X.w) A (getMethod (.ref a) m pl) Q E s:=by
 obtain⟨mA,O,r,_,_,_⟩:=zpn I.hok e;have D:mA m=none:=RelO.none_of (by rw[<-l];exact r m);exact zzt I.kIn O (c.get m) k.at_ k.fn D h
def zvl{Q:Unit->Shared->Prop}(I:Inv X pins σ H s)(e:H a=↑(.ins C dx fs))(c:Cls X.K C)(n:NoAttr X.K C f)(Y:fs.length<1000)(J:RelV y u)(h:∀s',Inv X pins σ (upd H a (.ins C dx (putF f y fs))) s'->Q () s'):wpAny (model X.prog X.w) A (setAttr (.ref a) f u) Q E s:=by
 obtain⟨mA,O,r,wi,_,D⟩:=zpn I.hok e;have R:(fs.map (·.1)).length<=sizeLine:=by rw[af,sizeLine_eq];omega
 refine z3f I.kIn O c.sa c.po n.taker c.hd wi R λh' O' S=>h _ ?_;have hd:∃o,h'.get? dx=↑o:=let ⟨o,_,_,e',_⟩:=O'.ns;⟨o,e'⟩;refine I.write (x:=a) (e:=dx) (by rw[e];exact True.intro) (.inr D) (λb q U z=>(S.2 b U).trans z) hd ?_;refine⟨by rw[ii O.ne];exact D,?_,O.ne,O'.obj,_,O'.ns,λg=>?_,λg V=>?_⟩
 ·have:=zns f y fs;omega
 ·show RelO ((putF f y fs).lookup g) (if g=f then ↑u else mA g)
  rw[znq];by_cases q:g=f
  ·rw[if_pos q,if_pos q];exact J
  ·rw[if_neg q,if_neg q];exact r g
 ·by_cases q:g=f
  ·rw[q];exact(znr f y fs).1
  ·refine(znr f y fs).2 g (wi g λz=>V ?_)
   show(if g=f then ↑u else mA g)=none;rw[if_neg q];exact z
def Inv.made(I:Inv X pins σ H s):Inv X pins σ (upd (upd H s.heap.objs.size (.own (s.heap.objs.size+1))) (s.heap.objs.size+1) (.ins C s.heap.objs.size []))
  { s with heap:=(s.heap.push PySem.W.emptyDict).push (PySem.W.instObj C s.heap.objs.size) }:=by
 have D:(s.heap.push PySem.W.emptyDict).get? s.heap.objs.size=↑PySem.W.emptyDict:=cy s.heap rfl;have R:((s.heap.push PySem.W.emptyDict).push (PySem.W.instObj C s.heap.objs.size)).get? (s.heap.objs.size+1)=↑(PySem.W.instObj C s.heap.objs.size):=by
  have:=cy (s.heap.push PySem.W.emptyDict) (o:=PySem.W.instObj C s.heap.objs.size) rfl;rwa [jk] at this
 have S:(s.heap.push PySem.W.emptyDict).Ns s.heap.objs.size (λ_=>none):=⟨PySem.W.emptyDict,#[],_,D,rfl,(λe U=>absurd U (by simp)),λ_=>rfl⟩;have V:=I.laid (a:=s.heap.objs.size) (o:=.own (s.heap.objs.size+1)) (h':=s.heap.push PySem.W.emptyDict) (t':=s.toks) (λb u q=>aw _ q) (b7 _) ⟨_,D⟩;refine V.laid (a:=s.heap.objs.size+1) (o:=.ins C s.heap.objs.size []) (t':=s.toks) (λb u q=>aw _ q) (Nat.le_of_eq (jk _ _)) ?_;have J:s.heap.objs.size≠s.heap.objs.size+1:=cj (fx _);refine⟨by rw[ii J,kx],fg _,J,R,λ_=>none,(Heap.Ns1.of_empty S).at λo q=>aw _ q,λ_=>True.intro,λy Y=>absurd rfl Y⟩
def z3g{env:Env}(I:attributeBase e f env (eval e env)=eval e env)(h:wpAny (model prog w) A (eval e env) (λo D=>wpAny (model prog w) A (getAttr o f true) Q E D) E s):wpAny (model prog w) A (eval (.Attribute e f pos) env) Q E s :=
 Attribute_any_ h (by rw[arm_eval_Attribute,I])
def tFld(K:k6)(ta:TE)(f:Str):TE:=λσ H Q=>ta σ H λx H1=>∃a C dx fs v,x=.ref a/\H1 a=↑(.ins C dx fs)/\Cls K C/\NoAttr K C f/\fs.lookup f=↑v/\Q v H1
def sFld(K:k6)(ta tv:TE)(f:Str):TS:=λD σ H=>tv σ H λy H1=>ta σ H1 λx H2=>∃a C dx fs,x=.ref a/\H2 a=↑(.ins C dx fs)/\Cls K C/\NoAttr K C f/\fs.length<1000 /\
 D.nx σ (upd H2 a (.ins C dx (putF f y fs)))
def z16(D:PE X e ta)(J:attributeBase e f X.env (eval e X.env)=eval e X.env):PE X (.Attribute e f pos) (tFld X.K ta f):=by
 intro pins s σ H Q I h;refine z3g J (thn (D pins s σ H _ I h) λu Z R=>?_);obtain⟨x,H1,S,U,a,C,dx,fs,v,ex,ea,c,n,l,q⟩:=R;subst ex;obtain rfl:u=Value.ref a:=U;exact zvk S ea c n l λb s2 V Y=>⟨v,H1,V,Y,q⟩
variable{o value:Expr}{tv:TE}
def z6j(R:PE X o ta)(S:PE X value tv)(U:swapsWith value ↑(.Attribute o f pos') pos.line X.env=pure false):PS X (.Assign [.Attribute o f pos'] value pos) (sFld X.K ta tv f):=by
 intro pins s σ H D I h;refine plainObj_wpAny_Assign_Attribute (thn (S pins s σ H _ I h) λu V J=>?_) U;obtain⟨y,H1,Y,Z,q⟩:=J;refine thn (R pins V σ H1 _ Y q) λb s2 J=>?_;obtain⟨x,H2,d,e,a,C,dx,fs,ex,ea,c,n,l,g⟩:=J;subst ex;obtain rfl:b=Value.ref a:=e;exact zvl d ea c n l Z λj i=>⟨σ,_,i,g⟩
inductive TyOf (K:k6) (H:Hp):V->Value->Prop where
 |non:TyOf K H .non (.type "NoneType")
 |bl (x:Bool):TyOf K H (.bl x) (.type "bool")
 |int (i:Int):TyOf K H (.int i) (.type "int")
 |str (x:Str):TyOf K H (.str x) (.type "str")
 |flt (x:UInt64):TyOf K H (.flt x) (.type "float")
 |lst {a:Addr} {xs:k9} (e:H a=↑(.lst xs)):TyOf K H (.ref a) (.type "list")
 |frz {a:Addr} {o:Obj} {xs:k9} (e:H a=↑(.frz o (.lst xs))):TyOf K H (.ref a) (.type "list")
 |tup {a:Addr} {xs:k9} (e:H a=↑(.tup xs)):TyOf K H (.ref a) (.type "tuple")
 |dK {a:Addr} {kvs:List (Key×V)} (e:H a=↑(.dK kvs)):TyOf K H (.ref a) (.type "dict")
 |dT {a:Addr} {kvs:List (List Key×V)} (e:H a=↑(.dT kvs)):TyOf K H (.ref a) (.type "dict")
 |ins {a C dx:Addr} {fs:List (Str×V)} (e:H a=↑(.ins C dx fs)) (cl:Cls K C) (ha:PySem.W.findIn K (.ref C) "__class__" = ↑↑(.builtin "object.__class__"))
    (hn:PySem.W.specialIn K (.builtin "object.__class__") "__get__" = ↑↑(.builtin "getset_descriptor.__get__")) (htk:PySem.W.takesIn K (.builtin "object.__class__")=↑true)
    (hm:PySem.W.mroIn K C (.type "object")=↑true):TyOf K H (.ref a) (.ref C)
variable{x:Str}{c:Value}
def zwx{x:V}{t:Value}(I:Inv X pins σ H s)(D:RelV x u)(R:TyOf X.K H x t)(e:PySem.W.kitOne X.K t c=↑b)(h:∀tk,Q (.bool b) { s with toks:=tk }) :
  wpAny (model X.prog X.w) A (call (.builtin "isinstance") [u,c]) Q E s:=by
 cases R with
 |non=>cases (show u=Value.none from D);exact e7 PySem.W.kitx_none I.kIn True.intro e (λz=>nomatch z) h
 |bl y=>cases (show u=Value.bool y from D);exact e7 PySem.W.kitx_bool I.kIn True.intro e (λz=>nomatch z) h
 |int i=>obtain⟨t,q⟩:=(show ∃t,u=Value.int i t from D);cases q;exact e7 PySem.W.kitx_int I.kIn True.intro e (λz=>nomatch z) h
 |str y=>obtain⟨t,q⟩:=(show ∃t,u=Value.str y t from D);cases q;exact e7 PySem.W.kitx_str I.kIn True.intro e (λz=>nomatch z) h
 |flt y=>obtain⟨t,q⟩:=(show ∃t,u=Value.float y t from D);cases q;exact e7 PySem.W.kitx_float I.kIn True.intro e (λz=>nomatch z) h
 | @lst a xs ea =>
   cases (show u=Value.ref a from D);obtain⟨_,_,n,_,h1⟩:=(show ObjOk X.prog X.w H s.heap a (.lst xs) from I.hok a _ ea);exact e7 qy I.kIn ⟨_,h1,rfl⟩ e (λz=>nomatch z) h
 | @frz a ob xs ea =>
   cases (show u=Value.ref a from D);obtain⟨_,_,_,n,_,h1⟩:=(show ObjOk X.prog X.w H s.heap a (.frz ob (.lst xs)) from I.hok a _ ea);exact e7 qy I.kIn ⟨_,h1,rfl⟩ e (λz=>nomatch z) h
 | @tup a xs ea =>
   cases (show u=Value.ref a from D);obtain⟨_,_,_,p⟩:=(show ObjOk X.prog X.w H s.heap a (.tup xs) from I.hok a _ ea);obtain⟨o,h1,h2,_⟩:=p;exact e7 PySem.W.kitx_tuple I.kIn ⟨o,h1,h2⟩ e (λz=>nomatch z) h
 | @dK a kvs ea =>
   cases (show u=Value.ref a from D);obtain⟨_,_,vs,_,p⟩:=(show ObjOk X.prog X.w H s.heap a (.dK kvs) from I.hok a _ ea);obtain⟨o,es,S,h1,h2,_⟩:=p;exact e7 PySem.W.kitx_dict I.kIn ⟨o,h1,h2.1⟩ e (λz=>nomatch z) h
 | @dT a kvs ea =>
   cases (show u=Value.ref a from D);obtain⟨_,_,xs,_,o,es,S,h1,h2,_⟩:=(show ObjOk X.prog X.w H s.heap a (.dT kvs) from I.hok a _ ea);exact e7 PySem.W.kitx_dict I.kIn ⟨o,h1,h2.1⟩ e (λz=>nomatch z) h
 | @ins a C dx fs ea cl ha hn htk hm =>
   cases (show u=Value.ref a from D);obtain⟨mA,O,_⟩:=zpn I.hok ea;obtain⟨od,J,_⟩:=O.look;exact e7 (PySem.W.kitx_own (cl.get _) cl.hd ha hn htk hm) I.kIn J e (λz=>nomatch z) h
structure Room (k:Nat) (A:Around):Prop where
 hd:A.handled=none
 dp:A.depth+3*k+5<recursionLimit
 un:A.units+16*k+200<cLine
def Room.mono{j:Nat}(r:Room k A)(h:j<=k):Room j A:=⟨r.hd,by have:=r.dp;omega,by have:=r.un;omega⟩
def Room.deeper(r:Room (k+1) A)(env:Env):Room k (A.deeper env) :=
 ⟨r.hd,by have:=r.dp;show A.depth+1+3*k+5<_;omega,by have:=r.un;show A.units+3+16*k+200<_;omega⟩
def zvm:(A.under (.builtin "type.__call__" ⟨.ref C::us,kw⟩)).depth=A.depth+1:=by
 first |rfl |simp[Around.under,Code.weight,Code.isCreation,Code.isGuard,Code.isCaller,Code.frames,Code.isFrame,guardIds]
def zvn:(A.under (.builtin "type.__call__" ⟨.ref C::us,kw⟩)).units=A.units+1:=by
 first |rfl |simp[Around.under,Code.cUnits,Code.frames,Code.isFrame]
def Room.make(r:Room (k+1) A)(C:Addr)(us:h8)(kw:List (Str×Value)):Room k (A.under (.builtin "type.__call__" ⟨.ref C::us,kw⟩)) :=
 ⟨r.hd,by have:=r.dp;rw[zvm];omega,by have:=r.un;rw[zvn];omega⟩
def Room.depth(r:Room k A):A.depth<recursionLimit:=by have:=r.dp;omega
def Room.units(r:Room k A):A.units+64<cLine:=by have:=r.un;omega
def tNil:TA:=λ_ H Q=>Q [] H
def z6k(ta:TE)(tr:TA):TA:=λσ H Q=>ta σ H λx H1=>tr σ H1 λxs H2=>Q (x::xs) H2
def qu:PA X [] tNil:=λ_ _ _ _ H Q I h=>Calls.spliced_nil ⟨[],H,I,.nil,h⟩
def n4(D:PE X e te)(J:PA X es t)(R:starEach (e::es) X.env=(false,eval e X.env)::starEach es X.env:=by rfl):PA X (e::es) (z6k te t):=by
 intro pos pins s σ H Q I h;rw[R];show wpAny _ _ (spliced ((false,eval e X.env)::backTo pos (starEach es X.env))) _ _ s;refine Calls.spliced_cons (thn (D pins s σ H _ I h) λu S U=>?_);obtain⟨x,H1,V,Y,Z⟩:=U;exact thn (J pos pins S σ H1 _ V Z) λus s2 ⟨xs,H2,I2,r2,q2⟩=>⟨x::xs,H2,I2,.cons Y r2,q2⟩
def tTup(t:TA):TE:=λσ H Q=>t σ H λxs H1=>xs.length<=sizeLine/\∀p,H1 p=none->Q (.ref p) (upd H1 p (.tup xs))
def tLst(t:TA):TE:=λσ H Q=>t σ H λxs H1=>xs.length<=sizeLine/\∀p,H1 p=none->Q (.ref p) (upd H1 p (.lst xs))
def z6l{x1}(h:PA X es t):PE X (.Tuple es x1 pos) (tTup t):=by
 intro pins s σ H Q I R;refine wpAny_Tuple_spliced (thn (h pos pins s σ H _ I R) λus D S=>?_);obtain⟨xs,H1,J,r,z,q⟩:=S;refine⟨by rw[<-r.length];exact z,?_⟩;have U:H1 D.heap.objs.size=none:=J.hok.fresh (b7 _);refine⟨.ref D.heap.objs.size,upd H1 D.heap.objs.size (.tup xs),J.laid (t':=D.toks) (λb u e=>aw _ e) (b7 _) ?_,rfl,q _ U⟩;exact⟨z,us,r,⟨_,cy _ rfl,rfl,_,rfl⟩⟩
def z17(h:PA X es t):PE X (.List es pos) (tLst t):=by
 intro pins s σ H Q I R;refine wpAny_List_spliced (thn (h pos pins s σ H _ I R) λus D S=>?_);obtain⟨xs,H1,J,r,z,q⟩:=S;refine⟨by rw[<-r.length];exact z,?_⟩;have U:H1 D.heap.objs.size=none:=J.hok.fresh (b7 _);refine⟨.ref D.heap.objs.size,upd H1 D.heap.objs.size (.lst xs),J.laid (t':=D.toks) (λb u e=>aw _ e) (b7 _) ?_,rfl,q _ U⟩;exact⟨z,us,0,r,cy _ rfl⟩
abbrev Sp:=k9->Hp->VK->XK->Prop
abbrev CXT:=ka->Hp->Shared->XK->Value->Shared->Prop
structure Env0 (P:Program) (w:World) (K:k6) (mg:Str->ia) (base:Heap) (A:Around) (outer:ka) (s:Shared) (H:Hp):Prop where
 frames:A.frames=↑outer
 mod:Mod K mg base
 bs:∀b o,base.get? b=↑o->s.heap.get? b=↑o/\H b=none
 bsz:base.objs.size<=s.heap.objs.size
 funs:s.heap.FunFrames base outer
 frf:∀b∈frs outer,H b=none
 hok:HOk P w H s.heap
 bare:AllBare s.gens
def CE(outer:ka)(P:Program)(w:World)(H:Hp)(s:Shared)(Q:VK)(u:Value)(s':Shared):Prop :=
 ∃v H',s'.os=s.os/\AllBare s'.gens/\Un (frs outer) [] H H' s.heap s'.heap/\HOk P w H' s'.heap/\RelV v u/\Q v H'
def CR(CX:CXT)(outer:ka)(P:Program)(w:World)(H:Hp)(s:Shared)(Q:VK)(E:XK)(r:Result)(s':Shared):Prop :=
 match r with
 | .ok (.ret u)=>CE outer P w H s Q u s' | .ok _=>False | .error e=>CX outer H s E e s'
structure FnOk (P:Program) (w:World) (K:k6) (mg:Str->ia) (base:Heap) (CX:CXT) (k:Nat) (f:Addr) (fd:FuncData) (ps:h7) (sp:Sp):Prop where
 len:∀vs H Q E,sp vs H Q E->vs.length=ps.length
 run:∀(A:Around) (outer:ka) (s:Shared) (H:Hp) (args:Args) (us:h8) (vs:k9) (Q:VK) (E:XK),Room k A->Env0 P w K mg base A outer s H->BindsTo s fd args (ps.zip us)->Vals vs us->sp vs H Q E ->
  codeAny (model P w) A (.call (.ref f) args) (CR CX outer P w H s Q E) s
variable{f:Addr}{mg:Str->ia}{base:Heap}{CX:CXT}{fd:FuncData}{ps:h7}{sp:Sp}
theorem FnOk.imp{D:Sp}(F:FnOk P w K mg base CX k f fd ps sp)(h:∀vs H Q E,D vs H Q E->sp vs H Q E):FnOk P w K mg base CX k f fd ps D :=
 ⟨λvs H Q E q=>F.len vs H Q E (h _ _ _ _ q),λA outer s H args us vs Q E I J R S U=>F.run A outer s H args us vs Q E I J R S (h _ _ _ _ U)⟩
variable{outer:ka}
def Env0.make(e:Env0 P w K mg base A outer s H)(C:Addr)(us:h8)(kw:List (Str×Value)) :
  Env0 P w K mg base (A.under (.builtin "type.__call__" ⟨.ref C::us,kw⟩)) outer s H:=⟨by first |exact e.frames | (simpa[Around.under,Code.envs,Code.isFrame,pushEnvs] using e.frames),e.mod,e.bs,e.bsz,e.funs,e.frf,e.hok,e.bare⟩
protected def Inv.env0(I:Inv X pins σ H s):Env0 X.prog X.w X.K X.mg X.base X.A X.stack s H :=
 ⟨I.ok.frames,I.ok.mod,I.bs,cr I.ok.bsz I.sz,I.stack,I.stkFree,I.hok,I.bare⟩
variable{Q:VK}
def Inv.after(I:Inv X pins σ H s)(h:CE X.stack X.prog X.w H s Q u s'):EP X pins σ Q u s':=by
 obtain⟨v,H',os,D,un,J,r,q⟩:=h;obtain⟨S,g,d,t,R⟩:=s';obtain rfl:R=s.os:=os;exact⟨v,H',I.call (h':=S) (g':=g) (d':=d) (t':=t) (ch:=[]) un J D (λb z=>absurd z (by simp)),r,q⟩
def zwy(sp:Sp)(dvs:k9)(E:XK)(t:TA):TE:=λσ H Q=>t σ H λvs H1=>sp (vs++dvs) H1 Q E
def Binds(K:k6)(fd:FuncData)(ps:h7)(ds:h8):Prop :=
 ∀(s:Shared) (us:h8),K.In s.heap->(us++ds).length=ps.length->BindsTo s fd ⟨us,[]⟩ (ps.zip (us++ds))
def Binds.all(h:∀us:h8,us.length=ps.length->bindArgs fd ⟨us,[]⟩=pure (ps.zip us)):Binds K fd ps []:=λs us _ D=>by
 rw[di] at D ⊢;exact .of_eq (h us D)
def zwz(CX:CXT)(X:Cx)(E:XK):Prop:=∀(pins:k7) (σ:St) (H:Hp) (s:Shared) (e:Value) (s':Shared),Inv X pins σ H s->CX X.stack H s E e s'->X.xe e s'
variable{E:XK}{dvs:k9}{ds:h8}
theorem z6m(F:FnOk X.prog X.w X.K X.mg X.base CX k f fd ps sp)(R:Room k X.A)(S:Binds X.K fd ps ds)(hd:Vals dvs ds)(U:zwz CX X E)(I:Inv X pins σ H s)(r:Vals vs us)(h:sp (vs++dvs) H Q E):wpAny (model X.prog X.w) X.A (call (.ref f) us) (EP X pins σ Q) X.xe s:=by
 have J:Vals (vs++dvs) (us++ds):=r.append hd;have V:(us++ds).length=ps.length:=by rw[<-J.length];exact F.len _ _ _ _ h
 refine wpAny_call (codeAny_mono (F.run X.A X.stack s H ⟨us,[]⟩ (us++ds) (vs++dvs) Q E R I.env0 (S s us I.kIn V) J h) λr s' D=>?_);cases r with
 |error e=>exact U pins σ H s e s' I D |ok fl =>
   cases fl with
   |ret u=>exact I.after D |next=>exact False.elim D |brk=>exact False.elim D |cont=>exact False.elim D
def zpo(F:FnOk X.prog X.w X.K X.mg X.base CX k f fd ps sp)(S:Room k X.A)(U:Gl X x)(V:X.mg x=↑(.ref f))(Y:PySem.W.keepIn X.K (.ref f)=true)(Z:Binds X.K fd ps ds)(hd:Vals dvs ds)(a:zwz CX X E)(b:PA X (e::es) t)(D:(x==("__debug__" : Str))=false:=by decide)(c:starEach (e::es) X.env=(false,eval e X.env)::starEach es X.env:=by rfl)(J:(backTo pos (starEach es X.env)).any (·.1)=false:=by rfl) :
  PE X (.Call (.Name x p) (e::es) [] pos) (zwy sp dvs E t):=by
 intro pins s σ H Q I h;refine wpAny_Call_Name_kw (ya I U V ?_ D);refine jl (h₀:=X.base) I.ok.mod.kin Y (thn (b pos pins s σ H _ I h) λus g d=>?_) c J;obtain⟨vs,H1,R,r,q⟩:=d;refine⟨R.kIn,?_⟩;exact z6m F S Z hd a R r q
structure Mk (K:k6) (C f:Addr):Prop where
 makes:PySem.W.makesIn K C=true
 init:PySem.W.findIn K (.ref C) "__init__" = ↑↑(.ref f)
 fn:PySem.W.isFn K (.ref f)=true
 kp:PySem.W.keepIn K (.ref C)=true
def PK(X:Cx)(kws:List Keyword)(t:TA):Prop :=
 ∀(pos:Pos) (pins:k7) (s:Shared) (σ:St) (H:Hp) (Q:k9->Hp->Prop),Inv X pins σ H s->t σ H Q->wpAny (model X.prog X.w) X.A (evalAll ((backToKw pos (keywordEach kws X.env)).map (·.2))) (AP X pins σ Q) X.xe s
section
variable {X:Cx} {CX:CXT} {k:Nat} {f C:Addr} {fd:FuncData} {ps ks:h7} {sp:Sp} {E:XK} {x m:Str} {p pos apos kpos:Pos} {e o:Expr} {es:kb} {kws:List Keyword} {te ta:TE} {t tk:TA} {nm:kf}
def z6n:PK X [] tNil:=λ_ _ _ _ H Q I h=>wpAny_evalAll_nil ⟨[],H,I,.nil,h⟩
def z3h(D:PE X e te)(J:PK X kws t):PK X (⟨nm,e,kpos⟩::kws) (z6k te t):=by
 intro pos pins s σ H Q I h;show wpAny _ _ (evalAll ((do let v <-eval e X.env;standAt pos;pure v)::(backToKw pos (keywordEach kws X.env)).map (·.2))) _ _ s;refine wpAny_evalAll_cons (wpAny_bind (thn (D pins s σ H _ I h) λu R S=>?_));obtain⟨x,H1,U,V,Y⟩:=S;refine wpAny_bind (wpAny_standAt (wpAny_pure ?_));exact thn (J pos pins R σ H1 _ U Y) λus s2 ⟨xs,H2,I2,r2,q2⟩=>⟨x::xs,H2,I2,.cons V r2,q2⟩
structure yat (K:k6) (fd:FuncData) (ps ks:h7) (g:h8->h8->h8) (gV:k9->k9->k9):Prop where
 to:∀(s:Shared) (us ws:h8),K.In s.heap->(g us ws).length=ps.length->BindsTo s fd ⟨us,ks.zip ws⟩ (ps.zip (g us ws))
 rel:∀ {vs:k9} {us:h8} {zs:k9} {ws:h8},Vals vs us->Vals zs ws->Vals (gV vs zs) (g us ws)
variable {g:h8->h8->h8} {gV:k9->k9->k9}
end
structure tx (N P:h7) (sc:Scope):Prop where
 kind:sc.kind=.function
 co:sc.isCoroutine=false
 gen:sc.isGenerator=false
 nd:N.Nodup
 pre:N.take P.length=P
 par:∀x∈P,sc.names.lookup x=some .local\/sc.names.lookup x=some .cell
 nofree:∀y∈sc.names,y.2≠.free
def zq8{kindOf:Str->Option NameKind}{x:Str}:∀ {D:List (Str×Value)} {m:Str->ia},(∀v,(x,v)∉D)->bindL kindOf D m x=m x
 | [],_,_=>rfl | (n,v)::r,m,h=>by
   unfold bindL;rw[zq8 λw I=>h w (bc _ I)];split
   ·have:x≠n:=by rintro rfl;exact h v b6
    simp[this]
   ·rfl
def zq9{kindOf:Str->Option NameKind}{x:Str}:∀ {D:List (Str×Value)} {m:Str->ia},(∀v,(x,v)∉D)->bindC kindOf D m x=m x
 | [],_,_=>rfl | (n,v)::r,m,h=>by
   unfold bindC;rw[zq9 λw I=>h w (bc _ I)];split
   ·rfl
   ·have:x≠n:=by rintro rfl;exact h v b6
    simp[this]
def zra{kindOf:Str->Option NameKind}{x:Str}{v:Value}:∀ {P:h7} {vs:h8} {i:Nat} {m:Str->ia},P.Nodup->P[i]?=↑x->vs[i]?=↑v->kindOf x=some .local ->
  bindL kindOf (P.zip vs) m x=↑v
 | [],_,_,_,_,h,_,_=>by simp at h |_::_,[],_,_,_,_,h,_=>by simp at h |p::P,w::vs,0,m,nd,h1,h2,hk=>by
   simp at h1 h2;subst h1;subst h2;show bindL kindOf ((p,w)::P.zip vs) m p=_;unfold bindL;rw[zq8 λv D=>(b9.mp nd).1 (ki D).1,if_pos hk];simp
 |p::P,w::vs,i+1,m,nd,h1,h2,hk=>by
   show bindL kindOf ((p,w)::P.zip vs) m x=_;unfold bindL;exact zra (i:=i) (b9.mp nd).2 (by simpa using h1) (by simpa using h2) hk
def zrb{kindOf:Str->Option NameKind}{x:Str}{v:Value}:∀ {P:h7} {vs:h8} {i:Nat} {m:Str->ia},P.Nodup->P[i]?=↑x->vs[i]?=↑v->kindOf x≠some .local ->
  bindC kindOf (P.zip vs) m x=↑v
 | [],_,_,_,_,h,_,_=>by simp at h |_::_,[],_,_,_,_,h,_=>by simp at h |p::P,w::vs,0,m,nd,h1,h2,hk=>by
   simp at h1 h2;subst h1;subst h2;show bindC kindOf ((p,w)::P.zip vs) m p=_;unfold bindC;rw[zq9 λv D=>(b9.mp nd).1 (ki D).1,if_neg hk];simp
 |p::P,w::vs,i+1,m,nd,h1,h2,hk=>by
   show bindC kindOf ((p,w)::P.zip vs) m x=_;unfold bindC;exact zrb (i:=i) (b9.mp nd).2 (by simpa using h1) (by simpa using h2) hk
def start(N:h7)(vs:k9):St:=vs.map some++List.replicate (N.length-vs.length) none
def cxOf(CX:CXT)(P:Program)(w:World)(K:k6)(mg:Str->ia)(base:Heap)(N:h7)(qual:Str)(scope:Scope)(f:Addr)(cd:Value)(A:Around)(outer:ka)(s:Shared)(H:Hp)(E:XK):Cx where
 prog:=P
 w:=w
 K:=K
 mg:=mg
 base:=base
 A:=A.deeper (envOfC qual scope s.heap.objs.size f cd)
 N:=N
 s₀:=s
 H₀:=H
 env:=envOfC qual scope s.heap.objs.size f cd
 outer:=outer
 stack:=envOfC qual scope s.heap.objs.size f cd::outer
 ex:=[]
 calm:=true
 fn:=λ_=>true
 pn:=[]
 xe:=λe s'=>wpAny (model P w) (A.deeper (envOfC qual scope s.heap.objs.size f cd)) (leaving (envOfC qual scope s.heap.objs.size f cd) e) (λ_ D=>CX outer H s E e D) (λe' D=>CX outer H s E e' D) s'
def zt2{sc:Scope}(h:sc.names.lookup x=some .cell):∃c,(cellsFrom n sc.names []).lookup x=↑c:=by
 have q:=mi sc.names n [] (.inl h);exact lu.mp q
variable{qual:Str}{scope:Scope}
def zrc{cd:Value}{U:Shared}(S:tx N ps scope)(hd:A.handled=none)(D:Env0 P w K mg base A outer s H)(j:vs.length=ps.length)(r:Vals vs us)(x:InCallC s s.heap.objs.size (bindL (envOfC qual scope s.heap.objs.size f cd).kindOf (ps.zip us) λ_=>none) (cellsFrom (s.heap.objs.size+1) scope.names []) (bindC (envOfC qual scope s.heap.objs.size f cd).kindOf (ps.zip us) λ_=>none) U) :
  Inv (cxOf CX P w K mg base N qual scope f cd A outer s H E) [] (start N vs) H U:=by
 have Z:ps.length<=N.length:=by have:=congrArg List.length S.pre;rw[du] at this;omega
 obtain⟨h1,tk,rfl,V⟩:=x.done;have I:∀b:Addr,b∉(cxOf CX P w K mg base N qual scope f cd A outer s H E).ex:=λb z=>absurd (show b∈([]:ic) from z) (by simp);refine⟨⟨D.mod,S.kind,rfl,rfl,b7 _,λy z c h1 h2=>?_,λy hy=>?_,λy c _ h=>?_,λ_=>hd,Around.frames_deeper D.frames,.inr ⟨rfl,rfl⟩,λb z=>absurd z (I b),D.bs,D.bsz,λb _ _=>I b,λb z=>absurd z (I b),D.funs,D.frf⟩,
  rfl,D.bare,Un.kept V,⟨_,x.toInCall.ns,λi y v h1 h2 l=>?_⟩,λy c h=>⟨_,x.cell y c h⟩,D.hok.fresh (b7 _),λy c h=>?_,λp J=>absurd (show p∈([]:k7) from J) (by simp),D.hok.kept V,?_⟩
 ·exact name_of_addr x.apart (fc h1) (fc h2)
 ·have hy:scope.names.lookup y=some .cell\/scope.names.lookup y=some .free:=hy
  rcases hy with hy |hy
  ·exact zt2 hy
  ·exact absurd rfl (S.nofree _ (fc hy))
 ·exact kq (x.above y c (fc h))
 ·have hi:i<vs.length:=by
   unfold start at h2;by_cases hi:i<vs.length
   ·exact hi
   ·rw[dn (by simpa using hi)] at h2
    rw[List.getElem?_replicate] at h2;split at h2 <;> cases h2
  have d:vs[i]?=↑v:=by
   unfold start at h2;rw[ay (by simpa using hi),bw] at h2;cases e:vs[i]? with
   |none=>rw[e] at h2;cases h2
   |some a=>rw[e] at h2;cases h2;rfl
  obtain⟨u,Y,g⟩:=r.get d;have J:ps[i]?=↑y:=by
   rw[<-S.pre,List.getElem?_take_of_lt (by omega)];exact h1
  have R:ps.Nodup:=by rw[<-S.pre];exact S.nd.sublist (List.take_sublist _ _)
  refine⟨u,g,?_⟩;rcases S.par y (az J) with k |k
  ·exact .inl ⟨k,zra R J Y k⟩
  ·obtain⟨c,e⟩:=zt2 (n:=s.heap.objs.size+1) k
   refine .inr ⟨.inl k,c,e,?_⟩;have q:=x.cell y c e;rw[zrb R J Y (by show scope.names.lookup y≠_;rw[k];decide)] at q;exact q
 ·exact D.hok.fresh (kq (x.above y c (fc h)))
 ·unfold start
  show _=N.length;rw[au,af,ff];omega
def z9q{D:Arguments}{m kV a p cdv ct oc:Value}{an od:Option Addr}{osl:Array ia}(C:K.lookup f=↑⟨oc,od,.func (PySem.W.fnOf name qual D body scope m kV a p an cdv ct),osl⟩)(h:PySem.W.codeIn K cdv qual=true)(S:tx N ps scope)(len:∀vs H Q E,sp vs H Q E->vs.length=ps.length)(U:∀(A:Around) (outer:ka) (s:Shared) (H:Hp) (vs:k9) (Q:VK) (E:XK),Room k (A.deeper (envOfC qual scope s.heap.objs.size f cdv))->sp vs H Q E ->
   ∃t,PSs (cxOf CX P w K mg base N qual scope f cdv A outer s H E) body t/\t { nx:=λ_ H'=>Q .non H',rt:=Q } (start N vs) H) :
  FnOk P w K mg base CX (k+1) f (PySem.W.fnOf name qual D body scope m kV a p an cdv ct) ps sp:=by
 refine⟨len,λA outer s H args us vs Q E i c F r d=>?_⟩;have G:=len _ _ _ _ d;have z:K.In s.heap:=c.mod.kin.keeps λb o e=>(c.bs b o e).1;have j:s.heap.NoLimit:=c.mod.nolimit.keeps λb o e=>(c.bs b o e).1;have Y:∀y∈ps.zip us,scope.names.lookup y.1=some .local\/(scope.names.lookup y.1=some .cell/\((cellsFrom (s.heap.objs.size+1) scope.names []).lookup y.1).isSome=true):=λ⟨n,v⟩ hy=>by
  rcases S.par n (ki hy).1 with q |q
  ·exact .inl q
  ·exact .inr ⟨q,mi _ _ _ (.inl q)⟩
 refine codeAny_call_function i.depth (z _ _ C) rfl S.co S.gen rfl (PySem.W.codeRec_of z h) (F _ _ _ _ ?_);refine wpAny_newFunctionEnv_cells S.kind Y λenv L B x=>?_;subst L;refine⟨j.keeps x.toInCall.keep,codeAny_func ?_⟩;obtain⟨t,M,O⟩:=U A outer s H vs Q E (i.deeper _) d;have I:Inv (cxOf CX P w K mg base N qual scope f cdv A outer s H E) [] (start N vs) H B:=zrc S i.hd c G r x;refine wpAny_mono (M [] B (start N vs) H _ I O) (λfl s' Z=>?_) λe s' Z=>Z;have g:∀ {R:St} {H':Hp} {v:V} {u:Value},Inv (cxOf CX P w K mg base N qual scope f cdv A outer s H E) [] R H' s'->RelV v u->Q v H'->CE outer P w H s Q u s' :=
  λ{R H' v u} J l q=>⟨v,H',J.os,J.bare,J.base,J.hok,l,q⟩
 cases fl with
 |ret u =>
   obtain⟨v,R,H',J,l,q⟩:=Z;exact g J l q
 |next =>
   obtain⟨R,H',J,q⟩:=Z;exact g (v:=V.non) (u:=Value.none) J rfl q
 |brk =>
   obtain⟨_,_,_,q⟩:=Z;exact False.elim q
 |cont =>
   obtain⟨_,_,_,q⟩:=Z;exact False.elim q
def tCB(r:k9->Hp->VK->Prop)(t:TA):TE:=λσ H Q=>t σ H λvs H1=>r vs H1 Q
variable{r:k9->Hp->VK->Prop}{id:String}
def zo(R:qp X (.builtin id) r)(S:Gl X x)(U:X.mg x=none)(V:bootBuiltins x=↑(.builtin id))(Y:PA X (e::es) t)(Z:x ≠ "__name__":=by decide)(D:(x==("__debug__" : Str))=false:=by decide)(a:starEach (e::es) X.env=(false,eval e X.env)::starEach es X.env:=by rfl)(J:(backTo pos (starEach es X.env)).any (·.1)=false:=by rfl):PE X (.Call (.Name x p) (e::es) [] pos) (tCB r t):=by
 intro pins s σ H Q I h;refine wpAny_Call_Name_kw (xy I S U V ?_ Z D);exact PyProof.Rows.callWith_builtin1 (thn (Y pos pins s σ H _ I h) λus s1 ⟨vs,H1,I1,r1,q1⟩=>R pins s1 σ H1 vs us Q I1 r1 q1) a J
variable{T:String}
def znt(R:qp X (.type T) r)(S:Gl X x)(U:X.mg x=none)(V:bootBuiltins x=↑(.type T))(Y:PA X (e::es) t)(Z:x ≠ "__name__":=by decide)(D:(x==("__debug__" : Str))=false:=by decide)(a:starEach (e::es) X.env=(false,eval e X.env)::starEach es X.env:=by rfl)(J:(backTo pos (starEach es X.env)).any (·.1)=false:=by rfl):PE X (.Call (.Name x p) (e::es) [] pos) (tCB r t):=by
 intro pins s σ H Q I h;refine wpAny_Call_Name_kw (xy I S U V ?_ Z D);exact i6 (thn (Y pos pins s σ H _ I h) λus s1 ⟨vs,H1,I1,r1,q1⟩=>R pins s1 σ H1 vs us Q I1 r1 q1) a J
end L2
namespace HT
open PySem PyProof.Rows
section
open PySem.SeqAt
open PySem.AutoSeq1 (wpAny_loadPart')
open PySem.MeetsSeq PySem.MeetsSeq2 PySem.MeetsSeq3
end
variable{t:Addr}{Q E:Value->Shared->Prop}{prog:Program}{w:World}{A:Around}{s:Shared}
def cat_tup{b:Addr}{vs ws:h8}(d:IsTup s.heap t vs.toArray)(f:IsTup s.heap b ws.toArray)(Z:vs≠[])(h1:ws=[]->Q (.ref t) s)(h2:ws≠[]->Q (.ref s.heap.objs.size) { s with heap:=s.heap.push { cls:=.type "tuple",data:=.seq (vs++ws).toArray } })(Y:vs.length+ws.length<=sizeLine):wpAny (model prog w) A (binaryOp .Add (.ref t) (.ref b)) Q E s:=by
 obtain⟨⟨cls,dd,data,sl⟩,U,a,n,hd⟩:=id d;obtain⟨⟨c,I,data2,J⟩,D,R,n2,S⟩:=id f;simp only at a hd R S;subst a hd R S;have e:vs.toArray++ws.toArray=(vs++ws).toArray:=by simp
 by_cases V:ws=[]
 ·exact concat_meets ⟨_,U,rfl⟩ ⟨_,D,rfl⟩ noFill_tuple_add seq_tuple_add PySem.F.slot_tuple_add PySem.F.entry_tuple_add (PySem.F.args_tuple_add_2 _ _)
   (tuple_addW1 t b vs.toArray ws.toArray n n2 dd I sl J (by simpa using Z) (by simp[V])) ⟨U,D,h1 V⟩
 ·refine concat_meets ⟨_,U,rfl⟩ ⟨_,D,rfl⟩ noFill_tuple_add seq_tuple_add PySem.F.slot_tuple_add PySem.F.entry_tuple_add (PySem.F.args_tuple_add_2 _ _)
   (tuple_addW2 t b vs.toArray ws.toArray n n2 dd I sl J (by simpa using Z) (by simpa using V) (by rw[bn,bn];exact Y)) ⟨U,D,?_⟩
  rw[e];exact h2 V
def sIx(n d:Nat):k4->Nat
 |none=>d |some v=>if v<0 then(v+(n:Int)).toNat else min v.toNat n
def sIx_none(n d:Nat):sIx n d none=d:=rfl
def sIx_nat(n d k:Nat):sIx n d ↑(k:Int)=min k n:=by
 show(if (k:Int)<0 then((k:Int)+(n:Int)).toNat else min (k:Int).toNat n)=min k n;rw[if_neg (by omega),f6]
def z6o(n d:Nat)(hd:d<=n)(o:k4):sIx n d o<=n:=by
 cases o with
 |none=>exact hd |some v =>
   show(if v<0 then(v+(n:Int)).toNat else min v.toNat n)<=n;by_cases D:v<0
   ·rw[if_pos D];omega
   ·rw[if_neg D];exact Nat.min_le_right _ _
def zw0(v:Int)(n d:Nat):(if v<0 then max (v+(n:Int)) 0 else min v (n:Int))=((sIx n d ↑v:Nat):Int):=by
 show(if v<0 then max (v+(n:Int)) 0 else min v (n:Int))=(((if v<0 then(v+(n:Int)).toNat else min v.toNat n):Nat):Int);by_cases D:v<0
 ·simp only[if_pos D];omega
 ·simp only[if_neg D];omega
def zvo(lo hi:k4)(n:Nat):Builtin.Slice.sliceAdjust lo hi 1 (n:Int)=(((sIx n 0 lo:Nat):Int),((sIx n n hi:Nat):Int)):=by
 have h1:¬((1:Int)<0):=by omega
 unfold Builtin.Slice.sliceAdjust;simp only[h1,if_false];refine Prod.ext ?_ ?_
 ·cases lo with
  |none=>rfl |some v=>exact zw0 v n 0
 ·cases hi with
  |none=>rfl |some v=>exact zw0 v n n
def zvp(i j:Nat):Builtin.Slice.slicePlaces (i:Int) (j:Int) 1=j-i:=by
 unfold Builtin.Slice.slicePlaces;have h1:(1:Int) > 0:=by omega
 simp only[h1,if_true,Int.ediv_one];split <;> omega
def zo4{v:Value}{o:k4}{Q:k4->Shared->Prop}(p:IsPart v o)(h:Q o s):wpAny (model prog w) A (Builtin.Slice.slicePartIndex v) Q E s:=by
 cases p with
 |none=>exact slicePart_none h |int i t=>exact slicePart_int h
variable{sl:Addr}{vl vu:Value}{lo hi:k4}
def zm1{n:Nat}{Q:Int×Int×Nat->Shared->Prop}(J:s.heap.IsSliceOf sl vl vu .none)(pl:IsPart vl lo)(R:IsPart vu hi)(h:Q (((sIx n 0 lo:Nat):Int),1,sIx n n hi-sIx n 0 lo) s):wpAny (model prog w) A (Builtin.Slice.sliceApplied (.ref sl) (pure (n:Int))) Q E s:=by
 obtain⟨os,D,S,I⟩:=id J;unfold Builtin.Slice.sliceApplied Builtin.Slice.sliceFields;refine wpAny_bind (wpAny_bind (wpAny_field D I (x:=vl) rfl (wpAny_bind (wpAny_field D I (x:=vu) rfl (wpAny_bind (wpAny_field D I (x:=.none) rfl (wpAny_pure ?_)))))));refine wpAny_bind (slicePart_none ?_);show wpAny _ _ (if ((1:Int)==0)=true then _ else _) _ _ s;rw[if_neg (by decide)];refine wpAny_bind (zo4 pl (wpAny_bind (zo4 R (wpAny_bind (wpAny_pure ?_)))));show wpAny _ _ (match Builtin.Slice.sliceAdjust lo hi 1 (n:Int) with | (lo,hi)=>pure (lo,(1:Int),Builtin.Slice.slicePlaces lo hi 1)) _ _ s;rw[zvo lo hi n];show wpAny _ _ (pure (((sIx n 0 lo:Nat):Int),(1:Int),Builtin.Slice.slicePlaces ((sIx n 0 lo:Nat):Int) ((sIx n n hi:Nat):Int) 1)) _ _ s;rw[zvp];exact wpAny_pure h
def zzv(xs:k8)(i k:Nat):((List.range k).filterMap λ(m:Nat)=>xs[((i:Int)+(m:Int)*1).toNat]?).toArray=((xs.toList.drop i).take k).toArray:=by
 have e:(λ(m:Nat)=>xs[((i:Int)+(m:Int)*1).toNat]?)=λm=>xs[i+m]?:=by
  funext m;have:((i:Int)+(m:Int)*1).toNat=i+m:=by omega
  rw[this]
 rw[e];have:=pick_run xs i k;rw[List.filterMap_map] at this;have D:((λx=>xs[x]?) ∘ λx=>i+x)=λm=>xs[i+m]?:=rfl;rw[D] at this;rw[this]
def getItem_tuple_cut{D:k8}(J:IsTup s.heap t D)(Y:s.heap.IsSliceOf sl vl vu .none)(pl:IsPart vl lo)(Z:IsPart vu hi)(a:¬(sIx D.size 0 lo=0/\sIx D.size D.size hi=D.size))(h:Q (.ref s.heap.objs.size) { s with heap:=s.heap.push { cls:=.type "tuple",data:=.seq ((D.toList.drop (sIx D.size 0 lo)).take (sIx D.size D.size hi-sIx D.size 0 lo)).toArray } })(b:D.size<=sizeLine):wpAny (model prog w) A (getItem (.ref t) (.ref sl)) Q E s:=by
 have I:sizeOk (.seq ((D.toList.drop (sIx D.size 0 lo)).take (sIx D.size D.size hi-sIx D.size 0 lo)).toArray):=by
  show((D.toList.drop (sIx D.size 0 lo)).take (sIx D.size D.size hi-sIx D.size 0 lo)).toArray.size<=sizeLine;rw[bn,du,fb,oq];omega
 have d:sIx D.size D.size hi<=D.size:=z6o _ _ (b7 _) hi;obtain⟨os,R,S,c⟩:=id Y;have U:s.TypeIs (.ref sl) "slice":=⟨os,R,S⟩;unfold getItem;try with_reducible refine wpAny_holding ?_
 first |refine wpAny_bind (wpAny_pure ?_) |skip
 refine wpAny_bind (wpAny_sequenceKey J.typeIs (by decide) ?_);refine wpAny_bind (wpAny_callSpecial?_slot (name:=Str.ofString "__getitem__") J.typeIs jz
  (wpAny_call_entry jz J.typeIs entry_tuple_getitem ?_ (args_tuple_getitem _ _)))
 show wpAny _ _ (Builtin.Tuple.tupleItemsOf (.ref t) >>= _) _ _ s;refine wpAny_bind (tupleItemsOf_ J ?_);refine wpAny_bind (wpAny_typeOf U ?_);rw[if_pos (by decide)];refine wpAny_bind (zm1 Y pl Z ?_);have V:¬((((sIx D.size 0 lo:Nat):Int)==0 && (1:Int)==1 && (sIx D.size D.size hi-sIx D.size 0 lo)==D.size)=true):=by
  intro q;rw[eh,eh] at q;have e:((sIx D.size 0 lo:Nat):Int)=0:=eq_of_beq q.1.1;have f:sIx D.size D.size hi-sIx D.size 0 lo=D.size:=eq_of_beq q.2;exact a ⟨by omega,by omega⟩
 show wpAny _ _ (if (((sIx D.size 0 lo:Nat):Int)==0 && (1:Int)==1 && (sIx D.size D.size hi-sIx D.size 0 lo)==D.size)=true then _ else _) _ _ s;rw[if_neg V,zzv];first
  |exact wpAny_bind (m:=Builtin.Tuple.tupleExact _) (wpAny_newObj_type (wpAny_pure ⟨_,rfl,wpAny_pure h⟩) I)
  |exact wpAny_bind (m:=Builtin.Tuple.tupleExact _) (wpAny_newObj_type (wpAny_bind (wpAny_pure (wpAny_pure ⟨_,rfl,wpAny_pure h⟩))) I)
  |exact wpAny_bind (wpAny_bind (m:=Builtin.Tuple.tupleExact _) (wpAny_newObj_type (wpAny_pure (wpAny_pure ⟨_,rfl,wpAny_pure h⟩)) I))
  |exact wpAny_bind (wpAny_bind (m:=Builtin.Tuple.tupleExact _) (wpAny_newObj_type (wpAny_pure ⟨_,rfl,wpAny_pure h⟩) I))
end HT
namespace L2
open PySem PySem.Spec PyProof.Rows
abbrev TO:=St->Hp->(k4->Hp->Prop)->Prop
def PO(X:Cx)(e:Option Expr)(t:TO):Prop :=
 ∀(pins:k7) (s:Shared) (σ:St) (H:Hp) (Q:k4->Hp->Prop),Inv X pins σ H s->t σ H Q ->
  wpAny (model X.prog X.w) X.A (evalPart e X.env) (λu s'=>∃o H',Inv X pins σ H' s'/\IsPart u o/\Q o H') X.xe s
def z3i:TO:=λ_ H Q=>Q none H
def z9r(t:TE):TO:=λσ H Q=>t σ H λx H1=>∃i,x=.int i/\Q ↑i H1
def zvq{D:i0}:∀ {us:h8},Vals (D.map V.int) us->IntsAre us D:=by
 induction D with
 |nil=>intro us r;rw[cq] at r;cases r;exact .nil
 |cons n D ih =>
   intro us r;rw[bi] at r;cases r with
   |cons r1 r2 =>
     obtain⟨t,e⟩:=r1;subst e;exact .cons n t (ih r2)
variable{X:Cx}
def z3j:PO X none z3i:=by
 intro pins s σ H Q I h;rw[evalPart_none];exact wpAny_pure ⟨none,H,I,.none,h⟩
variable{e:Expr}{te:TE}
def z3k(h:PE X e te):PO X ↑e (z9r te):=by
 intro pins s σ H Q I D;rw[evalPart_some];refine thn (h pins s σ H _ I D) λu V J=>?_;obtain⟨x,H1,R,S,U⟩:=J;obtain⟨i,rfl,q⟩:=U;obtain⟨t,rfl⟩:=S;exact⟨↑i,H1,R,.int i t,q⟩
variable{lo hi:Option Expr}
def SlR(X:Cx)(r:V->k4->k4->Hp->VK->Prop):Prop :=
 ∀(pins:k7) (s:Shared) (σ:St) (H:Hp) (x:V) (v vl vu:Value) (lo hi:k4) (sl:Addr) (Q:VK),Inv X pins σ H s->RelV x v->s.heap.IsSliceOf sl vl vu .none->IsPart vl lo->IsPart vu hi->r x lo hi H Q ->
  ∃T id,typeLookup (.type T) "__getitem__" = pure ↑(.builtin id)/\s.TypeIs v T/\wpAny (model X.prog X.w) X.A (getItem v (.ref sl)) (EP X pins σ Q) X.xe s
def tSl(r:V->k4->k4->Hp->VK->Prop)(te:TE)(tl th:TO):TE:=λσ H Q=>te σ H λx H1=>tl σ H1 λl H2=>th σ H2 λu D=>r x l u D Q
variable{r:R2}{tl th:TO}{pos p2:Pos}
def zt3{r:V->k4->k4->Hp->VK->Prop}(S:SlR X r)(U:PE X e te)(Y:PO X lo tl)(Z:PO X hi th):PE X (.Subscript e (.Slice lo hi none p2) pos) (tSl r te tl th):=by
 intro pins s σ H Q I h;refine Subscript_ (thn (U pins s σ H _ I h) λv a J=>?_);obtain⟨x,H1,c,d,f⟩:=J;refine wpAny_Slice (thn (Y pins a σ H1 _ c f) λvl s2 J=>?_);obtain⟨l,H2,g,pl,i⟩:=J;refine thn (Z pins s2 σ H2 _ g i) λvu D J=>?_;obtain⟨u,R,j,k,m⟩:=J;rw[evalPart_none];refine wpAny_pure ?_;have n:Inv X pins σ R { D with heap:=D.heap.push { cls:=.type "slice",data:=.fields #[vl,vu,.none] } }:=j.kept (t':=D.toks) λb t q=>aw _ q;obtain⟨T,id,hT,o,p⟩:=S pins { D with heap:=D.heap.push { cls:=.type "slice",data:=.fields #[vl,vu,.none] } } σ R x v vl vu l u D.heap.objs.size Q n d (Heap.IsSliceOf.new ..) pl k m;show wpAny (model X.prog X.w) X.A (subscriptTail e (.Slice lo hi none p2) v (.ref D.heap.objs.size)) (EP X pins σ Q) X.xe { D with heap:=D.heap.push { cls:=.type "slice",data:=.fields #[vl,vu,.none] } };exact tail_any (ops:=[.ref D.heap.objs.size,v]) o hT p (by with_unfolding_all rfl)
def cutV(xs:k9)(lo hi:k4):k9:=(xs.drop (HT.sIx xs.length 0 lo)).take (HT.sIx xs.length xs.length hi-HT.sIx xs.length 0 lo)
def znu(xs:k9)(lo hi:k4):(cutV xs lo hi).length<=xs.length:=by
 unfold cutV;rw[du,fb];omega
def rSlT(K:k6):V->k4->k4->Hp->VK->Prop:=λx lo hi H Q=>∃a xs,x=.ref a/\SqT K H a xs /\
 ¬(HT.sIx xs.length 0 lo=0/\HT.sIx xs.length xs.length hi=xs.length)/\∀p,H p=none->Q (.ref p) (upd H p (.tup (cutV xs lo hi)))
def z6p:SlR X (rSlT X.K):=by
 intro pins s σ H x v vl vu lo hi sl Q I S U pl V h;obtain⟨a,xs,rfl,Y,Z,q⟩:=h;cases S;obtain⟨its,r,J,R⟩:=I.tuple Y;have D:its.toArray.size=xs.length:=by rw[bn];exact r.length.symm
 refine⟨"tuple",_,jz.lookup,J.typeIs,?_⟩;refine HT.getItem_tuple_cut J U pl V (by rw[D];exact Z) ?_ (by rw[D];exact R);rw[D];refine⟨.ref s.heap.objs.size,_,I.laid (t':=s.toks) (o:=.tup (cutV xs lo hi)) (λb c q=>aw _ q) (b7 _) ?_,rfl,q _ (I.hok.fresh (b7 _))⟩;exact⟨cr (znu xs lo hi) R,_,(r.drop (HT.sIx xs.length 0 lo)).take (HT.sIx xs.length xs.length hi-HT.sIx xs.length 0 lo),IsTup.new _ _⟩
def z6q(K:k6):R2:=λx y H Q=>∃a b xs ys,x=.ref a/\y=.ref b/\SqT K H a xs/\SqT K H b ys/\xs≠[]/\xs.length+ys.length<=sizeLine /\
 (ys=[]->Q (.ref a) H)/\(ys≠[]->∀p,H p=none->Q (.ref p) (upd H p (.tup (xs++ys))))
variable{xs:k9}{us:h8}
def Vals.nil_iff(r:Vals xs us):us=[]↔xs=[]:=by
 cases r with
 |nil=>simp |cons _ _=>simp
def z3l:OpR X (binaryOp .Add) (z6q X.K):=by
 intro pins s σ H x y v u Q I U V h;obtain⟨a,b,xs,ys,rfl,rfl,Y,Z,c,R,d,e⟩:=h;cases U;cases V;obtain⟨its,J,p1,_⟩:=I.tuple Y;obtain⟨S,D,p2,_⟩:=I.tuple Z;refine HT.cat_tup p1 p2 (λz=>c (J.nil_iff.mp z)) (λz=>⟨.ref a,H,I,rfl,d (D.nil_iff.mp z)⟩) (λz=>?_) (by rw[<-J.length,<-D.length];exact R);refine⟨.ref s.heap.objs.size,_,I.laid (t':=s.toks) (o:=.tup (xs++ys)) (λb f q=>aw _ q) (b7 _) ?_,rfl,e (λw=>z (D.nil_iff.mpr w)) _ (I.hok.fresh (b7 _))⟩;exact⟨by rw[au];exact R,_,J.append D,IsTup.new _ _⟩
def ixN(n:Nat)(i:Int):Option Nat:=if 0<=i then(if i<n then ↑i.toNat else none) else if -(n:Int)<=i then ↑(i+n).toNat else none
variable{α:Type}
def atI(xs:List α)(i:Int):Option α:=(ixN xs.length i).bind λj=>xs[j]?
variable{n j:Nat}{i:Int}
def zpp(h:ixN n i=↑j):seqIndex? i n=↑j/\j<n/\-(n:Int)<=i/\i<n:=by
 unfold ixN at h;by_cases D:0<=i
 ·rw[if_pos D] at h
  by_cases h1:i<n
  ·rw[if_pos h1] at h
   have e:i.toNat=j:=bz h;exact⟨by rw[seqIndex_of D h1,e],by omega,by omega,h1⟩
  ·rw[if_neg h1] at h;cases h
 ·rw[if_neg D] at h
  by_cases h1:-(n:Int)<=i
  ·rw[if_pos h1] at h
   have e:(i+n).toNat=j:=bz h;exact⟨by rw[seqIndex_neg (by omega) h1,e],by omega,h1,by omega⟩
  ·rw[if_neg h1] at h;cases h
def zss{xs:List α}{v:α}(h:atI xs i=↑v):∃j,seqIndex? i xs.length=↑j/\xs[j]?=↑v/\j<xs.length/\-(xs.length:Int)<=i/\i<xs.length:=by
 unfold atI at h;cases e:ixN xs.length i with
 |none=>rw[e] at h;cases h
 |some j =>
   rw[e] at h;obtain⟨h1,h2,D,I⟩:=zpp e;exact⟨j,h1,h,h2,D,I⟩
def zst{xs:List α}{v:α}(h:xs[j]?=↑v):atI xs (j:Int)=↑v:=by
 have D:j<xs.length:=(ak.mp h).1;have e:ixN xs.length (j:Int)=↑j:=by
  unfold ixN;rw[if_pos (by omega),if_pos (by omega)];simp
 unfold atI;rw[e];exact h
def zzw(xs:List α)(v:α):atI (xs++[v]) (-1)=↑v:=by
 have D:(xs++[v]).length=xs.length+1:=by simp
 have e:ixN (xs++[v]).length (-1)=↑xs.length:=by
  unfold ixN;rw[D,if_neg (by decide),if_pos (by omega)];congr 1;omega
 unfold atI;rw[e];show(xs++[v])[xs.length]?=↑v;simp
def vn(b:Expr):Prop:=∀o i,subscripted b false o i=operate [o,i] (getItem o i)
def IxR(X:Cx)(r:R2):Prop :=
 ∀(value D:Expr) (pins:k7) (s:Shared) (σ:St) (H:Hp) (x y:V) (v u:Value) (Q:VK),Inv X pins σ H s->RelV x v->RelV y u->r x y H Q ->
  subscripted D false v u=operate [v,u] (getItem v u)->wpAny (model X.prog X.w) X.A (subscriptTail value D v u) (EP X pins σ Q) X.xe s
def MtR(X:Cx)(id:String)(r:V->k9->Hp->VK->Prop):Prop :=
 ∀(pins:k7) (s:Shared) (σ:St) (H:Hp) (x:V) (xs:k9) (v:Value) (us:h8) (Q:VK),Inv X pins σ H s->RelV x v->Vals xs us->r x xs H Q ->
  wpAny (model X.prog X.w) X.A (call (.builtin id) (v::us)) (EP X pins σ Q) X.xe s
def IxR.or{J:R2}(h:IxR X r)(h':IxR X J):IxR X (λx y H Q=>r x y H Q\/J x y H Q):=by
 intro value D pins s σ H x y v u Q I R S q U;rcases q with q |q
 ·exact h value D pins s σ H x y v u Q I R S q U
 ·exact h' value D pins s σ H x y v u Q I R S q U
variable{a b:Expr}{ta tb:TE}
def xq(D:IxR X r)(J:PE X a ta)(R:PE X b tb)(S:vn b):PE X (.Subscript a b pos) (tOp r ta tb):=by
 intro pins s σ H Q I h;exact Subscript_ (binT J R I h λv u s2 x y H2 U V Y q=>D a b pins s2 σ H2 x y v u Q U V Y q (S _ _))
def rIxL(K:k6):R2:=λx y H Q=>∃p xs i v,x=.ref p/\y=.int i/\SqL K H p xs/\atI xs i=↑v/\Q v H
def rIxT(K:k6):R2:=λx y H Q=>∃p xs i v,x=.ref p/\y=.int i/\SqT K H p xs/\atI xs i=↑v/\Q v H
def rIxS:R2:=λx y H Q=>∃z i c,x=.str z/\y=.int i/\z.length<=sizeLine/\atI z.cps.toList i=↑c/\Q (.str ⟨#[c]⟩) H
def znv:IxR X (rIxL X.K):=by
 intro value J pins s σ H x y v u Q I Z a h U;obtain⟨p,xs,i,z,rfl,rfl,b,c,q⟩:=h;cases Z;obtain⟨t,rfl⟩:=a;obtain⟨its,r,pl,g⟩:=I.list b;obtain⟨j,h1,h2,k,d,e⟩:=zss c;obtain⟨w,V,R⟩:=r.get h2;have f:=r.length;have l:=zb;have D:EP X pins σ Q w s:=⟨z,H,I,R,q⟩;by_cases Y:0<=i
 ·have S:i.toNat=j:=by
   rw[seqIndex_of Y e] at h1;exact bz h1
  exact item_listR pl.isList Y (by omega) (by rw[S];simpa using V) D U
 ·have S:(i+(its.toArray.size:Int)).toNat=j:=by
   rw[seqIndex_neg (by omega) d] at h1;rw[bn,<-f];exact bz h1
  exact subscriptTail_builtinR (x:=w) pl.isList.typeIs slot_list_getitem.lookup
   (wpAny_getItem_list_neg (Q:=λr s'=>r=w/\EP X pins σ Q r s') pl.isList (by omega) (by rw[bn] <;> omega) (by omega) (by rw[S];simpa using V) ⟨rfl,D⟩) U
def z6r:IxR X (rIxT X.K):=by
 intro value D pins s σ H x y v u Q I S U h V;obtain⟨p,xs,i,z,rfl,rfl,Y,Z,q⟩:=h;cases S;obtain⟨t,rfl⟩:=U;obtain⟨its,r,pl,c⟩:=I.tuple Y;obtain⟨j,h1,h2,d,e,f⟩:=zss Z;obtain⟨w,a,J⟩:=r.get h2;have b:=r.length;have g:=zb;have R:EP X pins σ Q w s:=⟨z,H,I,J,q⟩;exact subscriptTail_builtinR (x:=w) pl.typeIs slot_tuple_getitem.lookup
  (getItem_tuple (j:=j) (Q:=λr s'=>r=w/\EP X pins σ Q r s') pl (by omega) (by omega) (by rw[bn,<-b];exact h1) (by simpa using a) ⟨rfl,R⟩) V
def z6s:IxR X rIxS:=by
 intro value D pins s σ H x y v u Q I J R h S;obtain⟨z,i,c,rfl,rfl,d,U,q⟩:=h;obtain⟨t,rfl⟩:=J;obtain⟨t',rfl⟩:=R;obtain⟨j,h1,h2,e,V,Y⟩:=zss U;have Z:z.cps.toList.length=z.length:=by simp[Str.length]
 rw[Z] at h1 V Y;have f:=zb;exact tail_any (typeIs_str s z t) slot_str_getitem.lookup (getItem_str (c:=c) (by
  have a:decide (i < -(2 ^ 63:Int))=false:=decide_eq_false (by omega);have b:decide (i >= 2 ^ 63)=false:=decide_eq_false (by omega);rw[a,b,Bool.or_false]) (by rw[h1];simpa using h2) ⟨.str ⟨#[c]⟩,H,I.tok _,⟨_,rfl⟩,q⟩) S
def rIx(K:k6):R2:=λx y H Q=>rIxL K x y H Q\/rIxT K x y H Q\/rIxS x y H Q
def zw1:IxR X (rIx X.K):=znv.or (z6r.or z6s)
def zvr(its:h8)(n j:Nat)(u:Value):Obj.mapSeq (·.setIfInBounds j u) { cls:=.type "list",data:=.seq its.toArray n }={ cls:=.type "list",data:=.seq (its.set j u).toArray n }:=by
 simp[Obj.mapSeq]
def Inv.lst{pins:k7}{σ:St}{H:Hp}{s:Shared}{p:Addr}{xs:k9}(I:Inv X pins σ H s)(h:H p=↑(.lst xs)) :
  ∃(its:h8) (n:Nat),Vals xs its/\s.heap.get? p=some { cls:=.type "list",data:=.seq its.toArray n }/\xs.length<=sizeLine:=by
 obtain⟨z,its,n,r,e⟩:=I.hok p _ h;exact⟨its,n,r,e,z⟩
variable{pins:k7}{σ:St}{H:Hp}{s:Shared}{ys:k9}{its its':h8}
def Inv.lstUpd{p:Addr}{D:Nat}{f:Obj->Obj}(I:Inv X pins σ H s)(h:H p=↑(.lst xs))(R:s.heap.get? p=some { cls:=.type "list",data:=.seq its.toArray n })(J:f { cls:=.type "list",data:=.seq its.toArray n }={ cls:=.type "list",data:=.seq its'.toArray D })(r:Vals ys its')(S:ys.length<=sizeLine)(t:Nat) :
  Inv X pins σ (upd H p (.lst ys)) { s with heap:=s.heap.update p f,toks:=t }:=by
 have e:(s.heap.update p f).get? p=some { cls:=.type "list",data:=.seq its'.toArray D }:=by
  rw[gk f R (by rw[J] <;> rfl),J]
 refine I.write (x:=p) (e:=p) (by rw[h];trivial) (.inl rfl) (λb u U q=>(cz _ _ (Ne.symm U)).trans q) ⟨_,e⟩ ?_;exact⟨S,its',D,r,e⟩
def z6t:V->V->V->Hp->(Hp->Prop)->Prop:=λo i v H Q=>∃p xs k j,o=.ref p/\i=.int k/\H p=↑(.lst xs)/\ixN xs.length k=↑j/\Q (upd H p (.lst (xs.set j v)))
def zn:PSet X z6t:=by
 intro pins s σ H o i v e f u Q I ro a b h;obtain⟨p,xs,k,j,rfl,rfl,S,c,q⟩:=h;cases ro;obtain⟨t,rfl⟩:=a;obtain⟨its,n,r,D,d⟩:=I.lst S;obtain⟨h1,h2,U,V⟩:=zpp c;have J:=r.length;have g:=zb;have Y:Inv X pins σ (upd H p (.lst (xs.set j v))) { s with heap:=s.heap.update p (Obj.mapSeq (·.setIfInBounds j u)) } :=
  I.lstUpd S D (zvr its n j u) (r.set b j) (by rw[dz];exact d) s.toks
 by_cases Z:0<=k
 ·have R:k.toNat=j:=by
   rw[seqIndex_of Z V] at h1;exact bz h1
  exact PySem.W.ki_setAt D Z (by omega) (by rw[bn,<-J];exact V) (by rw[R];exact⟨_,Y,q⟩)
 ·have R:(k+(its.toArray.size:Int)).toNat=j:=by
   rw[seqIndex_neg (by omega) U] at h1;rw[bn,<-J];exact bz h1
  exact PySem.W.ki_setBack D (by omega) (by rw[bn,<-J];exact U) (by omega) (by rw[R];exact⟨_,Y,q⟩)
def zrd(lo hi:k4)(n:Nat):(sliceBounds lo hi none n).1=((HT.sIx n 0 lo:Nat):Int)/\(sliceBounds lo hi none n).2.1=((HT.sIx n n hi:Nat):Int)/\(sliceBounds lo hi none n).2.2=1:=by
 refine⟨?_,?_,rfl⟩
 ·cases lo with
  |none=>simp[sliceBounds,HT.sIx] |some i =>
    simp only[sliceBounds,HT.sIx,Option.getD_none,show(1:Int) > 0 by decide,if_true];by_cases h:i<0
    ·simp only[h,if_true] <;> omega
    ·simp only[h,if_false] <;> omega
 ·cases hi with
  |none=>simp[sliceBounds,HT.sIx] |some i =>
    simp only[sliceBounds,HT.sIx,Option.getD_none,show(1:Int) > 0 by decide,if_true];by_cases h:i<0
    ·simp only[h,if_true] <;> omega
    ·simp only[h,if_false] <;> omega
def zpq(its:h8)(lo hi:k4):slicePick its.toArray lo hi none=((its.drop (HT.sIx its.length 0 lo)).take (HT.sIx its.length its.length hi-HT.sIx its.length 0 lo)).toArray:=by
 obtain⟨h1,h2,D⟩:=zrd lo hi its.toArray.size;unfold slicePick;rw[h1,h2,D];simp only[sliceRange_one,pick_run,bn] <;> rfl
def rSlL(K:k6):V->k4->k4->Hp->VK->Prop:=λx lo hi H Q=>∃a xs,x=.ref a/\SqL K H a xs/\∀p,H p=none->Q (.ref p) (upd H p (.lst (cutV xs lo hi)))
def z3m:SlR X (rSlL X.K):=by
 intro pins s σ H x v vl vu lo hi sl Q I R S pl U h;obtain⟨a,xs,rfl,V,q⟩:=h;cases R;obtain⟨its,r,J,Y⟩:=I.list V;have D:=r.length;refine⟨"list",_,slot_list_getitem.lookup,J.isList.typeIs,?_⟩;refine wpAny_getItem_list_slice J.isList S pl U .none (by simp) ?_ (by rw[bn] <;> omega);rw[zpq,<-D];refine⟨.ref s.heap.objs.size,_,I.laid (t':=s.toks) (o:=.lst (cutV xs lo hi)) (λb Z q=>aw _ q) (b7 _) ?_,rfl,q _ (I.hok.fresh (b7 _))⟩;exact⟨cr (znu xs lo hi) Y,_,0,(r.drop (HT.sIx xs.length 0 lo)).take (HT.sIx xs.length xs.length hi-HT.sIx xs.length 0 lo),cy _ rfl⟩
def zjp:qp X (.builtin "len") (λxs H Q=>∃p ys,xs=[.ref p]/\(SqL X.K H p ys\/SqT X.K H p ys)/\Q (.int ys.length) H):=by
 intro pins s σ H xs us Q I r h;obtain⟨p,ys,rfl,hq,q⟩:=h;obtain⟨u,rfl,R⟩:=xr r;cases R;have U:=zb;rcases hq with hq |hq
 ·obtain⟨its,J,pl,S⟩:=I.list hq
  have D:=J.length;exact Calls.call_len_list pl.isList (by simp only[bn] <;> omega) ⟨.int ys.length,H,I.tok _,⟨s.toks+1,by rw[bn,D]⟩,q⟩
 ·obtain⟨its,J,pl,S⟩:=I.tuple hq
  have D:=J.length;exact len_tuple pl (by simp only[bn] <;> omega) ⟨.int ys.length,H,I.tok _,⟨s.toks+1,by rw[bn,D]⟩,q⟩
def zmu:qp X (.type "list") (λxs H Q=>∃p ys,xs=[.ref p]/\(SqL X.K H p ys\/SqT X.K H p ys)/\∀l,H l=none->Q (.ref l) (upd H l (.lst ys))):=by
 intro pins s σ H xs us Q I r h;obtain⟨p,ys,rfl,hq,q⟩:=h;obtain⟨u,rfl,Z⟩:=xr r;cases Z;have R:∀(its:h8),Vals ys its->ys.length<=sizeLine->∀(h':Heap) (D:Nat),(∀b o',s.heap.get? b=↑o'->h'.get? b=↑o') ->
   h'.get? s.heap.objs.size=some { cls:=.type "list",dict:=none,data:=.seq its.toArray D,slots:=#[] }->EP X pins σ Q (.ref s.heap.objs.size) { s with heap:=h' }:=λits J S h' D kp e =>
  ⟨.ref s.heap.objs.size,_,I.laid (t':=s.toks) kp (b7 _) (show ObjOk X.prog X.w _ h' _ (.lst ys) from⟨S,its,D,J,e⟩),rfl,q _ (I.hok.fresh (b7 _))⟩
 rcases hq with hq |hq
 ·obtain⟨its,J,pl,S⟩:=I.list hq
  have U:=J.length;obtain⟨o,V,Y,n,hd⟩:=pl.isList;exact call_list_seq p (.inl rfl) V Y hd (λh' D kp e=>R its J S h' D kp e) (by simp only[bn] <;> omega)
 ·obtain⟨its,J,pl,S⟩:=I.tuple hq
  have U:=J.length;obtain⟨o,V,Y,n,hd⟩:=pl;exact call_list_seq p (.inr rfl) V Y hd (λh' D kp e=>R its J S h' D kp e) (by simp only[bn] <;> omega)
def zpr:qp X (.type "tuple") (λxs H Q=>∃p ys,xs=[.ref p]/\((SqL X.K H p ys/\∀l,H l=none->Q (.ref l) (upd H l (.tup ys)))\/(SqT X.K H p ys/\Q (.ref p) H))):=by
 intro pins s σ H xs us Q I r h;obtain⟨p,ys,rfl,h⟩:=h;obtain⟨u,rfl,V⟩:=xr r;cases V;rcases h with⟨D,q⟩ | ⟨D,q⟩
 ·obtain⟨its,J,pl,R⟩:=I.list D
  have S:=J.length;refine call_tuple_list pl.isList (λh' kp=>?_) (by simp only[bn] <;> omega);have U:Inv X pins σ H { s with heap:=h' }:=I.kept (t':=s.toks) kp;have Y:Inv X pins σ (upd H h'.objs.size (.tup ys)) { s with heap:=h'.push { cls:=.type "tuple",data:=.seq its.toArray } } :=
   U.laid (t':=s.toks) (λb o e=>aw _ e) (b7 _) (show ObjOk X.prog X.w _ _ _ (.tup ys) from⟨R,its,J,IsTup.new _ _⟩)
  exact⟨.ref h'.objs.size,_,Y,rfl,q _ (U.hok.fresh (b7 _))⟩
 ·obtain⟨its,J,pl,R⟩:=I.tuple D
  exact call_tuple_same pl ⟨.ref p,H,I,rfl,q⟩
def tyV(K:k6)(T:String)(x:V)(H:Hp):Prop:=match x with
 | .str _=>T = "str" | .int _=>T = "int" | .ref p=>(T = "list"/\∃xs,SqL K H p xs)\/(T = "tuple"/\∃o,K.lookup p=↑o/\o.cls=.type "tuple"/\o.dict=none) \/
    (T = "dict"/\((∃D,H p=↑(.dK D))\/∃D,H p=↑(.dT D)))\/(T = "set"/\∃S n,H p=↑(.set S n))
 |_=>False
variable{T:String}{x:V}
def z18{v:Value}(I:Inv X pins σ H s)(r:RelV x v)(J:tyV X.K T x H) :
  s.TypeIs v T/\∀a,v=.ref a->∃V,s.heap.get? a=↑V/\V.dict=none:=by
 cases x with
 |str z =>
   obtain⟨t,rfl⟩:=r;cases (show T = "str" from J);exact⟨typeIs_str s z t,λ_ e=>nomatch e⟩
 |int i =>
   obtain⟨t,rfl⟩:=r;cases (show T = "int" from J);exact⟨typeIs_int s i t,λ_ e=>nomatch e⟩
 |ref p =>
   cases r;rcases J with⟨rfl,xs,Y⟩ | ⟨rfl,o,D,hc,hd⟩ | ⟨rfl,D⟩ | ⟨rfl,S,n,D⟩
   ·obtain⟨its,_,pl,_⟩:=I.list Y
    refine⟨pl.isList.typeIs,λa e=>?_⟩;cases e;obtain⟨o,n,e,c,hd,_⟩:=pl;exact⟨o,e,hd⟩
   ·refine⟨⟨o,I.kIn p o D,hc⟩,λa e=>?_⟩
    cases e;exact⟨o,I.kIn _ o D,hd⟩
   ·have z:∃o,s.heap.get? p=↑o/\o.ExactDict:=by
     rcases D with⟨R,D⟩ | ⟨R,D⟩
     ·obtain⟨_,_,_,_,o,_,_,e,ex,_⟩:=I.hok p _ D
      exact⟨o,e,ex⟩
     ·obtain⟨_,_,_,_,o,_,_,e,ex,_⟩:=I.hok p _ D
      exact⟨o,e,ex⟩
    obtain⟨o,e,ex⟩:=z;refine⟨⟨o,e,ex.1⟩,λa U=>?_⟩;cases U;exact⟨o,e,ex.2.1⟩
   ·obtain⟨o,_,_,_,e,ex,_⟩:=I.hok p _ D
    refine⟨⟨o,e,ex.1⟩,λa U=>?_⟩;cases U;exact⟨o,e,ex.2.1⟩
 |_=>exact False.elim J
def tBM0(K:k6)(T:String)(r:V->k9->Hp->VK->Prop)(to:TE):TE:=λσ H Q=>to σ H λx H1=>tyV K T x H1/\r x [] H1 Q
def tBM(K:k6)(T:String)(r:V->k9->Hp->VK->Prop)(to:TE)(t:TA):TE:=λσ H Q=>to σ H λx H1=>tyV K T x H1/\t σ H1 λxs H2=>r x xs H2 Q
variable{r:V->k9->Hp->VK->Prop}{o:Expr}{to:TE}{name:Str}{apos cpos:Pos}{id:String}
def z19(Y:PlainAttrs T)(R:Slot T name id)(S:typeOf (.builtin id)=pure (.type "method_descriptor"))(Z:MtR X id r)(a:PE X o to)(D:attributeBase o name X.env (eval o X.env)=eval o X.env:=by rfl)(J:(apos.endLine==cpos.line)=true:=by rfl):PE X (.Call (.Attribute o name apos) [] [] cpos) (tBM0 X.K T r to):=by
 intro pins s σ H Q I h;refine wpAny_Call_method0_late D J (thn (a pins s σ H _ I h) λv b c=>?_);obtain⟨x,H1,U,V,d,e⟩:=c;obtain⟨h1,h2⟩:=z18 U V d;exact⟨T,id,Y,R,S,h1,h2,Calls.callWith_builtin rfl (PySem.evalArgs_none (Z pins b σ H1 x [] v [] Q U V .nil e))⟩
variable{es:kb}{t:TA}
def zw2(a:PlainAttrs T)(S:Slot T name id)(V:typeOf (.builtin id)=pure (.type "method_descriptor"))(b:MtR X id r)(c:PE X o to)(d:PA X (e::es) t)(J:attributeBase o name X.env (eval o X.env)=eval o X.env:=by rfl)(U:((backTo cpos (starEach (e::es) X.env)).all (λx=>!x.1) && (backToKw cpos (keywordEach [] X.env)).all (λx=>x.1.isSome)
   && decide ((e::es).length+([]:List Keyword).length+(if ([]:List Keyword).isEmpty then 0 else 1)<30))=true:=by rfl)(R:(apos.endLine==cpos.line)=true:=by rfl)(f:starEach (e::es) X.env=(false,eval e X.env)::starEach es X.env:=by rfl)(D:(backTo cpos (starEach es X.env)).any (·.1)=false:=by rfl) :
  PE X (.Call (.Attribute o name apos) (e::es) [] cpos) (tBM X.K T r to t):=by
 intro pins s σ H Q I h;refine wpAny_Call_method_late J U R rfl (thn (c pins s σ H _ I h) λv g i=>?_);obtain⟨x,H1,Y,Z,j,k⟩:=i;obtain⟨h1,h2⟩:=z18 Y Z j;refine⟨T,id,a,S,V,h1,h2,?_⟩;have hA:=d cpos pins g σ H1 _ Y k;rw[f] at hA ⊢;refine Calls.callWith_builtin (by show(false || (backTo cpos (starEach es X.env)).any (·.1))=false;rw[D] <;> rfl) (Calls.evalArgs_plain ?_);exact thn hA λus s2 ⟨vs,H2,I2,r2,q2⟩=>b pins s2 σ H2 x vs v us Q I2 Z r2 q2
def MtM(X:Cx)(id:String)(r:V->k9->Hp->VK->Prop):Prop :=
 ∀(pins:k7) (s:Shared) (σ:St) (H:Hp) (x:V) (xs:k9) (v:Value) (us:h8) (Q:VK),Inv X pins σ H s->RelV x v->Vals xs us->r x xs H Q ->
  wpAny (model X.prog X.w) X.A (call (.builtin id) (v::us)) (EP X pins σ Q) X.xe s
def VInv:k9->h8->Prop
 | [],us=>us=[] |x::xs,us=>∃u t,us=u::t/\RelV x u/\Vals xs t
def Vals.inv(h:Vals xs us):VInv xs us:=by
 cases h with
 |nil=>exact rfl |cons r t=>exact⟨_,_,rfl,r,t⟩
def Vals.one(h:Vals [x] us):∃u,us=[u]/\RelV x u:=by
 obtain⟨u,t,e,r,q⟩:=h.inv;exact⟨u,(show t=[] from q.inv) ▸ e,r⟩
def Vals.two{y:V}(h:Vals [x,y] us):∃u v,us=[u,v]/\RelV x u/\RelV y v:=by
 obtain⟨u,t,e,r,q⟩:=h.inv;obtain⟨v,f,q⟩:=q.one;exact⟨u,v,f ▸ e,r,q⟩
def Vals.zero:∀ {us:h8},Vals [] us->us=[]
 |_,.nil=>rfl
def Vals.dropLast(h:Vals xs us):Vals xs.dropLast us.dropLast:=by
 induction h with
 |nil=>exact .nil |cons r t ih =>
   cases t with
   |nil=>exact .nil |cons q t'=>exact .cons r ih
def Vals.eraseIdx:∀ {xs:k9} {us:h8} (i:Nat),Vals xs us->Vals (xs.eraseIdx i) (us.eraseIdx i)
 |_,_,_,.nil=>.nil |_,_,0,.cons _ t=>t |_,_,i+1,.cons r t=>.cons r (Vals.eraseIdx i t)
def Vals.rep{xs:k9}{us:h8}(h:Vals xs us):∀k:Nat,Vals (List.replicate k xs).flatten (List.replicate k us).flatten
 |0=>.nil |k+1=>by
   rw[h9,h9,df,df];exact Vals.append h (Vals.rep h k)
def zvs(l:List α):l.eraseIdx (l.length-1)=l.dropLast:=by
 induction l with
 |nil=>rfl |cons a r ih =>
   cases r with
   |nil=>rfl |cons b r =>
     have e:(a::b::r).length-1=((b::r).length-1)+1:=by
      have h1:(a::b::r).length=r.length+2:=rfl;have h2:(b::r).length=r.length+1:=rfl;omega
     rw[e,List.eraseIdx_cons_succ,ih];all_goals rfl
def zre{α:Type}:∀(l:List α) (i:Nat),(l.eraseIdx i).length<=l.length
 | [],_=>b7 _ |_::_,0=>li _ |_::r,i+1=>Nat.succ_le_succ (zre r i)
def zrf(its:h8):∀(k:Nat) (D:h8),
  List.foldl (λI J=>I++J) D.toArray (List.replicate k its.toArray)=(D++(List.replicate k its).flatten).toArray
 |0,D=>by simp |k+1,D=>by
   have e:D.toArray++its.toArray=(D++its).toArray:=by simp
   have R:(D++its)++(List.replicate k its).flatten=D++(List.replicate (k+1) its).flatten:=by
    rw[h9,df,d7]
   rw[<-R,<-zrf its k (D++its),<-e,h9,List.foldl_cons]
variable{t':Nat}{l:Addr}
def Inv.lset{f:k8->k8}(I:Inv X pins σ H s)(D:H l=↑(.lst xs))(e:s.heap.get? l=some { cls:=.type "list",data:=.seq its.toArray n })(J:f its.toArray=its'.toArray)(R:Vals ys its')(S:ys.length<=sizeLine) :
  Inv X pins σ (upd H l (.lst ys)) { s with heap:=s.heap.update l (Obj.mapSeq f),toks:=t' }:=by
 have q:=PySem.IsL.update e f;rw[J] at q;refine I.write (x:=l) (e:=l) (by rw[D];exact trivial) (.inl rfl) (λY u U V=>(cz s.heap (Obj.mapSeq f) (Ne.symm U)).trans V) ⟨_,q⟩ ?_;exact⟨S,its',_,R,q⟩
def Inv.lnew(I:Inv X pins σ H s)(D:Vals ys its)(J:ys.length<=sizeLine) :
  Inv X pins σ (upd H s.heap.objs.size (.lst ys)) { s with heap:=s.heap.push { cls:=.type "list",data:=.seq its.toArray },toks:=t' } :=
 I.laid (λ_ _ q=>aw _ q) (b7 _) ⟨J,its,0,D,cy _ rfl⟩
def Inv.fresh(I:Inv X pins σ H s):H s.heap.objs.size=none:=I.hok.fresh (b7 _)
def Inv.lstM(I:Inv X pins σ H s)(D:H l=↑(.lst xs)):xs.length<=sizeLine/\∃(its:h8) (n:Nat),Vals xs its/\xs.length=its.length/\s.heap.get? l=some { cls:=.type "list",data:=.seq its.toArray n }:=by
 obtain⟨z,its,n,r,e⟩:=I.hok l _ D;exact⟨z,its,n,r,r.length,e⟩
def zt4(h:n<=sizeLine):Builtin.List.listTooLong n=false:=by
 unfold Builtin.List.listTooLong;exact decide_eq_false (by omega)
def z3n:V->k9->Hp->VK->Prop:=λx vs H Q=>∃l xs y,x=.ref l/\vs=[y]/\H l=↑(.lst xs)/\xs.length<sizeLine/\Q .non (upd H l (.lst (xs++[y])))
theorem zrg:MtM X "list.append" z3n:=by
 intro pins s σ H x vs v us Q I J R h;obtain⟨l,xs,y,rfl,rfl,D,U,q⟩:=h;cases J;obtain⟨u,rfl,S⟩:=R.one;obtain⟨z,its,n,r,V,e⟩:=I.lstM D;refine call_meets F.slot_list_append ⟨_,e,rfl⟩ F.entry_list_append (F.args_list_append_2 _ _) (PySem.list_append l its.toArray n u (by rw[bn];omega)) ⟨e,?_⟩;refine⟨.non,_,I.lset (its':=its++[u]) D e (by simp) (r.append (.cons S .nil)) ?_,rfl,q⟩;rw[au,i5];omega
def z3o:V->k9->Hp->VK->Prop:=λx vs H Q=>∃l b xs D,x=.ref l/\vs=[.ref b]/\H l=↑(.lst xs)/\H b=↑(.lst D)/\xs.length+D.length<=sizeLine/\Q .non (upd H l (.lst (xs++D)))
theorem zw3:MtM X "list.extend" z3o:=by
 intro pins s σ H x vs v us Q I U V h;obtain⟨l,b,xs,f,rfl,rfl,S,Y,g,q⟩:=h;cases U;obtain⟨u,rfl,Z⟩:=V.one;cases Z;obtain⟨z,its,n,r,i,e⟩:=I.lstM S;obtain⟨j,D,n2,a,c,d⟩:=I.lstM Y;have R:its.toArray.size+D.toArray.size<=sizeLine:=by rw[bn,bn];omega
 have J:¬(!its.toArray.isEmpty && Builtin.List.listTooLong (its.toArray.size+D.toArray.size))=true:=by
  rw[zt4 R,Bool.and_false];exact cw
 refine call_meets F.slot_list_extend ⟨_,e,rfl⟩ F.entry_list_extend (F.args_list_extend_2 _ _)
  (AutoSeq1.list_extend_list_list_0 l its.toArray n b D.toArray n2 J (by rw[bn];omega) (by omega)) ⟨e,d,?_⟩
 refine⟨.non,_,I.lset (its':=its++D) S e (by simp) (r.append a) ?_,rfl,q⟩;rw[au];omega
def rPop:V->k9->Hp->VK->Prop:=λx vs H Q=>∃l xs y,x=.ref l/\vs=[]/\H l=↑(.lst xs)/\xs[xs.length-1]?=↑y/\Q y (upd H l (.lst xs.dropLast))
theorem z2a:MtM X "list.pop" rPop:=by
 intro pins s σ H x vs v us Q I S U h;obtain⟨l,xs,y,rfl,rfl,R,V,q⟩:=h;cases S;have D:=U.zero;subst D;obtain⟨z,its,n,r,Y,e⟩:=I.lstM R;obtain⟨u,Z,a⟩:=r.get V;have J:its.toArray[its.toArray.size-1]?=↑u:=by
  show its.toArray[its.length-1]?=↑u;rw[<-Array.getElem?_toList,<-Y];exact Z
 refine call_meets F.slot_list_pop ⟨_,e,rfl⟩ F.entry_list_pop (F.args_list_pop_1 _) (MeetsSeq.list_pop_last l its.toArray n u J (by rw[bn];omega)) ⟨e,?_⟩;refine⟨y,_,I.lset (its':=its.dropLast) R e ?_ r.dropLast ?_,a,q⟩
 ·show its.toArray.eraseIdxIfInBounds (its.toArray.size-1)=its.dropLast.toArray
  rw[bn,su,zvs]
 ·rw[List.length_dropLast]
  omega
def z6u:V->k9->Hp->VK->Prop:=λx vs H Q=>∃l xs i k y,x=.ref l/\vs=[.int i]/\H l=↑(.lst xs)/\-(2 ^ 63)<=i/\i<2 ^ 63/\seqIndex? i xs.length=↑k/\xs[k]?=↑y/\Q y (upd H l (.lst (xs.eraseIdx k)))
theorem zzx:MtM X "list.pop" z6u:=by
 intro pins s σ H x vs v us Q I R S h;obtain⟨l,xs,i,k,y,rfl,rfl,J,h1,h2,U,V,q⟩:=h;cases R;obtain⟨u,rfl,Y⟩:=S.one;obtain⟨t,rfl⟩:=Y;obtain⟨z,its,n,r,Z,e⟩:=I.lstM J;obtain⟨w,a,D⟩:=r.get V;refine call_meets F.slot_list_pop ⟨_,e,rfl⟩ F.entry_list_pop (F.args_list_pop_2 _ _)
  (MeetsSeq.list_pop_at l its.toArray n i t k w (fitsIndex_both h1 h2) (by rw[bn,<-Z];exact U) (by rw[<-Array.getElem?_toList];exact a) (by rw[bn];omega)) ⟨e,?_⟩
 refine⟨y,_,I.lset (its':=its.eraseIdx k) J e ?_ (r.eraseIdx k) ?_,D,q⟩
 ·show its.toArray.eraseIdxIfInBounds k=(its.eraseIdx k).toArray
  rw[su]
 ·have:=zre xs k
  omega
def rRep:R2:=λx y H Q=>∃l k xs,x=.ref l/\y=.int k/\H l=↑(.lst xs)/\-(2 ^ 63)<=k/\k<2 ^ 63/\xs.length*k.toNat<=sizeLine /\
 ∀p,H p=none->Q (.ref p) (upd H p (.lst (List.replicate k.toNat xs).flatten))
def z3p(xs:List α)(k:Nat):(List.replicate k xs).flatten.length=k*xs.length:=by
 induction k with
 |zero=>simp |succ k ih=>rw[h9,df,au,ih,Nat.succ_mul,Nat.add_comm]
theorem z6v:OpR X (binaryOp .Mult) rRep:=by
 intro pins s σ H x y v u Q I c d h;obtain⟨l,k,xs,rfl,rfl,f,h1,h2,b,q⟩:=h;cases c;obtain⟨t,rfl⟩:=d;obtain⟨z,its,n,r,g,e⟩:=I.lstM f;have J:its.toArray.size*k.toNat<=sizeLine:=by rw[bn,<-g];exact b
 have R:¬its.toArray.size*k.toNat > (2 ^ 63-1) / 8:=by
  have:(sizeLine:Nat)<=(2 ^ 63-1) / 8:=by decide
  omega
 have S:¬(!Builtin.List.listFitsIndex k)=true:=by
  rw[fitsIndex_both h1 h2];exact cw
 have D:¬Builtin.List.listTooLong (its.toArray.size*k.toNat)=true:=by
  rw[zt4 J];exact cw
 have V:List.foldl (λY Z=>Y++Z) #[] (List.replicate (if its.toArray.isEmpty=true then 0 else k.toNat) its.toArray)=(List.replicate k.toNat its).flatten.toArray:=by
  have i:∀m:Nat,List.foldl (λY Z=>Y++Z) #[] (List.replicate m its.toArray)=(List.replicate m its).flatten.toArray:=λm=>by
   have:=zrf its m [];rw[mr] at this;exact this
  rw[i];cases its with
  |nil=>simp |cons a r'=>rw[if_neg (by simp)]
 refine wpAny_binaryOp_repeat_ref (T:="list") (U:="int") (by decide) ⟨_,e,rfl⟩ (λs'=>typeIs_int s' k t) noFill_list_mul F.fills_int_mul F.slot_int_rmul repeat_list F.slot_int_index.lookup
  (call_meets F.slot_int_rmul (typeIs_int s k t) F.entry_int_rmul (F.args_int_rmul_2 _ _) (int___rmul___int_list k t l its.toArray n)
    ⟨e,rfl,⟨_,e,rfl⟩,call_meets F.slot_list_mul ⟨_,e,rfl⟩ F.entry_list_mul (F.args_list_mul_2 _ _) (AutoListH.list___mul___list_int_3 l its.toArray n k t S R D) ⟨e,?_⟩⟩)
 rw[V];exact⟨.ref _,_,I.lnew (t':=s.toks) (r.rep k.toNat) (by rw[z3p,Nat.mul_comm];exact b),rfl,q _ I.fresh⟩
end L2
namespace Att
open PySem PySem.W PySem.Calls PyProof.Rows
variable{P:Params}{h:Heap}
def znw:∀(D:i0) (vs:h8),WellAll P h vs (D.map WData.int)->IntsAre vs D:=by
 intro D;induction D with
 |nil =>
   intro vs w;rw[cq] at w;cases w;exact .nil
 |cons n D ih =>
   intro vs w;rw[bi] at w;cases w with
   |cons a b =>
     cases a;exact .cons _ _ (ih _ b)
variable{l:OpenLaw}{n:Nat}
def zw4(b:l.most=↑n){args:List WData}{I:h8}(J:l.row.toRowW.claim.pre args=true)(V:WellAll P h I args) :
  ∃a vs D,I=[Value.ref a]/\args=[WData.list (D.map WData.int)]/\h.get? a=some { cls:=.type "list",data:=.seq vs.toArray }/\IntsAre vs D/\D.length<=n:=by
 have Y:WShape.hasAll [] args [.list .int]=true:=(pre_splitW J).1;have Z:l.pre.holds [] { args:=args }=true:=(pre_splitW J).2;obtain⟨d,r,rfl,h1,h2⟩:=hasAllW_cons Y;obtain rfl:=hasAllW_nil h2;obtain⟨xs,rfl,c⟩:=hasW_list h1;obtain⟨D,rfl⟩:=items_int c;have R:D.length<=n:=by
  unfold OpenLaw.pre at Z;have S:(WTm.not (.lt (.lit (.int (n:Int))) (.len (.arg 0)))).holds [] { args:=[.list (D.map .int)] }=true:=by
   have S:=(holds_andW Z).1;rw[b] at S;exact S
  have U:=condW_of S (w_not (w_lt w_lit (w_len_list (w_arg rfl))));rw[af] at U;refine l6 λq=>?_;have e:(n:Int)<((D.length:Nat):Int):=by omega
  first
   | (rw[decide_eq_true e] at U;exact absurd U (by decide))
   | (simp at U;omega)
 cases V with
 |cons w1 w2 =>
   cases w2;cases w1 with
   |list ho hall=>exact⟨_,_,D,rfl,rfl,ho,znw D _ hall,R⟩
def zw5(l:OpenLaw)(args:List WData):l.row.toRowW.claim.post args (.bool true) args=true :=
 postW_of (r:=l.row.toRowW) (X:=(true==true))
  (show WShape.has [] (.bool true) .bool=true by first |rfl |decide |simp[WShape.has,WShape.arms,WShape.armsAll])
  (show(WTm.eq .res (.lit (.bool true))).value [] { args:=args,res:=↑(.bool true),after:=args }=↑(.bool (true==true)) from w_eq_bool (w_res rfl) w_lit) rfl
def attach_call{q:Program}{I:h7}{k:(Str->ia)->Heap->Prop}{m:World->Heap->Prop}{d:DefRec}(u:l.most=↑n)(c:d.params.defaults=[])(call:∀(w:World) (s₀ D:Shared) (mg e:Str->ia) (S:Addr) (o:Obj) (g cd J:Value) (a:Addr) (vs:h8) (b:i0),
   Ground q I [] k w s₀ mg e D.heap->m w D.heap ->
   D.heap.get? S=↑o->o.data=.func (docDef d.name d.params d.body d.scope g cd J)->D.heap.CodeRec cd d.name->mg d.name=↑(.ref S) ->
   D.heap.get? a=some { cls:=.type "list",data:=.seq vs.toArray }->IntsAre vs b->b.length<=n->D.gens=#[] ->
   codeAny (model l.prog w) callerA (.call (.ref S) ⟨[.ref a],[]⟩) (λr s'=>r=.ok (.ret (.bool true))/\OldK D.heap s'.heap/\s'.os=D.os/\AllBare s'.gens) D) :
  WalkO q I k m l.row.toRowW d [] (λf vs=>PySem.call f vs):=by
 intro w s₀ D mg e G Y S o g cd J v kV x hd h p i y args s as U t z j A;obtain rfl:v=.none:=Dflts.none p c;obtain rfl:kV=.none:=Dflts.noKw p;obtain⟨a,vs,b,rfl,rfl,V,R,Z⟩:=zw4 u U j;refine enter_call (codeAny_mono (call w s₀ D mg e S o g cd J a vs b G Y x (fd_plain hd) h i V R Z y) λr s' B=>?_);obtain⟨rfl,h2,C,E⟩:=B;exact⟨.inl ⟨.bool true,.bool true,[],rfl,λ_=>rfl,.bool true,zw5 l _,λ_=>⟨List.Pairwise.nil,λ_ F=>(nomatch F)⟩⟩,h2,C,E⟩
end Att
namespace L2
open PySem PySem.Spec PyProof.Rows
def zrh:∀ {vs:h8} {D:i0},IntsAre vs D->Vals (D.map V.int) vs
 |_,_,.nil=>.nil |_,_,.cons n t h=>.cons ⟨t,rfl⟩ (zrh h)
def Only(H:Hp):Prop:=∀b,H b=none\/∃o xs,H b=↑(.frz o (.lst xs))
variable{K:k6}{k:Nat}{a:Addr}{x:Str}{vs:h8}
def zzy{P:Program}{w:World}{mg A:Str->ia}{CX:CXT}{B:Addr}{fd:FuncData}{sp:Sp}{D:Shared}{Y:i0}(M:K.In D.heap)(Z:D.heap.Ns mainGlobals mg)(J:D.heap.Ns builtinsNs A)(C:∀x:Str,x ≠ "__name__"->A x=bootBuiltins x)(c:D.heap.NoLimit)(W:D.gens=#[])(y:D.heap.get? a=some { cls:=.type "list",data:=.seq vs.toArray })(hi:IntsAre vs Y)(N:Y.length<=sizeLine)(X:Room k callerA)(F:∀base:Heap,K.In base->base.Ns mainGlobals mg->FnOk P w K mg base CX k B fd [x] sp)(U:∀(s:Shared) (u:Value),BindsTo s fd ⟨[u],[]⟩ [(x,u)])(E:∀H:Hp,Only H->SqL K H a (Y.map V.int)->sp [.ref a] H (λv _=>v=.bl true) λ_ _ _=>False)(G:∀H e s',CX [] H D (λ_ _ _=>False) e s'->False) :
  codeAny (model P w) callerA (.call (.ref B) ⟨[.ref a],[]⟩) (λr s'=>r=.ok (.ret (.bool true))/\OldK D.heap s'.heap/\s'.os=D.os/\AllBare s'.gens) D:=by
 have O:=zrh hi;have f:=hi.length;have S:∀H:Hp,Only H->SqL K H a (Y.map V.int)->HOk P w H D.heap->(∀b,H b≠none->b=a)->(H a≠none->K.lookup a=none) ->
   codeAny (model P w) callerA (.call (.ref B) ⟨[.ref a],[]⟩) (λr s'=>r=.ok (.ret (.bool true))/\OldK D.heap s'.heap/\s'.os=D.os/\AllBare s'.gens) D:=by
  intro H Q hS g hA hK;have I:∀ {b:Addr} {o:Obj},D.heap.get? b=↑o->H b=none->(hidT D.heap H).get? b=↑o:=λe n=>zzl e n;have L:∀ {b:Addr} {o:Obj} {es:Array DictEntry} {i:Nat},D.heap.get? b=↑o->o.data=.dict es i->H b=none:=λ{b o es i} e d=>by
   cases q:H b with
   |none=>rfl |some u =>
     have e':b=a:=hA b (by rw[q];simp);subst e';rw[y] at e;cases e;have d':Data.seq vs.toArray _=Data.dict es i:=d;cases d'
  have R:∀ {b:Addr} {m:Str->ia},D.heap.Ns b m->(hidT D.heap H).Ns b m:=λ{b m} ⟨o,es,i,e,d,r⟩=>⟨o,es,i,I e (L e d),d,r⟩;have j:K.In (hidT D.heap H):=λb o e=>I (M b o e) (by
   cases q:H b with
   |none=>rfl |some u =>
     have e':b=a:=hA b (by rw[q];simp);subst e';rw[hK (by rw[q];simp)] at e;cases e)
  have hM:Mod K mg (hidT D.heap H):=⟨j,R Z,⟨A,R J,C⟩,let ⟨mc,h1,h2⟩:=c;⟨mc,R h1,h2⟩⟩;have e0:Env0 P w K mg (hidT D.heap H) callerA [] D H:=⟨rfl,hM,λb o e=>z25 e,Nat.le_of_eq (zwg _ _),trivial,λb J=>absurd (show b∈([]:ic) from J) (by simp),g,.of_eq W⟩;refine codeAny_mono ((F _ j (R Z)).run callerA [] D H ⟨[.ref a],[]⟩ [.ref a] [.ref a] _ _ X e0 (U D (.ref a)) (.cons rfl .nil) (E H Q hS)) λr s' h=>?_;cases r with
  |error e=>exact(G H e s' h).elim |ok fl =>
    cases fl with
    |next=>exact False.elim h |brk=>exact False.elim h |cont=>exact False.elim h |ret u =>
      obtain⟨v,H',os,l,un,p,r',q⟩:=h;have q':v=.bl true:=q;subst q';obtain rfl:u=Value.bool true:=r';refine⟨rfl,OldK.of_keep λb o e=>?_,os,l⟩;cases q:H b with
      |none=>exact un.keep b o e q (by intro z;exact absurd (show b∈([]:ic) from z) (by simp)) (by simp)
      |some u =>
        rcases Q b with z | ⟨ob,xs,z⟩
        ·rw[q] at z;cases z
        ·have z2:=un.frzs b ob _ z
         obtain⟨T,_⟩:=g b _ z;obtain⟨e2,_⟩:=p b _ z2;rw[e] at T;cases T;exact e2
 cases hk:K.lookup a with
 |some o =>
   have e:=M a o hk;rw[y] at e;cases e;refine S (λ_=>none) (λ_=>.inl rfl) (.inr ⟨_,vs.toArray,_,hk,rfl,rfl,rfl,by rw[bn,f];exact N,by simpa using O⟩) (λb u z=>by have t:(none:Option HO)=↑u:=z;cases t) (λb z=>absurd rfl z) λz=>absurd rfl z
 |none =>
   refine S (λb=>if b=a then ↑(.frz { cls:=.type "list",data:=.seq vs.toArray } (.lst (Y.map V.int))) else none) (λb=>?_) (.inl (.inr ⟨{ cls:=.type "list",data:=.seq vs.toArray },if_pos rfl⟩)) (λb u z=>?_) (λb z=>?_) λ_=>hk
   ·by_cases J:b=a
    ·exact .inr ⟨_,_,if_pos J⟩
    ·exact .inl (if_neg J)
   ·by_cases J:b=a
    ·have t:=(if_pos J).symm.trans z
     cases t;subst J;exact⟨y,by rw[af];exact N,vs,_,O,y⟩
    ·have t:=(if_neg J).symm.trans z
     cases t
   ·by_cases J:b=a
    ·exact J
    ·exact absurd (if_neg J) z
variable{l:Addr}{n:Nat}{q:FT}{d:D}
def z3q{l:PySem.W.OpenLaw}{q:Program}{I:h7}{y:(Str->ia)->Heap->Prop}{r:World->Heap->Prop}{d:DefRec}{K:Params->k6}{CX:World->CXT}{sp:World->Sp}(z:l.most=↑n)(c:n<=sizeLine)(i:d.params.defaults=[])(A:Room k callerA)(B:∀(w:World) (h:Heap),r w h->(K w.params).In h)(F:∀(w:World) (mg:Str->ia) (U:Addr) (h:Heap),(K w.params).In h->h.Ns mainGlobals mg->mg d.name=↑(.ref U) ->
   ∃fd:FuncData,(∀(s:Shared) (u:Value),BindsTo s fd ⟨[u],[]⟩ [(x,u)]) /\
    ∀base:Heap,(K w.params).In base->base.Ns mainGlobals mg->FnOk l.prog w (K w.params) mg base (CX w) k U fd [x] (sp w))(j:∀(w:World) (H:Hp) (a:Addr) (Z:i0),Z.length<=n->Only H->SqL (K w.params) H a (Z.map V.int)->sp w [.ref a] H (λv _=>v=.bl true) λ_ _ _=>False)(m:∀(w:World) (H:Hp) (s:Shared) (e:Value) (s':Shared),CX w [] H s (λ_ _ _=>False) e s'->False) :
  PySem.W.WalkO q I y r l.row.toRowW d [] (λf vs=>PySem.call f vs):=by
 refine Att.attach_call z i λw s₀ R mg Q U o X cd C a vs Z G Y ho hd E p S J D L=>?_;have t:=B w _ Y;obtain⟨fd,M,N⟩:=F w mg U _ t G.T.g p;exact zzy t G.T.g G.T.b G.T.builtins G.T.nolimit L S J (cr D c) A N M (λH O P=>j w H a Z D O P) λH e s'=>m w H R e s'
def vm(s:Stmt):Arguments:=match s with
 | .FunctionDef _ a _ _ _ _ _ _ _ _=>a |_=>{ posonlyargs:=[],args:=[],vararg:=none,kwonlyargs:=[],kw_defaults:=[],kwarg:=none,defaults:=[] }
def mh(s:Stmt):List Stmt:=match s with
 | .FunctionDef _ _ b _ _ _ _ _ _ _=>b |_=>[]
def gl(s:Stmt):Scope:=match s with
 | .FunctionDef _ _ _ _ _ _ sc _ _ _=>sc |_=>{ kind:=.function,names:=[],isGenerator:=false,isCoroutine:=false }
abbrev CX0:CXT:=λ_ _ _ _ _ _=>False
abbrev E0:XK:=λ_ _ _=>False
variable{X:Cx}
def zzz:zwz CX0 X E0:=λ_ _ _ _ _ _ _ h=>h.elim
structure Fun (K:k6) (x qual:Str) (st:Stmt) (f:Addr) (fd:FuncData):Prop where
 ex:∃(oc:Value) (od:Option Addr) (kV doc pm:Value) (an:Option Addr) (cdv ct:Value) (osl:Array ia),
  fd=PySem.W.fnOf x qual (vm st) (mh st) (gl st) .none kV doc pm an cdv ct/\K.lookup f=↑⟨oc,od,.func fd,osl⟩/\PySem.W.codeIn K cdv qual=true
 kp:PySem.W.keepIn K (.ref f)=true
variable{f:FE}
def zw6{qual:Str}{st:Stmt}{f:Addr}{oc:Value}{od an:Option Addr}{osl:Array ia}{kV D I cdv ct:Value}(l:K.lookup f=↑⟨oc,od,.func (PySem.W.fnOf x qual (vm st) (mh st) (gl st) .none kV D I an cdv ct),osl⟩)(c:PySem.W.codeIn K cdv qual=true)(k:PySem.W.keepIn K (.ref f)=true):Fun K x qual st f (PySem.W.fnOf x qual (vm st) (mh st) (gl st) .none kV D I an cdv ct):=⟨⟨oc,od,kV,D,I,an,cdv,ct,osl,rfl,l,c⟩,k⟩
variable{A:Around}
def z9s(D:Room k A):A.units+1<cLine:=ky (Nat.add_le_add_left (by decide:1<=64) _) D.units
def Same(H H':Hp):Prop:=∀b o,H b=↑o->H' b=↑o
def Same.refl(H:Hp):Same H H:=λ_ _ h=>h
variable{H H1 H2:Hp}
def Same.trans(a:Same H H1)(b:Same H1 H2):Same H H2:=λc o h=>b c o (a c o h)
variable{H':Hp}
def Same.free(e:Same H H')(h:H' l=Option.none):H l=Option.none:=by
 cases q:H l with
 |none=>rfl |some o =>
   rw[e l o q] at h;cases h
def zk1{env:Env}:∀(names:List (Str×NameKind)) (D:List (Str×Addr)),
  (∀y∈names,y.2=.free->∃c,env.cells.lookup y.1=↑c)->(∀y c,D.lookup y=↑c->env.cells.lookup y=↑c) ->
  ∃cl,(forIn names D λ(x:Str×NameKind) (cs:List (Str×Addr))=>if (x.2==NameKind.free)=true then(do let c <-cellOf env x.1;pure (ForInStep.yield ((x.1,c)::cs)):Sem _) else pure (ForInStep.yield cs))=pure cl /\
   (∀y c,cl.lookup y=↑c->env.cells.lookup y=↑c)/\(∀y c,D.lookup y=↑c->∃J,cl.lookup y=↑J)/\∀y∈names,y.2=.free->∃c,cl.lookup y.1=↑c
 | [],D,_,ha=>⟨D,rfl,ha,λy c e=>⟨c,e⟩,λ_ h=>nomatch h⟩ | (n,k)::r,D,hn,ha=>by
   by_cases S:k=.free
   ·subst S
    obtain⟨c,V⟩:=hn (n,.free) b6 rfl;obtain⟨cl,e,h1,h2,U⟩:=zk1 r ((n,c)::D) (λy hy=>hn y (bc _ hy)) (λy J e=>by
     rw[db] at e;cases hq:y==n with
     |true=>rw[hq] at e;cases e;rw[eq_of_beq hq];exact V
     |false=>rw[hq] at e;exact ha y J e)
    have I:List.lookup n ((n,c)::D)=↑c:=by simp[db]
    refine⟨cl,?_,h1,λy J e'=>?_,λy hy R=>?_⟩
    ·rw[List.forIn_cons]
     have Y:cellOf env n=pure c:=by unfold cellOf;rw[V]
     simp only[beq_self_eq_true,if_true,Y,pure_bind];exact e
    ·cases hq:y==n with
     |true=>rw[eq_of_beq hq];exact h2 n c I |false=>exact h2 y J (by rw[db,hq];exact e')
    ·rcases ce.mp hy with rfl |hy
     ·exact h2 n c I
     ·exact U y hy R
   ·obtain⟨cl,e,h1,h2,U⟩:=zk1 r D (λy hy=>hn y (bc _ hy)) ha
    refine⟨cl,?_,h1,h2,λy hy R=>?_⟩
    ·rw[List.forIn_cons]
     have Z:(k==NameKind.free)=false:=by cases k <;> first |rfl |exact absurd rfl S
     simp only[Z,bf,if_false,pure_bind];exact e
    ·rcases ce.mp hy with rfl |hy
     ·exact absurd R S
     ·exact U y hy R
variable{sc:Scope}{env:DE0}
def zo5{env:Env}(h:∀y∈sc.names,y.2=.free->∃c,env.cells.lookup y.1=↑c) :
  ∃cl,closureFor sc env=pure cl/\(∀y c,cl.lookup y=↑c->env.cells.lookup y=↑c)/\∀y∈sc.names,y.2=.free->∃c,cl.lookup y.1=↑c:=by
 obtain⟨cl,e,h1,_,D⟩:=zk1 (env:=env) sc.names [] h (λy c e=>by simp at e);refine⟨cl,?_,h1,D⟩;unfold closureFor;rw[show(pure cl:Sem _)=(pure cl >>= λcs=>pure cs) by rw[pure_bind],<-e]
def zee{env:Env}:∀ {names:List (Str×NameKind)} {x:Str} {k:NameKind},
  (names.map λ(n,k)=>if (k==NameKind.free && env.scope.kind==.function && env.kindOf n==some .cell) then(n,NameKind.cell) else(n,k)).lookup x=↑k ->
  names.lookup x=↑k\/(names.lookup x=some .free/\k=.cell)
 | (n,k0)::r,x,k,h=>by
   have I:=@zee env r x k;have h:List.lookup x ((if (k0==NameKind.free && env.scope.kind==.function && env.kindOf n==some .cell)=true then(n,NameKind.cell) else(n,k0))::_)=_:=h;cases hx:x==n with
   |true =>
     by_cases D:(k0==NameKind.free && env.scope.kind==.function && env.kindOf n==some .cell)=true
     ·rw[if_pos D] at h
      simp only[db,hx] at h ⊢;simp only[eh,beq_iff_eq] at D;cases h;exact .inr ⟨by rw[D.1.1],rfl⟩
     ·rw[if_neg D] at h
      simp only[db,hx] at h ⊢;exact .inl h
   |false =>
     by_cases D:(k0==NameKind.free && env.scope.kind==.function && env.kindOf n==some .cell)=true
     ·rw[if_pos D] at h
      simp only[db,hx] at h ⊢;exact I h
     ·rw[if_neg D] at h
      simp only[db,hx] at h ⊢;exact I h
def zcy{env:Env}:∀ {names:List (Str×NameKind)} {x:Str},names.lookup x=some .free ->
  (names.map λ(n,k)=>if (k==NameKind.free && env.scope.kind==.function && env.kindOf n==some .cell) then(n,NameKind.cell) else(n,k)).lookup x=some .cell \/
  (names.map λ(n,k)=>if (k==NameKind.free && env.scope.kind==.function && env.kindOf n==some .cell) then(n,NameKind.cell) else(n,k)).lookup x=some .free
 | (n,k0)::r,x,h=>by
   have I:=@zcy env r x;show List.lookup x ((if (k0==NameKind.free && env.scope.kind==.function && env.kindOf n==some .cell)=true then(n,NameKind.cell) else(n,k0))::_)=_\/List.lookup x ((if (k0==NameKind.free && env.scope.kind==.function && env.kindOf n==some .cell)=true then(n,NameKind.cell) else(n,k0))::_)=_;cases hx:x==n with
   |true =>
     simp only[db,hx] at h;cases h;by_cases D:(NameKind.free==NameKind.free && env.scope.kind==.function && env.kindOf n==some .cell)=true
     ·rw[if_pos D];simp only[db,hx];exact .inl trivial
     ·rw[if_neg D];simp only[db,hx];exact .inr trivial
   |false =>
     simp only[db,hx] at h;by_cases D:(k0==NameKind.free && env.scope.kind==.function && env.kindOf n==some .cell)=true
     ·rw[if_pos D];simp only[db,hx];exact I h
     ·rw[if_neg D];simp only[db,hx];exact I h
def jd(X:Cx)(x:Str)(N':h7)(sc:Scope)(cl:List (Str×Addr))(C:Addr)(s₂:Shared)(H₂:Hp)(fp:ic):Cx :=
 { X with N:=x::N',s₀:=s₂,H₀:=H₂,env:=compEnvC sc cl C X.env,outer:=X.stack,stack:=X.stack,ex:=fp,fn:=λ_=>false,pn:=[],xe:=λ_ _=>False }
def PIfs(X:Cx)(ifs:kb)(tt:TT):Prop :=
 ∀(pins:k7) (s:Shared) (σ:St) (H:Hp) (Q:Bool->Hp->Prop),Inv X pins σ H s->tt σ H Q ->
  wpAny (model X.prog X.w) X.A (forIn ifs true λc r=>if r=true then do let ok <-isTrue c X.env (eval c X.env);pure (ForInStep.yield ok) else pure (ForInStep.yield r)) (TP X pins σ Q) X.xe s
def tYes:TT:=λ_ H Q=>Q true H
def zz0:PIfs X [] tYes:=λ_ _ _ H _ I h=>wpAny_tests_nil ⟨H,I,h⟩
variable{c:Expr}
def zz1{tc:TT}(h:PT X c tc):PIfs X [c] tc:=λpins s σ H Q I q=>wpAny_tests_one (h pins s σ H Q I q)
def yv(wi:TI)(ix:ik)(tt:TT)(te:TE):TE:=λσ H Q=>wi σ H λJ H1=>∃W:Nat->Nat->Hp->k9->Prop,(∃m,W 0 m H1 [])/\∀i m H ys,W i m H ys ->
 (J.stop i H/\ys.length<=sizeLine/\∀D,H D=none->Q (.ref D) (upd H D (.lst ys))) \/
 (J.go i H/\∀x H',J.yld i H x H'->tt (↑x::ix.map (λj=>σ.getD j none)) H' λb H2 =>
   if b=true then te (↑x::ix.map (λj=>σ.getD j none)) H2 λv R=>ys.length<sizeLine/\∃I,I<m/\W (i+1) I R (ys++[v]) else ∃I,I<m/\W (i+1) I H2 ys)
abbrev lobj(ys:h8):Obj:={ cls:=.type "list",data:=.seq ys.toArray ys.length }
variable{pins:k7}{σ:St}{s2:Shared}{fp:ic}{cl:List (Str×Addr)}{h₁:Heap}{m₁:Str->ia}{ix:ik}{N':h7}
def zw7{tk:Nat}(n:N'=ix.map λi=>X.N.getD i ("" : Str))(H:sc.kind=.function)(U:∀y∈sc.names,y.2≠.cell)(V:∀y∈sc.names,y.2=.free->X.env.kindOf y.1=some .cell\/X.env.kindOf y.1=some .free)(r:∀y∈N',sc.names.lookup y=some .free)(h1:∀y c,cl.lookup y=↑c->X.env.cells.lookup y=↑c)(G:∀y∈sc.names,y.2=.free->∃c,cl.lookup y.1=↑c)(I:Inv X pins σ H2 s2)(l:∀b∈fp,FpOk X pins H2 b)(s:∀b∈fp,∃o,s2.heap.get? b=↑o)(S:∀b o,s2.heap.get? b=↑o->h₁.get? b=↑o)(t:h₁.Ns (s2.heap.objs.size+1) m₁)(K:h₁.get? s2.heap.objs.size=↑(lobj [])) :
  Inv (jd X x N' sc cl (s2.heap.objs.size+1) s2 H2 fp) [(s2.heap.objs.size,lobj [])] (none::ix.map (λj=>σ.getD j none)) H2 { s2 with heap:=h₁,toks:=tk }:=by
 have A:∀b∈fp,b<s2.heap.objs.size:=λb R=>by obtain⟨o,e⟩:=s b R;exact bu e
 have Z:∀b,s2.heap.objs.size<=b->b∉frs X.stack:=λb R z=>by
  rcases ce.mp (I.stkSub b z) with e |z
  ·exact absurd (bq I.lt (e ▸ R)) (f9 _)
  ·exact I.nofs R z
 refine⟨⟨I.ok.mod,H,I.ok.glob,I.ok.blt,li _,λy z c J D=>I.ok.inj y z c (h1 _ _ J) (h1 _ _ D),λy L=>?_,λy c z _=>(by cases z),I.ok.hd,I.ok.frames,.inl rfl,λb R=>⟨?_,λy c e=>?_⟩,I.bs,cr I.ok.bsz I.sz,λb o e R=>?_,λb R z=>?_,I.stack,I.stkFree⟩,
  rfl,I.bare,Un.kept S,⟨m₁,t,λi y v J D W=>?_⟩,λy c e=>?_,I.hok.fresh (li _),λy c e=>I.freeC y c (h1 y c e),λp B=>?_,I.hok.kept S,?_⟩
 ·have C:(relabel sc X.env).names.lookup y=some .cell\/(relabel sc X.env).names.lookup y=some .free:=L
  have M:sc.names.lookup y=some .free:=by
   rcases C with q |q
   ·rcases zee q with q | ⟨q,_⟩
    ·exact absurd rfl (U _ (fc q))
    ·exact q
   ·rcases zee q with q | ⟨_,q⟩
    ·exact q
    ·cases q
  exact G (y,.free) (fc M) rfl
 ·exact cj (gv (A b R))
 ·exact(l b R).2.2.2.2.1 y c (h1 y c e)
 ·rcases(l b R).2.2.2.1 with z |z
  ·exact I.ok.noex b o e z
  ·exact absurd (bq (bu e) (cr I.ok.bsz z)) (f9 _)
 ·have z:b∈frs X.stack:=z
  rcases ce.mp (I.stkSub b z) with e |z
  ·exact(l b R).2.1 e
  ·exact(l b R).2.2.1 z
 ·cases i with
  |zero=>simp at D |succ j =>
    have J:N'[j]?=↑y:=by simpa[jd] using J
    have D:(ix.map (λj=>σ.getD j none))[j]?=↑↑v:=by simpa using D
    rw[n,bw] at J;rw[bw] at D;cases q:ix[j]? with
    |none=>rw[q] at J;cases J
    |some k =>
      rw[q] at J D;have J:X.N.getD k "" = y:=bz J;have D:σ.getD k none=↑v:=bz D;have a:σ[k]?=↑↑v:=by
       rw[bx] at D;cases q2:σ[k]? with
       |none=>rw[q2] at D;cases D
       |some z=>rw[q2] at D;rw[show z=↑v from D]
      have d:k<X.N.length:=by rw[<-I.len];exact(ak.mp a).1
      have E:X.N[k]?=↑y:=by
       rw[bx,av d] at J;rw[av d];exact congrArg some J
      have F:y∈N':=by
       rw[n,<-J];exact gc.mpr ⟨k,az q,rfl⟩
      have Y:=r y F;have f:=V (y,.free) (fc Y) rfl;have g:Vis X.env.scope y:=by
       rcases f with z |z
       ·exact .inr (.inl z)
       ·exact .inr (.inr z)
      obtain⟨m,hn,O⟩:=I.loc;obtain⟨u,P,Q⟩:=O k y v E a g;refine⟨u,P,.inr ⟨?_,?_⟩⟩
      ·exact zcy Y
      ·rcases Q with⟨z,_⟩ | ⟨_,c,hc,hcv⟩
       ·rcases f with w |w <;> rw[show X.env.kindOf y=_ from w] at z <;> cases z
       ·obtain⟨T,h⟩:=G (y,.free) (fc Y) rfl
        have:=h1 y T h;rw[hc] at this;cases this;exact⟨c,h,hcv.keeps S⟩
 ·obtain⟨v,q⟩:=I.cell y c (h1 y c e)
  exact⟨v,q.keeps S⟩
 ·have B:p∈[(s2.heap.objs.size,lobj [])]:=B
  rw[de.mp B];exact⟨K,I.hok.fresh (b7 _),cj (fx _),Z _ (b7 _),λv z=>by cases z⟩
 ·simp[jd,n]
variable{ys:k9}{y:Str}
def Vals.snoc{y:V}{u:Value}(h:Vals ys vs)(r:RelV y u):Vals (ys++[y]) (vs++[u]):=Vals.append h (.cons r .nil)
def zw8(vs:h8)(u:Value):({ cls:=.type "list",data:=.seq (vs.toArray.push u) (vs.length+1) }:Obj)=lobj (vs++[u]):=LCg.lst_snoc vs u
def zt5{d:St}{U:Shared}{h':Heap}(I:Inv X pins σ H2 s2)(i:∀b∈fp,FpOk X pins H2 b)(j:∀b∈fp,∃o,s2.heap.get? b=↑o)(J:Inv (jd X x N' sc cl (s2.heap.objs.size+1) s2 H2 fp) [(s2.heap.objs.size,lobj vs)] d H' U)(k:Vals ys vs)(l:ys.length<=sizeLine)(Z:Heap.SameBut (s2.heap.objs.size+1) U.heap h') :
  Inv X pins σ (upd H' s2.heap.objs.size (.lst ys)) { U with heap:=h' }:=by
 have h:=J.pin (s2.heap.objs.size,lobj vs) (cf _ b6);have V:H' s2.heap.objs.size=none:=h.2.1;have Y:H' (s2.heap.objs.size+1)=none:=J.free;have R:Un (frs X.stack) fp H2 H' s2.heap U.heap:=J.base;have a:∀b o,s2.heap.get? b=↑o->b≠s2.heap.objs.size/\b≠s2.heap.objs.size+1:=λb o e=>by
  have:=bu e;exact⟨cj this,cj (gv this)⟩
 have f2:∀b,s2.heap.objs.size<=b->H2 b=none:=λb D=>I.hok.fresh D;have f:∀b o,H2 b=↑o->b≠s2.heap.objs.size:=λb o e z=>by rw[z,f2 _ (b7 _)] at e;cases e
 have m:Un (frs X.stack) fp H2 (upd H' s2.heap.objs.size (.lst ys)) s2.heap h':=by
  refine⟨λb o e n D S=>(Z.2 b (a b o e).2).trans (R.keep b o e n D S),λb o e n D S=>?_,λb o e n S=>?_,λb o e S=>?_,λb xs e=>?_,λb o u e=>?_,λb ps e=>?_⟩
  ·obtain⟨sl,q⟩:=R.slot b o e n D S
   exact⟨sl,(Z.2 b (a b o e).2).trans q⟩
  ·rw[ii (a b o e).1];exact R.free b o e n S
  ·obtain⟨o',q⟩:=R.there b o e S
   exact⟨o',(Z.2 b (a b o e).2).trans q⟩
  ·rw[ii (f b _ e)];exact R.tups b xs e
  ·rw[ii (f b _ e)];exact R.frzs b o u e
  ·rw[ii (f b _ e)];exact R.tbls b ps e
 have kk:∀b u,b≠s2.heap.objs.size+1->U.heap.get? b=↑u->h'.get? b=↑u:=λb u D q=>(Z.2 b D).trans q;have g:HOk X.prog X.w (upd H' s2.heap.objs.size (.lst ys)) h':=λb u e=>by
  by_cases D:b=s2.heap.objs.size
  ·subst D
   rw[kx] at e;cases e;exact⟨l,vs,vs.length,k,kk _ _ (cj (fx _)) h.1⟩
  ·rw[ii D] at e
   have p:b≠s2.heap.objs.size+1:=λz=>by rw[z,Y] at e;cases e
   refine(J.hok b u e).stay (λc v hc q=>kk c v ?_ q) (λc q=>?_) λc xs q=>?_
   ·rcases hc with rfl |hc
    ·exact p
    ·intro z;rw[z,Y] at hc;cases hc
   ·rw[ii (λz=>by rw[z,V] at q;cases q)];exact q
   ·rw[ii (λz=>by rw[z,V] at q;cases q)];exact q
 refine I.call' (s':={ U with heap:=h' }) (ch:=fp) J.os m g J.bare λb D=>?_;obtain⟨_,r,_,s,t,y⟩:=i b D;exact⟨s,r,t,y⟩
variable{Q:Unit->Shared->Prop}{Cm:Cx->Prop}{px pos:Pos}{iter elt:Expr}{ifs:kb}{tt:TT}{te:TE}
theorem zri{it:Addr}{F:Nat->Heap->Prop}{J:It}{Q:VK}{R:Result->Shared->Prop}{m0:Nat}{W:Nat->Nat->Hp->k9->Prop}(hc:∀cl C s₂ H₂ fp pins σ,Inv X pins σ H₂ s₂->(∀b∈fp,FpOk X pins H₂ b)->Cm (jd X x N' sc cl C s₂ H₂ fp))(a4:∀cl C s₂ H₂ fp,Cm (jd X x N' sc cl C s₂ H₂ fp)->PIfs (jd X x N' sc cl C s₂ H₂ fp) ifs tt)(a5:∀cl C s₂ H₂ fp,Cm (jd X x N' sc cl C s₂ H₂ fp)->PE (jd X x N' sc cl C s₂ H₂ fp) elt te)(hN:N'=ix.map λi=>X.N.getD i ("" : Str))(a6:(x::N').Nodup)(hk:sc.kind=.function)(hx:sc.names.lookup x=some .local)(G:∀y∈sc.names,y.2≠.cell)(a3:∀y∈sc.names,y.2=.local->sc.names.lookup y.1=some .local)(L:∀y∈sc.names,y.2=.free->X.env.kindOf y.1=some .cell\/X.env.kindOf y.1=some .free)(a7:∀y∈N',sc.names.lookup y=some .free)(h1:∀y c,cl.lookup y=↑c->X.env.cells.lookup y=↑c)(h3:∀y∈sc.names,y.2=.free->∃c,cl.lookup y.1=↑c)(f:Inv X pins σ H2 s2)(T:xt Cm X.prog X.w X.K (.Name x px) J fp it F)(aa:F 0 s2.heap)(f2:∀b∈fp,FpOk X pins H2 b)(w0:W 0 m0 H2 [])(turn:∀i m H ys,W i m H ys ->
   (J.stop i H/\ys.length<=sizeLine/\∀D,H D=none->Q (.ref D) (upd H D (.lst ys))) \/
   (J.go i H/\∀x H',J.yld i H x H'->tt (↑x::ix.map (λj=>σ.getD j none)) H' λb H2 =>
     if b=true then te (↑x::ix.map (λj=>σ.getD j none)) H2 λv H3=>ys.length<sizeLine/\∃g,g<m/\W (i+1) g H3 (ys++[v]) else ∃g,g<m/\W (i+1) g H2 ys))(ab:∀b o,s2.heap.get? b=↑o->h₁.get? b=↑o)(h:h₁.Ns (s2.heap.objs.size+1) m₁)(ag:h₁.get? s2.heap.objs.size=↑(lobj []))(hR:∀P t ys vs k,Inv (jd X x N' sc cl (s2.heap.objs.size+1) s2 H2 fp) [(s2.heap.objs.size,lobj vs)] k t P->Vals ys vs->ys.length<=sizeLine->(∀D,t D=none->Q (.ref D) (upd t D (.lst ys)))->R (.ok .next) P) :
  codeAny (model X.prog X.w) X.A (.compStart (.ListComp elt [⟨.Name x px,iter,ifs,0⟩] sc pos) 0 (.ref it) (.ref s2.heap.objs.size) (compEnvC sc cl (s2.heap.objs.size+1) X.env)) R { s2 with heap:=h₁,toks:=s2.toks+([]:List (Str×Value)).length }:=by
 have ai:∀b∈fp,∃o,s2.heap.get? b=↑o:=λb I=>by obtain⟨o,e,_⟩:=T.obj _ _ aa b I;exact⟨o,e⟩
 have M:∀b∈fp,b<s2.heap.objs.size:=λb I=>by obtain⟨o,e⟩:=ai b I;exact bu e
 have I3:=zw7 (x:=x) (tk:=s2.toks+([]:List (Str×Value)).length) hN hk G L a7 h1 h3 f f2 ai ab h ag;have al:F 0 h₁:=T.keep _ _ _ aa λb I o e=>ab b o e;generalize U:jd X x N' sc cl (s2.heap.objs.size+1) s2 H2 fp=X' at I3;have eP:X'.prog=X.prog:=by rw[<-U];rfl
 have eW:X'.w=X.w:=by rw[<-U];rfl
 have eK:X'.K=X.K:=by rw[<-U];rfl
 have eA:X'.A=X.A:=by rw[<-U];rfl
 have B:X'.env=compEnvC sc cl (s2.heap.objs.size+1) X.env:=by rw[<-U];rfl
 have eC:Cm X':=by rw[<-U];exact hc _ _ _ _ _ _ _ f f2
 have an:X'.pn=[]:=by rw[<-U];rfl
 have ap:X'.xe=λ_ _=>False:=by rw[<-U];rfl
 have ar:X'.fs=frs X.stack:=by rw[<-U];rfl
 have a8:X'.ex=fp:=by rw[<-U];rfl
 have eN:X'.N=x::N':=by rw[<-U];rfl
 have eS:X'.s₀=s2:=by rw[<-U];rfl
 have a9:∀b∈fp,b∉frs X.stack:=λb I z=>by
  rcases ce.mp (f.stkSub b z) with e |z
  ·exact(f2 b I).2.1 e
  ·exact(f2 b I).2.2.1 z
 have a0:s2.heap.objs.size∉frs X.stack:=λz=>by
  rcases ce.mp (f.stkSub _ z) with e |z
  ·exact absurd (e ▸ f.lt) (f9 _)
  ·exact f.nofs (b7 _) z
 have Z:∀ {H':Hp} {vs:h8},(∀b∈fp,H' b=none)->∀b∈fp,FpOk X' [(s2.heap.objs.size,lobj vs)] H' b:=λ{H' vs} hn b I=>by
  refine⟨hn b I,?_,?_,.inl (by rw[a8];exact I),λy c e=>?_,λp l=>?_⟩
  ·rw[B];exact cj (gv (M b I))
  ·rw[ar];exact a9 b I
  ·rw[B] at e;exact(f2 b I).2.2.2.2.1 y c (h1 y c e)
  ·rw[an] at l
   rw[de.mp (show p∈[(s2.heap.objs.size,lobj vs)] from l)];exact mj (M b I)
 have loop:∀S:Shared,S={ s2 with heap:=h₁,toks:=s2.toks+([]:List (Str×Value)).length } ->
   codeAny (model X.prog X.w) X.A (.compLoop (.ListComp elt [⟨.Name x px,iter,ifs,0⟩] sc pos) 0 (.ref it) (.ref s2.heap.objs.size) (compEnvC sc cl (s2.heap.objs.size+1) X.env))
    (R) S:=by
  rintro S rfl;refine codeAny_compLoop_tests (λn s'=>∃i Y H' ys vs,Inv X' [(s2.heap.objs.size,lobj vs)] (Y::ix.map (λj=>σ.getD j none)) H' s'/\Vals ys vs/\F i s'.heap/\(∀b∈fp,H' b=none)/\W i n H' ys) ?_ m0
   ⟨0,none,H2,[],[],I3,.nil,al,λb I=>(f2 b I).1,w0⟩
  rintro n s4 ⟨i,Y,t,ys,vs,I4,hv4,st4,fr4,w4⟩;rcases turn i n t ys w4 with⟨a1,hl,qn⟩ | ⟨go,step⟩
  ·have D:=T.done X' eP eW eK eC i _ s4 _ t (notedBy (model X.prog X.w) X.A (compEnvC sc cl (s2.heap.objs.size+1) X.env) λe s'=>R (.error e) s') I4 (Z fr4) st4 a1
   rw[eA] at D;refine thn D λr P s=>?_;obtain⟨hr,I5⟩:=s;subst hr;exact hR P t ys vs _ (U ▸ I5) hv4 hl qn
  ·have D:=T.item X' eP eW eK eC i _ s4 _ t (notedBy (model X.prog X.w) X.A (compEnvC sc cl (s2.heap.objs.size+1) X.env) λe s'=>R (.error e) s') I4 (Z fr4) st4 go
   rw[eA] at D;refine thn D λr P s=>?_;obtain⟨u,hr,h5⟩:=s;subst hr;have ba:wpAny (model X.prog X.w) X.A (letOwnedTupleGo (.Name x px) (.ref it) u >>= λ_=>assign (.Name x px) (compEnvC sc cl (s2.heap.objs.size+1) X.env) u) (λ_ s₂ =>
     wpAny (model X.prog X.w) X.A (forIn ifs true λc r=>if r=true then do let ok <-isTrue c (compEnvC sc cl (s2.heap.objs.size+1) X.env) (eval c (compEnvC sc cl (s2.heap.objs.size+1) X.env));pure (ForInStep.yield ok) else pure (ForInStep.yield r)) (λok S =>
      if ok=true then wpAny (model X.prog X.w) X.A (eval elt (compEnvC sc cl (s2.heap.objs.size+1) X.env)) (λx a2 =>
       wpAny (model X.prog X.w) X.A (call (.builtin "list.append") [.ref s2.heap.objs.size,x]) (λ_ E=>∃m,m<n/\∃i Y H' ys vs,Inv X' [(s2.heap.objs.size,lobj vs)] (Y::ix.map (λj=>σ.getD j none)) H' E/\Vals ys vs/\F i E.heap/\(∀b∈fp,H' b=none)/\W i m H' ys)
        (notedBy (model X.prog X.w) X.A (compEnvC sc cl (s2.heap.objs.size+1) X.env) λe s'=>R (.error e) s') a2)
       (notedBy (model X.prog X.w) X.A (compEnvC sc cl (s2.heap.objs.size+1) X.env) λe s'=>R (.error e) s') S
      else ∃m,m<n/\∃i Y H' ys vs,Inv X' [(s2.heap.objs.size,lobj vs)] (Y::ix.map (λj=>σ.getD j none)) H' S/\Vals ys vs/\F i S.heap/\(∀b∈fp,H' b=none)/\W i m H' ys)
      (notedBy (model X.prog X.w) X.A (compEnvC sc cl (s2.heap.objs.size+1) X.env) λe s'=>R (.error e) s') s₂)
     (notedBy (model X.prog X.w) X.A (compEnvC sc cl (s2.heap.objs.size+1) X.env) λe s'=>R (.error e) s') P:=by
    refine wpAny_bind (thn h5 λ_ s6 s=>?_);obtain⟨z,H6,I6,r6,y6,O,bb⟩:=s;have bd:=I6.pinned (Z bb) (T.obj _ _ O);have q6:=step z H6 y6;refine wpAny_assign_Name (?_:wpAny _ _ (storeName (compEnvC sc cl (s2.heap.objs.size+1) X.env) x u) _ _ s6);rw[<-B];refine zm8 (i:=0) bd (by rw[eN];exact a6) (by rw[eN];rfl) (.inl (by rw[B];exact lookup_relabel_local hx)) r6 (λs7 I7=>?_) (.inr (by rw[B];exact lookup_relabel_local hx));have t7:=(U ▸ a4 cl (s2.heap.objs.size+1) s2 H2 fp (hc _ _ _ _ _ _ _ f f2):PIfs X' ifs tt) _ s7 _ H6 _ I7 q6;rw[eP,eW,eA] at t7;refine wpAny_mono t7 (λb s8 s=>?_) (λe s' z=>by rw[ap] at z;exact z.elim);obtain⟨H8,I8,q8⟩:=s;have a:∀ {s':Shared} {H':Hp} {k:St},Inv X' ([(s2.heap.objs.size,lobj vs)]++zq7 fp s6.heap) k H' s'->F (i+1) s'.heap/\∀b∈fp,H' b=none:=λ{s' H' k} J'=>by
     refine⟨T.keep _ _ _ O λb I o e=>(J'.pin (b,o) (cf _ (cf _ (zkj I e)))).1,λb I=>?_⟩;obtain⟨o,e,d⟩:=T.obj _ _ O b I;exact(J'.pin (b,o) (cf _ (cf _ (zkj I e)))).2.1
    cases b with
    |false =>
      rw[if_neg cw] at q8 ⊢;obtain⟨g,hm,w8⟩:=q8;obtain⟨k1,k2⟩:=a I8;exact⟨g,hm,i+1,↑z,H8,ys,vs,I8.unpinned,hv4,k1,k2,w8⟩
    |true =>
      rw[if_pos rfl] at q8 ⊢;have t8:=(U ▸ a5 cl (s2.heap.objs.size+1) s2 H2 fp (hc _ _ _ _ _ _ _ f f2):PE X' elt te) _ s8 _ H8 _ I8 q8;rw[eP,eW,eA] at t8;refine wpAny_mono t8 (λv s9 s=>?_) (λe s' z=>by rw[ap] at z;exact z.elim);obtain⟨y,H9,I9,r9,bm,g,hm,w9⟩:=s;have pD:=I9.pin (s2.heap.objs.size,lobj vs) (cf _ (d8 _ b6));obtain⟨k1,k2⟩:=a I9;have bo:=hv4.length;refine append_at (D:=s2.heap.objs.size) (its:=vs.toArray) (n:=vs.length) pD.1 (λh' sb hD=>?_) (by rw[bn];lia);have be:Inv X' [] (↑z::ix.map (λj=>σ.getD j none)) H9 s9:=I9.pins_of λp l=>nomatch l;have cne:∀y c,X'.env.cells.lookup y=↑c->c≠s2.heap.objs.size:=λy c e=>by
       rw[B] at e;obtain⟨v',q⟩:=f.cell y c (h1 y c e);exact cj q.lt
      have bk:Inv X' [] (↑z::ix.map (λj=>σ.getD j none)) H9 { s9 with heap:=h' }:=be.turned (t':=s9.toks) (it:=s2.heap.objs.size) (λb o I e=>(sb.2 b I).trans e) pD.2.1 (by rw[B];exact cj (fx _)) (.inr (by rw[eS];exact b7 _)) cne (λp l=>by rw[an] at l;exact nomatch l);have bl:Inv X' [(s2.heap.objs.size,lobj (vs++[v]))] (↑z::ix.map (λj=>σ.getD j none)) H9 { s9 with heap:=h' }:=bk.pins_of λp l=>by
       rw[de.mp l];exact⟨hD.trans (congrArg some (zw8 vs v)),pD.2.1,by rw[B];exact cj (fx _),by rw[ar];exact a0,λv' z'=>by cases z'⟩
      exact⟨g,hm,i+1,↑z,H9,ys++[y],vs++[v],bl,hv4.snoc r9,T.keep _ _ _ k1 (λb I o e=>(sb.2 b (cj (M b I))).trans e),k2,w9⟩
   exact ba
 exact codeAny_compStart_list (loop _ rfl) (T.self X.A 0 _ _ _ al (loop _ rfl))
variable{h:Heap}
def Heap.SameBut.rf(e:∃o,h.get? a=↑o):Heap.SameBut a h h:=by
 first |exact⟨rfl,λ_ _=>rfl⟩ |exact⟨e,λ_ _=>rfl⟩
structure zw9 (X:Cx) (x:Str) (N':h7) (ix:ik) (sc:Scope):Prop where
 nm:N'=ix.map λi=>X.N.getD i ("" : Str)
 nd:(x::N').Nodup
 kind:sc.kind=.function
 hx:sc.names.lookup x=some .local
 cell:∀y∈sc.names,y.2≠.cell
 names:∀y∈sc.names,y.2=.local->sc.names.lookup y.1=some .local
 free:∀y∈sc.names,y.2=.free->X.env.kindOf y.1=some .cell\/X.env.kindOf y.1=some .free
 fv:∀y∈N',sc.names.lookup y=some .free
variable{wi:TI}
def zps(c:zw9 X x N' ix sc)(n:∀cl C s₂ H₂ fp pins σ,Inv X pins σ H₂ s₂->(∀b∈fp,FpOk X pins H₂ b)->Cm (jd X x N' sc cl C s₂ H₂ fp))(hi:PIC Cm X (.Name x px) iter wi)(Y:∀cl C s₂ H₂ fp,Cm (jd X x N' sc cl C s₂ H₂ fp)->PIfs (jd X x N' sc cl C s₂ H₂ fp) ifs tt)(Z:∀cl C s₂ H₂ fp,Cm (jd X x N' sc cl C s₂ H₂ fp)->PE (jd X x N' sc cl C s₂ H₂ fp) elt te)(p:∀v,foldedSetIterable iter X.env v=pure v:=by intro _;rfl) :
  PE X (.ListComp elt [⟨.Name x px,iter,ifs,0⟩] sc pos) (yv wi ix tt te):=by
 intro pins s σ H Q I h;obtain⟨cl,a,h1,q⟩:=zo5 (sc:=sc) (env:=X.env) (λy d r=>I.ok.has y.1 (c.free y d r));rw[eval_ListComp];refine wpAny_comprehension_free (use:=none) rfl p a c.kind c.names (thn (hi pins s σ H _ I h) λv K t=>thn t λu s2 h2=>?_);obtain⟨it,fp,L,J,H2,rfl,m,T,S,f2,W,⟨M,w⟩,turn⟩:=h2;refine wpAny_newObj_type (wpAny_newFunctionEnv c.cell (by intro y d;simp at d) (λh₁ R D=>?_) c.kind);dsimp only at R D ⊢;have U:(s2.heap.push { cls:=.type "list",dict:=none,data:=.seq ([]:h8).toArray }).objs.size=s2.heap.objs.size+1:=jk ..;rw[U] at R D ⊢;have f:∀b o,s2.heap.get? b=↑o->h₁.get? b=↑o:=λb o e=>D.extBut b o (cj (gv (bu e))) (aw _ (aw _ e));have V:h₁.get? s2.heap.objs.size=↑(lobj []):=D.extBut _ _ (cj (fx _)) (aw _ (cy _ rfl));have g:∀b∈fp,∃o,s2.heap.get? b=↑o:=λb z=>by obtain⟨o,e,_⟩:=T.obj _ _ S b z;exact⟨o,e⟩
 refine zri n Y Z c.nm c.nd c.kind c.hx c.cell c.names c.free c.fv h1 q m T S f2 w turn f R V λN O ys vs A i j B E=>?_;obtain⟨F,k,_⟩:=i.loc;refine⟨F,k,λh' G=>?_⟩;have l:=(i.pin (s2.heap.objs.size,lobj vs) (cf _ b6)).2.1;exact⟨.ref s2.heap.objs.size,_,zt5 m f2 g i j B G,rfl,E _ l⟩
variable{i:Nat}
def zpt{py spos:Pos}(c:zw9 X x N' ix sc)(hc:∀cl C s₂ H₂ fp pins σ,Inv X pins σ H₂ s₂->(∀b∈fp,FpOk X pins H₂ b)->Cm (jd X x N' sc cl C s₂ H₂ fp))(k:X.N.Nodup)(l:X.N[i]?=↑y)(n:Loc X.env.scope y)(hi:PIC Cm X (.Name x px) iter wi)(q:∀cl C s₂ H₂ fp,Cm (jd X x N' sc cl C s₂ H₂ fp)->PIfs (jd X x N' sc cl C s₂ H₂ fp) ifs tt)(r:∀cl C s₂ H₂ fp,Cm (jd X x N' sc cl C s₂ H₂ fp)->PE (jd X x N' sc cl C s₂ H₂ fp) elt te)(t:swapsWith (.ListComp elt [⟨.Name x px,iter,ifs,0⟩] sc pos) ↑(.Name y py) spos.line X.env=pure true)(u:X.fn y=true\/X.env.scope.names.lookup y=some .local:=by first |exact .inl rfl |exact .inr rfl |assumption)(hs:∀v,foldedSetIterable iter X.env v=pure v:=by intro _;rfl) :
  PS X (.Assign [.Name y py] (.ListComp elt [⟨.Name x px,iter,ifs,0⟩] sc pos) spos) (tAsg (yv wi ix tt te) (ng i)):=by
 intro pins s σ H Dn I h;have h:yv wi ix tt te σ H λv H1=>Dn.nx (σ.set i ↑v) H1:=h;obtain⟨cl,w,h1,h3⟩:=zo5 (sc:=sc) (env:=X.env) (λy B u=>I.ok.has y.1 (c.free y B u));rw[exec_Assign_Name_used _ _ _ _ t];refine wpAny_bind (wpAny_standAt (wpAny_bind ?_));show wpAny _ X.A (do let _ <-comprehension (.ListComp elt [⟨.Name x px,iter,ifs,0⟩] sc pos) sc X.env _ (newList []) false (eval iter X.env) ↑(assign (.Name y py) X.env)) _ _ s;refine wpAny_bind (wpAny_mono (wpAny_comprehension_free (use:=↑(assign (.Name y py) X.env)) (Q:=λ_ s'=>SP X pins Dn .next s') rfl hs w c.kind c.names
  (thn (hi pins s σ H _ I h) λv s1 g1=>thn g1 λaa s2 h2=>?_)) (λ_ s' hq=>wpAny_pure (wpAny_pure hq)) λ_ _ e=>e)
 obtain⟨it,fp,tn,J,H2,rfl,V,T,Y,f2,W,⟨m0,w0⟩,turn⟩:=h2;refine wpAny_newObj_type (wpAny_newFunctionEnv c.cell (by intro y B;simp at B) (λh₁ R D=>?_) c.kind);dsimp only at R D ⊢;have Z:(s2.heap.push { cls:=.type "list",dict:=none,data:=.seq ([]:h8).toArray }).objs.size=s2.heap.objs.size+1:=jk ..;rw[Z] at R D ⊢;have E:∀b o,s2.heap.get? b=↑o->h₁.get? b=↑o:=λb o e=>D.extBut b o (cj (gv (bu e))) (aw _ (aw _ e));have d:h₁.get? s2.heap.objs.size=↑(lobj []):=D.extBut _ _ (cj (fx _)) (aw _ (cy _ rfl));have F:∀b∈fp,∃o,s2.heap.get? b=↑o:=λb G=>by obtain⟨o,e,_⟩:=T.obj _ _ Y b G;exact⟨o,e⟩
 refine zri (Q:=λv H1=>Dn.nx (σ.set i ↑v) H1) hc q r c.nm c.nd c.kind c.hx c.cell c.names c.free c.fv h1 h3 V T Y f2 w0 turn E R d λf P ys vs ab g K hl qn=>?_;obtain⟨m5,S,_⟩:=g.loc;have S:f.heap.Ns (s2.heap.objs.size+1) m5:=S;have L:=(g.pin (s2.heap.objs.size,lobj vs) (cf _ b6)).2.1;have oC:∃o,f.heap.get? (s2.heap.objs.size+1)=↑o:=let ⟨o,_,_,e,_⟩:=S;⟨o,e⟩;have I6:Inv X pins σ (upd P s2.heap.objs.size (.lst ys)) { f with heap:=f.heap }:=zt5 V f2 F g K hl (Heap.SameBut.rf oC);show wpAny _ X.A (assign (.Name y py) X.env (.ref s2.heap.objs.size)) _ _ f;have HC:upd P s2.heap.objs.size (.lst ys) (s2.heap.objs.size+1)=none:=by rw[ii (mj (fx _))];exact g.free
 have U:∀a o,s2.heap.get? a=↑o->s2.heap.objs.size+1≠a:=λa o e=>mj (gv (bu e));have oL:∃o,s2.heap.get? X.env.locals=↑o:=let ⟨m,hn,_⟩:=V.loc;let ⟨o,_,_,e,_⟩:=hn;⟨o,e⟩;have cL:s2.heap.objs.size+1≠X.env.locals:=let ⟨o,e⟩:=oL;U _ o e;have cC:∀z j,X.env.cells.lookup z=↑j->j≠s2.heap.objs.size+1:=λz j e=>by
  obtain⟨v',o,e',_⟩:=V.cell z j e;exact Ne.symm (U _ o e')
 refine wpAny_assign_Name (zno (v:=.ref s2.heap.objs.size) I6 k l n rfl (λs7 I7 zq=>?_) u);obtain⟨a,sb,ha⟩:=zq;have M:s2.heap.objs.size+1≠a:=by
  rcases ha with rfl |ha
  ·exact cL
  ·exact Ne.symm (cC _ _ ha)
 refine⟨m5,S.sameBut sb M,λh' O=>?_⟩;refine⟨_,_,I7.turned (t':=s7.toks) (it:=s2.heap.objs.size+1) (λb o G e=>(O.2 b G).trans e) HC cL (.inr ?_) cC (λp hp=>?_),qn _ L⟩
 ·exact rd V.sz
 ·exact Ne.symm (U _ _ (V.pin p hp).1)
def z3r(X:Cx)(xs N':h7)(sc:Scope)(cl:List (Str×Addr))(C:Addr)(s₂:Shared)(H₂:Hp)(fp:ic):Cx :=
 { X with N:=xs++N',s₀:=s₂,H₀:=H₂,env:=compEnvC sc cl C X.env,outer:=X.stack,stack:=X.stack,ex:=fp,fn:=λ_=>false,pn:=[],xe:=λ_ _=>False }
structure z9t (X:Cx) (xs N':h7) (ix:ik) (sc:Scope):Prop where
 nm:N'=ix.map λi=>X.N.getD i ("" : Str)
 nd:(xs++N').Nodup
 kind:sc.kind=.function
 hx:∀y∈xs,sc.names.lookup y=some .local
 cell:∀y∈sc.names,y.2≠.cell
 names:∀y∈sc.names,y.2=.local->sc.names.lookup y.1=some .local
 free:∀y∈sc.names,y.2=.free->X.env.kindOf y.1=some .cell\/X.env.kindOf y.1=some .free
 fv:∀y∈N',sc.names.lookup y=some .free
inductive D where
 |non |bl (b:Bool) |int (i:Int) |str (s:Str) |tup (ds:List D) |lst (ds:List D)
 |dct (ks:i0) (ds:List D)
 |exc (a:Addr)
abbrev la:=List D
abbrev ll:=Option D
inductive Im where
 |t (vs:k9) |d (kvs:List (Key×V))
@[reducible] noncomputable def Im.out:Im->HO | .t vs=>.tup vs | .d kvs=>.dK kvs
def dkv(ks:i0)(vs:k9):List (Key×V):=ks.zipWith (λk v=>(Sum.inl k,v)) vs
def KL(K:k6)(a:Addr)(xs:k9):Prop :=
 ∃(o:Obj) (its:k8) (n:Nat),K.lookup a=↑o/\o.cls=.type "list"/\o.dict=none/\o.data=.seq its n/\its.size<=sizeLine/\Vals xs its.toList
mutual
inductive Rep (K:k6) (H:Hp) (O:Addr->Prop):D->V->Prop
 |non:Rep K H O .non .non
 |bl (b:Bool):Rep K H O (.bl b) (.bl b)
 |int (i:Int):Rep K H O (.int i) (.int i)
 |str (s:Str):Rep K H O (.str s) (.str s)
 |tup {a:Addr} {vs:k9} {ds:la}:H a=↑(.tup vs)->Reps K H O ds vs->Rep K H O (.tup ds) (.ref a)
 |lst {a:Addr} {vs:k9} {ds:la}:O a->Rd H a (.lst vs)->Reps K H O ds vs->Rep K H O (.lst ds) (.ref a)
 |klst {a:Addr} {vs:k9} {ds:la}:KL K a vs->Reps K H O ds vs->Rep K H O (.lst ds) (.ref a)
 |dct {a:Addr} {ks:i0} {vs:k9} {ds:la}:H a=↑(.dK (dkv ks vs))->Reps K H O ds vs->Rep K H O (.dct ks ds) (.ref a)
 |exc (a:Addr):Rep K H O (.exc a) (.ref a)
inductive Reps (K:k6) (H:Hp) (O:Addr->Prop):la->k9->Prop
 |nil:Reps K H O [] []
 |cons {d:D} {v:V} {ds:la} {vs:k9}:Rep K H O d v->Reps K H O ds vs->Reps K H O (d::ds) (v::vs)
end
variable{vs:k9}{ds:la}{O:Addr->Prop}
def Reps.ind{P:la->k9->Prop}(n:P [] [])(c:∀ {d v ds vs},Rep K H O d v->Reps K H O ds vs->P ds vs->P (d::ds) (v::vs)):Reps K H O ds vs->P ds vs :=
 Reps.rec (motive_1:=λ_ _ _=>True) (motive_2:=λds vs _=>P ds vs) ⟨⟩ (λ_=>⟨⟩) (λ_=>⟨⟩) (λ_=>⟨⟩) (λ_ _ _=>⟨⟩) (λ_ _ _ _=>⟨⟩) (λ_ _ _=>⟨⟩) (λ_ _ _=>⟨⟩) (λ_=>⟨⟩) n λr t _=>c r t
variable{v:V}{O':Addr->Prop}
def Rep.mono(D:∀a (u:Im),H a=↑u.out->H' a=↑u.out)(I:∀a vs,O a->Rd H a (.lst vs)->O' a/\Rd H' a (.lst vs)):Rep K H O d v->Rep K H' O' d v :=
 Rep.rec (motive_1:=λd v _=>Rep K H' O' d v) (motive_2:=λds vs _=>Reps K H' O' ds vs) .non .bl .int .str (λh _=>.tup (D _ (.t _) h)) (λo h _=>.lst (I _ _ o h).1 (I _ _ o h).2) (λh _=>.klst h) (λh _=>.dct (D _ (.d _) h)) .exc .nil λ_ _=>.cons
def Reps.mono(I:∀a (u:Im),H a=↑u.out->H' a=↑u.out)(J:∀a vs,O a->Rd H a (.lst vs)->O' a/\Rd H' a (.lst vs)){ds:la}{vs:k9}:Reps K H O ds vs->Reps K H' O' ds vs:=Reps.ind .nil λr _=>.cons (r.mono I J)
def Reps.length{ds:la}{vs:k9}:Reps K H O ds vs->ds.length=vs.length:=Reps.ind (P:=λds vs=>ds.length=vs.length) rfl λ_ _=>congrArg Nat.succ
def Reps.get(h:Reps K H O ds vs):ds[i]?=↑d->∃v,vs[i]?=↑v/\Rep K H O d v :=
 Reps.ind (P:=λds vs=>∀ {i:Nat},ds[i]?=↑d->∃v,vs[i]?=↑v/\Rep K H O d v) nofun (λr _ q i e=>match i with
  |0=>⟨_,rfl,bz e ▸ r⟩ |i+1=>q (i:=i) e) h
variable{es:kb}
def Reps.append{es:la}{ws:k9}(h:Reps K H O ds vs)(s:Reps K H O es ws):Reps K H O (ds++es) (vs++ws):=Reps.ind (P:=λds vs=>Reps K H O (ds++es) (vs++ws)) s (λr _=>.cons r) h
def Reps.take{ds:la}{vs:k9}(n:Nat)(h:Reps K H O ds vs):Reps K H O (ds.take n) (vs.take n) :=
 Reps.ind (P:=λds vs=>∀n,Reps K H O (ds.take n) (vs.take n)) (λn=>by cases n <;> exact .nil) (λr _ q n=>by cases n;exact .nil;exact .cons r (q _)) h n
def Reps.drop{ds:la}{vs:k9}(n:Nat)(h:Reps K H O ds vs):Reps K H O (ds.drop n) (vs.drop n) :=
 Reps.ind (P:=λds vs=>∀n,Reps K H O (ds.drop n) (vs.drop n)) (λn=>by cases n <;> exact .nil) (λr t q n=>by cases n;exact .cons r t;exact q _) h n
def Reps.set{d:D}{v:V}(r:Rep K H O d v){ds:la}{vs:k9}(i:Nat)(h:Reps K H O ds vs):Reps K H O (ds.set i d) (vs.set i v) :=
 Reps.ind (P:=λds vs=>∀i,Reps K H O (ds.set i d) (vs.set i v)) (λ_=>.nil) (λp t q n=>by cases n;exact .cons r t;exact .cons p (q _)) h i
def Reps.eraseIdx{ds:la}{vs:k9}(i:Nat)(h:Reps K H O ds vs):Reps K H O (ds.eraseIdx i) (vs.eraseIdx i) :=
 Reps.ind (P:=λds vs=>∀i,Reps K H O (ds.eraseIdx i) (vs.eraseIdx i)) (λ_=>.nil) (λp t q n=>by cases n;exact t;exact .cons p (q _)) h i
def Reps.dropLast(h:Reps K H O ds vs):Reps K H O ds.dropLast vs.dropLast:=by
 rw[j3,j3,h.length];exact h.take _
def Rep.int_{i:Int}(h:Rep K H O (.int i) v):v=.int i:=by cases h;rfl
def Rep.bl_{i:Bool}(h:Rep K H O (.bl i) v):v=.bl i:=by cases h;rfl
def Rep.str_{i:Str}(h:Rep K H O (.str i) v):v=.str i:=by cases h;rfl
def Rep.exc_(h:Rep K H O (.exc a) v):v=.ref a:=by cases h;rfl
def Rep.non_(h:Rep K H O .non v):v=.non:=by cases h;rfl
def Rep.tup_(h:Rep K H O (.tup ds) v):∃a vs,v=.ref a/\H a=↑(.tup vs)/\Reps K H O ds vs:=by cases h with |tup a b=>exact⟨_,_,rfl,a,b⟩
def LsOk(K:k6)(H:Hp)(O:Addr->Prop)(a:Addr)(vs:k9):Prop:=(O a/\Rd H a (.lst vs))\/KL K a vs
def LsOk.sq(h:LsOk K H O a vs):SqL K H a vs:=h.elim (λz=>.inl z.2) .inr
def Rep.lst_(h:Rep K H O (.lst ds) v):∃a vs,v=.ref a/\LsOk K H O a vs/\Reps K H O ds vs:=by
 cases h with
 |lst o a b=>exact⟨_,_,rfl,.inl ⟨o,a⟩,b⟩ |klst a b=>exact⟨_,_,rfl,.inr a,b⟩
inductive Mo where
 |l (vs:k9) |i (C dx:Addr) (fs:List (Str×V))
@[reducible] noncomputable def Mo.out:Mo->HO | .l vs=>.lst vs | .i C dx fs=>.ins C dx fs
inductive Pt where
 |d (d:D) |o (ds:la)
abbrev ln:=List Pt
inductive AK where
 |ls |ins (b:Bool) (c:Str) (fs:h7)
inductive Sl where
 |sh (d:D) |ow (ds:la) |o2 (dss:List la) |ag (k:AK) (r:Option Nat) (ps:ln) |al (r j:Nat) |ro (k:AK) (ps:ln)
abbrev lp:=Option Sl
structure Gd where
 g:Addr->Prop
 r:Nat->ic
instance:CoeFun Gd (λ_=>Addr->Prop):=⟨Gd.g⟩
abbrev gd(g:Addr->Prop):Gd:=⟨g,λ_=>[]⟩
abbrev DE0:=List lp
def Ow(G:Gd)(W:Addr->Prop):Addr->Prop:=λa=>G a/\¬W a
def Inn(K:k6)(G:Gd)(W:Addr->Prop)(H:Hp)(dss:List la)(ls:ic):Prop :=
 ls.length=dss.length/\∀(j:Nat) (ds:la) (a:Addr),dss[j]?=↑ds->ls[j]?=↑a->W a/\∃vs,H a=↑(.lst vs)/\Reps K H (Ow G W) ds vs
inductive PtsOk (K:k6) (G:Gd) (W:Addr->Prop) (H:Hp):ln->ic->k9->Prop
 |nil:PtsOk K G W H [] [] []
 |d {d:D} {v:V} {ps:ln} {as:ic} {us:k9}:Rep K H (Ow G W) d v->PtsOk K G W H ps as us->PtsOk K G W H (.d d::ps) as (v::us)
 |o {ds:la} {a:Addr} {vs:k9} {ps:ln} {as:ic} {us:k9}:W a->H a=↑(.lst vs)->Reps K H (Ow G W) ds vs->PtsOk K G W H ps as us->PtsOk K G W H (.o ds::ps) (a::as) (.ref a::us)
inductive PtsRo (K:k6) (G:Gd) (W:Addr->Prop) (H:Hp):ln->k9->Prop
 |nil:PtsRo K G W H [] []
 |d {d:D} {v:V} {ps:ln} {us:k9}:Rep K H (Ow G W) d v->PtsRo K G W H ps us->PtsRo K G W H (.d d::ps) (v::us)
 |o {ds:la} {a:Addr} {vs:k9} {ps:ln} {us:k9}:¬W a->H a=↑(.lst vs)->Reps K H (Ow G W) ds vs->PtsRo K G W H ps us->PtsRo K G W H (.o ds::ps) (.ref a::us)
def AkOk(K:k6)(H:Hp):AK->Addr->k9->Prop
 | .ls,p,us=>H p=↑(.lst us) | .ins _ c fs,p,us=>∃C dx,PySem.W.nsIn K mainGlobals c=↑↑(.ref C)/\H p=↑(.ins C dx (fs.zip us))/\fs.length=us.length
def Lab:AK->ic->Addr->ic->Prop
 | .ins true _ _,l,p,_=>l=[p]
 |_,l,p,as=>l=p::as
inductive OwOk (K:k6) (G:Gd) (W:Addr->Prop) (H:Hp) (ds:la) (v:V):Prop
 |mk (l:Addr) (vs:k9) (e:v=.ref l) (w:W l) (h:H l=↑(.lst vs)) (r:Reps K H (Ow G W) ds vs):OwOk K G W H ds v
inductive O2Ok (K:k6) (G:Gd) (W:Addr->Prop) (H:Hp) (dss:List la) (v:V):Prop
 |mk (l:Addr) (ls:ic) (e:v=.ref l) (w:W l) (h:H l=↑(.lst (ls.map V.ref))) (n:(l::ls).Nodup) (r:Inn K G W H dss ls):O2Ok K G W H dss v
inductive AgOk (K:k6) (G:Gd) (W:Addr->Prop) (H:Hp) (k:AK) (r:Option Nat) (ps:ln) (v:V):Prop
 |mk (p:Addr) (as:ic) (us:k9) (e:v=.ref p) (w:W p) (n:(p::as).Nodup) (l:∀n,r=↑n->Lab k (G.r n) p as) (h:AkOk K H k p us) (q:PtsOk K G W H ps as us):AgOk K G W H k r ps v
def SlOk(K:k6)(G:Gd)(W:Addr->Prop)(H:Hp):Sl->V->Prop
 | .sh d,v=>Rep K H (Ow G W) d v | .ow ds,v=>OwOk K G W H ds v | .o2 dss,v=>O2Ok K G W H dss v | .ag k r ps,v=>AgOk K G W H k r ps v | .al r j,v=>∃p as a,G.r r=p::as/\as[j]?=↑a/\v=.ref a | .ro k ps,v=>∃(p:Addr) (us:k9),v=.ref p/\¬W p/\AkOk K H k p us/\PtsRo K G W H ps us
def zz2:ln->k9->Addr->Prop:=λps us a=>∃(j:Nat) (ds:la),ps[j]?=↑(.o ds)/\us[j]?=↑(.ref a)
def AkH(H:Hp):AK->Addr->k9->Prop
 | .ls,p,us=>H p=↑(.lst us) | .ins _ _ fs,p,us=>fs.length=us.length/\∃C dx,H p=↑(.ins C dx (fs.zip us))
def Owns(H:Hp):Sl->V->Addr->Prop
 | .sh _,_,_=>False | .ow _,v,a=>v=.ref a | .o2 _,v,a=>v=.ref a\/∃(l:Addr) (ls:ic),v=.ref l/\H l=↑(.lst (ls.map V.ref))/\a∈ls
 | .ag k _ ps,v,a=>v=.ref a\/∃(p:Addr) (us:k9),v=.ref p/\AkH H k p us/\zz2 ps us a | .al _ _,_,_=>False | .ro _ _,_,_=>False
structure Ok (K:k6) (G:Gd) (H0:Hp) (W:Addr->Prop) (env:DE0) (σ:St) (H:Hp):Prop where
 stay:Same H0 H
 good:∀a,H0 a=none->G a
 wl:∀l,W l->H0 l=none/\∃m:Mo,H l=↑m.out
 slot:∀(i:Nat) (s:Sl),env[i]?=↑↑s->∃v,σ[i]?=↑↑v/\SlOk K G W H s v
 uniq:∀(i j:Nat) (s s':Sl) (v v':V) (a:Addr),env[i]?=↑↑s->env[j]?=↑↑s'->σ[i]?=↑↑v->σ[j]?=↑↑v'->Owns H s v a->Owns H s' v' a->i=j
 len:env.length=σ.length
def xf{ls D:ic}(h:ls.map V.ref=D.map V.ref):ls=D:=by
 induction ls generalizing D with
 |nil=>cases D with |nil=>rfl |cons b r=>cases h
 |cons a t ih=>cases D with |nil=>cases h |cons b r=>simp[List.cons.injEq,V.ref.injEq] at h;rw[h.1,ih h.2]
variable{G:Gd}{ps:ln}{as:ic}{us:k9}
def PtsOk.own{W:Addr->Prop}(h:PtsOk K G W H ps as us)(ha:a∈as):W a/\∃vs,H a=↑(.lst vs):=by
 induction h with
 |nil=>cases ha
 |d _ _ ih=>exact ih ha |o hW hl _ _ ih =>
   rcases ce.mp ha with rfl |ha
   ·exact⟨hW,_,hl⟩
   ·exact ih ha
def PtsOk.parts_iff{W:Addr->Prop}(h:PtsOk K G W H ps as us):zz2 ps us a↔a∈as:=by
 induction h with
 |nil=>exact⟨λ⟨j,ds,e,_⟩=>by simp at e,λz=>by cases z⟩
 |d _ _ ih =>
   rw[<-ih];constructor
   ·rintro⟨j,ds,I,D⟩
    cases j with
    |zero=>simp at I |succ j=>exact⟨j,ds,by simpa using I,by simpa using D⟩
   ·rintro⟨j,ds,I,D⟩
    exact⟨j+1,ds,by simpa using I,by simpa using D⟩
 |o _ _ _ _ ih =>
   rw[ce,<-ih];constructor
   ·rintro⟨j,ds,I,D⟩
    cases j with
    |zero=>simp at D;exact .inl D.symm |succ j=>exact .inr ⟨j,ds,by simpa using I,by simpa using D⟩
   ·rintro(rfl | ⟨j,ds,I,D⟩)
    ·exact⟨0,_,rfl,rfl⟩
    ·exact⟨j+1,ds,by simpa using I,by simpa using D⟩
variable{G':Gd}
protected def PtsOk.step{W W':Addr->Prop}(h:PtsOk K G W H ps as us)(k:∀a vs,a∈as->H a=↑(.lst vs)->W' a/\H' a=↑(.lst vs))(r:∀d v,Rep K H (Ow G W) d v->Rep K H' (Ow G' W') d v)(D:∀ds vs,Reps K H (Ow G W) ds vs->Reps K H' (Ow G' W') ds vs):PtsOk K G' W' H' ps as us:=by
 induction h with
 |nil=>exact .nil |d q _ ih=>exact .d (r _ _ q) (ih k) |o hW hl q _ ih =>
   obtain⟨I,J⟩:=k _ _ b6 hl;exact .o I J (D _ _ q) (ih λa vs R=>k a vs (bc _ R))
protected def PtsRo.step{W W':Addr->Prop}(h:PtsRo K G W H ps us)(k:∀a vs,¬W a->H a=↑(.lst vs)->¬W' a/\H' a=↑(.lst vs))(r:∀d v,Rep K H (Ow G W) d v->Rep K H' (Ow G' W') d v)(D:∀ds vs,Reps K H (Ow G W) ds vs->Reps K H' (Ow G' W') ds vs):PtsRo K G' W' H' ps us:=by
 induction h with
 |nil=>exact .nil |d q _ ih=>exact .d (r _ _ q) ih |o hW hl q _ ih=>obtain⟨I,J⟩:=k _ _ hW hl;exact .o I J (D _ _ q) ih
variable{j:Nat}
def PtsRo.get{W:Addr->Prop}(h:PtsRo K G W H ps us)(e:ps[j]?=↑(.o ds)):∃a vs,us[j]?=↑(.ref a)/\¬W a/\H a=↑(.lst vs)/\Reps K H (Ow G W) ds vs:=by
 induction h generalizing j with
 |nil=>simp at e |d _ _ ih =>
   cases j with
   |zero=>simp at e |succ j=>obtain⟨a,vs,h1,h2⟩:=ih (j:=j) (by simpa using e);exact⟨a,vs,by simpa using h1,h2⟩
 | @o _ a vs _ _ hW hl r _ ih =>
   cases j with
   |zero=>simp at e;subst e;exact⟨a,vs,rfl,hW,hl,r⟩ |succ j=>obtain⟨a,vs,h1,h2⟩:=ih (j:=j) (by simpa using e);exact⟨a,vs,by simpa using h1,h2⟩
def PtsRo.getD{W:Addr->Prop}(h:PtsRo K G W H ps us)(e:ps[j]?=↑(.d d)):∃v,us[j]?=↑v/\Rep K H (Ow G W) d v:=by
 induction h generalizing j with
 |nil=>simp at e |d q _ ih =>
   cases j with
   |zero=>simp at e;subst e;exact⟨_,rfl,q⟩ |succ j=>obtain⟨a,h1,h2⟩:=ih (j:=j) (by simpa using e);exact⟨a,by simpa using h1,h2⟩
 |o _ _ _ _ ih =>
   cases j with
   |zero=>simp at e |succ j=>obtain⟨a,h1,h2⟩:=ih (j:=j) (by simpa using e);exact⟨a,by simpa using h1,h2⟩
variable{p:Addr}
theorem xw{k:AK}{D:k9}(h:AkOk K H k p us)(h':AkH H k p D):D=us:=by
 cases k with
 |ls=>have h:H p=_:=h;have h':H p=_:=h';rw[h] at h';cases h';rfl
 |ins b c fs =>
   obtain⟨C,dx,_,I,R⟩:=h;obtain⟨l',S,J,e⟩:=h';rw[I] at e;have e:fs.zip us=fs.zip D:=by injection e with e;injection e
   have:=congrArg (List.map Prod.snd) e;rw[t3 ⋯,t3 ⋯] at this;exact this.symm
protected def AkOk.o{K:k6}{H:Hp}{k:AK}{p:Addr}{us:k9}(h:AkOk K H k p us):AkH H k p us:=by
 cases k with
 |ls=>exact h |ins b c fs=>obtain⟨C,dx,_,D,I⟩:=h;exact⟨I,C,dx,D⟩
def AkOk.mo{k:AK}(h:AkOk K H k p us):∃m:Mo,H p=↑m.out/\∀H',H' p=↑m.out->AkOk K H' k p us:=by
 cases k with
 |ls=>exact⟨.l us,h,λH' e=>e⟩ |ins b c fs=>obtain⟨C,dx,D,I,J⟩:=h;exact⟨.i C dx (fs.zip us),I,λH' e=>⟨C,dx,D,e,J⟩⟩
variable{s:Sl}
def SlOk.owns{W:Addr->Prop}(h:SlOk K G W H s v)(o:Owns H s v a):W a:=by
 cases s with
 |sh d=>exact o.elim |ow ds=>obtain⟨l,vs,e,D,_⟩:=h;rw[show v=.ref a from o] at e;cases e;exact D
 |o2 dss =>
   obtain⟨l,ls,e,D,S,U,hi⟩:=h;rcases o with o | ⟨l',ls',e',hl',ha⟩
   ·rw[o] at e;cases e;exact D
   ·rw[e] at e';cases e'
    rw[S] at hl';have:=xf (by simpa using hl');subst this;obtain⟨j,J,V⟩:=jg ha;have I:j<dss.length:=by rw[<-hi.1];exact J
    exact(hi.2 j dss[j] a (by simp[I]) (by simp[J,V])).1
 |ag k r ps =>
   obtain⟨p,as,us,e,D,U,Z,Y,R⟩:=h;rcases o with o | ⟨p',us',e',hk',ha⟩
   ·rw[o] at e;cases e;exact D
   ·rw[e] at e';cases e'
    rw[xw Y hk'] at ha;exact(R.own (R.parts_iff.mp ha)).1
 |al _ _=>exact o.elim |ro _ _=>exact o.elim
def SlOk.back{W:Addr->Prop}(h:SlOk K G W H s v)(k:∀l,v=.ref l->W l->∀m:Mo,H l=↑m.out->H' l=↑m.out)(o:Owns H' s v a):Owns H s v a:=by
 cases s with
 |sh d=>exact o.elim |ow ds=>exact o |o2 dss =>
   obtain⟨l,ls,e,D,I,R,hi⟩:=h;rcases o with o | ⟨l',ls',e',hl',ha⟩
   ·exact .inl o
   ·rw[e] at e';cases e'
    rw[k l e D (.l _) I] at hl';have:=xf (by simpa using hl');subst this;exact .inr ⟨l,ls,e,I,ha⟩
 |ag q r ps =>
   obtain⟨p,as,us,e,D,R,V,J,Y⟩:=h;rcases o with o | ⟨p',us',e',hk',ha⟩
   ·exact .inl o
   ·rw[e] at e';cases e'
    obtain⟨m,S,U⟩:=J.mo;rw[xw (U H' (k p e D m S)) hk'] at ha;exact .inr ⟨p,us,e,J.o,ha⟩
 |al _ _=>exact o.elim |ro _ _=>exact o.elim
structure Step (W:Addr->Prop) (H:Hp) (W':Addr->Prop) (H':Hp):Prop where
 keep:∀b o,H b=↑o->¬W b->H' b=↑o
 ws:∀l,W' l->W l\/H l=none
def Step.refl{W:Addr->Prop}:Step W H W H:=⟨λ_ _ e _=>e,λ_ h=>.inl h⟩
def Step.trans{W W1 D:Addr->Prop}(a:Step W H W1 H1)(b:Step W1 H1 D H2):Step W H D H2 where
 keep:=λc o e n=>b.keep c o (a.keep c o e n) λz=>(a.ws c z).elim n λq=>by rw[q] at e;cases e
 ws:=λl h=>by
  rcases b.ws l h with z |z
  ·exact a.ws l z
  ·by_cases n:W l
   ·exact .inl n
   ·cases e:H l with
    |none=>exact .inr rfl |some o=>rw[a.keep l o e n] at z;cases z
def Step.same{W:Addr->Prop}(h:Same H H'):Step W H W H':=⟨λb o e _=>h b o e,λ_ h=>.inl h⟩
section
variable {K:k6} {G:Gd} {W W':Addr->Prop} {H0 H H':Hp} {env:DE0} {σ:St}
def Ok.wkeep(ok:Ok K G H0 W env σ H)(st:Step W H W' H'):∀b o,H b=↑o->(∀m:Mo,o≠m.out)->H' b=↑o:=λb o e n =>
 st.keep b o e λz=>by obtain⟨_,m,q⟩:=ok.wl b z;rw[e] at q;exact n m (bz q)
def Rd.keep{a:Addr}{u:HO}(h:Rd H a u)(k:∀o,H a=↑o->H' a=↑o):Rd H' a u:=by
 rcases h with h | ⟨o,h⟩
 ·exact .inl (k _ h)
 ·exact .inr ⟨o,k _ h⟩
def Ok.tstep(ok:Ok K G H0 W env σ H)(st:Step W H W' H'):∀a vs,H a=↑(.tup vs)->H' a=↑(.tup vs):=λ_ _ h=>ok.wkeep st _ _ h λm z=>by cases m <;> cases z
def Ok.istep(ok:Ok K G H0 W env σ H)(st:Step W H W' H'):∀a (u:Im),H a=↑u.out->H' a=↑u.out:=λ_ u h=>ok.wkeep st _ _ h λm z=>by cases u <;> cases m <;> cases z
def Ok.lstep(ok:Ok K G H0 W env σ H)(st:Step W H W' H'):∀a vs,Ow G W a->Rd H a (.lst vs)->Ow G W' a/\Rd H' a (.lst vs):=λa vs o h=>by
 refine⟨⟨o.1,λz=>?_⟩,h.keep λu e=>st.keep a u e o.2⟩;rcases st.ws a z with q |q
 ·exact o.2 q
 ·rcases h with h | ⟨_,h⟩ <;> rw[q] at h <;> cases h
def Ok.lsstep(ok:Ok K G H0 W env σ H)(st:Step W H W' H'){a:Addr}{vs:k9}(h:LsOk K H (Ow G W) a vs):LsOk K H' (Ow G W') a vs:=h.elim (λz=>.inl (ok.lstep st a vs z.1 z.2)) .inr
def Ok.rep(ok:Ok K G H0 W env σ H)(st:Step W H W' H'){d:D}{v:V}(r:Rep K H (Ow G W) d v):Rep K H' (Ow G W') d v:=r.mono (ok.istep st) (ok.lstep st)
def Ok.reps(ok:Ok K G H0 W env σ H)(st:Step W H W' H'){d:la}{v:k9}(r:Reps K H (Ow G W) d v):Reps K H' (Ow G W') d v:=r.mono (ok.istep st) (ok.lstep st)
def Ok.slstep(ok:Ok K G H0 W env σ H)(st:Step W H W' H'){s:Sl}{v:V}(h:SlOk K G W H s v)(k:∀a (m:Mo),Owns H s v a->H a=↑m.out->W' a/\H' a=↑m.out):SlOk K G W' H' s v:=by
 cases s with
 |sh d=>exact ok.rep st h |ow ds =>
   obtain⟨l,vs,e,I,R,r⟩:=h;obtain⟨h1,h2⟩:=k l (.l vs) e R;exact⟨l,vs,e,h1,h2,ok.reps st r⟩
 |o2 dss =>
   obtain⟨l,ls,e,I,R,Z,hi⟩:=h;obtain⟨h1,h2⟩:=k l (.l _) (.inl e) R;have g:∀a vs,a∈ls->H a=↑(.lst vs)->W' a/\H' a=↑(.lst vs):=λa vs J D=>k a (.l vs) (.inr ⟨l,ls,e,R,J⟩) D;refine⟨l,ls,e,h1,h2,Z,hi.1,λj ds a i D=>?_⟩;obtain⟨_,vs,J,t⟩:=hi.2 j ds a i D;obtain⟨k1,k2⟩:=g a vs (az D) J;exact⟨k1,vs,k2,ok.reps st t⟩
 |ag q r ps =>
   obtain⟨p,as,us,e,I,Z,u,S,U⟩:=h;obtain⟨m,Y,b⟩:=S.mo;obtain⟨h1,h2⟩:=k p m (.inl e) Y;exact⟨p,as,us,e,h1,Z,u,b H' h2,U.step (λa vs J D=>k a (.l vs) (.inr ⟨p,us,e,S.o,U.parts_iff.mpr J⟩) D) (λ_ _ r=>ok.rep st r) λ_ _ r=>ok.reps st r⟩
 |al _ _=>exact h |ro q ps =>
   obtain⟨p,us,e,I,S,U⟩:=h;have c:∀a o,¬W a->H a=↑o->¬W' a:=λa o n e z=>(st.ws a z).elim n λy=>by rw[y] at e;cases e
   obtain⟨m,Y,b⟩:=S.mo;exact⟨p,us,e,c p _ I Y,b H' (st.keep p _ Y I),U.step (λa vs f D=>⟨c a _ f D,st.keep a _ D f⟩) (λ_ _ r=>ok.rep st r) λ_ _ r=>ok.reps st r⟩
def Ok.same(ok:Ok K G H0 W env σ H)(s:Same H H'):Ok K G H0 W env σ H':=by
 have st:Step W H W H':=Step.same s;have bk:∀ {i:Nat} {sl:Sl} {v:V} {a:Addr},env[i]?=↑↑sl->σ[i]?=↑↑v->Owns H' sl v a->Owns H sl v a:=λ{i sl v a} e I o=>by
  obtain⟨Z,D,h⟩:=ok.slot i sl e;rw[I] at D;cases D;exact h.back (λl _ _ vs q=>s l _ q) o
 refine⟨ok.stay.trans s,ok.good,λl h=>?_,λi sl e=>?_,λi j S s2 v1 v2 a I D J R U Y=>ok.uniq i j S s2 v1 v2 a I D J R (bk I J U) (bk D R Y),ok.len⟩
 ·obtain⟨a,vs,b⟩:=ok.wl l h
  exact⟨a,vs,s _ _ b⟩
 ·obtain⟨v,I,h⟩:=ok.slot i sl e
  exact⟨v,I,ok.slstep st h λa vs o D=>⟨h.owns o,s _ _ D⟩⟩
def om{a:Addr}{o:HO}(h:H a=none):Same H (upd H a o):=λb u e=>by rw[ii (qh e h)];exact e
def addW(W:Addr->Prop)(l:Addr):Addr->Prop:=λa=>W a\/a=l
def Ok.fresh0(ok:Ok K G H0 W env σ H){l:Addr}{vs:k9}(s:Same H H')(D:H l=none)(I:H' l=↑(.lst vs)) :
  ¬W l/\H0 l=none/\Ok K G H0 (addW W l) env σ H'/\Step W H (addW W l) H':=by
 have R:H0 l=none:=ok.stay.free D;have S:¬W l:=λz=>by obtain⟨_,vs,q⟩:=ok.wl l z;rw[D] at q;cases q
 have st:Step W H (addW W l) H':=⟨λb o e _=>s b o e,λa z=>z.elim .inl λq=>.inr (by rw[q];exact D)⟩;have J:=ok.same s;refine⟨S,R,⟨ok.stay.trans s,ok.good,λa z=>?_,λi sl e=>?_,J.uniq,ok.len⟩,st⟩
 ·rcases z with z |rfl
  ·obtain⟨q,us,b⟩:=ok.wl a z
   exact⟨q,us,s _ _ b⟩
  ·exact⟨R,.l vs,I⟩
 ·obtain⟨v,U,h⟩:=ok.slot i sl e
  exact⟨v,U,ok.slstep st h λa vs o Y=>⟨.inl (h.owns o),s _ _ Y⟩⟩
def Ok.fresh(ok:Ok K G H0 W env σ H){l:Addr}{vs:k9}{ds:la}(s:Same H H')(I:H l=none)(J:H' l=↑(.lst vs))(r:Reps K H' (λa=>(Ow G W a\/H a=none)/\a≠l) ds vs) :
  ¬W l/\H0 l=none/\Ok K G H0 (addW W l) env σ H'/\Reps K H' (Ow G (addW W l)) ds vs/\Step W H (addW W l) H':=by
 have S:H0 l=none:=ok.stay.free I;have U:¬W l:=λz=>by obtain⟨_,vs,q⟩:=ok.wl l z;rw[I] at q;cases q
 have st:Step W H (addW W l) H':=⟨λb o e _=>s b o e,λa z=>z.elim .inl λq=>.inr (by rw[q];exact I)⟩;have Y:∀a,W a->H a≠none:=λa z q=>by obtain⟨_,vs,e⟩:=ok.wl a z;rw[q] at e;cases e
 have R:=ok.same s;refine⟨U,S,⟨ok.stay.trans s,ok.good,λa z=>?_,λi sl e=>?_,R.uniq,ok.len⟩,r.mono (λ_ _ h=>h) λa us o h=>⟨⟨?_,?_⟩,h⟩,st⟩
 ·rcases z with z |rfl
  ·obtain⟨q,us,b⟩:=ok.wl a z
   exact⟨q,us,s _ _ b⟩
  ·exact⟨S,.l vs,J⟩
 ·obtain⟨v,Z,h⟩:=ok.slot i sl e
  exact⟨v,Z,ok.slstep st h λa vs o c=>⟨.inl (h.owns o),s _ _ c⟩⟩
 ·rcases o.1 with q |q
  ·exact q.1
  ·exact ok.good a (ok.stay.free q)
 ·rintro(z |z)
  ·rcases o.1 with q |q
   ·exact q.2 z
   ·exact Y a z q
  ·exact o.2 z
def Ok.noOwn(ok:Ok K G H0 W env σ H){l:Addr}(I:¬W l):∀(j:Nat) (s:Sl) (v:V),env[j]?=↑↑s->σ[j]?=↑↑v->¬Owns H s v l:=λj s v e J o=>by
 obtain⟨R,D,h⟩:=ok.slot j s e;rw[J] at D;cases D;exact I (h.owns o)
def zpu{α:Type}{N:List α}(D:N.Nodup){i j:Nat}{x:α}(a:N[i]?=↑x)(b:N[j]?=↑x):i=j:=by
 obtain⟨h1,I⟩:=ak.mp a;obtain⟨h2,J⟩:=ak.mp b;exact(List.getElem_inj D).mp (I.trans J.symm)
theorem pv{α:Type}{xs:List α}{i j:Nat}{x y:α}(h:(xs.set i x)[j]?=↑y):(i=j/\y=x/\i<xs.length)\/(i≠j/\xs[j]?=↑y):=by
 by_cases D:i=j
 ·subst D
  by_cases hi:i<xs.length
  ·rw[em hi] at h;cases h;exact .inl ⟨rfl,rfl,hi⟩
  ·rw[cg (by rw[dz];lia)] at h;cases h
 ·rw[dh D] at h;exact .inr ⟨D,h⟩
def Ok.put(ok:Ok K G H0 W env σ H){i:Nat}{s:Sl}{v:V}(h:SlOk K G W H s v)(Z:∀(j:Nat) (s':Sl) (b:V) (a:Addr),env[j]?=↑↑s'->σ[j]?=↑↑b->Owns H s v a->¬Owns H s' b a) :
  Ok K G H0 W (env.set i ↑s) (σ.set i ↑v) H:=by
 refine⟨ok.stay,ok.good,ok.wl,λj sl e=>?_,λj k c s2 v1 v2 a S d D I U Y=>?_,by rw[dz,dz,ok.len]⟩
 ·rcases pv e with⟨rfl,q,hi⟩ | ⟨hj,q⟩
  ·cases q
   exact⟨v,em (by rw[<-ok.len];exact hi),h⟩
  ·obtain⟨u,S,r⟩:=ok.slot j sl q
   exact⟨u,by rw[dh hj];exact S,r⟩
 ·rcases pv S with⟨a1,b1,c1⟩ | ⟨a1,b1⟩ <;> rcases pv d with⟨J,R,f⟩ | ⟨J,R⟩
  ·rw[<-a1,<-J]
  ·subst a1
   cases b1;rw[em (by rw[<-ok.len];exact c1)] at D;cases D;rw[dh J] at I;exact absurd Y (Z k s2 v2 a R I U)
  ·subst J
   cases R;rw[em (by rw[<-ok.len];exact f)] at I;cases I;rw[dh a1] at D;exact absurd U (Z j c v1 a b1 D Y)
  ·rw[dh a1] at D
   rw[dh J] at I;exact ok.uniq j k c s2 v1 v2 a b1 R D I U Y
def Ok.set(ok:Ok K G H0 W env σ H){i:Nat}{d:D}{v:V}(r:Rep K H (Ow G W) d v):Ok K G H0 W (env.set i ↑(.sh d)) (σ.set i ↑v) H :=
 ok.put (s:=.sh d) r λ_ _ _ _ _ _ o=>o.elim
def Ok.setO(ok:Ok K G H0 W env σ H){i:Nat}{ds:la}{l:Addr}{vs:k9}(I:W l)(J:H l=↑(.lst vs))(r:Reps K H (Ow G W) ds vs)(R:∀(j:Nat) (s:Sl) (v:V),env[j]?=↑↑s->σ[j]?=↑↑v->¬Owns H s v l) :
  Ok K G H0 W (env.set i ↑(.ow ds)) (σ.set i ↑(.ref l)) H :=
 ok.put (s:=.ow ds) ⟨l,vs,rfl,I,J,r⟩ λj s' S a e U o=>by
  have:l=a:=by have o:V.ref l=V.ref a:=o;simpa using o
  subst this;exact R j s' S e U
def Ok.let(ok:Ok K G H0 W env σ H){i:Nat}{s:Sl}{v:V}{d:D}(e:env[i]?=↑↑s)(Y:σ[i]?=↑↑v)(W':Addr->Prop)(J:∀a,W' a↔W a/\¬Owns H s v a)(r:Rep K H (Ow G W') d v) :
  Step W H W' H/\Ok K G H0 W' (env.set i ↑(.sh d)) σ H:=by
 have st:Step W H W' H:=⟨λb o q _=>q,λa z=>.inl ((J a).mp z).1⟩;refine⟨st,⟨ok.stay,ok.good,λa z=>ok.wl a ((J a).mp z).1,λj sl q=>?_,λj k g s2 v1 v2 a l R m n Z c=>?_,by rw[dz,ok.len]⟩⟩
 ·rcases pv q with⟨rfl,I,_⟩ | ⟨hj,I⟩
  ·cases I
   exact⟨v,Y,r⟩
  ·obtain⟨u,f,h⟩:=ok.slot j sl I
   exact⟨u,f,ok.slstep st h λa vs o R=>⟨(J a).mpr ⟨h.owns o,λz=>hj (ok.uniq i j s sl v u a e I Y f z o)⟩,R⟩⟩
 ·rcases pv l with⟨_,S,_⟩ | ⟨a1,S⟩
  ·cases S;exact Z.elim
  ·rcases pv R with⟨_,U,_⟩ | ⟨a2,U⟩
   ·cases U;exact c.elim
   ·exact ok.uniq j k g s2 v1 v2 a S U m n Z c
def Ok.share(ok:Ok K G H0 W env σ H){i:Nat}{ds:la}(e:env[i]?=↑↑(.ow ds)) :
  ∃W' v,σ[i]?=↑↑v/\Step W H W' H/\Ok K G H0 W' (env.set i ↑(.sh (.lst ds))) σ H/\Rep K H (Ow G W') (.lst ds) v:=by
 obtain⟨v,J,l,vs,rfl,S,U,r⟩:=ok.slot i _ e;have R:Rep K H (Ow G λa=>W a/\¬Owns H (.ow ds) (.ref l) a) (.lst ds) (.ref l) :=
  .lst ⟨ok.good l (ok.wl l S).1,λz=>z.2 rfl⟩ (.inl U) (r.mono (λ_ _ h=>h) λa us o h=>⟨⟨o.1,λz=>o.2 z.1⟩,h⟩)
 obtain⟨st,I⟩:=ok.let e J _ (λa=>Iff.rfl) R;exact⟨_,.ref l,J,st,I,R⟩
def zpv:∀ {dss:List la} {ls:ic},Inn K G W H dss ls->(∀a,a∈ls->W a->G a/\¬W' a)->(∀ds vs,Reps K H (Ow G W) ds vs->Reps K H (Ow G W') ds vs)->Reps K H (Ow G W') (dss.map D.lst) (ls.map V.ref)
 | [],[],_,_,_=>.nil |ds::dss,a::ls,h,g,r=>by
   obtain⟨S,vs,U,Y⟩:=h.2 0 ds a rfl rfl;refine .cons (.lst (g a b6 S) (.inl U) (r _ _ Y)) (zpv (dss:=dss) (ls:=ls) ⟨Nat.succ.inj h.1,λj I J Z b=>h.2 (j+1) I J (by simpa using Z) (by simpa using b)⟩ (λJ R=>g J (bc _ R)) r)
def Ok.share2(ok:Ok K G H0 W env σ H){i:Nat}{dss:List la}(e:env[i]?=↑↑(.o2 dss)) :
  ∃W' v,σ[i]?=↑↑v/\Step W H W' H/\Ok K G H0 W' (env.set i ↑(.sh (.lst (dss.map D.lst)))) σ H/\Rep K H (Ow G W') (.lst (dss.map D.lst)) v:=by
 obtain⟨v,J,l,ls,rfl,U,R,Z,hi⟩:=ok.slot i _ e;have S:Rep K H (Ow G λa=>W a/\¬Owns H (.o2 dss) (.ref l) a) (.lst (dss.map D.lst)) (.ref l) :=
  .lst ⟨ok.good l (ok.wl l U).1,λz=>z.2 (.inl rfl)⟩ (.inl R) (zpv hi (λa V Y=>⟨ok.good a (ok.wl a Y).1,λz=>z.2 (.inr ⟨l,ls,rfl,R,V⟩)⟩) λds vs r=>r.mono (λ_ _ h=>h) λa us o h=>⟨⟨o.1,λz=>o.2 z.1⟩,h⟩)
 obtain⟨st,I⟩:=ok.let e J _ (λa=>Iff.rfl) S;exact⟨_,.ref l,J,st,I,S⟩
def Ok.chg(ok:Ok K G H0 W env σ H){i:Nat}{s s':Sl}{v:V}{a:Addr}(J:Mo)(e:env[i]?=↑↑s)(f:σ[i]?=↑↑v)(t:Owns H s v a)(w:SlOk K G W (upd H a J.out) s' v)(g:∀b,Owns (upd H a J.out) s' v b->Owns H s v b):Ok K G H0 W (env.set i ↑s') σ (upd H a J.out)/\Step W H W (upd H a J.out):=by
 have Y:W a:=by obtain⟨L,Z,h⟩:=ok.slot i s e;rw[f] at Z;cases Z;exact h.owns t
 have st:Step W H W (upd H a J.out):=⟨λb o q n=>by rw[ii (λz:b=a=>n (by rw[z];exact Y))];exact q,λb z=>.inl z⟩;have r:∀ {j:Nat} {sl:Sl} {u:V} {b:Addr},i≠j->env[j]?=↑↑sl->σ[j]?=↑↑u->Owns H sl u b->b≠a:=λ{j sl u b} hj q D o z=>by
  subst z;exact hj (ok.uniq i j s sl v u b e q f D t o)
 have bk:∀ {j:Nat} {sl:Sl} {u:V} {b:Addr},i≠j->env[j]?=↑↑sl->σ[j]?=↑↑u->Owns (upd H a J.out) sl u b->Owns H sl u b:=λ{j sl u b} hj q D o=>by
  obtain⟨M,R,h⟩:=ok.slot j sl q;rw[D] at R;cases R;cases sl with
  |sh d=>exact o.elim |ow ds=>exact o |o2 dss=>exact h.back (λl S _ vs U=>by rw[ii (r hj q D (.inl S))];exact U) o |ag k p ps=>exact h.back (λl S _ vs U=>by rw[ii (r hj q D (.inl S))];exact U) o |al _ _=>exact o.elim |ro _ _=>exact o.elim
 refine⟨⟨λb o q=>?_,ok.good,λb z=>?_,λj sl q=>?_,λj k N s2 v1 v2 b D R S U x o2=>?_,by rw[dz,ok.len]⟩,st⟩
 ·rw[ii (λz=>by rw[z,(ok.wl a Y).1] at q;cases q)];exact ok.stay b o q
 ·obtain⟨q,us,g⟩:=ok.wl b z
  by_cases h:b=a
  ·exact⟨q,J,by rw[h,kx]⟩
  ·exact⟨q,us,by rw[ii h];exact g⟩
 ·rcases pv q with⟨rfl,I,_⟩ | ⟨hj,I⟩
  ·cases I
   exact⟨v,f,w⟩
  ·obtain⟨u,Z,h⟩:=ok.slot j sl I
   exact⟨u,Z,ok.slstep st h λb vs o R=>⟨h.owns o,by rw[ii (r hj I Z o)];exact R⟩⟩
 ·have back:∀ {m:Nat} {sl:Sl} {u:V},(env.set i ↑s')[m]?=↑↑sl->σ[m]?=↑↑u->Owns (upd H a J.out) sl u b->∃c,env[m]?=↑↑c/\Owns H c u b:=λ{m sl u} q D o=>by
   rcases pv q with⟨rfl,I,_⟩ | ⟨hj,I⟩
   ·cases I
    rw[f] at D;cases D;exact⟨s,e,g b o⟩
   ·exact⟨sl,I,bk hj I D o⟩
  obtain⟨y,A,B⟩:=back D S x;obtain⟨C,E,F⟩:=back R U o2;exact ok.uniq j k y C v1 v2 b A E S U B F
def Ok.turn(ok:Ok K G H0 W env σ H){i:Nat}{ds J:la}{l:Addr}{I:k9}(e:env[i]?=↑↑(.ow ds))(S:σ[i]?=↑↑(.ref l))(r:Reps K H (Ow G W) J I) :
  Ok K G H0 W (env.set i ↑(.ow J)) σ (upd H l (.lst I))/\Step W H W (upd H l (.lst I)):=by
 obtain⟨v,R,l',vs,rfl,U,Y,_⟩:=ok.slot i _ e;rw[S] at R;cases R;have st:Step W H W (upd H l (.lst I)):=⟨λb o q n=>by rw[ii (λz:b=l=>n (by rw[z];exact U))];exact q,λb z=>.inl z⟩;exact ok.chg (.l I) e S (show Owns H (.ow ds) (.ref l) l from rfl) ⟨l,I,rfl,U,kx,ok.reps st r⟩ λb o=>o
def Ok.turn2(ok:Ok K G H0 W env σ H){i j:Nat}{dss:List la}{ds J:la}{l a:Addr}{ls:ic}{I:k9}(e:env[i]?=↑↑(.o2 dss))(t:σ[i]?=↑↑(.ref l))(Z:H l=↑(.lst (ls.map V.ref)))(w:dss[j]?=↑ds)(c:ls[j]?=↑a)(r:Reps K H (Ow G W) J I):Ok K G H0 W (env.set i ↑(.o2 (dss.set j J))) σ (upd H a (.lst I))/\Step W H W (upd H a (.lst I)):=by
 obtain⟨v,R,l',f,rfl,x,S,g,hi⟩:=ok.slot i _ e;rw[t] at R;cases R;rw[Z] at S;have:=xf (by simpa using S);subst this;have u:a∈ls:=az c;have U:W a:=(hi.2 j ds a w c).1;have st:Step W H W (upd H a (.lst I)):=⟨λb o q n=>by rw[ii (λz:b=a=>n (by rw[z];exact U))];exact q,λb z=>.inl z⟩;have h:l≠a:=λz=>by subst z;exact(b9.mp g).1 u
 have Y:upd H a (.lst I) l=↑(.lst (ls.map V.ref)):=by rw[ii h];exact Z
 refine ok.chg (.l I) e t (.inr ⟨l,ls,rfl,Z,u⟩) ⟨l,ls,rfl,x,Y,g,by rw[dz];exact hi.1,λk es b y d=>?_⟩ λb o=>?_
 ·rcases pv y with⟨rfl,z,_⟩ | ⟨hk,q'⟩
  ·cases z
   rw[c] at d;cases d;exact⟨U,I,kx,ok.reps st r⟩
  ·obtain⟨m,us,p,A⟩:=hi.2 k es b q' d
   refine⟨m,us,?_,ok.reps st A⟩;have s:b≠a:=λz=>hk (by
    subst z;exact zpu (b9.mp g).2 c d)
   rw[ii s];exact p
 ·rcases o with o | ⟨l',f,z,q,p⟩
  ·exact .inl o
  ·cases z
   rw[Y] at q;have:=xf (by simpa using q);subst this;exact .inr ⟨l,ls,rfl,Z,p⟩
def PtsOk.get{ps:ln}{as:ic}{us:k9}{j:Nat}{ds:la}(h:PtsOk K G W H ps as us)(e:ps[j]?=↑(.o ds)):∃a vs,us[j]?=↑(.ref a)/\a∈as/\W a/\H a=↑(.lst vs)/\Reps K H (Ow G W) ds vs:=by
 induction h generalizing j with
 |nil=>simp at e |d _ _ ih =>
   cases j with
   |zero=>simp at e |succ j=>obtain⟨a,vs,h1,h2⟩:=ih (j:=j) (by simpa using e);exact⟨a,vs,by simpa using h1,h2⟩
 | @o _ a vs _ _ _ hW hl r _ ih =>
   cases j with
   |zero=>simp at e;subst e;exact⟨a,vs,rfl,b6,hW,hl,r⟩ |succ j=>obtain⟨a,vs,h1,h2,I⟩:=ih (j:=j) (by simpa using e);exact⟨a,vs,by simpa using h1,bc _ h2,I⟩
def PtsOk.getD{ps:ln}{as:ic}{us:k9}{j:Nat}{d:D}(h:PtsOk K G W H ps as us)(e:ps[j]?=↑(.d d)):∃v,us[j]?=↑v/\Rep K H (Ow G W) d v:=by
 induction h generalizing j with
 |nil=>simp at e |d q _ ih =>
   cases j with
   |zero=>simp at e;subst e;exact⟨_,rfl,q⟩ |succ j=>obtain⟨a,h1,h2⟩:=ih (j:=j) (by simpa using e);exact⟨a,by simpa using h1,h2⟩
 |o _ _ _ _ ih =>
   cases j with
   |zero=>simp at e |succ j=>obtain⟨a,h1,h2⟩:=ih (j:=j) (by simpa using e);exact⟨a,by simpa using h1,h2⟩
def PtsOk.set{ps:ln}{as:ic}{us:k9}{j:Nat}{a:Addr}{ds R:la}{I:k9}(st:Step W H W (upd H a (.lst I)))(ok:Ok K G H0 W env σ H)(h:PtsOk K G W H ps as us)(S:as.Nodup)(e:ps[j]?=↑(.o ds))(J:us[j]?=↑(.ref a))(r:Reps K H (Ow G W) R I) :
  PtsOk K G W (upd H a (.lst I)) (ps.set j (.o R)) as us:=by
 induction h generalizing j with
 |nil=>simp at e |d q t ih =>
   cases j with
   |zero=>simp at e |succ j=>exact .d (ok.rep st q) (ih S (by simpa using e) (by simpa using J))
 | @o es b vs ps' as' us' hW hl q t ih =>
   cases j with
   |zero =>
     simp at J;subst J;refine .o hW kx (ok.reps st r) (t.step (λb vs U J=>⟨(t.own U).1,?_⟩) (λ_ _ r=>ok.rep st r) λ_ _ r=>ok.reps st r);rw[ii (λz:b=_=>by subst z;exact(b9.mp S).1 U)];exact J
   |succ j =>
     have Y:a∈as':=t.parts_iff.mp ⟨j,ds,e,J⟩;have Z:b≠a:=λz=>by subst z;exact(b9.mp S).1 Y
     exact .o hW (by rw[ii Z];exact hl) (ok.reps st q) (ih (b9.mp S).2 e J)
def zxa{ps:ln}{us:k9}{j:Nat}{ds I:la}{b:Addr}(e:ps[j]?=↑(.o ds))(h:zz2 (ps.set j (.o I)) us b):zz2 ps us b:=by
 obtain⟨i,es,h1,h2⟩:=h;rcases pv h1 with⟨rfl,_,_⟩ | ⟨_,z⟩
 ·exact⟨j,ds,e,h2⟩
 ·exact⟨i,es,z,h2⟩
def Ok.turnP(ok:Ok K G H0 W env σ H){i j:Nat}{k:AK}{r:Option Nat}{ps:ln}{p a:Addr}{us:k9}{ds J:la}{I:k9}(e:env[i]?=↑↑(.ag k r ps))(u:σ[i]?=↑↑(.ref p))(U:AkOk K H k p us)(Y:ps[j]?=↑(.o ds))(Z:us[j]?=↑(.ref a))(x:Reps K H (Ow G W) J I) :
  Ok K G H0 W (env.set i ↑(.ag k r (ps.set j (.o J)))) σ (upd H a (.lst I))/\Step W H W (upd H a (.lst I)):=by
 obtain⟨v,R,p',as,c,rfl,y,d,A,f,g⟩:=ok.slot i _ e;rw[u] at R;cases R;have:=xw f U.o;subst this;have w:a∈as:=g.parts_iff.mp ⟨j,ds,Y,Z⟩;have h:=(g.own w).1;have st:Step W H W (upd H a (.lst I)):=⟨λb o q n=>by rw[ii (λz:b=a=>n (by rw[z];exact h))];exact q,λb z=>.inl z⟩;have s:p≠a:=λz=>by subst z;exact(b9.mp d).1 w
 have t:=PtsOk.set st ok g (b9.mp d).2 Y Z x;obtain⟨m,B,C⟩:=U.mo;have S:AkOk K (upd H a (.lst I)) k p us:=C _ (by rw[ii s];exact B);refine ok.chg (.l I) e u (.inr ⟨p,us,rfl,U.o,j,ds,Y,Z⟩) ⟨p,as,us,rfl,y,d,A,S,t⟩ λb o=>?_;rcases o with o | ⟨p',c,z,q,hb⟩
 ·exact .inl o
 ·cases z
  rw[xw S q] at hb;exact .inr ⟨p,us,rfl,U.o,zxa Y hb⟩
def Ok.turnD(ok:Ok K G H0 W env σ H){i j:Nat}{r:Option Nat}{p:Addr}{ps:ln}{us:k9}{d d':D}{I:V}(e:env[i]?=↑↑(.ag .ls r ps))(k:σ[i]?=↑↑(.ref p))(s:H p=↑(.lst us))(w:ps[j]?=↑(.d d))(x:Rep K H (Ow G W) d' I) :
  Ok K G H0 W (env.set i ↑(.ag .ls r (ps.set j (.d d')))) σ (upd H p (.lst (us.set j I)))/\Step W H W (upd H p (.lst (us.set j I))):=by
 obtain⟨v,S,p',as,R,rfl,Y,u,y,J,c⟩:=ok.slot i _ e;rw[k] at S;cases S;have J:H p=↑(.lst R):=J;rw[s] at J;cases J;have st:Step W H W (upd H p (.lst (us.set j I))):=⟨λb o q n=>by rw[ii (λz:b=p=>n (by rw[z];exact Y))];exact q,λb z=>.inl z⟩;have f:=ok.rep st x;have g:PtsOk K G W (upd H p (.lst (us.set j I))) ps as us:=c.step (λb vs Z A=>⟨(c.own Z).1,by rw[ii (λz:b=p=>by subst z;exact(b9.mp u).1 Z)];exact A⟩) (λ_ _ r=>ok.rep st r) λ_ _ r=>ok.reps st r;have go:∀ {a:ln} {bs:ic} {ws:k9} (m:Nat),PtsOk K G W (upd H p (.lst (us.set j I))) a bs ws->a[m]?=↑(.d d)->PtsOk K G W (upd H p (.lst (us.set j I))) (a.set m (.d d')) bs (ws.set m I):=by
  intro a bs ws m h;induction h generalizing m with
  |nil=>intro e;simp at e
  |d q t ih =>
    intro e;cases m with
    |zero=>exact .d f t |succ m=>exact .d q (ih m (by simpa using e))
  |o Y hl q t ih =>
    intro e;cases m with
    |zero=>simp at e |succ m=>exact .o Y hl q (ih m (by simpa using e))
 have U:=go j g w;refine ok.chg (.l (us.set j I)) e k (.inl rfl) ⟨p,as,us.set j I,rfl,Y,u,y,kx,U⟩ λb o=>?_;rcases o with o | ⟨p',R,z,q,Z⟩
 ·exact .inl o
 ·cases z
  have q:upd H p (.lst (us.set j I)) p=↑(.lst R):=q;rw[kx] at q;cases q;exact .inr ⟨p,us,rfl,s,c.parts_iff.mpr (U.parts_iff.mp Z)⟩
end
structure At (X:Cx) (i:Nat) (x:Str):Prop where
 n:X.N[i]?=↑x
 v:Vis X.env.scope x
 d:(x==("__debug__" : Str))=false
 c:(x==("__classdict__" : Str))=false
def At.pe(h:At X i x):PE X (.Name x pos) (tVar i):=z5v h.n h.v h.d h.c
structure To (X:Cx) (i:Nat) (x:Str):Prop where
 nd:X.N.Nodup
 n:X.N[i]?=↑x
 l:Loc X.env.scope x
 f:X.fn x=true\/X.env.scope.names.lookup x=some .local
structure Bn (X:Cx) (x:Str):Prop where
 g:Gl X x
 m:X.mg x=none
structure Ats (N cs:h7) (X:Cx):Prop where
 n:X.N=N
 get:∀i x,N[i]?=↑x->At X i x
 ck:∀u∈cs,X.env.kindOf u=some .cell\/X.env.kindOf u=some .free
structure Tos (N:h7) (X:Cx):Prop where
 to:∀i x,N[i]?=↑x->To X i x
variable{N cs:h7}
protected def Ats.a(h:Ats N cs X)(e:N[i]?=↑x):At X i x:=h.get i x e
protected def Tos.t(h:Tos N X)(e:N[i]?=↑x):To X i x:=h.to i x e
def Ats.nox(h:Ats N cs X):Ats N cs X.nox:=⟨h.n,λi x e=>let z:=h.get i x e;⟨z.n,z.v,z.d,z.c⟩,h.ck⟩
def Tos.nox(h:Tos N X):Tos N X.nox:=⟨λi x e=>let z:=h.to i x e;⟨z.nd,z.n,z.l,z.f⟩⟩
def okN(x:Str):Bool:=!(x==("__debug__" : Str)) && !(x==("__classdict__" : Str))
def uo(h:okN x=true):(x==("__debug__" : Str))=false/\(x==("__classdict__" : Str))=false:=by
 unfold okN at h;rwa [eh,lj,lj] at h
def wm{o:Option NameKind}{k:NameKind}(h:(o==↑k)=true):o=↑k:=by
 cases o with
 |none=>cases h
 |some a=>cases a <;> cases k <;> first |rfl |cases h
def subN(N:h7)(ix:ik):h7:=ix.map λi=>N.getD i ("" : Str)
def rj(N cs:h7)(ix:ik)(y:Str)(sc:Scope):Bool:=decide ((y::subN N ix).Nodup) && decide (sc.kind=.function) && (sc.names.lookup y==some .local) && decide (∀z∈sc.names,z.2≠.cell) && decide (∀z∈sc.names,z.2=.local->sc.names.lookup z.1=some .local) && decide (∀z∈sc.names,z.2=.free->z.1∈subN N ix) && (subN N ix).all (λu=>(sc.names.lookup u==some .free) && cs.elem u) && (y::subN N ix).all okN
def gl_d(h:X.env.scope.names.lookup x=some .globalImplicit):Gl X x:=h
variable{s:Shared}{C:Addr}
def z6w(h:sc.names.lookup x=some .local):Vis (jd X y N' sc cl C s H fp).env.scope x:=.inl (lookup_relabel_local h)
def z6x(h:sc.names.lookup x=some .free):Vis (jd X y N' sc cl C s H fp).env.scope x:=.inr (zcy h)
def wx(hA:Ats N cs X)(h:rj N cs ix y sc=true):zw9 X y (subN N ix) ix sc:=by
 unfold rj at h;simp only[eh,decide_eq_true_eq,ib] at h;obtain⟨⟨⟨⟨⟨⟨⟨h1,h2⟩,I⟩,J⟩,R⟩,S⟩,D⟩,_⟩:=h;exact⟨by rw[hA.n];rfl,h1,h2,wm I,J,R,λz U V=>hA.ck z.1 (List.mem_of_elem_eq_true (D z.1 (S z U V)).2),λu Y=>wm (D u Y).1⟩
variable{s₂:Shared}{H₂:Hp}
def uv(h:rj N cs ix y sc=true):Ats (y::subN N ix) (subN N ix) (jd X y (subN N ix) sc cl C s₂ H₂ fp):=by
 unfold rj at h;simp only[eh,decide_eq_true_eq,ib] at h;obtain⟨⟨⟨⟨⟨⟨⟨h1,h2⟩,J⟩,S⟩,U⟩,V⟩,D⟩,I⟩:=h;refine⟨rfl,λi x e=>⟨e,?_,(uo (I x (az e))).1,(uo (I x (az e))).2⟩,λu R=>?_⟩
 ·rcases ce.mp (az e) with rfl |hm
  ·exact z6w (wm J)
  ·exact z6x (wm (D x hm).1)
 ·exact zcy (env:=X.env) (wm (D u R).1)
abbrev FE:=DE0->Option (D×DE0)
abbrev FT:=DE0->Option (Bool×DE0)
abbrev FA:=DE0->Option (la×DE0)
inductive DP (K:k6) (G:Gd) (H0:Hp) {β:Type} (f:DE0->Option (β×DE0)) (P:(Addr->Prop)->DE0->β->DE0->Prop) (σ:St) (H:Hp):Prop
 |mk (W:Addr->Prop) (env:DE0) (d:β) (env':DE0) (ok:Ok K G H0 W env σ H) (q:f env=↑(d,env')) (k:P W env d env'):DP K G H0 f P σ H
def tD(K:k6)(G:Gd)(H0:Hp)(f:FE):TE:=λσ H Q=>DP K G H0 f (λW env d env' =>
 ∀W' v H',Step W H W' H'->Ok K G H0 W' env' σ H'->Rep K H' (Ow G W') d v->Q v H') σ H
def tDT(K:k6)(G:Gd)(H0:Hp)(f:FT):TT:=λσ H Q=>DP K G H0 f (λW env b env' =>
 ∀W' H',Step W H W' H'->Ok K G H0 W' env' σ H'->Q b H') σ H
def tDA(K:k6)(G:Gd)(H0:Hp)(f:FA):TA:=λσ H Q=>DP K G H0 f (λW env ds env' =>
 ∀W' vs H',Step W H W' H'->Ok K G H0 W' env' σ H'->Reps K H' (Ow G W') ds vs->Q vs H') σ H
def tDF(K:k6)(G:Gd)(H0:Hp)(f:FA):TE:=λσ H Q=>DP K G H0 f (λW env ds env' =>
 ∀W' l vs H',Step W H (addW W' l) H'->Ok K G H0 W' env' σ H'->Ok K G H0 (addW W' l) env' σ H'->¬W' l->H' l=↑(.lst vs)->Reps K H' (Ow G (addW W' l)) ds vs->Q (.ref l) H') σ H
structure DEx (X:Cx) (G:Gd) (H0:Hp) (e:Expr) (f:FE):Prop where
 out:PE X e (tD X.K G H0 f)
structure DTx (X:Cx) (G:Gd) (H0:Hp) (e:Expr) (f:FT):Prop where
 out:PT X e (tDT X.K G H0 f)
structure DAx (X:Cx) (G:Gd) (H0:Hp) (es:kb) (f:FA):Prop where
 out:PA X es (tDA X.K G H0 f)
structure DFx (X:Cx) (G:Gd) (H0:Hp) (e:Expr) (f:FA):Prop where
 out:PE X e (tDF X.K G H0 f)
variable{e:Expr}{t:TE}{t':TT}
def PE.imp{t':TE}(h:PE X e t)(i:∀σ H Q,t' σ H Q->t σ H Q):PE X e t':=λpins s σ H Q I q=>h pins s σ H Q I (i σ H Q q)
def PT.imp{t:TT}(h:PT X e t)(i:∀σ H Q,t' σ H Q->t σ H Q):PT X e t':=λpins s σ H Q I q=>h pins s σ H Q I (i σ H Q q)
def PA.imp{e:kb}{t t':TA}(h:PA X e t)(i:∀σ H Q,t' σ H Q->t σ H Q):PA X e t':=λpos pins s σ H Q I q=>h pos pins s σ H Q I (i σ H Q q)
@[simp] def fVar(i:Nat):FE:=λe=>match e[i]? with
 |some ↑(.sh d)=>↑(d,e) |some ↑(.ow ds)=>↑(.lst ds,e.set i ↑(.sh (.lst ds)))
 |some ↑(.o2 dss)=>↑(.lst (dss.map D.lst),e.set i ↑(.sh (.lst (dss.map D.lst))))
 |_=>none
@[simp] def fC(d:D):FE:=λe=>↑(d,e)
@[simp] def fBin(op:D->D->ll)(f g:FE):FE:=λe=>(f e).bind λr=>(g r.2).bind λq=>(op r.1 q.1).map λd=>(d,q.2)
@[simp] def fUn(op:D->ll)(f:FE):FE:=λe=>(f e).bind λr=>(op r.1).map λd=>(d,r.2)
@[simp] def fAnd(f g:FT):FT:=λe=>(f e).bind λr=>if r.1=true then g r.2 else ↑(false,r.2)
@[simp] def fOr(f g:FT):FT:=λe=>(f e).bind λr=>if r.1=true then ↑(true,r.2) else g r.2
@[simp] def fNot(f:FT):FT:=λe=>(f e).map λr=>(!r.1,r.2)
@[simp] def fTst(f:FE):FT:=λe=>(f e).bind λr=>match r.1 with | .bl b=>↑(b,r.2) |_=>none
@[simp] def xp(f g:FE):FE:=λe=>(f e).bind λr=>match r.1 with | .bl true=>g r.2 | .bl false=>↑(.bl false,r.2) |_=>none
@[simp] def z3s(f:FE):FE:=λe=>(f e).bind λr=>match r.1 with | .bl b=>↑(.bl (!b),r.2) |_=>none
@[simp] def fNil:FA:=λe=>↑([],e)
@[simp] def ax(f:FE)(g:FA):FA:=λe=>(f e).bind λr=>(g r.2).bind λq=>↑(r.1::q.1,q.2)
@[simp] def fTup(g:FA):FE:=λe=>(g e).bind λr=>if r.1.length<=64 then ↑(.tup r.1,r.2) else none
@[simp] def gg(g:FA):FA:=λe=>(g e).bind λr=>if r.1.length<=64 then ↑(r.1,r.2) else none
@[simp] def fLst(g:FA):FE:=λe=>(g e).map λr=>(.lst r.1,r.2)
@[simp] def gp:D->D->ll | .int i,.int j=>↑(.int (i+j)) |_,_=>none
@[simp] def dSub:D->D->ll | .int i,.int j=>↑(.int (i-j)) |_,_=>none
def l9(i:Int):Prop:=-(2 ^ 64)<i/\i<2 ^ 64
noncomputable instance (i:Int):Decidable (l9 i):=Classical.propDecidable _
def Few(n:Nat):Prop:=n<=2 ^ 20
noncomputable instance (n:Nat):Decidable (Few n):=Classical.propDecidable _
def Bnd(lo hi i:Int):Prop:=lo<=i/\i<hi
noncomputable instance (lo hi i:Int):Decidable (Bnd lo hi i):=Classical.propDecidable _
def dMul:D->D->ll | .int i,.int j=>if l9 i\/l9 j then ↑(.int (i*j)) else none |_,_=>none
def dMod:D->D->ll | .int i,.int j=>if 0<j then ↑(.int (i % j)) else none |_,_=>none
def dDiv:D->D->ll | .int i,.int j=>if Bnd 1 1073741824 j then ↑(.int (i / j)) else none |_,_=>none
@[simp] def dNeg:D->ll | .int i=>↑(.int (-i)) |_=>none
@[simp] def dLt:D->D->ll | .int i,.int j=>↑(.bl (decide (i<j))) |_,_=>none
@[simp] def dGt:D->D->ll | .int i,.int j=>↑(.bl (decide (j<i))) |_,_=>none
@[simp] def dGe:D->D->ll | .int i,.int j=>↑(.bl (decide (j<=i))) |_,_=>none
@[simp] def dEq:D->D->ll
 | .int i,.int j=>↑(.bl (decide (i=j))) | .str i,.str j=>↑(.bl (decide (i=j))) | .bl i,.bl j=>↑(.bl (decide (i=j))) |_,_=>none
@[simp] def dNe:D->D->ll
 | .int i,.int j=>↑(.bl (!decide (i=j))) | .str i,.str j=>↑(.bl (!decide (i=j))) | .bl i,.bl j=>↑(.bl (!decide (i=j))) |_,_=>none
@[simp] def dIx:D->D->ll | .tup ds,.int i=>atI ds i | .lst ds,.int i=>atI ds i |_,_=>none
def OpD(X:Cx)(G:Gd)(H0:Hp)(r:R2)(op:D->D->ll):Prop :=
 ∀W env σ H x y d1 d2 d (Q:VK),Ok X.K G H0 W env σ H->Rep X.K H (Ow G W) d1 x->Rep X.K H (Ow G W) d2 y->op d1 d2=↑d ->
  (∀v H',Step W H W H'->Ok X.K G H0 W env σ H'->Rep X.K H' (Ow G W) d v->Q v H')->r x y H Q
variable{r:R2}{op:D->D->ll}{H0:Hp}{g:FE}
def zz3(S:OpD X G H0 r op):∀σ H Q,tD X.K G H0 (fBin op f g) σ H Q->tOp r (tD X.K G H0 f) (tD X.K G H0 g) σ H Q:=by
 rintro σ H Q ⟨W,env,d,env',ok,e,k⟩;cases e1:f env with
 |none=>simp[e1] at e |some r1 =>
   cases e2:g r1.2 with
   |none=>simp[e1,e2] at e |some r2 =>
     have e:(op r1.1 r2.1).map (λd=>(d,r2.2))=↑(d,env'):=by simpa[fBin,e1,e2] using e
     cases e3:op r1.1 r2.1 with
     |none=>rw[e3] at e;cases e
     |some d' =>
       rw[e3] at e;have U:(d',r2.2)=(d,env'):=bz e;cases U;refine⟨W,env,r1.1,r1.2,ok,e1,λW1 v1 H1 V D p1=>⟨W1,r1.2,r2.1,r2.2,D,e2,λR v2 H2 s2 I p2=>?_⟩⟩;exact S R _ σ H2 v1 v2 _ _ _ Q I (D.rep s2 p1) p2 e3 λv Y Z J a=>k R v Y ((V.trans s2).trans Z) J a
variable{a b:Expr}{p:D->D->ll}
def za{op:Operator}(D:OpR X (binaryOp op) r)(hd:OpD X G H0 r p)(I:DEx X G H0 a f)(J:DEx X G H0 b g):DEx X G H0 (.BinOp a op b pos) (fBin p f g) :=
 ⟨(z3a D I.out J.out).imp (zz3 hd)⟩
def z2b{op:CmpOp}(D:OpR X (compareOp op) r)(hd:OpD X G H0 r p)(I:DEx X G H0 a f)(J:DEx X G H0 b g)(R:behindInMarks op b=false):DEx X G H0 (.Compare a [op] [b] pos) (fBin p f g) :=
 ⟨(z3c D I.out J.out R).imp (zz3 hd)⟩
def z6y(D:IxR X r)(hd:OpD X G H0 r p)(I:DEx X G H0 a f)(J:DEx X G H0 b g)(R:vn b):DEx X G H0 (.Subscript a b pos) (fBin p f g) :=
 ⟨(xq D I.out J.out R).imp (zz3 hd)⟩
def z6z(h:∀σ H Q,tD X.K G H0 f σ H Q->t σ H Q):∀σ H Q,tDT X.K G H0 (fTst f) σ H Q->z6i t σ H Q:=by
 rintro σ H Q ⟨W,env,b,env',ok,e,k⟩;refine h σ H _ ?_;cases e1:f env with
 |none=>simp[e1] at e |some r1 =>
   obtain⟨d,D⟩:=r1;cases d with
   |bl b' =>
     have e:↑(b',D)=↑(b,env'):=by simpa[fTst,e1] using e
     cases e;exact⟨W,env,_,_,ok,e1,λW1 v1 H1 J I p1=>⟨_,p1.bl_,k W1 H1 J I⟩⟩
   |_=>simp[e1] at e
def y9{op:CmpOp}(D:OpR X (compareOp op) r)(hd:OpD X G H0 r p)(I:DEx X G H0 a f)(J:DEx X G H0 b g)(R:behindInMarks op b=false):DTx X G H0 (.Compare a [op] [b] pos) (fTst (fBin p f g)) :=
 ⟨(z3d D I.out J.out R).imp (z6z (zz3 hd))⟩
variable{g:Int->Int->Int}
def od_I{C:Int->Int->Prop}(h:∀D I d,op D I=↑d->∃i j,D=.int i/\I=.int j/\C i j/\d=.int (g i j)):OpD X G H0 (rI C λi j=>.int (g i j)) op:=by
 intro W env σ H x y D I d Q ok p1 p2 e k;obtain⟨i,j,rfl,rfl,J,rfl⟩:=h _ _ _ e;exact⟨i,j,p1.int_,p2.int_,J,k _ H Step.refl ok (.int _)⟩
def z60(h:∀D I d,op D I=↑d->∃i j,D=.int i/\I=.int j/\d=.int (g i j)):OpD X G H0 (rI0 λi j=>.int (g i j)) op:=by
 intro W env σ H x y D I d Q ok p1 p2 e k;obtain⟨i,j,rfl,rfl,rfl⟩:=h _ _ _ e;exact⟨i,j,p1.int_,p2.int_,k _ H Step.refl ok (.int _)⟩
variable{g:FE}
def z3t{g:Int->Int->Bool}(h:∀D I d,op D I=↑d->∃i j,D=.int i/\I=.int j/\d=.bl (g i j)):OpD X G H0 (rI0 λi j=>.bl (g i j)) op:=by
 intro W env σ H x y D I d Q ok p1 p2 e k;obtain⟨i,j,rfl,rfl,rfl⟩:=h _ _ _ e;exact⟨i,j,p1.int_,p2.int_,k _ H Step.refl ok (.bl _)⟩
def z61:OpD X G H0 (rI0 λi j=>.int (i+j)) gp:=z60 λD I d e=>by
 cases D <;> try (cases e;done)
 all_goals cases I <;> first | (cases e;done) |exact⟨_,_,rfl,rfl,(bz e).symm⟩
def z62:OpD X G H0 (rI0 λi j=>.int (i-j)) dSub:=z60 λD I d e=>by
 cases D <;> try (cases e;done)
 all_goals cases I <;> first | (cases e;done) |exact⟨_,_,rfl,rfl,(bz e).symm⟩
def z63:OpD X G H0 (rI CMul λi j=>.int (i*j)) dMul:=od_I λD I d e=>by
 cases D <;> try (cases e;done)
 all_goals cases I <;> first
  | (cases e;done)
  | (rename_i i j
     by_cases h:l9 i\/l9 j
     ·simp only[dMul,if_pos h] at e;exact⟨_,_,rfl,rfl,h,(bz e).symm⟩
     ·simp only[dMul,if_neg h] at e;cases e)
def z64:OpD X G H0 (rI (λ_ j=>0<j) λi j=>.int (i % j)) dMod:=od_I λD I d e=>by
 cases D <;> try (cases e;done)
 all_goals cases I <;> first
  | (cases e;done)
  | (rename_i i j
     by_cases h:0<j
     ·simp only[dMod,if_pos h] at e;exact⟨_,_,rfl,rfl,h,(bz e).symm⟩
     ·simp only[dMod,if_neg h] at e;cases e)
theorem z65:OpD X G H0 (rI CDiv λi j=>.int (i / j)) dDiv:=od_I λD I d e=>by
 cases D <;> try (cases e;done)
 all_goals cases I <;> first
  | (cases e;done)
  | (rename_i i j
     by_cases h:Bnd 1 1073741824 j
     ·simp only[dDiv,if_pos h] at e;exact⟨_,_,rfl,rfl,⟨by have:=h.1;lia,h.2⟩,(bz e).symm⟩
     ·simp only[dDiv,if_neg h] at e;cases e)
def z9u:OpD X G H0 (rI0 λi j=>.bl (decide (i<j))) dLt:=z3t λD I d e=>by
 cases D <;> try (cases e;done)
 all_goals cases I <;> first | (cases e;done) |exact⟨_,_,rfl,rfl,(bz e).symm⟩
def z66:OpD X G H0 (rI0 λi j=>.bl (decide (j<i))) dGt:=z3t λD I d e=>by
 cases D <;> try (cases e;done)
 all_goals cases I <;> first | (cases e;done) |exact⟨_,_,rfl,rfl,(bz e).symm⟩
def z9v:OpD X G H0 (rI0 λi j=>.bl (decide (j<=i))) dGe:=z3t λD I d e=>by
 cases D <;> try (cases e;done)
 all_goals cases I <;> first | (cases e;done) |exact⟨_,_,rfl,rfl,(bz e).symm⟩
def z2c(i j:Int):decide (V.int i=V.int j)=decide (i=j):=by simp
def z2d(i j:Str):decide (V.str i=V.str j)=decide (i=j):=by simp
def z67(i j:Bool):decide (V.bl i=V.bl j)=decide (i=j):=by simp
def z68:OpD X G H0 rEq dEq:=by
 intro W env σ H x y D I d Q ok p1 p2 e k;cases D <;> try (cases e;done)
 all_goals cases I <;> first
  | (cases e;done)
  | (cases p1.int_;cases p2.int_;cases e;refine⟨rfl,?_⟩;rw[z2c];exact k _ H Step.refl ok (.bl _))
  | (cases p1.str_;cases p2.str_;cases e;refine⟨rfl,?_⟩;rw[z2d];exact k _ H Step.refl ok (.bl _))
  | (cases p1.bl_;cases p2.bl_;cases e;refine⟨rfl,?_⟩;rw[z67];exact k _ H Step.refl ok (.bl _))
def z9w:OpD X G H0 rNe dNe:=by
 intro W env σ H x y D I d Q ok p1 p2 e k;cases D <;> try (cases e;done)
 all_goals cases I <;> first
  | (cases e;done)
  | (cases p1.int_;cases p2.int_;cases e;refine⟨rfl,?_⟩;rw[z2c];exact k _ H Step.refl ok (.bl _))
  | (cases p1.str_;cases p2.str_;cases e;refine⟨rfl,?_⟩;rw[z2d];exact k _ H Step.refl ok (.bl _))
  | (cases p1.bl_;cases p2.bl_;cases e;refine⟨rfl,?_⟩;rw[z67];exact k _ H Step.refl ok (.bl _))
def zk{i:Int}(r:Reps K H O ds vs)(h:atI ds i=↑d):∃v,atI vs i=↑v/\Rep K H O d v:=by
 unfold atI at h ⊢;rw[<-r.length];cases q:ixN ds.length i with
 |none=>rw[q] at h;cases h
 |some j=>rw[q] at h;exact r.get h
def z9x:OpD X G H0 (rIx X.K) dIx:=by
 intro W env σ H x y J R d Q ok p1 p2 e k;cases J <;> first
  | (cases e;done)
  | (cases R <;> first
      | (cases e;done)
      | (cases p2
         first
          | (obtain⟨a, vs, rfl, h, r⟩ := p1.tup_
             obtain⟨v,D,I⟩:=zk r e;exact .inr (.inl ⟨a,vs,_,v,rfl,rfl,SqT.of h,D,k _ H Step.refl ok I⟩))
          | (obtain⟨a, vs, rfl, h, r⟩ := p1.lst_
             obtain⟨v,D,I⟩:=zk r e;exact .inl ⟨a,vs,_,v,rfl,rfl,h.sq,D,k _ H Step.refl ok I⟩)))
def j7(D:DEx X G H0 a f)(I:DEx X G H0 b g):DEx X G H0 (.BinOp a .Add b pos) (fBin gp f g):=za z6c z61 D I
def j6(D:DEx X G H0 a f)(I:DEx X G H0 b g):DEx X G H0 (.BinOp a .Sub b pos) (fBin dSub f g):=za z6d z62 D I
def o6(D:DEx X G H0 a f)(I:DEx X G H0 b g):DEx X G H0 (.BinOp a .Mult b pos) (fBin dMul f g):=za z6e z63 D I
def mf(D:DEx X G H0 a f)(I:DEx X G H0 b g):DEx X G H0 (.BinOp a .Mod b pos) (fBin dMod f g):=za z6f z64 D I
def o5(D:DEx X G H0 a f)(I:DEx X G H0 b g):DEx X G H0 (.BinOp a .FloorDiv b pos) (fBin dDiv f g):=za z3b z65 D I
def z9y(D:DEx X G H0 a f)(I:DEx X G H0 b g):DEx X G H0 (.Compare a [.Gt] [b] pos) (fBin dGt f g):=z2b z6h z66 D I (wu _)
def z69(D:DEx X G H0 a f)(I:DEx X G H0 b g):DEx X G H0 (.Compare a [.Eq] [b] pos) (fBin dEq f g):=z2b z6g z68 D I (wu _)
def oz(D:DEx X G H0 a f)(I:DEx X G H0 b g):DTx X G H0 (.Compare a [.Lt] [b] pos) (fTst (fBin dLt f g)):=y9 z9o z9u D I (wu _)
def nc(D:DEx X G H0 a f)(I:DEx X G H0 b g):DTx X G H0 (.Compare a [.Gt] [b] pos) (fTst (fBin dGt f g)):=y9 z6h z66 D I (wu _)
def yu(D:DEx X G H0 a f)(I:DEx X G H0 b g):DTx X G H0 (.Compare a [.GtE] [b] pos) (fTst (fBin dGe f g)):=y9 z9p z9v D I (wu _)
def kt(D:DEx X G H0 a f)(I:DEx X G H0 b g):DTx X G H0 (.Compare a [.Eq] [b] pos) (fTst (fBin dEq f g)):=y9 z6g z68 D I (wu _)
def qo(D:DEx X G H0 a f)(I:DEx X G H0 b g):DTx X G H0 (.Compare a [.NotEq] [b] pos) (fTst (fBin dNe f g)):=y9 z9n z9w D I (wu _)
def lc(D:DEx X G H0 a f)(I:DEx X G H0 b g)(J:vn b:=by intro _ _;rfl):DEx X G H0 (.Subscript a b pos) (fBin dIx f g):=z6y zw1 z9x D I J
variable{Nn Cn:h7}
def bg(an:Ats Nn Cn X)(J:Nn[i]?=↑x:=by rfl):DEx X G H0 (.Name x pos) (fVar i):=⟨((an.a J).pe).imp λσ H Q R=>by
 obtain⟨W,env,d,env',ok,e,k⟩:=R;unfold fVar at e;cases q:env[i]? with
 |none=>rw[q] at e;cases e
 |some o =>
   cases o with
   |none=>rw[q] at e;cases e
   |some sl =>
     cases sl with
     |sh d' =>
       rw[q] at e;cases e;obtain⟨v,I,r⟩:=ok.slot i _ q;exact⟨v,I,k W v H Step.refl ok r⟩
     |ow ds =>
       rw[q] at e;cases e;obtain⟨W',v,I,st,D,r⟩:=ok.share q;exact⟨v,I,k W' v H st D r⟩
     |o2 dss =>
       rw[q] at e;cases e;obtain⟨W',v,I,st,D,r⟩:=ok.share2 q;exact⟨v,I,k W' v H st D r⟩
     |ag _ _ _=>rw[q] at e;cases e
     |al _ _=>rw[q] at e;cases e
     |ro _ _=>rw[q] at e;cases e⟩
def de_c(h:PE X e (tC v))(r:∀H O,Rep X.K H O d v):DEx X G H0 e (fC d):=⟨h.imp λσ H Q D=>by
 obtain⟨W,env,d',env',ok,q,k⟩:=D;cases q;exact k W v H Step.refl ok (r _ _)⟩
def cb{i:Int}:DEx X G H0 (.Constant (.int i) j pos) (fC (.int i)):=de_c y8 λ_ _=>.int _
def lh{i:Bool}:DEx X G H0 (.Constant (.bool i) j pos) (fC (.bl i)):=de_c z9e λ_ _=>.bl _
def il{i:Str}:DEx X G H0 (.Constant (.str i) j pos) (fC (.str i)):=de_c z11 λ_ _=>.str _
def zrk(R:DEx X G H0 a f):DEx X G H0 (.UnaryOp .USub a pos) (fUn dNeg f):=⟨(z6b z14 R.out).imp λσ H Q S=>by
 obtain⟨W,env,d',env',ok,q,k⟩:=S;cases e1:f env with
 |none=>simp[e1] at q |some r =>
   obtain⟨d,I⟩:=r;cases d with
   |int i =>
     have q:↑(D.int (-i),I)=↑(d',env'):=by simpa[fUn,e1,dNeg] using q
     cases q;exact⟨W,env,_,_,ok,e1,λW1 v1 H1 U J p1=>⟨i,p1.int_,k W1 _ H1 U J (.int _)⟩⟩
   |_=>simp[e1] at q⟩
structure DWx (X:Cx) (G:Gd) (H0:Hp) (e:Expr) (f:FT):Prop where
 out:PW X e (tDT X.K G H0 f)
variable{t:TI}
def PW.imp{t:TT}(h:PW X e t)(i:∀σ H Q,t' σ H Q->t σ H Q):PW X e t':=λw pins s σ H Q I q=>h w pins s σ H Q I (i σ H Q q)
variable{p:FT}
def dt_w(h:DWx X G H0 e p):DTx X G H0 e p:=⟨PW.pt h.out⟩
def tw(h:DTx X G H0 a p):DWx X G H0 (.BoolOp .And [a] pos) p:=⟨z26 h.out⟩
def l4(h:DTx X G H0 a p):DWx X G H0 (.BoolOp .Or [a] pos) p:=⟨z5x h.out⟩
variable{rest:kb}
def rq(h:DTx X G H0 a p)(h2:DWx X G H0 (.BoolOp .And (b::rest) pos) q):DWx X G H0 (.BoolOp .And (a::b::rest) pos) (fAnd p q):=⟨(z5y h.out h2.out).imp λσ H Q S=>by
 obtain⟨W,env,d,env',ok,e,k⟩:=S;cases e1:p env with
 |none=>simp[e1] at e |some r =>
   obtain⟨t,D⟩:=r;refine⟨W,env,t,D,ok,e1,λW1 H1 R I=>?_⟩;cases t with
   |true =>
     exact⟨W1,D,d,env',I,by simpa[fAnd,e1] using e,λU H2 s2 J=>k U H2 (R.trans s2) J⟩
   |false =>
     have e:↑(false,D)=↑(d,env'):=by simpa[fAnd,e1] using e
     cases e;exact k W1 H1 R I⟩
def lm(h:DTx X G H0 a p)(h2:DWx X G H0 (.BoolOp .Or (b::rest) pos) q):DWx X G H0 (.BoolOp .Or (a::b::rest) pos) (fOr p q):=⟨(z9f h.out h2.out).imp λσ H Q S=>by
 obtain⟨W,env,d,env',ok,e,k⟩:=S;cases e1:p env with
 |none=>simp[e1] at e |some r =>
   obtain⟨t,D⟩:=r;refine⟨W,env,t,D,ok,e1,λW1 H1 R I=>?_⟩;cases t with
   |false =>
     exact⟨W1,D,d,env',I,by simpa[fOr,e1] using e,λU H2 s2 J=>k U H2 (R.trans s2) J⟩
   |true =>
     have e:↑(true,D)=↑(d,env'):=by simpa[fOr,e1] using e
     cases e;exact k W1 H1 R I⟩
def lq(h:DTx X G H0 a p):DTx X G H0 (.UnaryOp .Not a pos) (fNot p):=⟨(z5z h.out).imp λσ H Q I=>by
 obtain⟨W,env,d,env',ok,e,k⟩:=I;cases e1:p env with
 |none=>simp[e1] at e |some r =>
   have e:↑(!r.1,r.2)=↑(d,env'):=by simpa[fNot,e1] using e
   cases e;exact⟨W,env,_,_,ok,e1,λW1 H1 J D=>k W1 H1 J D⟩⟩
def ku(h:DEx X G H0 a f)(D:∀whole,isTrue a X.env whole=(do let v <-whole;standAt a.pos;holding [v] (truthy v)):=by intro _;rfl):DTx X G H0 a (fTst f):=⟨(z5w h.out D).imp (z6z λ_ _ _ z=>z)⟩
variable{op:la->ll}
def zxb{op:BoolOp}(h:DEx X G H0 a f):DEx X G H0 (.BoolOp op [a] pos) f:=⟨z50 h.out⟩
def zxc(h:DEx X G H0 a f)(h2:DEx X G H0 (.BoolOp .And (b::rest) pos) g):DEx X G H0 (.BoolOp .And (a::b::rest) pos) (xp f g):=⟨(z51 h.out h2.out).imp λσ H Q U=>by
 obtain⟨W,env,d,env',ok,e,k⟩:=U;cases e1:f env with
 |none=>simp[e1] at e |some r =>
   obtain⟨t,I⟩:=r;refine⟨W,env,t,I,ok,e1,λW1 v1 H1 S J p1=>?_⟩;cases t with
   |bl t =>
     refine⟨t,p1.bl_,?_⟩;cases t with
     |true =>
       exact⟨W1,I,d,env',J,by simpa[xp,e1] using e,λV v2 H2 s2 R p2=>k V v2 H2 (S.trans s2) R p2⟩
     |false =>
       have e:↑(D.bl false,I)=↑(d,env'):=by simpa[xp,e1] using e
       cases e;exact k W1 _ H1 S J (.bl _)
   |_=>simp[e1] at e⟩
def z7a(h:DEx X G H0 a f):DEx X G H0 (.UnaryOp .Not a pos) (z3s f):=⟨(z52 h.out).imp λσ H Q R=>by
 obtain⟨W,env,d,env',ok,e,k⟩:=R;cases e1:f env with
 |none=>simp[e1] at e |some r =>
   obtain⟨t,I⟩:=r;refine⟨W,env,t,I,ok,e1,λW1 v1 H1 S J p1=>?_⟩;cases t with
   |bl t =>
     have e:↑(D.bl (!t),I)=↑(d,env'):=by simpa[z3s,e1] using e
     cases e;exact⟨t,p1.bl_,k W1 _ H1 S J (.bl _)⟩
   |_=>simp[e1] at e⟩
def ci  : DAx X G H0 [] fNil:=⟨qu.imp λσ H Q D=>by
 obtain⟨W,env,ds,env',ok,e,k⟩:=D;cases e;exact k W [] H Step.refl ok .nil⟩
variable{F:FA}
def bh(R:DEx X G H0 e f)(S:DAx X G H0 es F)(U:starEach (e::es) X.env=(false,eval e X.env)::starEach es X.env:=by rfl):DAx X G H0 (e::es) (ax f F):=⟨(n4 R.out S.out U).imp λσ H Q V=>by
 obtain⟨W,env,ds,env',ok,q,k⟩:=V;cases e1:f env with
 |none=>simp[e1] at q |some r =>
   obtain⟨d,D⟩:=r;cases e2:F D with
   |none=>simp[e1,e2] at q |some r2 =>
     have q:↑(d::r2.1,r2.2)=↑(ds,env'):=by simpa[ax,e1,e2] using q
     cases q;exact⟨W,env,d,D,ok,e1,λW1 v1 H1 Y I p1=>⟨W1,D,_,_,I,e2,λZ vs H2 s2 J p2=>k Z _ H2 (Y.trans s2) J (.cons (I.rep s2 p1) p2)⟩⟩⟩
def le64(h:n<=64):n<=sizeLine:=cr h (by rw[sizeLine_eq];decide)
def ke{k1}(h:DAx X G H0 es F):DEx X G H0 (.Tuple es k1 pos) (fTup F):=⟨(z6l h.out).imp λσ H Q S=>by
 obtain⟨W,env,d,env',ok,q,k⟩:=S;cases e1:F env with
 |none=>simp[e1] at q |some r =>
   obtain⟨ds,I⟩:=r;by_cases R:ds.length<=64
   ·have q:↑(D.tup ds,I)=↑(d,env'):=by simpa[fTup,e1,R] using q
    cases q;refine⟨W,env,ds,_,ok,e1,λW1 vs H1 U J p1=>⟨by rw[<-p1.length];exact le64 R,λl V=>?_⟩⟩;have sm:Same H1 (upd H1 l (.tup vs)):=om V;have st:Step W1 H1 W1 (upd H1 l (.tup vs)):=Step.same sm;exact k W1 _ _ (U.trans st) (J.same sm) (.tup kx (J.reps st p1))
   ·simp[e1,R] at q⟩
def wt{W:Addr->Prop}(ok:Ok X.K G H0 W env σ H)(r:Reps X.K H (Ow G W) ds vs)(D:H l=none) :
  Step W H (addW W l) (upd H l (.lst vs))/\Ok X.K G H0 W env σ (upd H l (.lst vs))/\Ok X.K G H0 (addW W l) env σ (upd H l (.lst vs))/\¬W l/\upd H l (.lst vs) l=↑(.lst vs)/\Reps X.K (upd H l (.lst vs)) (Ow G (addW W l)) ds vs:=by
 have sm:Same H (upd H l (.lst vs)):=om D;obtain⟨h1,h2,I,J,R⟩:=ok.fresh (l:=l) (vs:=vs) (ds:=ds) sm D kx ((r.mono (O':=λa=>(Ow G W a\/H a=none)/\a≠l) (λ_ _ h=>sm _ _ h) λa us o h=>⟨⟨.inl o,λz=>by
  subst z;have h2:Rd H a (.lst us):=h;rcases h2 with h2 | ⟨_,h2⟩ <;> rw[D] at h2 <;> cases h2⟩,h.keep λo e=>sm _ o e⟩))
 exact⟨R,ok.same sm,I,h1,kx,J⟩
def i8(h:DAx X G H0 es F):DFx X G H0 (.List es pos) (gg F):=⟨(z17 h.out).imp λσ H Q R=>by
 obtain⟨W,env,d,env',ok,q,k⟩:=R;cases e1:F env with
 |none=>simp[e1] at q |some r =>
   obtain⟨ds,D⟩:=r;by_cases I:ds.length<=64
   ·have q:↑(ds,D)=↑(d,env'):=by simpa[gg,e1,I] using q
    cases q;refine⟨W,env,_,_,ok,e1,λW1 vs H1 S J p1=>⟨by rw[<-p1.length];exact le64 I,λl U=>?_⟩⟩;obtain⟨h1,h2,V,Y,Z,a⟩:=wt J p1 U;exact k W1 l vs _ (S.trans h1) h2 V Y Z a
   ·simp[e1,I] at q⟩
def gf(h:DFx X G H0 e F):DEx X G H0 e (fLst F):=⟨h.out.imp λσ H Q S=>by
 obtain⟨W,env,d,env',ok,q,k⟩:=S;cases e1:F env with
 |none=>simp[e1] at q |some r =>
   have q:↑(D.lst r.1,r.2)=↑(d,env'):=by simpa[fLst,e1] using q
   cases q;refine⟨W,env,_,_,ok,e1,λW1 l vs H1 R I J U V Y=>k W1 _ H1 ⟨R.keep,λa z=>R.ws a (.inl z)⟩ I (.lst ⟨I.good l (J.wl l (.inr rfl)).1,U⟩ (.inl V) (Y.mono (λ_ _ h=>h) λa us o h=>⟨⟨o.1,λz=>o.2 (.inl z)⟩,h⟩))⟩⟩
def Cal(P:Program)(w:World)(K:k6)(mg:Str->ia)(base:Heap)(CX:CXT)(x:Str)(k:Nat)(sp:Sp):Prop :=
 ∃D fd ps,FnOk P w K mg base CX k D fd ps sp/\mg x=↑(.ref D)/\PySem.W.keepIn K (.ref D)=true/\Binds K fd ps []/\(x==("__debug__" : Str))=false
def dSp(K:k6)(m:la->ll):Sp:=λvs H Q _=>∃O ds d,Reps K H O ds vs/\m ds=↑d/\∀v H',Same H H'->Rep K H' (λa=>O a\/H a=none) d v->Q v H'
def fSp(K:k6)(m:la->Option la):Sp:=λvs H Q _=>∃O ds I,Reps K H O ds vs/\m ds=↑I/\∀l us H',Same H H'->H l=none->H' l=↑(.lst us)->Reps K H' (λa=>(O a\/H a=none)/\a≠l) I us->Q (.ref l) H'
@[simp] def dy(m:la->ll)(F:FA):FE:=λe=>(F e).bind λr=>(m r.1).map λd=>(d,r.2)
@[simp] def ij(m:la->Option la)(F:FA):FA:=λe=>(F e).bind λr=>(m r.1).map λd=>(d,r.2)
variable{m:la->ll}{E:XK}
def z7b:∀σ H Q,tD X.K G H0 (dy m F) σ H Q->zwy (dSp X.K m) [] E (tDA X.K G H0 F) σ H Q:=λσ H Q J=>by
 obtain⟨W,env,d,env',ok,q,k⟩:=J;cases e1:F env with
 |none=>simp[e1] at q |some r =>
   obtain⟨ds,I⟩:=r;cases e2:m ds with
   |none=>simp[e1,e2] at q |some d' =>
     have q:↑(d',I)=↑(d,env'):=by simpa[dy,e1,e2] using q
     cases q;refine⟨W,env,ds,_,ok,e1,λW1 vs H1 R D p1=>?_⟩;show dSp X.K m (vs++[]) H1 Q E;rw[di];refine⟨Ow G W1,ds,_,p1,e2,λv H2 sm S=>?_⟩;refine k W1 v H2 (R.trans (Step.same sm)) (D.same sm) (S.mono (λ_ _ h=>h) λa us o h=>⟨?_,h⟩);rcases o with o |o
     ·exact o
     ·exact⟨D.good a (D.stay.free o),λz=>by obtain⟨_,us,q⟩:=D.wl a z;rw[o] at q;cases q⟩
def z3u{m:la->Option la}:∀σ H Q,tDF X.K G H0 (ij m F) σ H Q->zwy (fSp X.K m) [] E (tDA X.K G H0 F) σ H Q:=λσ H Q S=>by
 obtain⟨W,env,d,env',ok,q,k⟩:=S;cases e1:F env with
 |none=>simp[e1] at q |some r =>
   obtain⟨ds,I⟩:=r;cases e2:m ds with
   |none=>simp[e1,e2] at q |some d' =>
     have q:↑(d',I)=↑(d,env'):=by simpa[ij,e1,e2] using q
     cases q;refine⟨W,env,ds,_,ok,e1,λW1 vs H1 U J p1=>?_⟩;show fSp X.K m (vs++[]) H1 Q E;rw[di];refine⟨Ow G W1,ds,_,p1,e2,λl us H2 sm V R Y=>?_⟩;obtain⟨h1,h2,Z,a,b⟩:=J.fresh sm V R Y;exact k W1 l us H2 (U.trans b) (J.same sm) Z h1 R a
variable{jr:Nat}{p':Pos}
def f8(c:Cal X.prog X.w X.K X.mg X.base CX0 x k (dSp X.K m))(R:Room jr X.A)(S:DAx X G H0 (e::es) F)(D:k<=jr:=by decide)(U:Gl X x:=by walk_at "g")(V:starEach (e::es) X.env=(false,eval e X.env)::starEach es X.env:=by rfl)(I:(backTo pos (starEach es X.env)).any (·.1)=false:=by rfl) :
  DEx X G H0 (.Call (.Name x p') (e::es) [] pos) (dy m F):=let ⟨_,_,_,Y,Z,a,b,J⟩:=c;⟨(zpo Y (R.mono D) U Z a b .nil zzz S.out J V I).imp z7b⟩
variable{mF:la->Option la}
def zny(c:Cal X.prog X.w X.K X.mg X.base CX0 x k (fSp X.K mF))(R:Room jr X.A)(S:DAx X G H0 (e::es) F)(D:k<=jr:=by decide)(U:Gl X x:=by walk_at "g")(V:starEach (e::es) X.env=(false,eval e X.env)::starEach es X.env:=by rfl)(I:(backTo pos (starEach es X.env)).any (·.1)=false:=by rfl) :
  DFx X G H0 (.Call (.Name x p') (e::es) [] pos) (ij mF F):=let ⟨_,_,_,Y,Z,a,b,J⟩:=c;⟨(zpo Y (R.mono D) U Z a b .nil zzz S.out J V I).imp z3u⟩
def vg(X:Cx)(G:Gd)(H0:Hp)(r:k9->Hp->VK->Prop)(op:la->ll):Prop :=
 ∀W env σ H vs ds d (Q:VK),Ok X.K G H0 W env σ H->Reps X.K H (Ow G W) ds vs->op ds=↑d ->
  (∀v H',Step W H W H'->Ok X.K G H0 W env σ H'->Rep X.K H' (Ow G W) d v->Q v H')->r vs H Q
def zxd(X:Cx)(G:Gd)(H0:Hp)(r:k9->Hp->VK->Prop)(op:la->Option la):Prop :=
 ∀W env σ H vs ds rs (Q:VK),Ok X.K G H0 W env σ H->Reps X.K H (Ow G W) ds vs->op ds=↑rs ->
  (∀l us H',Step W H (addW W l) H'->Ok X.K G H0 W env σ H'->Ok X.K G H0 (addW W l) env σ H'->¬W l->H' l=↑(.lst us)->Reps X.K H' (Ow G (addW W l)) rs us->Q (.ref l) H')->r vs H Q
variable{r:k9->Hp->VK->Prop}
def z7c(hd:vg X G H0 r op):∀σ H Q,tD X.K G H0 (dy op F) σ H Q->tCB r (tDA X.K G H0 F) σ H Q:=λσ H Q R=>by
 obtain⟨W,env,d,env',ok,q,k⟩:=R;cases e1:F env with
 |none=>simp[e1] at q |some z =>
   obtain⟨ds,D⟩:=z;cases e2:op ds with
   |none=>simp[e1,e2] at q |some d' =>
     have q:↑(d',D)=↑(d,env'):=by simpa[dy,e1,e2] using q
     cases q;exact⟨W,env,ds,_,ok,e1,λW1 vs H1 S I p1=>hd W1 _ σ H1 vs ds _ Q I p1 e2 λv H2 s2 J p2=>k W1 v H2 (S.trans s2) J p2⟩
def z7d{op:la->Option la}(hd:zxd X G H0 r op):∀σ H Q,tDF X.K G H0 (ij op F) σ H Q->tCB r (tDA X.K G H0 F) σ H Q:=λσ H Q U=>by
 obtain⟨W,env,d,env',ok,q,k⟩:=U;cases e1:F env with
 |none=>simp[e1] at q |some z =>
   obtain⟨ds,I⟩:=z;cases e2:op ds with
   |none=>simp[e1,e2] at q |some d' =>
     have q:↑(d',I)=↑(d,env'):=by simpa[ij,e1,e2] using q
     cases q;exact⟨W,env,ds,_,ok,e1,λW1 vs H1 V J p1=>hd W1 _ σ H1 vs ds _ Q J p1 e2 λl us H2 s2 R S Y Z a=>k W1 l us H2 (V.trans s2) R S Y Z a⟩
variable{id:String}
def zm9(J:qp X (.builtin id) r)(hd:vg X G H0 r op)(R:Gl X x)(S:X.mg x=none)(U:bootBuiltins x=↑(.builtin id))(V:DAx X G H0 (e::es) F)(Y:x ≠ "__name__":=by decide)(D:(x==("__debug__" : Str))=false:=by decide)(Z:starEach (e::es) X.env=(false,eval e X.env)::starEach es X.env:=by rfl)(I:(backTo pos (starEach es X.env)).any (·.1)=false:=by rfl):DEx X G H0 (.Call (.Name x p') (e::es) [] pos) (dy op F):=⟨(zo J R S U V.out Y D Z I).imp (z7c hd)⟩
variable{T:String}
def zt6(J:qp X (.type T) r)(hd:vg X G H0 r op)(R:Gl X x)(S:X.mg x=none)(U:bootBuiltins x=↑(.type T))(V:DAx X G H0 (e::es) F)(Y:x ≠ "__name__":=by decide)(D:(x==("__debug__" : Str))=false:=by decide)(Z:starEach (e::es) X.env=(false,eval e X.env)::starEach es X.env:=by rfl)(I:(backTo pos (starEach es X.env)).any (·.1)=false:=by rfl):DEx X G H0 (.Call (.Name x p') (e::es) [] pos) (dy op F):=⟨(znt J R S U V.out Y D Z I).imp (z7c hd)⟩
variable{opF:la->Option la}
def zz4(J:qp X (.type T) r)(hd:zxd X G H0 r opF)(R:Gl X x)(S:X.mg x=none)(U:bootBuiltins x=↑(.type T))(V:DAx X G H0 (e::es) F)(Y:x ≠ "__name__":=by decide)(D:(x==("__debug__" : Str))=false:=by decide)(Z:starEach (e::es) X.env=(false,eval e X.env)::starEach es X.env:=by rfl)(I:(backTo pos (starEach es X.env)).any (·.1)=false:=by rfl):DFx X G H0 (.Call (.Name x p') (e::es) [] pos) (ij opF F):=⟨(znt J R S U V.out Y D Z I).imp (z7d hd)⟩
def ul(h:Reps K H O [d] vs):∃v,vs=[v]/\Rep K H O d v:=by
 cases h with |cons r t=>cases t;exact⟨_,rfl,r⟩
def z3v{d':D}(h:Reps K H O [d,d'] vs):∃v I,vs=[v,I]/\Rep K H O d v/\Rep K H O d' I:=by
 cases h with |cons r t=>cases t with |cons r' t=>cases t;exact⟨_,_,rfl,r,r'⟩
@[simp] def bLen:la->ll | [.tup ds]=>↑(.int ds.length) | [.lst ds]=>↑(.int ds.length) |_=>none
def z7e:vg X G H0 (λxs H Q=>∃p ys,xs=[.ref p]/\(SqL X.K H p ys\/SqT X.K H p ys)/\Q (.int ys.length) H) bLen:=by
 intro W env σ H vs ds d Q ok r e k;unfold bLen at e;split at e
 ·rename_i ds
  cases e;obtain⟨v,rfl,D⟩:=ul r;have r:=D;obtain⟨a,us,rfl,h,r⟩:=r.tup_;exact⟨a,us,rfl,.inr (SqT.of h),by rw[<-r.length];exact k _ H Step.refl ok (.int _)⟩
 ·rename_i ds
  cases e;obtain⟨v,rfl,D⟩:=ul r;have r:=D;obtain⟨a,us,rfl,h,r⟩:=r.lst_;exact⟨a,us,rfl,.inl h.sq,by rw[<-r.length];exact k _ H Step.refl ok (.int _)⟩
 ·cases e
def vj(I:DAx X G H0 [e] F)(D:Bn X "len":=by walk_at "b")(J:starEach [e] X.env=(false,eval e X.env)::starEach [] X.env:=by rfl):DEx X G H0 (.Call (.Name "len" p') [e] [] pos) (dy bLen F) :=
 zm9 zjp z7e D.g D.m xj I (by decide) (by decide) J rfl
@[simp] def bInt:la->ll | [.int i]=>↑(.int i) | [.bl k]=>↑(.int (if k then 1 else 0)) |_=>none
def z7f:vg X G H0 (λxs H Q=>(∃i,xs=[.int i]/\Q (.int i) H)\/∃k,xs=[.bl k]/\Q (.int (if k then 1 else 0)) H) bInt:=by
 intro W env σ H vs ds d Q ok r e k;unfold bInt at e;split at e
 ·cases e
  obtain⟨v,rfl,D⟩:=ul r;have r:=D;exact .inl ⟨_,by rw[r.int_],k _ H Step.refl ok (.int _)⟩
 ·cases e
  obtain⟨v,rfl,D⟩:=ul r;have r:=D;exact .inr ⟨_,by rw[r.bl_],k _ H Step.refl ok (.int _)⟩
 ·cases e
def zxe:bootBuiltins "int" = ↑(.type "int"):=by decide +kernel
def z3w(I:DAx X G H0 [e] F)(D:Bn X "int":=by walk_at "b")(J:starEach [e] X.env=(false,eval e X.env)::starEach [] X.env:=by rfl):DEx X G H0 (.Call (.Name "int" p') [e] [] pos) (dy bInt F) :=
 zt6 zwu z7f D.g D.m zxe I (by decide) (by decide) J rfl
@[simp] def bMax:la->ll | [.int i,.int j]=>↑(.int (if j > i then j else i)) |_=>none
@[simp] def bMin:la->ll | [.int i,.int j]=>↑(.int (if j<i then j else i)) |_=>none
def z7g:vg X G H0 (λxs H Q=>∃i j,xs=[.int i,.int j]/\Q (.int (if j > i then j else i)) H) bMax:=by
 intro W env σ H vs ds d Q ok r e k;unfold bMax at e;split at e
 ·cases e
  obtain⟨v,J,rfl,D,I⟩:=z3v r;have r:=D;exact⟨_,_,by rw[r.int_,I.int_],k _ H Step.refl ok (.int _)⟩
 ·cases e
def z7h:vg X G H0 (λxs H Q=>∃i j,xs=[.int i,.int j]/\Q (.int (if j<i then j else i)) H) bMin:=by
 intro W env σ H vs ds d Q ok r e k;unfold bMin at e;split at e
 ·cases e
  obtain⟨v,J,rfl,D,I⟩:=z3v r;have r:=D;exact⟨_,_,by rw[r.int_,I.int_],k _ H Step.refl ok (.int _)⟩
 ·cases e
def z7i(J:DAx X G H0 [a,b] F)(R:X.calm=true:=by rfl)(I:Bn X "max":=by walk_at "b")(S:starEach [a,b] X.env=(false,eval a X.env)::starEach [b] X.env:=by rfl)(D:(backTo pos (starEach [b] X.env)).any (·.1)=false:=by rfl):DEx X G H0 (.Call (.Name "max" p') [a,b] [] pos) (dy bMax F) :=
 zm9 (zws R) z7g I.g I.m boot_max J (by decide) (by decide) S D
def z7j(J:DAx X G H0 [a,b] F)(R:X.calm=true:=by rfl)(I:Bn X "min":=by walk_at "b")(S:starEach [a,b] X.env=(false,eval a X.env)::starEach [b] X.env:=by rfl)(D:(backTo pos (starEach [b] X.env)).any (·.1)=false:=by rfl):DEx X G H0 (.Call (.Name "min" p') [a,b] [] pos) (dy bMin F) :=
 zm9 (zwt R) z7h I.g I.m boot_min J (by decide) (by decide) S D
def ints?:la->Option i0
 | []=>↑[] | .int i::r=>(ints? r).map (i::·)
 |_::_=>none
def zna:∀ {ds:la} {I:i0},ints? ds=↑I->ds=I.map D.int
 | [],I,h=>by cases h;rfl
 | .int i::r,I,h=>by
   unfold ints? at h;cases q:ints? r with
   |none=>rw[q] at h;cases h
   |some ms=>rw[q] at h;cases h;rw[zna q];rfl
 | .str _::_,_,h=>by cases h
def zxf(I:i0):ints? (I.map D.int)=↑I:=by
 induction I with
 |nil=>rfl |cons n r ih=>show(ints? (r.map D.int)).map (n::·)=_;rw[ih];rfl
def zlq{K:k6}{H:Hp}{O:Addr->Prop}:∀ {I:i0} {vs:k9},Reps K H O (I.map D.int) vs->vs=I.map V.int
 | [],_,h=>by cases h;rfl
 |n::r,_,h=>by cases h with |cons a t=>rw[zlq t,a.int_];rfl
def zrl(U:X.calm=true):qp X (.builtin "sum") (λxs H Q=>∃p,∃D:i0,xs=[.ref p]/\SqL X.K H p (D.map V.int)/\Q (.int D.sum) H):=by
 intro pins s σ H xs us Q I r h;obtain⟨p,D,rfl,Y,q⟩:=h;obtain⟨u,rfl,Z⟩:=xr r;cases Z;obtain⟨its,a,pl,d⟩:=I.list Y;have hi:IntsAre its D:=zvq a;have R:=pl.isList;obtain⟨xs,J⟩:=hi.allInts.items;rw[J] at R;refine sum_intListG (I.ok.hd U) R λh' tk t' b=>⟨.int D.sum,H,I.kept b,⟨t',?_⟩,q⟩;have c:numsOf its=D:=hi.numsOf;have S:numsOf (intItems xs).toList=D:=by rw[<-J];exact c
 rw[nums_intItems] at S;rw[preSum_eq,io (by simp),S]
def bSum:la->ll | [.lst ds]=>(ints? ds).map λI=>.int I.sum |_=>none
def z7k:vg X G H0 (λxs H Q=>∃p,∃D:i0,xs=[.ref p]/\SqL X.K H p (D.map V.int)/\Q (.int D.sum) H) bSum:=by
 intro W env σ H vs ds d Q ok r e k;unfold bSum at e;split at e
 ·rename_i ds
  cases q:ints? ds with
  |none=>rw[q] at e;cases e
  |some D =>
    rw[q] at e;cases e;obtain⟨v,rfl,I⟩:=ul r;have r:=I;obtain⟨a,us,rfl,h,r⟩:=r.lst_;rw[zna q] at r;rw[zlq r] at h;exact⟨a,D,rfl,h.sq,k _ H Step.refl ok (.int _)⟩
 ·cases e
def vi(I:DAx X G H0 [e] F)(J:X.calm=true:=by rfl)(D:Bn X "sum":=by walk_at "b")(R:starEach [e] X.env=(false,eval e X.env)::starEach [] X.env:=by rfl):DEx X G H0 (.Call (.Name "sum" p') [e] [] pos) (dy bSum F) :=
 zm9 (zrl J) z7k D.g D.m boot_sum I (by decide) (by decide) R rfl
@[simp] def pq:la->Option la | [.lst ds]=>↑ds | [.tup ds]=>↑ds |_=>none
def z3x:zxd X G H0 (λxs H Q=>∃p ys,xs=[.ref p]/\(SqL X.K H p ys\/SqT X.K H p ys)/\∀l,H l=none->Q (.ref l) (upd H l (.lst ys))) pq:=by
 intro W env σ H vs ds V Q ok r e k;unfold pq at e;split at e
 ·cases e
  obtain⟨v,rfl,D⟩:=ul r;have r:=D;obtain⟨a,us,rfl,h,r⟩:=r.lst_;refine⟨a,us,rfl,.inl h.sq,λl I=>?_⟩;obtain⟨h1,h2,J,R,S,U⟩:=wt ok r I;exact k l us _ h1 h2 J R S U
 ·cases e
  obtain⟨v,rfl,D⟩:=ul r;have r:=D;obtain⟨a,us,rfl,h,r⟩:=r.tup_;refine⟨a,us,rfl,.inr (SqT.of h),λl I=>?_⟩;obtain⟨h1,h2,J,R,S,U⟩:=wt ok r I;exact k l us _ h1 h2 J R S U
 ·cases e
def zo8:bootBuiltins "list" = ↑(.type "list"):=by decide +kernel
def zj(I:DAx X G H0 [e] F)(D:Bn X "list":=by walk_at "b")(J:starEach [e] X.env=(false,eval e X.env)::starEach [] X.env:=by rfl):DFx X G H0 (.Call (.Name "list" p') [e] [] pos) (ij pq F) :=
 zz4 zmu z3x D.g D.m zo8 I (by decide) (by decide) J rfl
def rngL(lo hi:Int):i0:=(List.range (hi-lo).toNat).map λ(k:Nat)=>lo+(k:Int)
def yaw(ds:la):Option la:=match ds with
 | [.int j]=>if Bnd (-(2 ^ 62)) (2 ^ 20+1) j then ↑((rngL 0 j).map D.int) else none
 |_=>none
def zjs{K:k6}{H:Hp}{O:Addr->Prop}:∀(I:i0),Reps K H O (I.map D.int) (I.map V.int)
 | []=>.nil |n::r=>.cons (.int n) (zjs r)
abbrev FO:=DE0->Option (k4×DE0)
def tDO(K:k6)(G:Gd)(H0:Hp)(f:FO):TO:=λσ H Q=>DP K G H0 f (λW env o env'=> ∀W' H',Step W H W' H'->Ok K G H0 W' env' σ H'->Q o H') σ H
structure DOx (X:Cx) (G:Gd) (H0:Hp) (e:Option Expr) (f:FO):Prop where
 out:PO X e (tDO X.K G H0 f)
variable{t':TI}
def PO.imp{e:Option Expr}{t t':TO}(h:PO X e t)(i:∀σ H Q,t' σ H Q->t σ H Q):PO X e t':=λpins s σ H Q I q=>h pins s σ H Q I (i σ H Q q)
@[simp] def fO0:FO:=λe=>↑(none,e)
@[simp] def fO1(f:FE):FO:=λe=>(f e).bind λr=>match r.1 with | .int i=>↑(↑i,r.2) |_=>none
def r8  : DOx X G H0 none fO0:=⟨z3j.imp λσ H Q ⟨W,env,o,env',ok,q,k⟩=>by cases q;exact k W H Step.refl ok⟩
def nz(h:DEx X G H0 e f):DOx X G H0 ↑e (fO1 f):=⟨(z3k h.out).imp λσ H Q J=>by
 obtain⟨W,env,o,env',ok,q,k⟩:=J;cases e1:f env with
 |none=>simp[e1] at q |some r =>
   obtain⟨d,D⟩:=r;cases d with
   |int i =>
     have q:↑(↑i,D)=↑(o,env'):=by simpa[fO1,e1] using q
     cases q;exact⟨W,env,_,_,ok,e1,λW1 v1 H1 R I p1=>⟨i,p1.int_,k W1 H1 R I⟩⟩
   |_=>simp[e1] at q⟩
def cutD(xs:la)(lo hi:k4):la:=(xs.drop (HT.sIx xs.length 0 lo)).take (HT.sIx xs.length xs.length hi-HT.sIx xs.length 0 lo)
def Reps.cut(r:Reps K H O ds vs)(lo hi:k4):Reps K H O (cutD ds lo hi) (cutV vs lo hi):=by
 unfold cutD cutV;rw[r.length];exact(r.drop _).take _
@[simp] def fSl(f:FE)(l h:FO):FA:=λe=>(f e).bind λr=>(l r.2).bind λD=>(h D.2).bind λI=>match r.1 with | .lst ds=>↑(cutD ds D.1 I.1,I.2) |_=>none
variable{fl:Value}
def pk{lo hi:Option Expr}{fl S:FO}{sp:Pos}(c:DEx X G H0 a f)(e:DOx X G H0 lo fl)(g:DOx X G H0 hi S) :
  DFx X G H0 (.Subscript a (.Slice lo hi none sp) pos) (fSl f fl S):=⟨(zt3 z3m c.out e.out g.out).imp λσ H Q i=>by
 obtain⟨W,env,d,env',ok,q,k⟩:=i;cases e1:f env with
 |none=>simp[e1] at q |some r =>
   obtain⟨j,D⟩:=r;cases e2:fl D with
   |none=>simp[e1,e2] at q |some r2 =>
     obtain⟨Y,I⟩:=r2;cases e3:S I with
     |none=>simp[e1,e2,e3] at q |some r3 =>
       obtain⟨Z,J⟩:=r3;cases j with
       |lst ds =>
         have q:↑(cutD ds Y Z,J)=↑(d,env'):=by simpa[fSl,e1,e2,e3] using q
         cases q;refine⟨W,env,_,_,ok,e1,λW1 v1 H1 m R p1=>⟨W1,D,_,_,R,e2,λn H2 s2 U=>⟨n,I,_,_,U,e3,λo w b V=>?_⟩⟩⟩;obtain⟨l,us,rfl,h,r⟩:=(R.rep (s2.trans b) p1).lst_;refine⟨l,us,rfl,h.sq,λl' p=>?_⟩;obtain⟨h1,h2,s,t,u,v⟩:=wt V (r.cut Y Z) p;exact k o l' _ _ (((m.trans s2).trans b).trans h1) h2 s t u v
       |_=>simp[e1,e2,e3] at q⟩
def z9z(K:k6):R2:=λx y H Q=>∃l b xs D,x=.ref l/\y=.ref b/\SqL K H l xs/\SqL K H b D/\xs.length+D.length<=sizeLine/\∀p,H p=none->Q (.ref p) (upd H p (.lst (xs++D)))
theorem z3y:OpR X (binaryOp .Add) (z9z X.K):=by
 intro pins s σ H x y v u Q I d e h;obtain⟨l,b,xs,m,rfl,rfl,f,g,o,q⟩:=h;cases d;cases e;obtain⟨its,r,⟨⟨cls,dd,data,sl⟩,n,Z,i,S,hd⟩,z⟩:=I.list f;obtain⟨D,a,⟨⟨c,j,data2,U⟩,n2,J,V,R,Y⟩,p⟩:=I.list g;subst i hd V Y S R;have t:=r.length;have k:=a.length;refine concat_meets ⟨_,Z,rfl⟩ ⟨_,J,rfl⟩ noFill_list_add seq_list_add PySem.F.slot_list_add PySem.F.entry_list_add (PySem.F.args_list_add_2 _ _) (list_addW l b its.toArray D.toArray n n2 none none sl U (by simp;lia)) ⟨Z,J,?_⟩;have ea:its.toArray++D.toArray=(its++D).toArray:=by simp
 rw[ea];exact⟨.ref _,_,I.lnew (t':=s.toks) (r.append a) (by rw[au];lia),rfl,q _ I.fresh⟩
@[simp] def fCat(f g:FE):FA:=λe=>(f e).bind λr=>(g r.2).bind λq=>match r.1,q.1 with | .lst ds,.lst es=>if Few (ds.length+es.length) then ↑(ds++es,q.2) else none |_,_=>none
def nh(Y:DEx X G H0 a f)(Z:DEx X G H0 b g):DFx X G H0 (.BinOp a .Add b pos) (fCat f g):=⟨(z3a z3y Y.out Z.out).imp λσ H Q c=>by
 obtain⟨W,env,d,env',ok,q,k⟩:=c;cases e1:f env with
 |none=>simp[e1] at q |some r =>
   obtain⟨e,D⟩:=r;cases e2:g D with
   |none=>simp[e1,e2] at q |some r2 =>
     obtain⟨i,I⟩:=r2;cases e with
     |lst ds =>
       cases i with
       |lst es =>
         by_cases R:Few (ds.length+es.length)
         ·have q:↑(ds++es,I)=↑(d,env'):=by simpa only[fCat,e1,e2,ac,if_pos R] using q
          cases q;refine⟨W,env,_,_,ok,e1,λW1 v1 H1 j J p1=>⟨W1,D,_,_,J,e2,λm v2 H2 s2 S p2=>?_⟩⟩;obtain⟨l,us,rfl,h,r⟩:=(J.rep s2 p1).lst_;obtain⟨l',U,rfl,h',V⟩:=p2.lst_;refine⟨l,l',us,U,rfl,rfl,h.sq,h'.sq,?_,λn o=>?_⟩
          ·rw[<-r.length,<-V.length];exact cr R (by rw[sizeLine_eq];decide)
          ·obtain⟨h1,h2,p,s,t,u⟩:=wt S (r.append V) o
           exact k m n _ _ ((j.trans s2).trans h1) h2 p s t u
         ·simp only[fCat,e1,e2,ac,if_neg R] at q;cases q
       |_=>simp[e1,e2] at q
     |_=>simp[e1,e2] at q⟩
@[simp] def gq(i:Nat):FE:=λe=>match e[i]? with
 |some ↑(.ow ds)=>↑(.int ds.length,e) |some ↑(.sh (.lst ds))=>↑(.int ds.length,e) |some ↑(.sh (.tup ds))=>↑(.int ds.length,e) |_=>none
variable{p1:Pos}
def js(an:Ats Nn Cn X)(R:Bn X "len":=by walk_at "b")(J:Nn[i]?=↑x:=by rfl)(S:starEach [.Name x p1] X.env=(false,eval (.Name x p1) X.env)::starEach [] X.env:=by rfl):DEx X G H0 (.Call (.Name "len" p') [.Name x p1] [] pos) (gq i) :=
 ⟨(zo zjp R.g R.m xj (n4 ((an.a J).pe) qu S) (by decide) (by decide) S rfl).imp λσ H Q U=>by
  obtain⟨W,env,d,env',ok,q,k⟩:=U;unfold gq at q;split at q
  ·rename_i ds D
   cases q;obtain⟨v,I,l,vs,rfl,Y,V,r⟩:=ok.slot i _ D;exact⟨_,I,l,vs,rfl,.inl (.inl (.inl V)),by rw[<-r.length];exact k W _ H Step.refl ok (.int _)⟩
  ·rename_i ds D
   cases q;obtain⟨v,I,r⟩:=ok.slot i _ D;obtain⟨l,us,rfl,h,r⟩:=Rep.lst_ r;exact⟨_,I,l,us,rfl,.inl h.sq,by rw[<-r.length];exact k W _ H Step.refl ok (.int _)⟩
  ·rename_i ds D
   cases q;obtain⟨v,I,r⟩:=ok.slot i _ D;obtain⟨l,us,rfl,h,r⟩:=Rep.tup_ r;exact⟨_,I,l,us,rfl,.inr (SqT.of h),by rw[<-r.length];exact k W _ H Step.refl ok (.int _)⟩
  ·cases q⟩
@[simp] def ixSl:D->Option lp->ll
 | .int k,↑↑(.ow ds)=>atI ds k | .int k,↑↑(.sh (.lst ds))=>atI ds k | .int k,↑↑(.sh (.tup ds))=>atI ds k |_,_=>none
@[simp] def fIxV(i:Nat)(g:FE):FE:=λe=>match e[i]? with
 |some ↑_=>(g e).bind λr=>(ixSl r.1 r.2[i]?).map λd=>(d,r.2)
 |_=>none
def d9(j:DEx X G H0 b g)(an:Ats Nn Cn X)(m:vn b:=by intro _ _;rfl)(Y:Nn[i]?=↑x:=by rfl):DEx X G H0 (.Subscript (.Name x p1) b pos) (fIxV i g) :=
 ⟨(xq zw1 ((an.a Y).pe) j.out m).imp λσ H Q n=>by
  obtain⟨W,env,d,env',ok,q,k⟩:=n;unfold fIxV at q;split at q;case h_2=>cases q
  rename_i p Z;obtain⟨v,V,_⟩:=ok.slot i _ Z;cases e1:g env with
  |none=>rw[e1] at q;cases q
  |some r =>
    obtain⟨e,J⟩:=r;rw[e1,ac] at q;cases e3:ixSl e J[i]? with
    |none=>rw[e3] at q;cases q
    |some d' =>
      rw[e3] at q;cases q;refine⟨v,V,W,env,e,_,ok,e1,λW1 v1 H1 c D p1=>?_⟩;unfold ixSl at e3;split at e3
      ·rename_i kk ds R
       obtain⟨f,I,l,vs,rfl,s,o,r⟩:=D.slot i _ R;rw[V] at I;cases I;obtain⟨u,S,U⟩:=zk r e3;exact .inl ⟨l,vs,kk,u,rfl,p1.int_,.inl (.inl o),S,k W1 _ H1 c D U⟩
      ·rename_i kk ds R
       obtain⟨f,I,r⟩:=D.slot i _ R;rw[V] at I;cases I;obtain⟨l,us,rfl,h,r⟩:=Rep.lst_ r;obtain⟨u,S,U⟩:=zk r e3;exact .inl ⟨l,us,kk,u,rfl,p1.int_,h.sq,S,k W1 _ H1 c D U⟩
      ·rename_i kk ds R
       obtain⟨f,I,r⟩:=D.slot i _ R;rw[V] at I;cases I;obtain⟨l,us,rfl,h,r⟩:=Rep.tup_ r;obtain⟨u,S,U⟩:=zk r e3;exact .inr (.inl ⟨l,us,kk,u,rfl,p1.int_,SqT.of h,S,k W1 _ H1 c D U⟩)
      ·cases e3⟩
@[simp] def tyD:D->String | .non=>"NoneType" | .bl _=>"bool" | .int _=>"int" | .str _=>"str" | .tup _=>"tuple" | .lst _=>"list" | .dct _ _=>"dict" | .exc _=>"exc"
@[simp] def isiT(t T:String):Bool:=t==T || (t=="bool" && T=="int")
def zxg(T:String):Bool:=T=="int" || T=="bool" || T=="str" || T=="tuple" || T=="list"
def zz5(K:k6)(d:D)(T:String)(h:zxg T=true)(hd:∀a,d≠.exc a):PySem.W.kitOne K (.type (tyD d)) (.type T)=↑(isiT (tyD d) T):=by
 simp only[zxg,Bool.or_eq_true,beq_iff_eq] at h;rcases h with(((rfl |rfl) |rfl) |rfl) |rfl <;> cases d <;> first |rfl |exact absurd rfl (hd _)
def zz6:qp X (.builtin "isinstance") (λxs H Q=>∃x T t b,xs=[x,.ty T]/\(TyOf X.K H x t\/(t=.type "list"/\∃a us,x=.ref a/\SqL X.K H a us))/\PySem.W.kitOne X.K t (.type T)=↑b/\Q (.bl b) H):=by
 intro pins s σ H xs us Q I r h;obtain⟨x,T,t,b,rfl,D,e,q⟩:=h;obtain⟨u,R,rfl,J,rt⟩:=zzs r;cases (show R=Value.type T from rt);rcases D with D | ⟨rfl,a,ws,rfl,hq⟩
 ·exact zwx I J D e λtk=>⟨.bl b,H,I.tok tk,rfl,q⟩
 ·cases (show u=Value.ref a from J)
  obtain⟨its,_,⟨o,n,h1,h2,_⟩,_⟩:=I.list hq;exact e7 qy I.kIn ⟨o,h1,h2⟩ e (λz=>nomatch z) λtk=>⟨.bl b,H,I.tok tk,rfl,q⟩
def z7l(r:Rep K H O d v)(hd:∀a,d≠.exc a):TyOf K H v (.type (tyD d))\/(Value.type (tyD d)=.type "list"/\∃a us,v=.ref a/\SqL K H a us):=by
 cases r with
 |non=>exact .inl .non |bl b=>exact .inl (.bl b) |int i=>exact .inl (.int i)
 |str s=>exact .inl (.str s) |tup h _=>exact .inl (.tup h) |lst o h _=>exact .inr ⟨rfl,_,_,rfl,.inl h⟩ |klst h _=>exact .inr ⟨rfl,_,_,rfl,.inr h⟩ |dct h _=>exact .inl (.dK h) |exc a=>exact absurd rfl (hd a)
def zt7:bootBuiltins "isinstance" = ↑(.builtin "isinstance"):=by decide +kernel
@[simp] def fIsi(T:String)(f:FE):FE:=λe=>(f e).bind λr=>match r.1 with | .exc _=>none |d=>↑(.bl (isiT (tyD d) T),r.2)
structure Ty (x:Str) (T:String):Prop where
 b:bootBuiltins x=↑(.type T)
 k:zxg T=true
 d:(x==("__debug__" : Str))=false
 n:x ≠ "__name__"
def tm(D:Ty x T)(Z:DEx X G H0 a f)(V:Bn X "isinstance":=by walk_at "b")(I:Gl X x:=by walk_at "g")(J:X.mg x=none:=by assumption)(Y:starEach [a,.Name x p1] X.env=(false,eval a X.env)::starEach [.Name x p1] X.env:=by rfl)(R:starEach [.Name x p1] X.env=(false,eval (.Name x p1) X.env)::starEach [] X.env:=by rfl)(S:(backTo pos (starEach [.Name x p1] X.env)).any (·.1)=false:=by rfl) :
  DEx X G H0 (.Call (.Name "isinstance" p') [a,.Name x p1] [] pos) (fIsi T f) :=
 ⟨(zo zz6 V.g V.m zt7 (n4 Z.out (n4 (zwi (v:=.ty T) I J D.b rfl D.n D.d) qu R) Y) (by decide) (by decide) Y S).imp λσ H Q c=>by
  obtain⟨W,env,d,env',ok,q,k⟩:=c;cases e1:f env with
  |none=>simp[e1] at q |some r =>
    unfold fIsi at q;rw[e1,ac] at q;split at q
    ·cases q
    ·rename_i hd
     cases q;exact⟨W,env,_,_,ok,e1,λW1 v1 H1 e U p1=>⟨v1,T,_,_,rfl,z7l p1 hd,zz5 X.K _ T D.k hd,k W1 _ H1 e U (.bl _)⟩⟩⟩
abbrev FI:=DE0->Option (la×DE0)
structure Walk (K:k6) (G:Gd) (J:It) (W:Addr->Prop) (H:Hp) (ds:la):Prop where
 go:∀W' H' (i:Nat) d,Step W H W' H'->ds[i]?=↑d->J.go i H'/\∀x H'',J.yld i H' x H''->H''=H'/\Rep K H' (Ow G W') d x
 stop:∀W' H',Step W H W' H'->J.stop ds.length H'
def tDI(K:k6)(G:Gd)(H0:Hp)(f:FI):TI:=λσ H R=>DP K G H0 f (λW env ds env' =>
 ∀W' J H',Step W H W' H'->Ok K G H0 W' env' σ H'->Walk K G J W' H' ds->R J H') σ H
structure DIC (Cm:Cx->Prop) (X:Cx) (G:Gd) (H0:Hp) (tg:Expr) (e:Expr) (f:FI):Prop where
 out:PIC Cm X tg e (tDI X.K G H0 f)
abbrev DIx:=DIC λX=>X.calm=true
variable{tg:Expr}
def PI.imp(h:PI X tg e t)(i:∀σ H Q,t' σ H Q->t σ H Q):PI X tg e t':=λpins s σ H Q I q=>h pins s σ H Q I (i σ H Q q)
def PIC.imp(h:PIC Cm X tg e t)(i:∀σ H Q,t' σ H Q->t σ H Q):PIC Cm X tg e t':=λpins s σ H Q I q=>h pins s σ H Q I (i σ H Q q)
def zrm{W:Addr->Prop}{a:Addr}(ok:Ok X.K G H0 W env σ H)(h:LsOk X.K H (Ow G W) a vs)(r:Reps X.K H (Ow G W) ds vs):Walk X.K G (Itl X.K a) W H ds where
 go:=λW' H' i d st e=>by
  obtain⟨v,D,I⟩:=(ok.reps st r).get e;have h':=(ok.lsstep st h).sq;exact⟨⟨vs,v,h',D⟩,λx H'' ⟨e2,y⟩=>⟨e2,by have:=y vs h';rw[D] at this;cases this;exact I⟩⟩
 stop:=λW' H' st=>⟨vs,(ok.lsstep st h).sq,by rw[r.length];exact b7 _⟩
def zz7{W:Addr->Prop}{a:Addr}(ok:Ok X.K G H0 W env σ H)(h:H a=↑(.tup vs))(r:Reps X.K H (Ow G W) ds vs):Walk X.K G (Itt X.K a) W H ds where
 go:=λW' H' i d st e=>by
  obtain⟨v,D,I⟩:=(ok.reps st r).get e;have h':=ok.tstep st a vs h;exact⟨⟨vs,v,SqT.of h',D⟩,λx H'' ⟨e2,y⟩=>⟨e2,by have:=y vs (SqT.of h');rw[D] at this;cases this;exact I⟩⟩
 stop:=λW' H' st=>⟨vs,SqT.of (ok.tstep st a vs h),by rw[r.length];exact b7 _⟩
def zz8{W:Addr->Prop}{lo:Int}:Walk X.K G (Itr lo n) W H ((List.range n).map λ(k:Nat)=>D.int (lo+(k:Int))) where
 go:=λW' H' i d st e=>by
  rw[bw] at e;have hi:i<n:=by
   have:=(ak.mp (show((List.range n).map λ(k:Nat)=>D.int (lo+(k:Int)))[i]?=↑d by rw[bw];exact e)).1;simpa using this
  rw[jh hi] at e;cases e;exact⟨hi,λx H'' ⟨e2,y⟩=>⟨e2,by rw[y];exact .int _⟩⟩
 stop:=λW' H' st=>by rw[af,jt];exact b7 _
@[simp] def fiS(f:FE):FI:=λe=>(f e).bind λr=>match r.1 with | .lst ds=>↑(ds,r.2) | .tup ds=>↑(ds,r.2) |_=>none
def PI.or(h:PI X tg e t)(h':PI X tg e t'):PI X tg e (λσ H R=>t σ H R\/t' σ H R):=λpins s σ H R I q=>q.elim (h pins s σ H R I) (h' pins s σ H R I)
def j5(h:DEx X G H0 e f):DIx X G H0 tg e (fiS f):=⟨((zwn h.out).or (z59 h.out)).imp λσ H R S=>by
 obtain⟨W,env,ds,env',ok,q,k⟩:=S;cases e1:f env with
 |none=>simp[e1] at q |some r =>
   obtain⟨d,I⟩:=r;cases d with
   |lst ds' =>
     have q:↑(ds',I)=↑(ds,env'):=by simpa[fiS,e1] using q
     cases q;refine .inl ⟨W,env,_,_,ok,e1,λW1 v1 H1 J D p1=>?_⟩;obtain⟨a,vs,rfl,h.out,r⟩:=p1.lst_;exact⟨a,rfl,⟨vs,h.out.sq⟩,k W1 _ H1 J D (zrm D h.out r)⟩
   |tup ds' =>
     have q:↑(ds',I)=↑(ds,env'):=by simpa[fiS,e1] using q
     cases q;refine .inr ⟨W,env,_,_,ok,e1,λW1 v1 H1 J D p1=>?_⟩;obtain⟨a,vs,rfl,h.out,r⟩:=p1.tup_;exact⟨a,rfl,⟨vs,SqT.of h.out⟩,k W1 _ H1 J D (zz7 D h.out r)⟩
   |_=>simp[e1] at q⟩
def rngD(lo:Int)(n:Nat):la:=(List.range n).map λ(k:Nat)=>D.int (lo+(k:Int))
def iR1(ds:la):Option la:=match ds with | [.int j]=>if Bnd (-(2 ^ 62)) (2 ^ 62) j then ↑(rngD 0 j.toNat) else none |_=>none
def zo9(hT:∀(it:Addr) (lo:Int) (n:Nat),xt Cm X.prog X.w X.K tg (Itr lo n) [it] it (λi h=>IsRangeIter h it (lo+(i:Nat)*1) ((n:Int)-(i:Nat)) 1))(U:DAx X G H0 [a] F)(J:Bn X "range":=by walk_at "b")(V:starEach [a] X.env=[(false,eval a X.env)]:=by rfl):DIC Cm X G H0 tg (.Call (.Name "range" p') [a] [] pos) (ij iR1 F) :=
 ⟨PIC.imp (zvj hT J.g J.m U.out V) λσ H R Y=>by
  obtain⟨W,env,ds,env',ok,q,k⟩:=Y;cases e1:F env with
  |none=>simp[e1] at q |some z =>
    obtain⟨as,D⟩:=z;cases e2:iR1 as with
    |none=>simp[e1,e2] at q |some d' =>
      have q:↑(d',D)=↑(ds,env'):=by simpa[ij,e1,e2] using q
      cases q;refine⟨W,env,as,_,ok,e1,λW1 vs H1 Z I p1=>?_⟩;unfold iR1 at e2;split at e2
      ·rename_i j
       split at e2
       ·rename_i S
        cases e2;obtain⟨v,rfl,b⟩:=ul p1;cases b;exact⟨j,rfl,S.1,S.2,k W1 _ H1 Z I zz8⟩
       ·cases e2
      ·cases e2⟩
def sf(D:DAx X G H0 [a] F)(I:Bn X "range":=by walk_at "b")(J:starEach [a] X.env=[(false,eval a X.env)]:=by rfl):DIx X G H0 tg (.Call (.Name "range" p') [a] [] pos) (ij iR1 F):=zo9 (λit lo n=>zki it lo n) D I J
def capt:lp->lp |some (.sh d)=>↑(.sh d) |_=>none
def n9(tt:FT)(te:FE)(base:DE0):la->Option la
 | []=>↑[] |d::r=>(tt (↑(.sh d)::base)).bind λb=>if b.1=true then(te b.2).bind λv=>(n9 tt te base r).map (v.1::·) else n9 tt te base r
def ig(fi:FI)(ix:ik)(tt:FT)(te:FE):FA:=λe=>(fi e).bind λr=>if Few r.1.length then(n9 tt te (ix.map λj=>capt (r.2.getD j none)) r.1).map λds=>(ds,r.2) else none
@[simp] def fYes:FT:=λe=>↑(true,e)
def tDxT(K:k6)(f:FT):TT:=λσ H Q=>∃G H0,tDT K G H0 f σ H Q
def tDx(K:k6)(f:FE):TE:=λσ H Q=>∃G H0,tD K G H0 f σ H Q
def NoW:Addr->Prop:=λ_=>False
def zpx{W:Addr->Prop}(ok:Ok X.K G H0 W env σ H)(r:Rep X.K H (Ow G W) d v) :
  Ok X.K (gd λa=>Ow G W a\/H a=none) H NoW (↑(.sh d)::ix.map λj=>capt (env.getD j none)) (↑v::ix.map λj=>σ.getD j none) H:=by
 have R:∀ {d:D} {v:V},Rep X.K H (Ow G W) d v->Rep X.K H (Ow (gd λa=>Ow G W a\/H a=none) NoW) d v:=λr=>r.mono (λ_ _ h=>h) λa us o h=>⟨⟨.inl o,λz=>z⟩,h⟩;have I:∀(i:Nat) (s:Sl),(↑(Sl.sh d)::ix.map λj=>capt (env.getD j none))[i]?=↑↑s->∃d',s=.sh d':=λi s z=>by
  cases i with
  |zero=>exact⟨d,by simpa using z.symm⟩ |succ i =>
    simp only[ah,bw] at z;cases q:ix[i]? with
    |none=>rw[q] at z;cases z
    |some j =>
      rw[q] at z;have z:capt (env.getD j none)=↑s:=bz z;unfold capt at z;split at z
      ·cases z;exact⟨_,rfl⟩
      ·cases z
 refine⟨Same.refl _,λa z=>.inr z,λl z=>z.elim,λi s e=>?_,λi j S s2 v1 v2 a J _ _ _ o _=>by obtain⟨d',rfl⟩:=I i S J;exact o.elim,by simp⟩;cases i with
 |zero =>
   cases e;exact⟨v,rfl,R r⟩
 |succ i =>
   simp only[ah,bw] at e ⊢;cases q:ix[i]? with
   |none=>rw[q] at e;cases e
   |some j =>
     rw[q] at e;have e:capt (env.getD j none)=↑s:=bz e;rw[bx] at e;cases q2:env[j]? with
     |none=>rw[q2] at e;cases e
     |some o =>
       rw[q2] at e;have e:capt o=↑s:=e;unfold capt at e;split at e
       ·rename_i d'
        cases e;obtain⟨u,J,U⟩:=ok.slot j _ q2;exact⟨u,by simp only[aj];rw[bx,J];rfl,R U⟩
       ·cases e
inductive CInv (K:k6) (O:Addr->Prop) (H1:Hp) (ds d:la) (f:la->Option la) (i m:Nat) (H':Hp) (ys:k9):Prop
 |mk (rest done:la) (hm:m=ds.length-i) (hi:i<=ds.length) (sm:Same H1 H') (rp:Reps K H' O done ys) (hd:done.length<=i) (ec:f (ds.drop i)=↑rest) (hz:d=done++rest):CInv K O H1 ds d f i m H' ys
def znb:2 ^ 20<=sizeLine:=by rw[sizeLine_eq];decide
variable{tt:FT}{te:FE}{fi:FI}
theorem zt8:∀σ H Q,tDF X.K G H0 (ig fi ix tt te) σ H Q->yv (tDI X.K G H0 fi) ix (tDxT X.K tt) (tDx X.K te) σ H Q:=λσ H Q z=>by
 obtain⟨W,env,d,env',ok,q,k⟩:=z;obtain⟨⟨ds,Z⟩,C,q⟩:=dq.mp q;by_cases n:Few ds.length;case neg=>cases (if_neg n).symm.trans q
 obtain⟨u,E,q⟩:=im.mp ((if_pos n).symm.trans q);cases q;refine⟨W,env,ds,_,ok,C,λW1 J H1 F r A=>⟨CInv X.K (Ow G W1) H1 ds d (n9 tt te (ix.map λj=>capt (Z.getD j none))),⟨ds.length,d,[],rfl,fg _,Same.refl _,.nil,b7 _,E,rfl⟩,λi m H' ys z=>?_⟩⟩;obtain⟨rest,S,L,hi,sm,c,hd,R,s⟩:=z;subst L;have D:=r.same sm;by_cases I:i<ds.length
 ·rw[fm I] at R
  obtain⟨⟨b,U⟩,M,R⟩:=dq.mp R;obtain⟨N,O⟩:=A.go W1 H' i ds[i] (Step.same sm) (av I);refine .inr ⟨N,λx t y=>?_⟩;obtain⟨e,P⟩:=O x t y;subst e;refine⟨_,_,NoW,_,b,U,zpx (ix:=ix) D P,M,λT H2 s2 V=>?_⟩;have p:ds.length-(i+1)<ds.length-i:=nn _ _ I;cases b with
  |false=>exact⟨_,p,rest,S,rfl,I,sm.trans V.stay,D.reps (Step.same V.stay) c,rd hd,R,s⟩ |true =>
    obtain⟨⟨B,f⟩,e4,R⟩:=dq.mp R;obtain⟨Y,e5,e6⟩:=im.mp R;refine⟨_,_,T,U,B,f,V,e4,λW3 v H3 s3 g r3=>⟨?_,_,p,Y,S++[B],rfl,I,sm.trans g.stay,(D.reps (Step.same g.stay) c).append (.cons (r3.mono (λ_ _ h=>h) λa us o h=>⟨?_,h⟩) .nil),?_,e5,?_⟩⟩
    ·rw[<-c.length];exact bq (ky hd (bq I n)) znb
    ·rcases o.1 with z |z
     ·exact z
     ·exact⟨D.good a (D.stay.free z),λw=>by obtain⟨_,us,q⟩:=D.wl a w;rw[z] at q;cases q⟩
    ·rw[au];exact Nat.succ_le_succ hd
    ·rw[s,<-e6,d7];rfl
 ·cases va hi (l6 I)
  rw[j8] at R;cases R;refine .inl ⟨A.stop W1 H' (Step.same sm),by rw[<-c.length];exact cr hd (cr n znb),λl p=>?_⟩;obtain⟨h1,h2,h3,h4,h5,h6⟩:=wt D c p;rw[s,di] at k;exact k W1 l _ _ ((F.trans (Step.same sm)).trans h1) h2 h3 h4 h5 h6
variable{X':Cx}
def yt(J:X'.K=X.K):PIfs X' [] (tDxT X.K fYes):=λpins s σ H Q I D=>by
 obtain⟨G,H0,W,env,b,env',ok,e,k⟩:=D;cases e;exact zz0 pins s σ H Q I (k W H Step.refl ok)
def if_x(D:X'.K=X.K)(h:∀G H0,DTx X' G H0 c tt):PIfs X' [c] (tDxT X.K tt):=λpins s σ H Q I ⟨G,H0,q⟩=>zz1 (h G H0).out pins s σ H Q I (by rw[D];exact q)
def el_x(D:X'.K=X.K)(h:∀G H0,DEx X' G H0 e te):PE X' e (tDx X.K te):=λpins s σ H Q I ⟨G,H0,q⟩=>(h G H0).out pins s σ H Q I (by rw[D];exact q)
def ua(an:Ats Nn Cn X)(hi:DIx X G H0 (.Name x px) a fi)(I:∀cl C s₂ H₂ fp G H0,Ats (x::(subN Nn ix)) (subN Nn ix) (jd X x (subN Nn ix) sc cl C s₂ H₂ fp)->DEx (jd X x (subN Nn ix) sc cl C s₂ H₂ fp) G H0 e te)(D:rj Nn Cn ix x sc=true:=by decide +kernel)(J:X.calm=true:=by rfl)(R:∀v,foldedSetIterable a X.env v=pure v:=by intro _;rfl) :
  DFx X G H0 (.ListComp e [⟨.Name x px,a,[],0⟩] sc pos) (ig fi ix fYes te) :=
 ⟨(zps (wx an D) (λ_ _ _ _ _ _ _ _ _=>J) hi.out (λcl C s₂ H₂ fp _=>yt (X:=X) rfl) (λcl C s₂ H₂ fp _=>el_x (X:=X) rfl (λG H0=>I cl C s₂ H₂ fp G H0 (uv D))) R).imp zt8⟩
def zrn{cd:Expr}(an:Ats Nn Cn X)(hi:DIx X G H0 (.Name x px) a fi)(I:∀cl C s₂ H₂ fp G H0,Ats (x::(subN Nn ix)) (subN Nn ix) (jd X x (subN Nn ix) sc cl C s₂ H₂ fp)->DTx (jd X x (subN Nn ix) sc cl C s₂ H₂ fp) G H0 cd tt)(J:∀cl C s₂ H₂ fp G H0,Ats (x::(subN Nn ix)) (subN Nn ix) (jd X x (subN Nn ix) sc cl C s₂ H₂ fp)->DEx (jd X x (subN Nn ix) sc cl C s₂ H₂ fp) G H0 e te)(D:rj Nn Cn ix x sc=true:=by decide +kernel)(R:X.calm=true:=by rfl)(S:∀v,foldedSetIterable a X.env v=pure v:=by intro _;rfl) :
  DFx X G H0 (.ListComp e [⟨.Name x px,a,[cd],0⟩] sc pos) (ig fi ix tt te) :=
 ⟨(zps (wx an D) (λ_ _ _ _ _ _ _ _ _=>R) hi.out (λcl C s₂ H₂ fp _=>if_x (X:=X) rfl (λG H0=>I cl C s₂ H₂ fp G H0 (uv D))) (λcl C s₂ H₂ fp _=>el_x (X:=X) rfl (λG H0=>J cl C s₂ H₂ fp G H0 (uv D))) S).imp zt8⟩
def Here(h h':Heap):Prop:=∀b o,h.get? b=↑o->∃o',h'.get? b=↑o'
def Here.trans{a b c:Heap}(x:Here a b)(y:Here b c):Here a c:=λp o q=>let ⟨o',e⟩:=x p o q;y p o' e
def zpy{a:Addr}{f:Obj->Obj}(D:∀o,h.get? a=↑o->(h.update a f).get? a=↑(f o)):Here h (h.update a f):=λb o q=>by
 by_cases e:a=b
 ·subst e;exact⟨_,D o q⟩
 ·exact⟨o,(cz _ _ e).trans q⟩
structure XOk (B:Heap) (l:ka) (e:Addr) (cls fl:Value) (h:Heap):Prop where
 stay:B.StaysIn h
 new:B.get? e=none
 fr:h.FunFrames B l
 tr:∃oe vs T oT ts,h.get? e=↑oe/\oe.cls=cls/\oe.dict=none/\oe.data=.fields vs/\vs[1]?=↑(.ref T)/\vs[2]?=some .none/\B.get? T=none/\T≠e/\h.get? T=↑oT/\oT.data=.fields ts/\ts[3]?=↑fl
def zxh(o:Obj)(f:k8->k8):(o.mapFields f).dict=o.dict:=by obtain⟨c,d,D,sl⟩:=o;cases D <;> rfl
variable{env:Env}{e L:Addr}{E:Value->Shared->Prop}{M:Model}{B:Heap}{outer:ka}
def z2e{D:Obj}{vs:k8}{hd:Value}{nx:Bool}(l:A.frames=↑(env::outer))(f2:s.heap.FunFrames B (env::outer))(m:env.frame=↑L)(U:s.heap.get? e=↑D)(gd:D.dict=none)(I:D.data=.fields vs)(f:1<vs.size)(p:vs[2]?=some .none)(k1:B.StaysIn s.heap)(k2:B.get? e=none)(h:∀h',XOk B (env::outer) e D.cls (rawInt L) h'->s.heap.UpToSlots h'->Here s.heap h'->Q () { s with heap:=h' }) :
  wpAny M A (do let a <-frameOf env;let pl <-entryPlaceOf L nx;let b <-EntryCells.newEntry hd a .none (rawInt L) .none pl;setField (.ref e) 1 b) Q E s:=by
 have V:e∉(env::outer).filterMap (·.frame):=λz=>by
  obtain⟨_,o,g,r⟩:=f2.mem z;rw[U] at g;cases g;exact r vs I
 refine wpAny_bind (wpAny_frameOf_fun l f2 m λh1 J=>?_);refine wpAny_bind (wpAny_entryPlaceOf λpl R=>?_);refine wpAny_bind (wpAny_newObj_type ?_ (R.sizeOk5 _ _ _ _ _));have i:h1.get? e=↑D:=(J.2.1 e V).trans U;have j:B.StaysIn h1:=λb o q=>(J.2.1 b λz=>by rw[(f2.mem z).1] at q;cases q).trans (k1 b o q);generalize S:({ cls:=.type "traceback",dict:=none,data:=.fields ([hd,.ref L,.none,rawInt L,.none]++(if pl.isEmpty then List.replicate 6 Value.none else pl)).toArray }:Obj)=ob;have Y:∃ts,ob.data=.fields ts/\ts[3]?=↑(rawInt L):=by subst S;exact⟨_,rfl,by first | (simp;done) | (rcases R with rfl | ⟨_,_,_,_,_,_,_,rfl⟩ <;> simp)⟩
 have Z:ob.isFreed=false:=by subst S;rfl
 have c:=aw (h:=h1) ob i;have k:h1.objs.size≠e:=mj (bu i);have d:=Obj.data_mapFields I (·.setIfInBounds 1 (Value.ref h1.objs.size));refine wpAny_setField c I f (h _ ?_ ?_ ?_)
 ·refine⟨λb o q=>?_,k2,f2.of_keeps λb o q n=>?_,?_⟩
  ·rw[cz _ _ (λz:e=b=>by rw[<-z,k2] at q;cases q)]
   exact aw _ (j b o q)
  ·obtain⟨sl,z⟩:=J.2.2 b o q
   refine⟨{ o with slots:=sl },?_,rfl⟩;rw[cz _ _ (λy:e=b=>by rw[<-y,U] at q;cases q;exact n vs I)];exact aw _ z
  ·obtain⟨ts,t,u⟩:=Y
   refine⟨_,_,h1.objs.size,ob,ts,gk _ c (Obj.isFreed_of_fields d),Obj.cls_mapFields _ _,(zxh _ _).trans gd,d,by simp[f],by rw[Array.getElem?_setIfInBounds_ne (by decide)];exact p,j.fresh,k,?_,t,u⟩;rw[cz _ _ (Ne.symm k)];exact cy h1 Z
 ·intro b o q n
  obtain⟨sl,z⟩:=J.2.2 b o q;refine⟨sl,?_⟩;rw[cz _ _ (λy:e=b=>by rw[<-y,U] at q;cases q;exact n vs I)];exact aw _ z
 ·intro b o q
  obtain⟨sl,z⟩:=J.2.2 b o q;exact zpy (λo q=>gk _ q (by rw[c] at q;cases q;exact Obj.isFreed_of_fields d)) b _ (aw _ z)
variable{l:ka}{cls:Value}
def zsw(x:XOk B l e cls fl s.heap)(h:∀h',XOk B l e cls .none h'->s.heap.UpToSlots h'->Here s.heap h'->Q () { s with heap:=h' }):wpAny M A (setFlight (.ref e) none) Q E s:=by
 obtain⟨d,vs,T,g,ts,R,Z,gd,S,U,a,V,Y,D,I,c⟩:=x.tr;have sz:3<ts.size:=(lb.mp c).1;unfold setFlight;refine wpAny_bind (wpAny_field R S U ?_);have J:=Obj.data_mapFields I (·.setIfInBounds 3 ((none:Option Addr).elim Value.none λf=>rawInt f));refine wpAny_setField D I sz (h _ ⟨λb o q=>?_,x.new,x.fr.of_keeps λb o q n=>⟨o,?_,rfl⟩,_,vs,T,_,_,(cz _ _ Y).trans R,Z,gd,S,U,a,V,Y,gk _ D (Obj.isFreed_of_fields J),J,by simp[sz]⟩ (λb o q n=>⟨o.slots,?_⟩) (zpy λo q=>gk _ q (by rw[D] at q;cases q;exact Obj.isFreed_of_fields J)))
 ·exact(cz _ _ λz=>by rw[<-z,V] at q;cases q).trans (x.stay b o q)
 ·exact(cz _ _ λz=>by rw[<-z,D] at q;cases q;exact n ts I).trans q
 ·exact(cz _ _ λz=>by rw[<-z,D] at q;cases q;exact n ts I).trans q
def z90(Z:A.frames=↑(env::outer))(J:env.frame=↑L)(x:XOk B (env::outer) e cls .none s.heap)(h:∀h',XOk B (env::outer) e cls (rawInt L) h'->s.heap.UpToSlots h'->Here s.heap h'->Q () { s with heap:=h' }):wpAny M A (noteFrame (.ref e) env) Q E s:=by
 obtain⟨g,vs,T,i,ts,R,a,gd,S,U,c,d,f,D,I,V⟩:=x.tr;subst a;unfold noteFrame;simp only[J];refine wpAny_bind (wpAny_field R S U ?_);refine wpAny_bind (wpAny_field D I V ?_);refine wpAny_bind (wpAny_setField D I (lb.mp V).1 ?_);have Y:∀b o,s.heap.get? b=↑o->(∀vs,o.data≠.fields vs)->(s.heap.update T (Obj.mapFields (·.setIfInBounds 3 Value.none))).get? b=↑o:=λb o q n =>
  (cz _ _ λz=>by rw[<-z,D] at q;cases q;exact n ts I).trans q
 refine z2e Z (x.fr.of_keeps λb o q n=>⟨o,Y b o q n,rfl⟩) J ((cz _ _ f).trans R) gd S (lb.mp U).1 c (λb o q=>(cz _ _ λz=>by rw[<-z,d] at q;cases q).trans (x.stay b o q)) x.new λh' y u w=>h h' y (λb o q n=>u b o (Y b o q n) n) (Here.trans (zpy λo q=>gk _ q (by rw[D] at q;cases q;exact Obj.isFreed_of_fields (Obj.data_mapFields I _))) w)
def z91(D:A.frames=↑(env::outer))(I:env.frame=↑L)(x:XOk B (env::outer) e cls .none s.heap)(h:∀h',XOk B (env::outer) e cls .none h'->s.heap.UpToSlots h'->Here s.heap h'->Q () { s with heap:=h' }):wpAny M A (noteFrame (.ref e) env) (λ_ J=>wpAny M A (setFlight (.ref e) none) Q E J) E s :=
 z90 D I x λh1 R S U=>zsw R λh2 V Y Z=>h h2 V (S.trans Y) (U.trans Z)
def z7m{D:Heap}{args:h8}(R:A.frames=↑(env::outer))(f2:D.FunFrames B (env::outer))(I:env.frame=↑L)(k1:B.StaysIn D)(m:Heap.MadeExcOf D s.heap e cls args)(h:∀h',XOk B (env::outer) e cls .none h'->s.heap.UpToSlots h'->Here s.heap h'->Q () { s with heap:=h' }):wpAny M A (noteFrame (.ref e) env) (λ_ S=>wpAny M A (setFlight (.ref e) none) Q E S) E s:=by
 obtain⟨t,J,_,_⟩:=m.there;have k2:B.get? e=none:=by
  cases q:B.get? e with
  |none=>rfl |some o=>have:=k1 e o q;rw[m.new] at this;cases this
 unfold noteFrame;simp only[I];refine wpAny_bind (wpAny_field J rfl (x:=Value.none) rfl ?_);exact z2e R (f2.of_keeps λb o q _=>⟨o,m.keeps b o q,rfl⟩) I J rfl rfl (by simp) rfl (λb o q=>m.keeps b o (k1 b o q)) k2 λh1 U V Y=>zsw U λh2 Z a c=>h h2 Z (V.trans a) (Y.trans c)
end L2
namespace L2
open PySem PySem.Spec PyProof.Rows PySem.W
def Cl(K:k6)(c:Str)(C:Addr):Prop:=PySem.W.nsIn K mainGlobals c=↑↑(.ref C)
def Fly(P:Program)(w:World)(l:ka)(H:Hp)(s:Shared)(C e:Addr)(H':Hp)(s':Shared):Prop :=
 ∃B,XOk B l e (.ref C) .none s'.heap/\(∀b o,s.heap.get? b=↑o->H b=none->b∉frs l->B.get? b=↑o)/\HOk P w H' B/\Un (frs l) [] H H' s.heap s'.heap/\s'.os=s.os/\AllBare s'.gens
abbrev CXr(P:Program)(w:World):CXT:=λl H s E e s'=>∃ea C H',e=.ref ea/\Fly P w l H s C ea H' s'/\E (.ref C) none H'
def XS(X:Cx)(pins:k7)(σ:St)(H:Hp)(C e:Addr)(s':Shared):Prop :=
 (∃s H1,Inv X pins σ H1 s/\Fly X.prog X.w X.stack H1 s C e H s')\/∃s args,Inv X pins σ H s/\Heap.MadeExcOf s.heap s'.heap e (.ref C) args/\s'={ s with heap:=s'.heap }
variable{CX:CXT}{P:Program}{w:World}{K:k6}{mg:Str->ia}{base:Heap}{x qual:Str}{st:Stmt}{f:Addr}{fd:FuncData}{N ps:h7}{k:Nat}{sp:Sp}
theorem Fun.okX(F:Fun K x qual st f fd)(S:tx N ps (gl st))(len:∀vs H Q E,sp vs H Q E->vs.length=ps.length)(D:∀(cdv:Value) (A:Around) (outer:ka) (s:Shared) (H:Hp) (vs:k9) (Q:VK) (E:XK),Room k (A.deeper (envOfC qual (gl st) s.heap.objs.size f cdv))->sp vs H Q E ->
   ∃t,PSs (cxOf CX P w K mg base N qual (gl st) f cdv A outer s H E) (mh st) t/\t { nx:=λ_ H'=>Q .non H',rt:=Q } (start N vs) H):FnOk P w K mg base CX (k+1) f fd ps sp:=by
 obtain⟨oc,od,kV,R,Z,an,cdv,ct,osl,rfl,U,I⟩:=F.ex;exact z9q U I S len λA outer s H vs Q E Y J=>D cdv A outer s H vs Q E Y J
theorem Fun.okC(F:Fun K x qual st f fd)(S:tx N ps (gl st))(len:∀vs H Q E,sp vs H Q E->vs.length=ps.length)(D:∀(cdv:Value) (A:Around) (outer:ka) (s:Shared) (H:Hp) (vs:k9) (Q:VK) (E:XK),Room k (A.deeper (envOfC qual (gl st) s.heap.objs.size f cdv))->sp vs H Q E ->
   ∃t,PSs (cxOf CX P w K mg base N qual (gl st) f cdv A outer s H E).nox (mh st) t/\t { nx:=λ_ H'=>Q .non H',rt:=Q } (start N vs) H):FnOk P w K mg base CX (k+1) f fd ps sp :=
 F.okX S len λcdv A outer s H vs Q E I h=>let ⟨t,p,q⟩:=D cdv A outer s H vs Q E I h;⟨t,p.nox,q⟩
variable{X:Cx}{pins:k7}{σ:St}{H H':Hp}{s s':Shared}{C e:Addr}
def Fly.inv(I:Inv X pins σ H s)(f:Fly X.prog X.w X.stack H s C e H' s'):Inv X pins σ H' s':=by
 obtain⟨B,x,_,D,un,os,J⟩:=f;exact I.call' (ch:=[]) os un (D.kept x.stay) J λb z=>absurd z (by simp)
def XS.come{E:Value->Shared->Prop}{Q:Unit->Shared->Prop}(h:XS X pins σ H' C e s')(R:X.stack=X.env::X.outer)(j:X.env.frame=↑X.env.locals)(k:∀h2 D H1,Inv X pins σ H1 D->Fly X.prog X.w X.stack H1 D C e H' { s' with heap:=h2 }->Q () { s' with heap:=h2 }):wpAny (model X.prog X.w) X.A (noteFrame (.ref e) X.env) (λ_ D=>wpAny (model X.prog X.w) X.A (setFlight (.ref e) none) Q E D) E s':=by
 rcases h with⟨D,H1,I,f⟩ | ⟨D,args,I,m,es⟩
 ·obtain⟨B,x,l,p,un,os,r⟩:=f
  have st:=I.stack;rw[R] at x st;refine z91 (I.ok.frames.trans (by rw[R])) j x λh2 S Y U=>k h2 D H1 I ⟨B,R ▸ S,l,p,⟨λb o q n J _=>S.stay b o (l b o q n J),λb o q n J Z=>?_,un.free,λb o q Z=>?_,un.tups,un.frzs,un.tbls⟩,os,r⟩
  ·obtain⟨sl,z⟩:=un.slot b o q n J Z
   rw[R] at J;obtain⟨_,s,y,d⟩:=st.mem J;rw[q] at y;cases y;obtain⟨g,t⟩:=Y b _ z d;exact⟨g,t⟩
  ·obtain⟨o',z⟩:=un.there b o q Z
   exact U b o' z
 ·have st:=I.stack
  have v:∀b∈frs X.stack,H' b=none:=I.stkFree;have V:∀b o,H' b=↑o->b∉frs X.stack:=λb o q z=>by rw[v b z] at q;cases q
  have i:HOk X.prog X.w H' (hideAll D.heap (frs X.stack)):=λb o q =>
   (I.hok b o q).stay (λc u hc z=>hideAll_get _ z (by rcases hc with rfl |hc;exact V _ _ q;exact V _ _ hc)) (λ_ z=>z) λ_ _ z=>z
  have f2:D.heap.FunFrames (hideAll D.heap (frs X.stack)) (X.env::X.outer):=R ▸ funFrames_hide (as:=frs X.stack) st λenv U a F=>pi.mpr ⟨env,U,F⟩;refine z7m (B:=hideAll D.heap (frs X.stack)) (I.ok.frames.trans (by rw[R])) f2 j (λb o q=>of_hideAll _ q) m λh2 S Y U=>k h2 D H' I ⟨_,R ▸ S,λb o q n J=>hideAll_get _ q J,i,⟨λb o q n J _=>S.stay b o (hideAll_get _ q J),λb o q n J _=>?_,λ_ _ _ n _=>n,λb o q _=>U b o (m.keeps b o q),λ_ _ z=>z,λ_ _ _ z=>z,λ_ ps z=>⟨#[],by rw[Array.append_empty];exact z⟩⟩,by rw[es],by rw[es];exact I.bare⟩;obtain⟨_,s,y,d⟩:=st.mem J;rw[q] at y;cases y;exact Y b o (m.keeps b o q) d
def zmb{scope:Scope}{cd:Value}{A:Around}{outer:ka}{s₀:Shared}{H₀:Hp}{E:XK}(h:XS (cxOf (CXr P w) P w K mg base N qual scope f cd A outer s₀ H₀ E) pins σ H' C e s')(R:E (.ref C) none H'):(cxOf (CXr P w) P w K mg base N qual scope f cd A outer s₀ H₀ E).xe (.ref e) s':=by
 refine wpAny_bind (h.come rfl rfl λh2 V H1 I f=>⟨e,C,H',rfl,?_,R⟩);have J:=f.inv I;obtain⟨B,x,S,U,_⟩:=f;refine⟨B,⟨x.stay,x.new,x.fr.2.2,x.tr⟩,λb o q n D=>?_,U,J.base,J.os,J.bare⟩;refine S b o (I.base.keep b o q n D (by simp[cxOf])) (I.base.free b o q n (by simp[cxOf])) λz=>?_;rcases ce.mp (show b∈s₀.heap.objs.size::frs outer from z) with z |z
 ·rw[z] at q;exact absurd (bu q) (f9 _)
 ·exact D z
end L2
namespace L2
open PySem PySem.Spec PyProof.Rows
inductive Fl where
 |nx |bk |ct |rt (d:D) |rf (ds:la) |r2 (dss:List la) |xc (c:Str) |ra (k:AK) (ps:ln)
abbrev FS:=DE0->Option (Fl×DE0)
structure N2 (K:k6) (G:Gd) (H0 H:Hp) (l:Addr) (ls:ic) (dss:List la):Prop where
 nd:(l::ls).Nodup
 new:∀a∈l::ls,H0 a=none
 top:H l=↑(.lst (ls.map V.ref))
 len:ls.length=dss.length
 inn:∀(j:Nat) (ds:la) (a:Addr),dss[j]?=↑ds->ls[j]?=↑a->∃vs,H a=↑(.lst vs)/\Reps K H (λb=>G b/\b∉l::ls) ds vs
def EndOk(X:Cx)(G:Gd)(H0:Hp)(W:Addr->Prop)(H:Hp)(Dn:Ends)(env':DE0):Fl->Prop
 | .nx=>∀W' D H',Step W H W' H'->Ok X.K G H0 W' env' D H'->Dn.nx D H' | .bk=>∀W' D H',Step W H W' H'->Ok X.K G H0 W' env' D H'->Dn.bk D H' | .ct=>∀W' D H',Step W H W' H'->Ok X.K G H0 W' env' D H'->Dn.ct D H' | .rt d=>∀W' D v H',Step W H W' H'->Ok X.K G H0 W' env' D H'->Rep X.K H' (Ow G W') d v->Dn.rt v H' | .rf ds=>∀l vs H',Same H0 H'->H0 l=none->H' l=↑(.lst vs)->Reps X.K H' (λa=>G a/\a≠l) ds vs->Dn.rt (.ref l) H'
 | .r2 dss=>∀l ls H',Same H0 H'->N2 X.K G H0 H' l ls dss->Dn.rt (.ref l) H'
 | .xc c=>∀W' D H' C,Cl X.K c C->Step W H W' H'->Ok X.K G H0 W' env' D H'->∀pins e s',XS X pins D H' C e s'->X.xe (.ref e) s' | .ra k ps=>∀W' D p H',Step W H W' H'->Ok X.K G H0 W' env' D H'->SlOk X.K G W' H' (.ag k none ps) (.ref p)->Dn.rt (.ref p) H'
def tDS(X:Cx)(G:Gd)(H0:Hp)(g:FS):TS:=λDn σ H=>DP X.K G H0 g (λW env fl env'=> EndOk X G H0 W H Dn env' fl) σ H
structure DSx (X:Cx) (G:Gd) (H0:Hp) (s:Stmt) (g:FS):Prop where
 out:PS X s (tDS X G H0 g)
structure DBx (X:Cx) (G:Gd) (H0:Hp) (s:List Stmt) (g:FS):Prop where
 out:PSs X s (tDS X G H0 g)
variable{X:Cx}{e:Expr}{t t':TS}
def PS.imp{e:Stmt}(h:PS X e t)(i:∀D σ H,t' D σ H->t D σ H):PS X e t':=λpins s σ H D I q=>h pins s σ H D I (i D σ H q)
def PSs.imp{e:List Stmt}(h:PSs X e t)(i:∀D σ H,t' D σ H->t D σ H):PSs X e t':=λpins s σ H D I q=>h pins s σ H D I (i D σ H q)
section
variable {X:Cx} {G:Gd} {W W1 W':Addr->Prop} {H0 H H1 H':Hp} {Dn Dn':Ends} {env env':DE0} {σ:St} {fl:Fl}
protected def EndOk.step(st:Step W H W1 H1)(h:EndOk X G H0 W H Dn env' fl):EndOk X G H0 W1 H1 Dn env' fl:=by
 cases fl with
 |nx=>exact λW' D H' s o=>h W' D H' (st.trans s) o |bk=>exact λW' D H' s o=>h W' D H' (st.trans s) o |ct=>exact λW' D H' s o=>h W' D H' (st.trans s) o |rt d=>exact λW' D v H' s o=>h W' D v H' (st.trans s) o |rf ds=>exact h |r2 dss=>exact h |xc c=>exact λW' D H' C z s o=>h W' D H' C z (st.trans s) o |ra k ps=>exact λW' D p H' s o=>h W' D p H' (st.trans s) o
def Fl.out:Fl->Bool | .rt _=>true | .rf _=>true | .r2 _=>true | .xc _=>true | .ra _ _=>true |_=>false
protected def EndOk.go(I:fl.out=true)(h:EndOk X G H0 W H Dn env' fl)(e:Dn'.rt=Dn.rt)(st:Step W H W1 H1):EndOk X G H0 W1 H1 Dn' env' fl:=by
 cases fl with
 |nx=>cases I
 |bk=>cases I
 |ct=>cases I
 |rt d=>intro W' D v H' s o r;rw[e];exact h W' D v H' (st.trans s) o r
 |rf ds=>intro v vs H' s n l r;rw[e];exact h v vs H' s n l r
 |r2 dss=>intro v ls H' s n;rw[e];exact h v ls H' s n
 |xc c=>exact λW' D H' C z s o=>h W' D H' C z (st.trans s) o |ra k ps=>intro W' D p H' s o r;rw[e];exact h W' D p H' (st.trans s) o r
end
@[simp] def sNil:FS:=λe=>↑(.nx,e)
@[simp] def sSeq(g h:FS):FS:=λe=>(g e).bind λr=>match r.1 with | .nx=>h r.2 |_=>↑r
@[simp] def sSet(i:Nat)(f:FE):FS:=λe=>(f e).map λr=>(.nx,r.2.set i ↑(.sh r.1))
@[simp] def sOwn(i:Nat)(f:FA):FS:=λe=>(f e).map λr=>(.nx,r.2.set i ↑(.ow r.1))
@[simp] def sRet(f:FE):FS:=λe=>(f e).map λr=>(.rt r.1,r.2)
@[simp] def z3z(f:FA):FS:=λe=>(f e).map λr=>(.rf r.1,r.2)
@[simp] def sIf(c:FT)(g h:FS):FS:=λe=>(c e).bind λr=>if r.1=true then g r.2 else h r.2
@[simp] def je(f:FE):FS:=λe=>(f e).map λr=>(.nx,r.2)
@[simp] def zt9:FS:=λ_=>none
def forL(i:Nat)(g:FS):la->DE0->Option (Fl×DE0)
 | [],e=>↑(.nx,e) |d::r,e=>(g (e.set i ↑(.sh d))).bind λq=>match q.1 with | .nx=>forL i g r q.2 | .ct=>forL i g r q.2 | .bk=>↑(.nx,q.2) | .rt d=>↑(.rt d,q.2) | .rf ds=>↑(.rf ds,q.2) | .r2 ds=>↑(.r2 ds,q.2) | .xc c=>↑(.xc c,q.2) | .ra k ps=>↑(.ra k ps,q.2)
@[simp] def sFor(i:Nat)(fi:FI)(g:FS):FS:=λe=>(fi e).bind λr=>forL i g r.1 r.2
def oh(c:FT)(g:FS):Nat->DE0->Option (Fl×DE0)
 |0,_=>none |n+1,e=>(c e).bind λr=>if r.1=true then(g r.2).bind λq=>match q.1 with | .nx=>oh c g n q.2 | .ct=>oh c g n q.2 | .bk=>↑(.nx,q.2) | .rt d=>↑(.rt d,q.2) | .rf ds=>↑(.rf ds,q.2) | .r2 ds=>↑(.r2 ds,q.2) | .xc c=>↑(.xc c,q.2) | .ra k ps=>↑(.ra k ps,q.2) else ↑(.nx,r.2)
variable{G:Gd}{H0:Hp}
def gz  : DBx X G H0 [] sNil:=⟨z27.imp λDn σ H D=>by
 obtain⟨W,env,fl,env',ok,q,k⟩:=D;cases q;exact k W σ H Step.refl ok⟩
variable{s:Stmt}{ss:List Stmt}{u v:FS}
def dc(h1:DSx X G H0 s u)(h2:DBx X G H0 ss v):DBx X G H0 (s::ss) (sSeq u v):=⟨(zzm h1.out h2.out).imp λDn σ H R=>by
 obtain⟨W,env,fl,env',ok,q,k⟩:=R;cases e1:u env with
 |none=>simp[e1] at q |some r =>
   obtain⟨I,D⟩:=r;refine⟨W,env,I,D,ok,e1,?_⟩;cases I with
   |nx =>
     have q:v D=↑(fl,env'):=by simpa[sSeq,e1] using q
     exact λW1 S H1 U J=>⟨W1,D,fl,env',J,q,k.step U⟩
   |bk =>
     have q:↑(Fl.bk,D)=↑(fl,env'):=by simpa[sSeq,e1] using q
     cases q;exact k
   |ct =>
     have q:↑(Fl.ct,D)=↑(fl,env'):=by simpa[sSeq,e1] using q
     cases q;exact k
   |rt d =>
     have q:↑(Fl.rt d,D)=↑(fl,env'):=by simpa[sSeq,e1] using q
     cases q;exact k
   |rf d =>
     have q:↑(Fl.rf d,D)=↑(fl,env'):=by simpa[sSeq,e1] using q
     cases q;exact k
   |r2 d =>
     have q:↑(Fl.r2 d,D)=↑(fl,env'):=by simpa[sSeq,e1] using q
     cases q;exact k
   |xc d =>
     have q:↑(Fl.xc d,D)=↑(fl,env'):=by simpa[sSeq,e1] using q
     cases q;exact k
   |ra d d' =>
     have q:↑(Fl.ra d d',D)=↑(fl,env'):=by simpa[sSeq,e1] using q
     cases q;exact k⟩
def dm(h:DSx X G H0 s u):DBx X G H0 [s] u:=⟨z28 h.out⟩
variable{f:FE}{pos p':Pos}{x:Str}{i:Nat}
def z7n(R:X.N.Nodup)(hi:X.N[i]?=↑x:=by rfl)(S:DEx X G H0 e f)(ps:PS X (.Assign [.Name x p'] e pos) (tAsg (tD X.K G H0 f) (ng i))):DSx X G H0 (.Assign [.Name x p'] e pos) (sSet i f):=⟨ps.imp λDn σ H I=>by
 obtain⟨W,env,fl,env',ok,q,k⟩:=I;cases e1:f env with
 |none=>simp[e1] at q |some r =>
   have q:↑(Fl.nx,r.2.set i ↑(Sl.sh r.1))=↑(fl,env'):=by simpa[sSet,e1] using q
   cases q;exact⟨W,env,_,_,ok,e1,λW1 v1 H1 J D p1=>k W1 _ H1 J (D.set p1)⟩⟩
variable{F:FA}
def m8(ps:PS X (.Assign [.Name x p'] e pos) (tAsg (tDF X.K G H0 F) (ng i))):DSx X G H0 (.Assign [.Name x p'] e pos) (sOwn i F):=⟨ps.imp λDn σ H J=>by
 obtain⟨W,env,fl,env',ok,q,k⟩:=J;cases e1:F env with
 |none=>simp[e1] at q |some r =>
   have q:↑(Fl.nx,r.2.set i ↑(Sl.ow r.1))=↑(fl,env'):=by simpa[sOwn,e1] using q
   cases q;exact⟨W,env,_,_,ok,e1,λW1 l vs H1 R D I S U V=>k (addW W1 l) _ H1 R (I.setO (.inr rfl) U V (D.noOwn S))⟩⟩
def fj(I:DEx X G H0 e f):DSx X G H0 (.Return ↑e pos) (sRet f):=⟨(zd I.out).imp λDn σ H J=>by
 obtain⟨W,env,fl,env',ok,q,k⟩:=J;cases e1:f env with
 |none=>simp[e1] at q |some r =>
   have q:↑(Fl.rt r.1,r.2)=↑(fl,env'):=by simpa[sRet,e1] using q
   cases q;exact⟨W,env,_,_,ok,e1,λW1 v1 H1 R D p1=>k W1 σ v1 H1 R D p1⟩⟩
def z30(J:DFx X G H0 e F):DSx X G H0 (.Return ↑e pos) (z3z F):=⟨(zd J.out).imp λDn σ H R=>by
 obtain⟨W,env,fl,env',ok,q,k⟩:=R;cases e1:F env with
 |none=>simp[e1] at q |some r =>
   have q:↑(Fl.rf r.1,r.2)=↑(fl,env'):=by simpa[z3z,e1] using q
   cases q;exact⟨W,env,_,_,ok,e1,λW1 l vs H1 V D I Y S U=>k l vs H1 D.stay (I.wl l (.inr rfl)).1 S (U.mono (λ_ _ h=>h) λa us o h=>⟨⟨o.1,λz=>o.2 (.inr z)⟩,h⟩)⟩⟩
def fOwn(i:Nat):FA:=λe=>match e[i]? with |some ↑(.ow ds)=>↑(ds,e.set i none) |_=>none
@[simp] def zz9(i:Nat):FS:=λe=>match e[i]? with |some ↑(.ow ds)=>↑(.rf ds,e) |_=>none
variable{Nn Cn:h7}
def zxi(an:Ats Nn Cn X)(D:Nn[i]?=↑x:=by rfl):DSx X G H0 (.Return ↑(.Name x p') pos) (zz9 i):=⟨(zd ((an.a D).pe)).imp λDn σ H J=>by
 obtain⟨W,env,fl,env',ok,q,k⟩:=J;unfold zz9 at q;split at q
 ·rename_i ds R
  cases q;obtain⟨v,S,l,vs,rfl,I,U,r⟩:=ok.slot i _ R;exact⟨_,S,k l vs H ok.stay (ok.wl l I).1 U (r.mono (λ_ _ h=>h) λa us o h=>⟨⟨o.1,λz=>o.2 (z ▸ I)⟩,h⟩)⟩
 ·cases q⟩
variable{c:Expr}{p:FT}
def gx{J R:List Stmt}(U:DTx X G H0 c p)(V:DBx X G H0 J u)(Y:DBx X G H0 R v):DSx X G H0 (.If c J R pos) (sIf p u v):=⟨(z9k U.out V.out Y.out).imp λDn σ H Z=>by
 obtain⟨W,env,fl,env',ok,q,k⟩:=Z;cases e1:p env with
 |none=>simp[e1] at q |some r =>
   obtain⟨t,D⟩:=r;refine⟨W,env,t,D,ok,e1,λW1 H1 S I=>?_⟩;cases t with
   |true=>rw[if_pos rfl];exact⟨W1,D,fl,env',I,by simpa[sIf,e1] using q,k.step S⟩ |false=>rw[if_neg cw];exact⟨W1,D,fl,env',I,by simpa[sIf,e1] using q,k.step S⟩⟩
def zpz  : DSx X G H0 s zt9:=⟨zzn.imp λDn σ H ⟨W,env,fl,env',ok,q,k⟩=>by cases q⟩
def j1(I:DEx X G H0 e f)(J:swapsWith e none pos.line X.env=pure false:=by rfl):DSx X G H0 (.Expr e pos) (je f):=⟨(zwj I.out J).imp λDn σ H R=>by
 obtain⟨W,env,fl,env',ok,q,k⟩:=R;cases e1:f env with
 |none=>simp[e1] at q |some r =>
   have q:↑(Fl.nx,r.2)=↑(fl,env'):=by simpa[je,e1] using q
   cases q;exact⟨W,env,_,_,ok,e1,λW1 v1 H1 S D p1=>k W1 σ H1 S D⟩⟩
structure z31 (K:k6) (G:Gd) (J:It) (W:Addr->Prop) (H:Hp) (ds:la):Prop where
 go:∀W' H' (i:Nat) d,Step W H W' H'->ds[i]?=↑d->J.go i H'/\∀x H'',J.yld i H' x H''->Same H' H''/\Rep K H'' (Ow G W') d x
 stop:∀W' H',Step W H W' H'->J.stop ds.length H'
def tDJ(K:k6)(G:Gd)(H0:Hp)(f:FI):TI:=λσ H R=>DP K G H0 f (λW env ds env' =>
 ∀W' J H',Step W H W' H'->Ok K G H0 W' env' σ H'->z31 K G J W' H' ds->R J H') σ H
structure DJx (X:Cx) (G:Gd) (H0:Hp) (tg:Expr) (e:Expr) (f:FI):Prop where
 out:PI X tg e (tDJ X.K G H0 f)
variable{tg a:Expr}
def DIC.dj{f:FI}(h:DIx X G H0 tg a f):DJx X G H0 tg a f:=⟨h.out.imp λσ H R z=>by
 obtain⟨W,env,ds,env',ok,q,k⟩:=z;exact⟨W,env,ds,env',ok,q,λW' J H' st D w=>k W' J H' st D ⟨λI H2 i d s e=>⟨(w.go I H2 i d s e).1,λx S y=>by
  obtain⟨U,r⟩:=(w.go I H2 i d s e).2 x S y;cases U;exact⟨Same.refl _,r⟩⟩,w.stop⟩⟩⟩
def forK(k:DE0->Option (Fl×DE0))(q:Fl×DE0):Option (Fl×DE0):=match q.1 with | .nx=>k q.2 | .ct=>k q.2 | .bk=>↑(.nx,q.2) | .rt d=>↑(.rt d,q.2) | .rf ds=>↑(.rf ds,q.2) | .r2 ds=>↑(.r2 ds,q.2) | .xc c=>↑(.xc c,q.2) | .ra k ps=>↑(.ra k ps,q.2)
variable{H H':Hp}{N:h7}
def EndOk.loop{Dn:Ends}{W W':Addr->Prop}{fl S:Fl}{I env':DE0}{N:St->Hp->Prop}{kk:DE0->Option (Fl×DE0)}(k:EndOk X G H0 W H Dn env' fl)(st:Step W H W' H')(U:forK kk (S,I)=↑(fl,env'))(V:∀R D H2,Step W' H' R H2->Ok X.K G H0 R I D H2->kk I=↑(fl,env')->N D H2) :
  EndOk X G H0 W' H' { Dn with nx:=N,ct:=N,bk:=Dn.nx } I S:=by
 cases S with
 |nx=>exact λR D H2 s2 J=>V R D H2 s2 J U |ct=>exact λR D H2 s2 J=>V R D H2 s2 J U |bk=>cases U;exact λR D H2 s2 J=>k R D H2 (st.trans s2) J
 |_=>cases U;exact k.go rfl rfl st
inductive FInv (X:Cx) (G:Gd) (H0:Hp) (W1:Addr->Prop) (H1:Hp) (ds:la) (L:la->DE0->Option (Fl×DE0)) (r:Option (Fl×DE0)) (n m:Nat) (σ:St) (H:Hp):Prop
 |mk (W:Addr->Prop) (env:DE0) (hm:m=ds.length-n) (hn:n<=ds.length) (st:Step W1 H1 W H) (ok:Ok X.K G H0 W env σ H) (ef:L (ds.drop n) env=r):FInv X G H0 W1 H1 ds L r n m σ H
variable{g:FE}{body:List Stmt}{fi:FI}{b:Expr}{q:FT}
def zxj{g:TG}{b:D->DE0->Option DE0}{L:la->DE0->Option (Fl×DE0)}(hi:DJx X G H0 tg a fi)(f:PG X tg g)(C:DBx X G H0 body u)(E:∀ {W env env' σ H d x} {Q:St->Hp->Prop},Ok X.K G H0 W env σ H->Rep X.K H (Ow G W) d x->b d env=↑env'->(∀R,Ok X.K G H0 W env' R H->Q R H)->g x σ H Q)(F:∀e,L [] e=↑(.nx,e))(h1:∀d r e,L (d::r) e=(b d e).bind λe'=>(u e').bind λq=>forK (L r) q)(M:PassesOwn (model X.prog X.w) X.A X.env X.xe)(N:X.calm=true)(O:∀x,foldedSetIterable a X.env x=pure x):DSx X G H0 (.For tg a body [] pos) (λe=>(fi e).bind λr=>L r.1 r.2):=⟨(z6a M N hi.out f C.out O).imp λDn σ H z=>by
 obtain⟨W,env,fl,env',ok,q,k⟩:=z;obtain⟨⟨ds,S⟩,P,q⟩:=dq.mp q;refine⟨W,env,ds,S,ok,P,λW1 J H1 s i t=>⟨FInv X G H0 W1 H1 ds L ↑(fl,env'),⟨ds.length,W1,S,rfl,fg _,Step.refl,i,q⟩,λn m R H' z=>?_⟩⟩;obtain⟨W',v,T,hn,st,Y,U⟩:=z;subst T;by_cases I:n<ds.length
 ·rw[fm I,h1] at U
  obtain⟨Z,e2,U⟩:=dq.mp U;obtain⟨⟨j,V⟩,e3,U⟩:=dq.mp U;obtain⟨f,hy⟩:=t.go W' H' n ds[n] st (av I);refine .inr ⟨f,λc H2=>∃B,B<ds.length-n/\FInv X G H0 W1 H1 ds L ↑(fl,env') (n+1) B c H2,λ_ _ h=>h,λx l y=>?_⟩;obtain⟨sm,rx⟩:=hy x l y;have sn:=st.trans (Step.same sm);exact E (Y.same sm) rx e2 λaa o=>⟨W',Z,j,V,o,e3,k.loop (s.trans sn) U λW2 c H2 s2 p e=>⟨_,nn _ _ I,W2,V,rfl,I,sn.trans s2,p,e⟩⟩
 ·cases va hn (l6 I)
  rw[j8,F] at U;cases U;exact .inl ⟨t.stop W' H' st,k W' R H' (s.trans st) Y⟩⟩
variable{px:Pos}
def l3{tg:Str}(hi:DIx X G H0 (.Name tg px) a fi)(D:PG X (.Name tg px) (ng i))(I:DBx X G H0 body u)(J:PassesOwn (model X.prog X.w) X.A X.env X.xe:=by passes_own)(R:X.calm=true:=by rfl)(S:∀x,foldedSetIterable a X.env x=pure x:=by intro _;rfl):DSx X G H0 (.For (.Name tg px) a body [] pos) (sFor i fi u) :=
 zxj (b:=λd e=>↑(e.set i ↑(.sh d))) (L:=forL i u) hi.dj D I (λok r e k=>by cases e;exact k _ (ok.set r)) (λ_=>rfl) (λ_ _ _=>rfl) J R S
inductive WInv (X:Cx) (G:Gd) (H0:Hp) (W1:Addr->Prop) (H1:Hp) (L:Nat->DE0->Option (Fl×DE0)) (r:Option (Fl×DE0)) (m:Nat) (σ:St) (H:Hp):Prop
 |mk (W:Addr->Prop) (env:DE0) (st:Step W1 H1 W H) (ok:Ok X.K G H0 W env σ H) (ef:L m env=r):WInv X G H0 W1 H1 L r m σ H
variable{n:Nat}
def zp0(g:DTx X G H0 c p)(i:DBx X G H0 body u)(j:PassesOwn (model X.prog X.w) X.A X.env X.xe:=by passes_own):DSx X G H0 (.While c body [] pos) (oh p u n):=⟨(zzp j g.out i.out).imp λDn σ H z=>by
 obtain⟨W,env,fl,env',ok,q,k⟩:=z;refine⟨WInv X G H0 W H (oh p u) ↑(fl,env'),⟨n,W,env,Step.refl,ok,q⟩,λm V H' z=>?_⟩;obtain⟨W',R,st,Y,J⟩:=z;cases m with
 |zero=>cases J
 |succ m =>
   obtain⟨⟨t,D⟩,l,J⟩:=dq.mp J;refine⟨W',R,t,D,Y,l,λb H2 s2 S=>?_⟩;cases t with
   |false =>
     cases J;exact k b V H2 (st.trans s2) S
   |true =>
     obtain⟨⟨Z,I⟩,o,J⟩:=dq.mp J;exact⟨λU d=>∃f,f<m+1/\WInv X G H0 W H (oh p u) ↑(fl,env') f U d,λ_ _ h=>h,b,D,Z,I,S,o,k.loop (kk:=oh p u m) (st.trans s2) J λr U d s a e=>⟨m,fx _,r,I,(st.trans s2).trans s,a,e⟩⟩⟩
def lt20(h:n<2 ^ 20):n<sizeLine:=bq h (by rw[sizeLine_eq];decide)
@[simp] def yr(d:D)(e:DE0)(i:Nat):Option (D×DE0):=match e[i]? with
 |some ↑(.ow ds)=>if Few (ds.length+1) then ↑(.non,e.set i ↑(.ow (ds++[d]))) else none
 |_=>none
@[simp] def o7(i:Nat)(f:FE):FE:=λe=>match e[i]? with
 |some ↑(.ow _)=>(f e).bind λr=>yr r.1 r.2 i
 |_=>none
variable{p1:Pos}
def ue(h:DEx X G H0 a f)(an:Ats Nn Cn X)(V:Nn[i]?=↑x:=by rfl)(D:attributeBase (.Name x p') "append" X.env (eval (.Name x p') X.env)=eval (.Name x p') X.env:=by rfl)(J:((backTo pos (starEach [a] X.env)).all (λx=>!x.1) && (backToKw pos (keywordEach [] X.env)).all (λx=>x.1.isSome)
   && decide ([a].length+([]:List Keyword).length+(if ([]:List Keyword).isEmpty then 0 else 1)<30))=true:=by rfl)(I:(p1.endLine==pos.line)=true:=by rfl)(c:starEach [a] X.env=(false,eval a X.env)::starEach [] X.env:=by rfl) :
  DEx X G H0 (.Call (.Attribute (.Name x p') "append" p1) [a] [] pos) (o7 i f):=⟨(zw2 fu PySem.F.slot_list_append PySem.F.type_list_append zrg ((an.a V).pe) (n4 h.out qu c) D J I c rfl).imp λσ H Q j=>by
 obtain⟨W,env,d,env',ok,q,k⟩:=j;unfold o7 at q;split at q;case h_2=>cases q
 rename_i m Y;obtain⟨v,Z,l,n,rfl,o,b,_⟩:=ok.slot i _ Y;cases e1:f env with
 |none=>rw[e1] at q;cases q
 |some r =>
   obtain⟨p,R⟩:=r;rw[e1,ac] at q;unfold yr at q;split at q;case h_2=>cases q
   rename_i ds e;split at q;case isFalse=>cases q
   rename_i S;cases q;refine⟨_,Z,.inl ⟨rfl,_,.inl (.inl b)⟩,W,env,p,R,ok,e1,λW1 v1 H1 s U t=>?_⟩;obtain⟨A,g,l',vs,u,B,w,r⟩:=U.slot i _ e;rw[Z] at g;cases g;cases u;obtain⟨y,z⟩:=U.turn e Z (r.append (.cons t .nil));exact⟨l,vs,v1,rfl,rfl,w,by rw[<-r.length];exact lt20 (qz S),k W1 _ _ (s.trans z) y .non⟩⟩
@[simp] def fPop(i:Nat):FE:=λe=>match e[i]? with
 |some ↑(.ow ds)=>(ds[ds.length-1]?).map λd=>(d,e.set i ↑(.ow ds.dropLast))
 |_=>none
def z7o(an:Ats Nn Cn X)(J:Nn[i]?=↑x:=by rfl)(D:attributeBase (.Name x p') "pop" X.env (eval (.Name x p') X.env)=eval (.Name x p') X.env:=by rfl)(I:(p1.endLine==pos.line)=true:=by rfl) :
  DEx X G H0 (.Call (.Attribute (.Name x p') "pop" p1) [] [] pos) (fPop i):=⟨(z19 fu m6 mz z2a ((an.a J).pe) D I).imp λσ H Q Y=>by
 obtain⟨W,env,d,env',ok,q,k⟩:=Y;unfold fPop at q;split at q;case h_2=>cases q
 rename_i ds R;obtain⟨v,S,l,vs,rfl,e,U,r⟩:=ok.slot i _ R;cases e1:ds[ds.length-1]? with
 |none=>rw[e1] at q;cases q
 |some d' =>
   rw[e1] at q;cases q;obtain⟨u,Z,b⟩:=r.get e1;obtain⟨c,V⟩:=ok.turn R S r.dropLast;exact⟨_,S,.inl ⟨rfl,_,.inl (.inl U)⟩,l,vs,u,rfl,rfl,U,by rw[<-r.length];exact Z,k W _ _ V c (ok.rep V b)⟩⟩
def yax(k:D)(e:DE0)(i:Nat):Option (D×DE0):=match k,e[i]? with
 | .int k,↑↑(.ow ds)=>if Few ds.length then(ixN ds.length k).bind λj=>(ds[j]?).map λd=>(d,e.set i ↑(.ow (ds.eraseIdx j))) else none
 |_,_=>none
@[simp] def zxk(d k:D)(e:DE0)(i:Nat):Option (Fl×DE0):=match k,e[i]? with
 | .int k,↑↑(.ow ds)=>(ixN ds.length k).map λj=>(.nx,e.set i ↑(.ow (ds.set j d)))
 |_,_=>none
@[simp] def vh(i:Nat)(D I:FE):FS:=λe=>(I e).bind λr=>match r.2[i]? with
 |some ↑(.ow _)=>(D r.2).bind λq=>zxk r.1 q.1 q.2 i
 |_=>none
def znc(h:DEx X G H0 b g)(m:DEx X G H0 e f)(an:Ats Nn Cn X)(U:Nn[i]?=↑x:=by rfl)(n:swapsWithSole [.Subscript (.Name x p') b p1] e pos.line X.env=pure false:=by rfl)(o:swappedStores [.Subscript (.Name x p') b p1] e X.env=pure none:=by rfl)(h1:(assignEach [.Subscript (.Name x p') b p1] X.env).map (·.2)=[assign (.Subscript (.Name x p') b p1) X.env]:=by rfl)(J:∀v,assign (.Subscript (.Name x p') b p1) X.env v=(do
   let ov <-holding [v] (eval (.Name x p') X.env);let iv <-holding [v,ov] (eval b X.env)
   standAt p1
   holding [v,ov,iv] (setItem ov iv v)
   release [v,ov,iv] []):=by intro _;rfl) :
  DSx X G H0 (.Assign [.Subscript (.Name x p') b p1] e pos) (vh i g f):=⟨(zc m.out (zt1 ((an.a U).pe) h.out zn J) n o h1).imp λDn σ H p=>by
 obtain⟨W,env,fl,env',ok,q,k⟩:=p;cases e1:f env with
 |none=>simp[e1] at q |some r =>
   obtain⟨s,D⟩:=r;simp only[vh,e1,ac] at q;split at q;case h_2=>cases q
   rename_i t V;cases e2:g D with
   |none=>rw[e2] at q;cases q
   |some Y =>
     obtain⟨L,R⟩:=Y;rw[e2,ac] at q;unfold zxk at q;dsimp only at q;split at q;case h_2=>cases q
     rename_i kk ds c;cases e3:ixN ds.length kk with
     |none=>rw[e3] at q;cases q
     |some j =>
       rw[e3] at q;cases q;refine⟨W,env,s,D,ok,e1,λW1 v1 H1 u I w=>?_⟩;obtain⟨v,Z,l,y,rfl,z,A,_⟩:=I.slot i _ V;refine⟨_,Z,W1,D,_,R,I,e2,λB v2 H2 s2 S Y=>?_⟩;obtain⟨M,d,l',vs,C,N,E,r⟩:=S.slot i _ c;rw[Z] at d;cases d;cases C;obtain⟨F,K⟩:=S.turn c Z (Reps.set (I.rep s2 w) j r);exact⟨l,vs,kk,j,rfl,Y.int_,E,by rw[<-r.length];exact e3,k B _ _ ((u.trans s2).trans K) F⟩⟩
def jy(n:Nat)(ds:la):DE0:=ds.map (λd=>↑(Sl.sh d))++List.replicate (n-ds.length) none
def runD(n ar:Nat)(g:FS):la->ll:=λds=>if ds.length=ar then(match g (jy n ds) with |some (.rt d,_)=>↑d |some (.nx,_)=>some .non |_=>none) else none
def runF(n ar:Nat)(g:FS):la->Option la:=λds=>if ds.length=ar then(match g (jy n ds) with |some (.rf d,_)=>↑d |_=>none) else none
def zkm:∀ {n:Nat} {ds:la} {i:Nat} {s:Sl},(jy n ds)[i]?=↑↑s->∃d,ds[i]?=↑d/\s=.sh d:=λ{n ds i s} h=>by
 unfold jy at h;by_cases hi:i<ds.length
 ·rw[ay (by simpa using hi),bw] at h
  cases e:ds[i]? with
  |none=>rw[e] at h;cases h
  |some d=>rw[e] at h;cases h;exact⟨d,rfl,rfl⟩
 ·rw[dn (by simpa using hi),List.getElem?_replicate] at h
  split at h <;> cases h
variable{O:Addr->Prop}{ds:la}{vs:k9}{K:k6}
def vp(r:Reps K H O ds vs):Ok K (gd λa=>O a\/H a=none) H NoW (jy N.length ds) (start N vs) H:=by
 refine⟨Same.refl _,λa z=>.inr z,λl z=>z.elim,λi s e=>?_,λi j R s2 v1 v2 a D _ _ _ o _=>?_,?_⟩
 ·obtain⟨d,D,rfl⟩:=zkm e
  obtain⟨v,I,J⟩:=r.get D;refine⟨v,?_,J.mono (λ_ _ h=>h) λa us o h=>⟨⟨.inl o,λz=>z⟩,h⟩⟩;unfold start;rw[ay (by simpa using(ak.mp I).1),bw,I];rfl
 ·obtain⟨d,_,z⟩:=zkm D
  subst z;exact o.elim
 ·unfold jy start
  rw[au,au,af,af,ff,ff,r.length]
variable{f:Addr}{CX:CXT}{qual:Str}{st:Stmt}{fd:FuncData}{ps:h7}{k ar:Nat}{P:Program}{w:World}{mg:Str->ia}{base:Heap}
theorem fn_D{g:FS}(F:Fun K x qual st f fd)(S:tx N ps (gl st))(U:n=N.length)(V:ar=ps.length)(D:∀(cdv:Value) (A:Around) (outer:ka) (s:Shared) (H:Hp) (E:XK) (G:Gd) (H0:Hp),Room k (A.deeper (envOfC qual (gl st) s.heap.objs.size f cdv)) ->
   DBx (cxOf CX P w K mg base N qual (gl st) f cdv A outer s H E).nox G H0 (mh st) g):FnOk P w K mg base CX (k+1) f fd ps (dSp K (runD n ar g)):=by
 subst U V;refine F.okC S (λvs H Q E h=>?_) (λcdv A outer s H vs Q E Y h=>?_)
 ·obtain⟨O,ds,d,r,e,_⟩:=h
  rw[<-r.length];unfold runD at e;split at e
  ·assumption
  ·cases e
 ·obtain⟨O,ds,d,r,e,k⟩:=h
  refine⟨_,(D cdv A outer s H E (gd λa=>O a\/H a=none) H Y).out,?_⟩;unfold runD at e;split at e;case isFalse=>cases e
  split at e
  ·rename_i d' env' J
   cases e;exact⟨NoW,_,_,env',vp r,J,λW' R v H' st I Z=>k v H' I.stay (Z.mono (λ_ _ h=>h) λa us o h=>⟨o.1,h⟩)⟩
  ·rename_i env' J
   cases e;exact⟨NoW,_,_,env',vp r,J,λW' R H' st I=>k .non H' I.stay .non⟩
  ·cases e
theorem fn_F{g:FS}(F:Fun K x qual st f fd)(S:tx N ps (gl st))(J:n=N.length)(R:ar=ps.length)(D:∀(cdv:Value) (A:Around) (outer:ka) (s:Shared) (H:Hp) (E:XK) (G:Gd) (H0:Hp),Room k (A.deeper (envOfC qual (gl st) s.heap.objs.size f cdv)) ->
   DBx (cxOf CX P w K mg base N qual (gl st) f cdv A outer s H E).nox G H0 (mh st) g):FnOk P w K mg base CX (k+1) f fd ps (fSp K (runF n ar g)):=by
 subst J R;refine F.okC S (λvs H Q E h=>?_) (λcdv A outer s H vs Q E U h=>?_)
 ·obtain⟨O,ds,d,r,e,_⟩:=h
  rw[<-r.length];unfold runF at e;split at e
  ·assumption
  ·cases e
 ·obtain⟨O,ds,d,r,e,k⟩:=h
  refine⟨_,(D cdv A outer s H E (gd λa=>O a\/H a=none) H U).out,?_⟩;unfold runF at e;split at e;case isFalse=>cases e
  split at e
  ·rename_i d' env' V
   cases e;exact⟨NoW,_,_,env',vp r,V,λl I H' sm Y Z b=>k l I H' sm Y Z b⟩
  ·cases e
def zua(K:k6):Sp:=λvs H Q _=>∃(a:Addr) (D:i0),vs=[.ref a]/\SqL K H a (D.map V.int)/\D.length<=63/\∀H',Q (.bl true) H'
variable{m:la->ll}
theorem z92(F:FnOk P w K mg base CX k f fd ps (dSp K m))(h:∀I:i0,I.length<=63->m [.lst (I.map D.int)]=↑(.bl true)) :
  FnOk P w K mg base CX k f fd ps (zua K):=F.imp λvs H Q E J=>by
 obtain⟨a,I,e,R,S,q⟩:=J;subst e;exact⟨λ_=>True,[.lst (I.map D.int)],.bl true,.cons (R.elim (λz=>.lst trivial z (zjs I)) λz=>.klst z (zjs I)) .nil,h I S,λv H' _ r=>by rw[r.bl_];exact q H'⟩
def fr_D:∀σ H Q,tD X.K G H0 (fLst F) σ H Q->tDF X.K G H0 F σ H Q:=λσ H Q S=>by
 obtain⟨W,env,d,env',ok,q,k⟩:=S;cases e1:F env with
 |none=>simp[e1] at q |some r =>
   have q:↑(D.lst r.1,r.2)=↑(d,env'):=by simpa[fLst,e1] using q
   cases q;refine⟨W,env,_,_,ok,e1,λW1 l vs H1 R I J U V Y=>k W1 _ H1 ⟨R.keep,λa z=>R.ws a (.inl z)⟩ I (.lst ⟨I.good l (J.wl l (.inr rfl)).1,U⟩ (.inl V) (Y.mono (λ_ _ h=>h) λa us o h=>⟨⟨o.1,λz=>o.2 (.inl z)⟩,h⟩))⟩
variable{f:FE}
def f7(I:Tos Nn X)(J:DEx X G H0 e f)(D:Nn[i]?=↑x:=by rfl)(R:swapsWith e ↑(.Name x p') pos.line X.env=pure false:=by rfl):DSx X G H0 (.Assign [.Name x p'] e pos) (sSet i f):=z7n (I.t D).nd (I.t D).n J (zq6 (I.t D).nd (I.t D).n (I.t D).l J.out R (I.t D).f)
def zp1(ps:PS X (.Assign [.Name x p'] e pos) (tAsg (tDF X.K G H0 F) (ng i))):DSx X G H0 (.Assign [.Name x p'] e pos) (sSet i (fLst F)):=⟨(PS.imp ps (t':=tAsg (tD X.K G H0 (fLst F)) (ng i)) λDn σ H h=>fr_D σ H _ h).imp λDn σ H I=>by
 obtain⟨W,env,fl,env',ok,q,k⟩:=I;cases e1:fLst F env with
 |none=>simp only[sSet,e1,ml] at q;cases q
 |some r =>
   have q:↑(Fl.nx,r.2.set i ↑(Sl.sh r.1))=↑(fl,env'):=by simpa only[sSet,e1,aj] using q
   cases q;exact⟨W,env,_,_,ok,e1,λW1 v1 H1 J D p1=>k W1 _ H1 J (D.set p1)⟩⟩
variable{y:Str}{ix:ik}{sc:Scope}{py spos:Pos}{te:FE}
def zlt(an:Ats Nn Cn X)(R:Tos Nn X)(hi:DIx X G H0 (.Name x px) a fi)(S:∀cl C s₂ H₂ fp G H0,Ats (x::(subN Nn ix)) (subN Nn ix) (jd X x (subN Nn ix) sc cl C s₂ H₂ fp)->DEx (jd X x (subN Nn ix) sc cl C s₂ H₂ fp) G H0 e te)(J:rj Nn Cn ix x sc=true:=by decide +kernel)(V:X.calm=true:=by rfl)(I:Nn[i]?=↑y:=by rfl)(U:swapsWith (.ListComp e [⟨.Name x px,a,[],0⟩] sc pos) ↑(.Name y py) spos.line X.env=pure true:=by rfl)(Y:∀v,foldedSetIterable a X.env v=pure v:=by intro _;rfl) :
  PS X (.Assign [.Name y py] (.ListComp e [⟨.Name x px,a,[],0⟩] sc pos) spos) (tAsg (tDF X.K G H0 (ig fi ix fYes te)) (ng i)) :=
 (zpt (wx an J) (λ_ _ _ _ _ _ _ _ _=>V) (R.t I).nd (R.t I).n (R.t I).l hi.out (λcl C s₂ H₂ fp _=>yt (X:=X) rfl) (λcl C s₂ H₂ fp _=>el_x (X:=X) rfl (λG H0=>S cl C s₂ H₂ fp G H0 (uv J))) U (R.t I).f Y).imp λD σ H h=>zt8 σ H _ h
variable{tt:FT}{cd:Expr}
def znz{Cm:Cx->Prop}(Z:∀cl C s₂ H₂ fp pins σ,Inv X pins σ H₂ s₂->(∀b∈fp,FpOk X pins H₂ b)->Cm (jd X x (subN Nn ix) sc cl C s₂ H₂ fp))(an:Ats Nn Cn X)(R:Tos Nn X)(hi:DIC Cm X G H0 (.Name x px) a fi)(S:∀cl C s₂ H₂ fp G H0,Cm (jd X x (subN Nn ix) sc cl C s₂ H₂ fp)->Ats (x::(subN Nn ix)) (subN Nn ix) (jd X x (subN Nn ix) sc cl C s₂ H₂ fp)->DTx (jd X x (subN Nn ix) sc cl C s₂ H₂ fp) G H0 cd tt)(U:∀cl C s₂ H₂ fp G H0,Cm (jd X x (subN Nn ix) sc cl C s₂ H₂ fp)->Ats (x::(subN Nn ix)) (subN Nn ix) (jd X x (subN Nn ix) sc cl C s₂ H₂ fp)->DEx (jd X x (subN Nn ix) sc cl C s₂ H₂ fp) G H0 e te)(J:rj Nn Cn ix x sc=true:=by decide +kernel)(I:Nn[i]?=↑y:=by rfl)(V:swapsWith (.ListComp e [⟨.Name x px,a,[cd],0⟩] sc pos) ↑(.Name y py) spos.line X.env=pure true:=by rfl)(c:∀v,foldedSetIterable a X.env v=pure v:=by intro _;rfl) :
  PS X (.Assign [.Name y py] (.ListComp e [⟨.Name x px,a,[cd],0⟩] sc pos) spos) (tAsg (tDF X.K G H0 (ig fi ix tt te)) (ng i)) :=
 (zpt (wx an J) Z (R.t I).nd (R.t I).n (R.t I).l hi.out (λcl C s₂ H₂ fp Y=>if_x (X:=X) rfl (λG H0=>S cl C s₂ H₂ fp G H0 Y (uv J))) (λcl C s₂ H₂ fp Y=>el_x (X:=X) rfl (λG H0=>U cl C s₂ H₂ fp G H0 Y (uv J))) V (R.t I).f c).imp λD σ H h=>zt8 σ H _ h
def zpa(an:Ats Nn Cn X)(U:Tos Nn X)(hi:DIx X G H0 (.Name x px) a fi)(D:∀cl C s₂ H₂ fp G H0,Ats (x::(subN Nn ix)) (subN Nn ix) (jd X x (subN Nn ix) sc cl C s₂ H₂ fp)->DTx (jd X x (subN Nn ix) sc cl C s₂ H₂ fp) G H0 cd tt)(I:∀cl C s₂ H₂ fp G H0,Ats (x::(subN Nn ix)) (subN Nn ix) (jd X x (subN Nn ix) sc cl C s₂ H₂ fp)->DEx (jd X x (subN Nn ix) sc cl C s₂ H₂ fp) G H0 e te)(J:rj Nn Cn ix x sc=true:=by decide +kernel)(V:X.calm=true:=by rfl)(R:Nn[i]?=↑y:=by rfl)(S:swapsWith (.ListComp e [⟨.Name x px,a,[cd],0⟩] sc pos) ↑(.Name y py) spos.line X.env=pure true:=by rfl)(Y:∀v,foldedSetIterable a X.env v=pure v:=by intro _;rfl) :
  PS X (.Assign [.Name y py] (.ListComp e [⟨.Name x px,a,[cd],0⟩] sc pos) spos) (tAsg (tDF X.K G H0 (ig fi ix tt te)) (ng i)) :=
 znz (λ_ _ _ _ _ _ _ _ _=>V) an U hi (λcl C s₂ H₂ fp G H0 _=>D cl C s₂ H₂ fp G H0) (λcl C s₂ H₂ fp G H0 _=>I cl C s₂ H₂ fp G H0) J R S Y
abbrev FA2:=DE0->Option (List la×DE0)
def tDF2(K:k6)(G:Gd)(H0:Hp)(f:FA2):TE:=λσ H Q=>DP K G H0 f (λW env dss env' =>
 ∀W' l H',Step W H W' H'->Ok K G H0 W' env' σ H'->SlOk K G W' H' (.o2 dss) (.ref l) ->
  (∀(j:Nat) (s:Sl) (v:V) (a:Addr),env'[j]?=↑↑s->σ[j]?=↑↑v->Owns H' (.o2 dss) (.ref l) a->¬Owns H' s v a)->Q (.ref l) H') σ H
structure DF2x (X:Cx) (G:Gd) (H0:Hp) (e:Expr) (f:FA2):Prop where
 out:PE X e (tDF2 X.K G H0 f)
@[simp] def yq(i:Nat)(f:FA2):FS:=λe=>(f e).map λr=>(.nx,r.2.set i ↑(.o2 r.1))
variable{f2:FA2}
def zxl(ps:PS X (.Assign [.Name x p'] e pos) (tAsg (tDF2 X.K G H0 f2) (ng i))):DSx X G H0 (.Assign [.Name x p'] e pos) (yq i f2):=⟨ps.imp λDn σ H I=>by
 obtain⟨W,env,fl,env',ok,q,k⟩:=I;cases e1:f2 env with
 |none=>simp[e1] at q |some r =>
   have q:↑(Fl.nx,r.2.set i ↑(Sl.o2 r.1))=↑(fl,env'):=by simpa[yq,e1] using q
   cases q;exact⟨W,env,_,_,ok,e1,λW1 l H1 J D h1 R=>k W1 _ H1 J (D.put h1 R)⟩⟩
def zro(te:FA)(base:DE0):la->Option (List la)
 | []=>↑[] |d::r=>(te (↑(.sh d)::base)).bind λv=>(zro te base r).map (v.1::·)
def wq(fi:FI)(ix:ik)(te:FA):FA2:=λe=>(fi e).bind λr=>if Few r.1.length then(zro te (ix.map λj=>capt (r.2.getD j none)) r.1).map λds=>(ds,r.2) else none
def tDxF(K:k6)(f:FA):TE:=λσ H Q=>∃G H0,tDF K G H0 f σ H Q
variable{te:FA}
def z7p{X':Cx}(D:X'.K=X.K)(h:∀G H0,DFx X' G H0 e te):PE X' e (tDxF X.K te):=λpins s σ H Q I ⟨G,H0,q⟩=>(h G H0).out pins s σ H Q I (by rw[D];exact q)
inductive z7q (X:Cx) (G:Gd) (H0:Hp) (env:DE0) (σ:St) (W1:Addr->Prop) (H1:Hp) (ds:la) (d:List la) (f:la->Option (List la)) (i m:Nat) (H':Hp) (ys:k9):Prop
 |mk (Wi:Addr->Prop) (rest done:List la) (ls:ic) (hm:m=ds.length-i) (hi:i<=ds.length) (sm:Same H1 H') (st:Step W1 H1 Wi H') (ok:Ok X.K G H0 Wi env σ H') (hy:ys=ls.map V.ref) (inn:Inn X.K G Wi H' done ls) (nd:ls.Nodup) (fr:∀a∈ls,H1 a=none) (hd:done.length<=i) (ec:f (ds.drop i)=↑rest) (hz:d=done++rest):z7q X G H0 env σ W1 H1 ds d f i m H' ys
theorem zxm:∀σ H Q,tDF2 X.K G H0 (wq fi ix te) σ H Q->yv (tDI X.K G H0 fi) ix (tDxT X.K fYes) (tDxF X.K te) σ H Q:=λσ H Q z=>by
 obtain⟨W,env,d,env',ok,q,k⟩:=z;obtain⟨⟨ds,Z⟩,e1,q⟩:=dq.mp q;by_cases O:Few ds.length;case neg=>cases (if_neg O).symm.trans q
 obtain⟨al,e2,q⟩:=im.mp ((if_pos O).symm.trans q);cases q;refine⟨W,env,ds,_,ok,e1,λW1 J H1 s1 g wk=>⟨z7q X G H0 Z σ W1 H1 ds d (zro te (ix.map λj=>capt (Z.getD j none))),⟨ds.length,W1,d,[],[],rfl,fg _,Same.refl _,Step.refl,g,rfl,⟨rfl,λj ds a e=>by cases e⟩,List.nodup_nil,(λa h=>by cases h),b7 _,e2,rfl⟩,λi m H' ys z=>?_⟩⟩;obtain⟨A,rest,D,ls,hm,hi,sm,st,S,hy,U,nd,fr,hd,u,P⟩:=z;subst hm hy;have I:ls.length=D.length:=U.1;have B:∀a∈ls,∃vs,H' a=↑(.lst vs):=λa C=>by
  obtain⟨j,T,e⟩:=jg C;obtain⟨_,vs,h,_⟩:=U.2 j (D[j]'(I ▸ T)) a (av _) (e ▸ av T);exact⟨vs,h⟩
 by_cases R:i<ds.length
 ·rw[fm R] at u
  obtain⟨⟨dv,E⟩,e4,u⟩:=dq.mp u;obtain⟨n,e5,e6⟩:=im.mp u;obtain⟨hg,hy⟩:=wk.go A H' i ds[i] st (av R);refine .inr ⟨hg,λx Y y=>?_⟩;obtain⟨e,rx⟩:=hy x Y y;subst e;refine⟨_,_,NoW,_,true,_,zpx (ix:=ix) S rx,rfl,λW2 H2 s2 aa=>?_⟩;refine⟨_,_,W2,_,dv,E,aa,e4,λW3 l vs H3 s3 ab F nW L rp=>⟨?_,ds.length-(i+1),nn _ _ R,?_⟩⟩
  ·rw[af,I];exact bq (ky hd (bq R O)) znb
  ·have p:Same Y H3:=ab.stay
   have c:Y l=none:=(F.wl l (.inr rfl)).1;obtain⟨q1,q2,q3,q4,q5⟩:=S.fresh p c L (rp.mono (O':=λa=>(Ow G A a\/Y a=none)/\a≠l) (λ_ _ h=>h) λa us o h=>⟨⟨o.1,λz=>o.2 (.inr z)⟩,h⟩);have nl:l∉ls:=λz=>by obtain⟨us,h⟩:=B l z;rw[c] at h;cases h
   refine⟨addW A l,n,D++[dv],ls++[l],rfl,R,sm.trans p,st.trans q5,q3,by simp,⟨by simp[I],λj es a ea f=>?_⟩,?_,λa C=>?_,by rw[au,i5];lia,e5,by rw[P,<-e6,d7];rfl⟩
   ·by_cases T:j<D.length
    ·rw[ay T] at ea
     rw[ay ⋯] at f;obtain⟨w,us,h,r⟩:=U.2 j es a ea f;exact⟨.inl w,us,p _ _ h,S.reps q5 r⟩
    ·rw[dn ⋯] at ea
     rw[dn ⋯,I] at f;have P:j-D.length=0:=by
      have:=(ak.mp ea).1;simp at this;lia
     rw[P] at ea f;simp[Option.some.injEq] at ea f;subst ea f;exact⟨.inr rfl,vs,L,q4⟩
   ·rw[List.nodup_append]
    exact⟨nd,by simp,λa C b hb=>by simp only[de] at hb;subst hb;intro z;subst z;exact nl C⟩
   ·rcases dg.mp C with z |z
    ·exact fr a z
    ·rw[de.mp z];exact sm.free c
 ·cases va hi (l6 R)
  rw[j8] at u;cases u;refine .inl ⟨wk.stop A H' st,by rw[af,I];exact cr hd (cr O znb),λl c=>?_⟩;have t:Same H' (upd H' l (.lst (ls.map V.ref))):=om c;obtain⟨q1,q2,q3,q4⟩:=S.fresh0 (vs:=ls.map V.ref) t c kx;have nl:l∉ls:=λz=>by obtain⟨us,h⟩:=B l z;rw[c] at h;cases h
  have ag:Same H1 (upd H' l (.lst (ls.map V.ref))):=sm.trans t;rw[P,di] at k;refine k (addW A l) l _ ((s1.trans st).trans q4) q3 ⟨l,ls,rfl,.inr rfl,kx,b9.mpr ⟨nl,nd⟩,U.1,λj es a ea f=>?_⟩ λj s v a ej ev o1 o2=>?_
  ·obtain⟨w,us,h,r⟩:=U.2 j es a ea f
   exact⟨.inl w,us,t _ _ h,S.reps q4 r⟩
  ·obtain⟨v',M,hs⟩:=g.slot j s ej
   rw[ev] at M;cases M;have ai:Owns H1 s v a:=hs.back (λl' _ _ vs q=>ag _ _ q) o2;have wa:W1 a:=hs.owns ai;have N:H1 a≠none:=λz=>by obtain⟨_,us,q⟩:=g.wl a wa;rw[z] at q;cases q
   rcases o1 with o1 | ⟨l',ls',z,q,hb⟩
   ·cases o1;exact N (sm.free c)
   ·cases z
    rw[kx] at q;have:=xf (by simpa using q);subst this;exact N (fr a hb)
def z0a(an:Ats Nn Cn X)(R:Tos Nn X)(hi:DIx X G H0 (.Name x px) a fi)(S:∀cl C s₂ H₂ fp G H0,Ats (x::(subN Nn ix)) (subN Nn ix) (jd X x (subN Nn ix) sc cl C s₂ H₂ fp)->DFx (jd X x (subN Nn ix) sc cl C s₂ H₂ fp) G H0 e te)(J:rj Nn Cn ix x sc=true:=by decide +kernel)(V:X.calm=true:=by rfl)(I:Nn[i]?=↑y:=by rfl)(U:swapsWith (.ListComp e [⟨.Name x px,a,[],0⟩] sc pos) ↑(.Name y py) spos.line X.env=pure true:=by rfl)(Y:∀v,foldedSetIterable a X.env v=pure v:=by intro _;rfl) :
  PS X (.Assign [.Name y py] (.ListComp e [⟨.Name x px,a,[],0⟩] sc pos) spos) (tAsg (tDF2 X.K G H0 (wq fi ix te)) (ng i)) :=
 (zpt (wx an J) (λ_ _ _ _ _ _ _ _ _=>V) (R.t I).nd (R.t I).n (R.t I).l hi.out (λcl C s₂ H₂ fp _=>yt (X:=X) rfl) (λcl C s₂ H₂ fp _=>z7p (X:=X) rfl (λG H0=>S cl C s₂ H₂ fp G H0 (uv J))) U (R.t I).f Y).imp λD σ H h=>zxm σ H _ h
def z0b(an:Ats Nn Cn X)(hi:DIx X G H0 (.Name x px) a fi)(I:∀cl C s₂ H₂ fp G H0,Ats (x::(subN Nn ix)) (subN Nn ix) (jd X x (subN Nn ix) sc cl C s₂ H₂ fp)->DFx (jd X x (subN Nn ix) sc cl C s₂ H₂ fp) G H0 e te)(D:rj Nn Cn ix x sc=true:=by decide +kernel)(J:X.calm=true:=by rfl)(R:∀v,foldedSetIterable a X.env v=pure v:=by intro _;rfl) :
  DF2x X G H0 (.ListComp e [⟨.Name x px,a,[],0⟩] sc pos) (wq fi ix te) :=
 ⟨(zps (wx an D) (λ_ _ _ _ _ _ _ _ _=>J) hi.out (λcl C s₂ H₂ fp _=>yt (X:=X) rfl) (λcl C s₂ H₂ fp _=>z7p (X:=X) rfl (λG H0=>I cl C s₂ H₂ fp G H0 (uv D))) R).imp zxm⟩
variable{env:DE0}{σ:St}
def z32{W:Addr->Prop}(ok:Ok X.K G H0 W env σ H):Ok X.K (gd λa=>Ow G W a\/H a=none) H NoW (env.map capt) σ H:=by
 have R:∀ {d:D} {v:V},Rep X.K H (Ow G W) d v->Rep X.K H (Ow (gd λa=>Ow G W a\/H a=none) NoW) d v:=λr=>r.mono (λ_ _ h=>h) λa us o h=>⟨⟨.inl o,λz=>z⟩,h⟩;have I:∀(i:Nat) (s:Sl),(env.map capt)[i]?=↑↑s->∃d',s=.sh d'/\env[i]?=↑↑(.sh d'):=λi s z=>by
  rw[bw] at z;cases q:env[i]? with
  |none=>rw[q] at z;cases z
  |some o =>
    rw[q] at z;have z:capt o=↑s:=bz z;unfold capt at z;split at z
    ·cases z;exact⟨_,rfl,rfl⟩
    ·cases z
 refine⟨Same.refl _,λa z=>.inr z,λl z=>z.elim,λi s e=>?_,λi j S s2 v1 v2 a J _ _ _ o _=>by obtain⟨d',rfl,_⟩:=I i S J;exact o.elim,by rw[af];exact ok.len⟩;obtain⟨d',rfl,e'⟩:=I i s e;obtain⟨v,J,r⟩:=ok.slot i _ e';exact⟨v,J,R r⟩
variable{α:Type}{j:Nat}
def z7r{xs:List α}{k:Int}{y:α}(h:ixN xs.length k=↑j)(h2:xs[j]?=↑y):atI xs k=↑y:=by
 unfold atI;rw[h];exact h2
variable{v:V}{dss:List la}
def zub{W:Addr->Prop}{k:Int}(ok:Ok X.K G H0 W env σ H)(R:env[i]?=↑↑(.o2 dss))(S:σ[i]?=↑↑v)(U:ixN dss.length k=↑j)(I:dss[j]?=↑ds) :
  ∃(l:Addr) (ls:ic) (a:Addr) (vs:k9),v=.ref l/\H l=↑(.lst (ls.map V.ref))/\ls[j]?=↑a/\atI (ls.map V.ref) k=↑(.ref a)/\H a=↑(.lst vs)/\Reps X.K H (Ow G W) ds vs:=by
 obtain⟨Z,J,l,ls,rfl,b,Y,c,hi⟩:=ok.slot i _ R;rw[S] at J;cases J;have D:j<ls.length:=by rw[hi.1];exact(ak.mp I).1
 obtain⟨_,vs,h,r⟩:=hi.2 j ds ls[j] I (by simp[D]);exact⟨l,ls,ls[j],vs,rfl,Y,by simp[D],z7r (j:=j) (by rw[af,hi.1];exact U) (by simp[D]),h,r⟩
@[simp] def app2(k d:D)(e:DE0)(i:Nat):Option (D×DE0):=match k,e[i]? with
 | .int k,↑↑(.o2 dss)=>(ixN dss.length k).bind λj=>(dss[j]?).bind λds=>if Few (ds.length+1) then ↑(.non,e.set i ↑(.o2 (dss.set j (ds++[d])))) else none
 |_,_=>none
@[simp] def z9d(i:Nat)(g f:FE):FE:=λe=>match e[i]? with
 |some ↑(.o2 _)=>(g e).bind λr=>(f (r.2.map capt)).bind λq=>app2 r.1 q.1 r.2 i
 |_=>none
@[simp] def pop2(k m:D)(e:DE0)(i:Nat):Option (D×DE0):=match k,m,e[i]? with
 | .int k,.int m,↑↑(.o2 dss)=>(ixN dss.length k).bind λj=>(dss[j]?).bind λds=>if Few ds.length then(ixN ds.length m).bind λn=>(ds[n]?).map λd=>(d,e.set i ↑(.o2 (dss.set j (ds.eraseIdx n)))) else none
 |_,_,_=>none
@[simp] def zsx(i:Nat)(g f:FE):FE:=λe=>match e[i]? with
 |some ↑(.o2 _)=>(g e).bind λr=>(f (r.2.map capt)).bind λq=>pop2 r.1 q.1 r.2 i
 |_=>none
variable{p2:Pos}
theorem zxn(C:DEx X G H0 b g)(E:∀G H0,DEx X G H0 a f)(an:Ats Nn Cn X)(c:vn b:=by intro _ _;rfl)(e:Nn[i]?=↑x:=by rfl)(S:attributeBase (.Subscript (.Name x p') b p2) "pop" X.env (eval (.Subscript (.Name x p') b p2) X.env)=eval (.Subscript (.Name x p') b p2) X.env:=by rfl)(V:((backTo pos (starEach [a] X.env)).all (λx=>!x.1) && (backToKw pos (keywordEach [] X.env)).all (λx=>x.1.isSome)
   && decide ([a].length+([]:List Keyword).length+(if ([]:List Keyword).isEmpty then 0 else 1)<30))=true:=by rfl)(U:(p1.endLine==pos.line)=true:=by rfl)(t:starEach [a] X.env=(false,eval a X.env)::starEach [] X.env:=by rfl) :
  DEx X G H0 (.Call (.Attribute (.Subscript (.Name x p') b p2) "pop" p1) [a] [] pos) (zsx i g f) :=
 ⟨(zw2 fu m6 mz zzx (xq zw1 ((an.a e).pe) C.out c) (n4 (el_x (X:=X) rfl E) qu t) S V U t rfl).imp λσ H Q F=>by
  obtain⟨W,env,d,env',ok,q,k⟩:=F;unfold zsx at q;split at q;case h_2=>cases q
  rename_i K h;obtain⟨v,m,_⟩:=ok.slot i _ h;cases e1:g env with
  |none=>rw[e1] at q;cases q
  |some r =>
    obtain⟨dk,J⟩:=r;rw[e1,ac] at q;cases e2:f (J.map capt) with
    |none=>rw[e2] at q;cases q
    |some o =>
      obtain⟨da,Y⟩:=o;rw[e2,ac] at q;unfold pop2 at q;dsimp only at q;split at q;case h_2=>cases q
      rename_i kk mm dss w;cases e3:ixN dss.length kk with
      |none=>rw[e3] at q;cases q
      |some j =>
        rw[e3,ac] at q;cases e4:dss[j]? with
        |none=>rw[e4] at q;cases q
        |some ds =>
          rw[e4,ac] at q;split at q;case isFalse=>cases q
          rename_i Z;cases e5:ixN ds.length mm with
          |none=>rw[e5] at q;cases q
          |some n =>
            rw[e5,ac] at q;cases e6:ds[n]? with
            |none=>rw[e6] at q;cases q
            |some d' =>
              rw[e6] at q;cases q;obtain⟨L,z2,z3,z4⟩:=zpp e5;refine⟨v,m,W,env,_,J,ok,e1,λW1 v1 H1 M I N=>?_⟩;obtain⟨l,ls,a,vs,rfl,y,p,s,z,r⟩:=zub I w m e3 e4;refine .inl ⟨l,_,kk,.ref a,rfl,N.int_,.inl (.inl y),s,.inl ⟨rfl,vs,.inl (.inl z)⟩,?_⟩;refine⟨_,_,NoW,_,_,Y,z32 I,e2,λW2 v2 H2 s2 D o=>?_⟩;have R:=I.same D.stay;have A:=I.reps (Step.same D.stay) r;obtain⟨u,O,P⟩:=A.get e6;obtain⟨T,B⟩:=R.turn2 w m (D.stay _ _ y) e4 p (A.eraseIdx n);have aa:ds.length<=2 ^ 20:=Z;exact⟨a,vs,mm,n,u,rfl,by rw[o.int_],D.stay _ _ z,by lia,by lia,by rw[<-r.length];exact L,O,k W1 _ _ ((M.trans (Step.same D.stay)).trans B) T (R.rep B P)⟩⟩
def zeg{env:Env}:∀ {names:List (Str×NameKind)} {x:Str},names.lookup x=some .globalImplicit ->
  (names.map λ(n,k)=>if (k==NameKind.free && env.scope.kind==.function && env.kindOf n==some .cell) then(n,NameKind.cell) else(n,k)).lookup x=some .globalImplicit
 | (n,k)::r,x,h=>by
   have D:=@zeg env r x;show List.lookup x ((if (k==NameKind.free && env.scope.kind==.function && env.kindOf n==some .cell)=true then(n,NameKind.cell) else(n,k))::_)=_;cases hx:x==n with
   |true =>
     simp only[db,hx] at h;cases h;simp[db,hx]
   |false =>
     simp only[db,hx] at h;by_cases I:(k==NameKind.free && env.scope.kind==.function && env.kindOf n==some .cell)=true
     ·rw[if_pos I];simp only[db,hx];exact D h
     ·rw[if_neg I];simp only[db,hx];exact D h
variable{s:Shared}{N':h7}{cl:List (Str×Addr)}{C:Addr}{fp:ic}
def gl_c(h:sc.names.lookup x=some .globalImplicit):Gl (jd X y N' sc cl C s H fp) x:=zeg h
def z7s:Ty "int" "int":=⟨by decide +kernel,by decide +kernel,by decide +kernel,by decide +kernel⟩
def z33:Ty "bool" "bool":=⟨by decide +kernel,by decide +kernel,by decide +kernel,by decide +kernel⟩
def zxo:Ty "str" "str":=⟨by decide +kernel,by decide +kernel,by decide +kernel,by decide +kernel⟩
def zp2:Ty "list" "list":=⟨by decide +kernel,by decide +kernel,by decide +kernel,by decide +kernel⟩
def zp3:Ty "tuple" "tuple":=⟨by decide +kernel,by decide +kernel,by decide +kernel,by decide +kernel⟩
def z34(l:List α)(k:Nat)(y:α):(l.toArray.extract 0 k).push y++l.toArray.extract k=(l.take k++y::l.drop k).toArray:=by
 simp;exact io (by simp)
def z35:V->k9->Hp->VK->Prop:=λx vs H Q=>∃(l:Addr) (xs:k9) (i:Int) (y:V),x=.ref l/\vs=[.int i,y]/\H l=↑(.lst xs)/\0<=i/\i<=xs.length/\i<2 ^ 62/\xs.length<sizeLine/\Q .non (upd H l (.lst (xs.take i.toNat++y::xs.drop i.toNat)))
def Vals.ins{xs:k9}{its:h8}{y:V}{u:Value}(r:Vals xs its)(D:Vals [y] [u])(k:Nat):Vals (xs.take k++y::xs.drop k) (its.take k++u::its.drop k):=by
 have:=(r.take k).append (D.append (r.drop k));simpa using this
theorem zxp:MtM X "list.insert" z35:=by
 intro pins s σ H x vs v us Q I U V h;obtain⟨l,xs,i,y,rfl,rfl,R,Z,h1,h2,a,q⟩:=h;cases U;obtain⟨b,S,rfl,D,J⟩:=V.two;obtain⟨t,rfl⟩:=D;obtain⟨z,its,n,r,c,e⟩:=I.lstM R;refine call_meets F.slot_list_insert ⟨_,e,rfl⟩ F.entry_list_insert (F.args_list_insert_3 _ _ _) (PySem.AutoSeq1.list_insert_list_int_val_1 l its.toArray n i t S (by rw[fitsIndex_both (k:=i) ⋯ ⋯];decide) (by rw[bn];lia)) ⟨e,?_⟩;refine⟨.non,_,I.lset (its':=its.take i.toNat++S::its.drop i.toNat) R e ?_ (Vals.ins r (.cons J .nil) _) ?_,rfl,q⟩
 ·have Y:(if i<0 then(i+(its.toArray.size:Int)).toNat else min i.toNat its.toArray.size)=i.toNat:=by
   rw[if_neg ⋯,bn]
   lia
  rw[Y,z34]
 ·rw[au,am,du,fb]
  lia
def z36(k d:D)(e:DE0)(i:Nat):Option (D×DE0):=match k,e[i]? with
 | .int k,↑↑(.ow ds)=>if 0<=k/\k<=ds.length/\Few (ds.length+1) then ↑(.non,e.set i ↑(.ow (ds.take k.toNat++d::ds.drop k.toNat))) else none
 |_,_=>none
def zp4(i:Nat)(f g:FE):FE:=λe=>match e[i]? with
 |some ↑(.ow _)=>(ax f (ax g fNil) e).bind λr=>match r.1 with | [k,d]=>z36 k d r.2 i |_=>none
 |_=>none
theorem zxq(p:DEx X G H0 a f)(s:DEx X G H0 b g)(an:Ats Nn Cn X)(V:Nn[i]?=↑x:=by rfl)(I:attributeBase (.Name x p') "insert" X.env (eval (.Name x p') X.env)=eval (.Name x p') X.env:=by rfl)(R:((backTo pos (starEach [a,b] X.env)).all (λx=>!x.1) && (backToKw pos (keywordEach [] X.env)).all (λx=>x.1.isSome)
   && decide ([a,b].length+([]:List Keyword).length+(if ([]:List Keyword).isEmpty then 0 else 1)<30))=true:=by rfl)(J:(p1.endLine==pos.line)=true:=by rfl)(j:starEach [a,b] X.env=(false,eval a X.env)::starEach [b] X.env:=by rfl)(Y:starEach [b] X.env=(false,eval b X.env)::starEach [] X.env:=by rfl)(Z:(backTo pos (starEach [b] X.env)).any (·.1)=false:=by rfl) :
  DEx X G H0 (.Call (.Attribute (.Name x p') "insert" p1) [a,b] [] pos) (zp4 i f g):=⟨(zw2 fu PySem.F.slot_list_insert PySem.F.type_list_insert zxp ((an.a V).pe) (bh p (bh s ci Y) j).out I R J j Z).imp λσ H Q t=>by
 obtain⟨W,env,d,env',ok,q,k⟩:=t;unfold zp4 at q;split at q;case h_2=>cases q
 rename_i u c;obtain⟨v,e,l,w,rfl,y,h,_⟩:=ok.slot i _ c;cases e1:ax f (ax g fNil) env with
 |none=>rw[e1] at q;cases q
 |some r =>
   obtain⟨z,S⟩:=r;rw[e1,ac] at q;dsimp only at q;split at q;case h_2=>cases q
   unfold z36 at q;split at q;case h_2=>cases q
   rename_i kk ds m;split at q;case isFalse=>cases q
   rename_i A;obtain⟨B,C,n⟩:=A;cases q;refine⟨_,e,.inl ⟨rfl,_,.inl (.inl h)⟩,W,env,_,S,ok,e1,λW1 E H1 K U L=>?_⟩;obtain⟨v',o,l',vs,M,hW,N,r⟩:=U.slot i _ m;rw[e] at o;cases o;cases M;cases L with
   |cons q1 r2 =>
   cases r2 with
   |cons q2 r3 =>
   cases r3;cases q1;obtain⟨O,P⟩:=U.turn m e ((r.take kk.toNat).append (.cons q2 (r.drop kk.toNat)));have D:=r.length;have T:ds.length<sizeLine:=lt20 (qz n);have c4:ds.length+1<=2 ^ 20:=n;exact⟨l,vs,kk,_,rfl,rfl,N,B,by rw[<-D];exact C,by lia,by rw[<-D];exact T,k W1 _ _ (K.trans P) O .non⟩⟩
def qt:ik->la->DE0->DE0
 |i::ix,d::ds,e=>qt ix ds (e.set i ↑(.sh d))
 |_,_,e=>e
def gIs:ik->TGs
 | []=>gNil |i::ix=>z54 (ng i) (gIs ix)
def sUnp(ix:ik)(f:FE):FS:=λe=>(f e).bind λr=>match r.1 with
 | .tup ds=>if ds.length=ix.length then ↑(.nx,qt ix ds r.2) else none
 |_=>none
def unp(ix:ik)(d:D)(e:DE0):Option DE0:=match d with
 | .tup ds=>if ds.length=ix.length then ↑(qt ix ds e) else none
 |_=>none
def forU(ix:ik)(g:FS):la->DE0->Option (Fl×DE0)
 | [],e=>↑(.nx,e) |d::r,e=>(unp ix d e).bind λI=>(g I).bind λq=>match q.1 with | .nx=>forU ix g r q.2 | .ct=>forU ix g r q.2 | .bk=>↑(.nx,q.2) | .rt d=>↑(.rt d,q.2) | .rf ds=>↑(.rf ds,q.2) | .r2 ds=>↑(.r2 ds,q.2) | .xc c=>↑(.xc c,q.2) | .ra k ps=>↑(.ra k ps,q.2)
@[simp] def qm(ix:ik)(fi:FI)(g:FS):FS:=λe=>(fi e).bind λr=>forU ix g r.1 r.2
def zxr{K:k6}{W:Addr->Prop}{H:Hp}:∀(ix:ik) (ds:la) (vs:k9) (env:DE0) (σ:St) (Q:St->Hp->Prop),Ok K G H0 W env σ H->Reps K H (Ow G W) ds vs->ds.length=ix.length ->
  (∀I,Ok K G H0 W (qt ix ds env) I H->Q I H)->gIs ix vs σ H Q
 | [],ds,vs,env,σ,Q,ok,r,hl,k=>by
   cases r with
   |nil=>exact⟨rfl,k σ ok⟩ |cons _ _=>cases hl
 |i::ix,ds,vs,env,σ,Q,ok,r,hl,k=>by
   cases r with
   |nil=>cases hl
   | @cons d v ds vs r0 r =>
     refine⟨v,vs,rfl,?_⟩;exact zxr ix ds vs _ _ Q (ok.set r0) r (Nat.succ.inj hl) k
def um  : PGs X [] (gIs []):=z29
variable{es:kb}
def lg(I:Tos Nn X)(h:PGs X es (gIs ix))(D:Nn[i]?=↑x:=by rfl)(J:(assignEach (.Name x pos::es) X.env).map (·.2)=assign (.Name x pos) X.env::(assignEach es X.env).map (·.2):=by rfl):PGs X (.Name x pos::es) (gIs (i::ix)):=zzo (zwk (I.t D).nd (I.t D).n (I.t D).l (I.t D).f) h J
def z7t(V:DEx X G H0 a f)(h:PGs X es (gIs ix))(Y:X.calm=true:=by rfl)(Z:(assignEach es X.env).length=ix.length:=by rfl)(D:(assignEach es X.env).findIdx? (·.1)=none:=by rfl)(b:swapsWithSole [.Tuple es k p1] a pos.line X.env=pure false:=by rfl)(c:swappedStores [.Tuple es k p1] a X.env=pure none:=by rfl)(h1:(assignEach [.Tuple es k p1] X.env).map (·.2)=[assign (.Tuple es k p1) X.env]:=by rfl) :
  DSx X G H0 (.Assign [.Tuple es k p1] a pos) (sUnp ix f):=⟨(zc V.out (z12 (n:=ix.length) Y h Z D) b c h1).imp λDn σ H e=>by
 obtain⟨W,env,fl,env',ok,q,kk⟩:=e;unfold sUnp at q;cases e1:f env with
 |none=>rw[e1] at q;cases q
 |some r =>
   obtain⟨d,S⟩:=r;rw[e1,ac] at q;dsimp only at q;split at q;case h_2=>cases q
   rename_i ds;split at q;case isFalse=>cases q
   rename_i U;cases q;refine⟨W,env,_,_,ok,e1,λW1 v1 H1 g I i=>?_⟩;cases i with
   | @tup a vs _ ht rr =>
     exact⟨a,vs,rfl,.inl (.inl ht),by rw[<-rr.length];exact U,zxr ix ds vs _ σ _ I rr U λJ R=>kk W1 J H1 g R⟩⟩
def zp5(hi:DJx X G H0 (.Tuple es k p1) a fi)(h:PGs X es (gIs ix))(R:DBx X G H0 body u)(S:PassesOwn (model X.prog X.w) X.A X.env X.xe:=by passes_own)(I:X.calm=true:=by rfl)(U:(assignEach es X.env).length=ix.length:=by rfl)(D:(assignEach es X.env).findIdx? (·.1)=none:=by rfl)(V:∀x,foldedSetIterable a X.env x=pure x:=by intro _;rfl):DSx X G H0 (.For (.Tuple es k p1) a body [] pos) (qm ix fi u) :=
 zxj (b:=unp ix) (L:=forU ix u) hi (z12 (n:=ix.length) I h U D) R (λ{W env env' σ H d x Q} ok r e k=>by
  unfold unp at e;split at e;case h_2=>cases e
  split at e;case isFalse=>cases e
  rename_i J;cases e;cases r with
  | @tup a vs _ ht rr=>exact⟨a,vs,rfl,.inl (.inl ht),by rw[<-rr.length];exact J,zxr ix _ vs _ σ _ ok rr J k⟩) (λ_=>rfl) (λ_ _ _=>rfl) S I V
def zn0(hi:DIx X G H0 (.Tuple es k p1) a fi)(h:PGs X es (gIs ix))(I:DBx X G H0 body u)(J:PassesOwn (model X.prog X.w) X.A X.env X.xe:=by passes_own)(R:X.calm=true:=by rfl)(S:(assignEach es X.env).length=ix.length:=by rfl)(D:(assignEach es X.env).findIdx? (·.1)=none:=by rfl)(U:∀x,foldedSetIterable a X.env x=pure x:=by intro _;rfl):DSx X G H0 (.For (.Tuple es k p1) a body [] pos) (qm ix fi u):=zp5 hi.dj h I J R S D U
def fRep(F:FA)(g:FE):FA:=λe=>(F e).bind λr=>(g r.2).bind λq=>match q.1 with
 | .int k=>if Few (r.1.length*k.toNat)/\Bnd (-(2 ^ 62)) (2 ^ 62) k then ↑((List.replicate k.toNat r.1).flatten,q.2) else none
 |_=>none
def Reps.rep{K:k6}{H:Hp}{O:Addr->Prop}{ds:la}{vs:k9}(r:Reps K H O ds vs):∀k:Nat,Reps K H O (List.replicate k ds).flatten (List.replicate k vs).flatten
 |0=>.nil |k+1=>by
   exact r.append (Reps.rep r k)
theorem zxs(f:DFx X G H0 a F)(i:DEx X G H0 b g):DFx X G H0 (.BinOp a .Mult b pos) (fRep F g):=⟨(z3a z6v f.out i.out).imp λσ H Q j=>by
 obtain⟨W,env,d,env',ok,q,k⟩:=j;unfold fRep at q;cases e1:F env with
 |none=>rw[e1] at q;cases q
 |some r =>
   obtain⟨ds,D⟩:=r;rw[e1,ac] at q;cases e2:g D with
   |none=>rw[e2] at q;cases q
   |some r2 =>
     obtain⟨E,Y⟩:=r2;rw[e2,ac] at q;dsimp only at q;split at q;case h_2=>cases q
     rename_i kk;split at q;case isFalse=>cases q
     rename_i m;obtain⟨p,s,t⟩:=m;cases q;refine⟨W,env,_,_,ok,e1,λW1 l vs H1 Z I c u v e=>⟨W1,D,_,_,I,e2,λw v2 H2 s2 J p2=>?_⟩⟩;have R:Step W H W1 H1:=⟨Z.keep,λa h=>Z.ws a (.inl h)⟩;have S:Reps X.K H1 (Ow G W1) ds vs:=e.mono (λ_ _ h=>h) λa us o h=>⟨⟨o.1,λz=>o.2 (.inl z)⟩,h⟩;have U:=I.reps s2 S;have V:H2 l=↑(.lst vs):=s2.keep l _ v u;cases p2;refine⟨l,kk,vs,rfl,rfl,V,by lia,by lia,?_,λn x=>?_⟩
     ·rw[<-e.length];exact cr p (by rw[sizeLine_eq];decide)
     ·obtain⟨h1,h2,y,A,B,C⟩:=wt J (Reps.rep U kk.toNat) x
      exact k w n _ _ ((R.trans s2).trans h1) h2 y A B C⟩
def fSp2(K:k6)(m:la->Option (List la)):Sp:=λvs H Q _=>∃O ds I,Reps K H O ds vs/\m ds=↑I/\∀l ls H',Same H H'->N2 K (gd λa=>O a\/H a=none) H H' l ls I->Q (.ref l) H'
def zn1(m:la->Option (List la))(F:FA):FA2:=λe=>(F e).bind λr=>(m r.1).map λd=>(d,r.2)
def zuc(f:FA2):FS:=λe=>(f e).map λr=>(.r2 r.1,r.2)
def yau(i:Nat):FS:=λe=>match e[i]? with |some ↑(.o2 dss)=>↑(.r2 dss,e) |_=>none
def yp(n ar:Nat)(g:FS):la->Option (List la):=λds=>if ds.length=ar then(match g (jy n ds) with |some (.r2 d,_)=>↑d |_=>none) else none
def SlOk.n2{W:Addr->Prop}(ok:Ok K G H0 W env σ H)(h:SlOk K G W H (.o2 dss) v):∃l ls,v=.ref l/\N2 K G H0 H l ls dss:=by
 obtain⟨l,ls,rfl,S,U,V,hi⟩:=h;have D:∀a∈l::ls,W a:=λa ha=>by
  rcases ce.mp ha with rfl |ha
  ·exact S
  ·obtain⟨j,R,I⟩:=jg ha
   have J:j<dss.length:=by rw[<-hi.1];exact R
   exact(hi.2 j dss[j] a (by simp[J]) (by simp[R,I])).1
 refine⟨l,ls,rfl,V,λa ha=>(ok.wl a (D a ha)).1,U,hi.1,λj ds a Y I=>?_⟩;obtain⟨_,vs,h1,r⟩:=hi.2 j ds a Y I;exact⟨vs,h1,r.mono (λ_ _ h=>h) λb us o h=>⟨⟨o.1,λz=>o.2 (D b z)⟩,h⟩⟩
def z0c(I:DF2x X G H0 e f2):DSx X G H0 (.Return ↑e pos) (zuc f2):=⟨(zd I.out).imp λDn σ H J=>by
 obtain⟨W,env,fl,env',ok,q,k⟩:=J;unfold zuc at q;cases e1:f2 env with
 |none=>rw[e1] at q;cases q
 |some r =>
   rw[e1] at q;cases q;refine⟨W,env,_,_,ok,e1,λW1 l H1 R D h1 _=>?_⟩;obtain⟨l',ls,z,n2⟩:=h1.n2 D;cases z;exact k l ls H1 D.stay n2⟩
variable{l:Addr}
def Ok.fresh2{W:Addr->Prop}{ls:ic}(ok:Ok K G H0 W env σ H)(s:Same H H')(n:N2 K (gd λa=>Ow G W a\/H a=none) H H' l ls dss) :
  ∃W',Ok K G H0 W' env σ H'/\Step W H W' H'/\SlOk K G W' H' (.o2 dss) (.ref l) /\
   ∀(j:Nat) (s:Sl) (v:V) (a:Addr),env[j]?=↑↑s->σ[j]?=↑↑v->Owns H' (.o2 dss) (.ref l) a->¬Owns H' s v a:=by
 have R:∀a∈l::ls,∃vs,H' a=↑(.lst vs):=λa ha=>by
  rcases ce.mp ha with rfl |ha
  ·exact⟨_,n.top⟩
  ·obtain⟨j,c,D⟩:=jg ha
   have S:j<dss.length:=by rw[<-n.len];exact c
   obtain⟨vs,h,_⟩:=n.inn j dss[j] a (by simp[S]) (by simp[c,D]);exact⟨vs,h⟩
 have d:∀a,W a->H a≠none:=λa z q=>by obtain⟨_,vs,e⟩:=ok.wl a z;rw[q] at e;cases e
 have st:Step W H (λa=>W a\/a∈l::ls) H':=⟨λb o e _=>s b o e,λa z=>z.elim .inl λq=>.inr (n.new a q)⟩;have I:=ok.same s;have U:Ok K G H0 (λa=>W a\/a∈l::ls) env σ H':=by
  refine⟨ok.stay.trans s,ok.good,λa z=>?_,λi sl e=>?_,I.uniq,ok.len⟩
  ·rcases z with z |z
   ·obtain⟨q,us,b⟩:=ok.wl a z
    exact⟨q,us,s _ _ b⟩
   ·obtain⟨vs,h⟩:=R a z
    exact⟨ok.stay.free (n.new a z),.l vs,h⟩
  ·obtain⟨v,Y,h⟩:=ok.slot i sl e
   exact⟨v,Y,ok.slstep st h λa vs o D=>⟨.inl (h.owns o),s _ _ D⟩⟩
 refine⟨_,U,st,⟨l,ls,rfl,.inr (b6),n.top,n.nd,n.len,λj ds a Y D=>?_⟩,λj sl v a f g Z k=>?_⟩
 ·obtain⟨vs,h,r⟩:=n.inn j ds a Y D
  refine⟨.inr (bc _ (az D)),vs,h,r.mono (λ_ _ h=>h) λb us o h=>⟨⟨?_,?_⟩,h⟩⟩
  ·rcases o.1 with q |q
   ·exact q.1
   ·exact ok.good b (ok.stay.free q)
  ·rintro(z |z)
   ·rcases o.1 with q |q
    ·exact q.2 z
    ·exact d b z q
   ·exact o.2 z
 ·obtain⟨u,J,m⟩:=I.slot j sl f
  rw[g] at J;cases J;have p:W a:=m.owns k;have t:a∈l::ls:=by
   rcases Z with Z | ⟨l',ls',z,q,hb⟩
   ·cases Z;exact b6
   ·cases z
    rw[n.top] at q;have:=xf (by simpa using q);subst this;exact bc _ hb
  exact d a p (n.new a t)
variable{E:Value->Shared->Prop}
def z0d{m:la->Option (List la)}{E:XK}:∀σ H Q,tDF2 X.K G H0 (zn1 m F) σ H Q->zwy (fSp2 X.K m) [] E (tDA X.K G H0 F) σ H Q:=λσ H Q R=>by
 obtain⟨W,env,d,env',ok,q,k⟩:=R;unfold zn1 at q;cases e1:F env with
 |none=>rw[e1] at q;cases q
 |some r =>
   obtain⟨ds,J⟩:=r;rw[e1,ac] at q;cases e2:m ds with
   |none=>rw[e2] at q;cases q
   |some d' =>
     rw[e2] at q;cases q;refine⟨W,env,ds,_,ok,e1,λW1 vs H1 S I p1=>?_⟩;show fSp2 X.K m (vs++[]) H1 Q E;rw[di];refine⟨Ow G W1,ds,_,p1,e2,λl ls H2 sm n2=>?_⟩;obtain⟨U,h1,h2,V,Y⟩:=I.fresh2 sm n2;exact k U l H2 (S.trans h2) h1 V Y
variable{jr:Nat}{mF2:la->Option (List la)}
def z0e(c:Cal X.prog X.w X.K X.mg X.base CX0 x k (fSp2 X.K mF2))(R:Room jr X.A)(S:DAx X G H0 (e::es) F)(D:k<=jr:=by decide)(U:Gl X x:=by walk_at "g")(V:starEach (e::es) X.env=(false,eval e X.env)::starEach es X.env:=by rfl)(I:(backTo pos (starEach es X.env)).any (·.1)=false:=by rfl) :
  DF2x X G H0 (.Call (.Name x p') (e::es) [] pos) (zn1 mF2 F):=let ⟨_,_,_,Y,Z,a,b,J⟩:=c;⟨(zpo Y (R.mono D) U Z a b .nil zzz S.out J V I).imp z0d⟩
theorem z93{f:Addr}{g:FS}(F:Fun K x qual st f fd)(S:tx N ps (gl st))(I:n=N.length)(J:ar=ps.length)(D:∀(cdv:Value) (A:Around) (outer:ka) (s:Shared) (H:Hp) (E:XK) (G:Gd) (H0:Hp),Room k (A.deeper (envOfC qual (gl st) s.heap.objs.size f cdv)) ->
   DBx (cxOf CX P w K mg base N qual (gl st) f cdv A outer s H E).nox G H0 (mh st) g):FnOk P w K mg base CX (k+1) f fd ps (fSp2 K (yp n ar g)):=by
 subst I J;refine F.okC S (λvs H Q E h=>?_) (λcdv A outer s H vs Q E R h=>?_)
 ·obtain⟨O,ds,d,r,e,_⟩:=h
  rw[<-r.length];unfold yp at e;split at e
  ·assumption
  ·cases e
 ·obtain⟨O,ds,d,r,e,k⟩:=h
  refine⟨_,(D cdv A outer s H E (gd λa=>O a\/H a=none) H R).out,?_⟩;unfold yp at e;split at e;case isFalse=>cases e
  split at e
  ·rename_i d' env' U
   cases e;exact⟨NoW,_,_,env',vp r,U,λl ls H' sm n2=>k l ls H' sm n2⟩
  ·cases e
variable{wr:ic}{pins:k7}{h2:Heap}
def Inv.tupled{tk:Nat}{T:Addr}{us:k8}(I:Inv X pins σ H s)(R:∀b∈wr,FpOk X pins H b)(hT:s.heap.objs.size<=T)(g:T∉wr)(k:∀b o,b∉wr->s.heap.get? b=↑o->h2.get? b=↑o)(V:h2.IsTuple T us)(Y:Vals vs us.toList)(Z:vs.length<=sizeLine) :
  Inv X pins σ (upd H T (.tup vs)) { s with heap:=h2,toks:=tk }:=by
 have S:H T=none:=I.hok.fresh hT;have U:∀b u,H b=↑u->b∉wr:=λb u e z=>by rw[(R b z).1] at e;cases e
 have neT:∀b o,s.heap.get? b=↑o->b≠T:=λb o e=>cj (bq (bu e) hT);refine I.step (g':=s.gens) (d':=s.drawn) (ch:=wr) (λb D=>⟨(R b D).2.2.2.1,(R b D).2.1,(R b D).2.2.2.2.1,(R b D).2.2.2.2.2⟩) (λb o _ _ J e _=>k b o J e) (λb o _ _ J e _=>⟨o.slots,k b o J e⟩)
  (λb o _ e n=>by rw[ii (neT b o e)];exact n) (λb o J e=>⟨o,k b o J e⟩) (λb xs e=>by rw[ii (qh e S)];exact e) (λb o u e=>by rw[ii (qh e S)];exact e)
  (λb ps e=>⟨#[],by rw[ii (qh e S),e];simp⟩) (λm a=>?_) (λb u e=>?_) I.bare
 ·obtain⟨o,es,d,f,r⟩:=a
  exact⟨o,es,d,k _ o (λz=>(R _ z).2.1 rfl) f,r⟩
 ·by_cases D:b=T
  ·subst D
   rw[kx] at e;cases e;exact⟨Z,us.toList,Y,by rw[Array.toArray_toList];exact V⟩
  ·rw[ii D] at e
   refine(I.hok b u e).stay (λc v J q=>k c v ?_ q) (λc q=>by rw[ii (qh q S)];exact q) λc xs q=>by rw[ii (qh q S)];exact q
   rcases J with z |z
   ·rw[z];exact U b u e
   ·exact U c _ z
def Inv.turnedL{tk:Nat}(I:Inv X pins σ H s)(J:∀b∈wr,FpOk X pins H b)(k:∀b o,b∉wr->s.heap.get? b=↑o->h2.get? b=↑o) :
  Inv X pins σ H { s with heap:=h2,toks:=tk }:=by
 have R:∀b u,H b=↑u->b∉wr:=λb u e z=>by rw[(J b z).1] at e;cases e
 refine I.step (g':=s.gens) (d':=s.drawn) (ch:=wr) (λb S=>⟨(J b S).2.2.2.1,(J b S).2.1,(J b S).2.2.2.2.1,(J b S).2.2.2.2.2⟩) (λb o _ _ D e _=>k b o D e) (λb o _ _ D e _=>⟨o.slots,k b o D e⟩)
  (λ_ _ _ _ n=>n) (λb o D e=>⟨o,k b o D e⟩) (λ_ _ e=>e) (λ_ _ _ e=>e) (λb ps e=>⟨#[],by rw[e];simp⟩) (λm U=>?_) (λb u e=>?_) I.bare
 ·obtain⟨o,es,V,Y,r⟩:=U
  exact⟨o,es,V,k _ o (λz=>(J _ z).2.1 rfl) Y,r⟩
 ·refine(I.hok b u e).stay (λc v D q=>k c v ?_ q) (λ_ q=>q) λ_ _ q=>q
  rcases D with z |z
  ·rw[z];exact R b u e
  ·exact R c _ z
def Itp(go:Nat->Hp->Prop)(I:Nat->Hp->k9->Prop)(D:Nat->Hp->Prop):It :=
 ⟨go,λi H x H'=>∃t vs,H t=none/\x=.ref t/\H'=upd H t (.tup vs)/\I i H vs,D⟩
variable{it:Addr}
def z2f{S:Nat->Heap->Prop}{go:Nat->Hp->Prop}{u:Nat->Hp->k9->Prop}{J:Nat->Hp->Prop}(mem:it∈fp)(obj:∀i h,S i h->∀b∈fp,∃o,h.get? b=↑o/\∀v,o.data≠.cell v)(keep:∀i h h',S i h->(∀b∈fp,∀o,h.get? b=↑o->h'.get? b=↑o)->S i h')(x:∀(X:Cx),X.prog=P->X.w=w->X.K=K->X.A.handled=none->∀(i:Nat) (pins:k7) (s:Shared) (σ:St) (H:Hp),Inv X pins σ H s->(∀b∈fp,FpOk X pins H b)->S i s.heap->(go i H\/J i H) ->
   ∃U wr n Pt St Y j,WalksT P w X.A it U wr n Pt St Y/\St j s.heap/\(∀b∈wr,b∈fp)/\(∀h,St (j+1) h->S (i+1) h)/\(go i H->j<n)/\(J i H->j=n) /\
    (go i H->∀D,Pt j D->∃vs,Vals vs D.toList/\vs.length<=sizeLine/\u i H vs))(self:∀(A:Around) (i:Nat) (s:Shared) (Q:Value->Shared->Prop) (E:Value->Shared->Prop),S i s.heap->Q (.ref it) s->wpAny (model P w) A (pyIter (.ref it)) Q E s) :
  Turn P w K (.Tuple es k pos) (Itp go u J) fp it S where
 mem:=mem
 obj:=obj
 keep:=keep
 item:=by
  intro X hP m p q i pins s σ H E I a st c;obtain⟨U,wr,n,Pt,St,Y,j,W,r,Z,d,lt,_,t⟩:=x X hP m p (I.ok.hd q) i pins s σ H I a st (.inl c);refine W.item j s _ _ (lt c) r λT D h1 tk y hT z f kk=>⟨_,rfl,?_⟩;obtain⟨vs,B,C,F⟩:=t c D y;have g:T∉wr:=W.apart j T h1 f;refine W.go es k pos j T _ _ _ f λh2 s2 l=>?_;refine⟨.ref T,upd H T (.tup vs),?_,rfl,⟨T,vs,I.hok.fresh hT,rfl,rfl,F⟩,d h2 s2,λb R=>?_⟩
  ·exact I.tupled (λb R=>a b (Z b R)) hT g (λb o R e=>l b o R (kk b o R e)) (z.at λo e=>l T o g e) B C
  ·obtain⟨o,G,_⟩:=obj i _ st b R
   rw[ii (cj (bq (bu G) hT))];exact(a b R).1
 done:=by
  intro X hP m p q i pins s σ H E I a st c;obtain⟨U,wr,n,Pt,St,Y,j,W,r,Z,d,_,L,_⟩:=x X hP m p (I.ok.hd q) i pins s σ H I a st (.inr c);cases L c;exact W.done s _ _ r λh1 tk kk=>⟨rfl,I.turnedL (λb R=>a b (Z b R)) kk⟩
 self:=self
variable{A:Around}
theorem zvz(I:A.handled=none)(J:l≠it)(c:Nat)(its:k8) :
  Draws P w A.in1 it [it,l] (c+its.size) (λj x=>∃i,j=c+i/\its[i]?=↑x) (λj h=>∃i,j=c+i/\i<=its.size/\h.IsListIter it l i/\h.IsList l its) where
 live:=λj h ⟨i,_,_,⟨o,e,_⟩,_⟩=>⟨o,e⟩
 frame:=λj h h' ⟨i,e,hi,a,b⟩ k=>⟨i,e,hi,a.at λo e=>k it (by simp) o e,b.at λo e=>k l (by simp) o e⟩
 item:=λj s Q E hj ⟨i,e,hi,a,b⟩ hQ=>by
  subst e;have hi:i<its.size:=by lia
  refine wpAny_nextOf_list_item a b (x:=its[i]) (by simp[hi]) λh' R D=>?_;exact hQ _ h' s.toks ⟨i,rfl,by simp[hi]⟩ ⟨i+1,by lia,hi,R,b.extBut D.extBut J⟩ D
 done:=λs Q E ⟨i,e,hi,a,b⟩ hE=>by
  have hi:i=its.size:=by lia
  subst hi;exact wpAny_nextOf_list_end I a b (by simp) hE
def Ite(K:k6)(a:Addr)(c:Nat):It :=
 Itp (λi H=>∃xs x,SqL K H a xs/\xs[i]?=↑x) (λi H vs=>∃y,vs=[.int (c+i:Nat),y]/\∀xs,SqL K H a xs->xs[i]?=↑y) (λi H=>∃xs,SqL K H a xs/\xs.length=i)
theorem zrp(a it e:Addr)(c:Nat)(N:e≠it) :
  Turn P w K (.Tuple es k pos) (Ite K a c) [e,it] e (λi h=>(∃J,IsEnum h e it (c+i:Nat) J)/\h.IsListIter it a i):=by
 refine z2f (by simp) (λi h st b B=>?_) (λi h h' st kk=>?_) ?_ λA i s Q E st W=>?_
 ·obtain⟨⟨J,R⟩,o,ho,_,hd⟩:=st
  rcases ce.mp B with z |z
  ·subst z
   exact⟨_,R,λv z=>by cases (show Data.fields _=Data.cell v from z)⟩
  ·cases de.mp z
   exact⟨o,ho,λv z=>by rw[hd] at z;cases z⟩
 ·exact⟨st.1.imp λJ R=>kk e (by simp) _ R,st.2.at λo x=>kk it (by simp) o x⟩
 ·intro X hP hw hK hh i pins s σ H I hf st V
  subst hP hw hK;obtain⟨⟨J,R⟩,Y⟩:=st;have C:∃xs,SqL X.K H a xs/\i<=xs.length:=by
   rcases V with⟨xs,x,q,Z⟩ | ⟨xs,q,Z⟩
   ·exact⟨xs,q,kq (ak.mp Z).1⟩
   ·exact⟨xs,q,Nat.le_of_eq Z.symm⟩
  obtain⟨xs,q,F⟩:=C;obtain⟨its,O,p,hz⟩:=I.list q;have hl:=O.length;obtain⟨ol,U,d,_⟩:=id p.isList;obtain⟨oi,f,g,_⟩:=id Y;have G:a≠it:=λz=>by
   subst z;rw[U] at f;cases f;rw[d] at g;exact absurd g (by decide)
  have L:e≠a:=λz=>by
   subst z;rw[R] at U;cases U;exact absurd (show Value.type "enumerate" = Value.type "list" from d) (by decide)
  have D:=zvz (P:=X.prog) (w:=X.w) hh G c its.toArray;refine⟨_,_,_,_,_,_,c+i,WalksT.enumerateD D e N (by simp[N,L]) (by simp),⟨⟨J,R⟩,i,rfl,by simpa[<-hl] using F,Y,p.isList⟩,λb B=>B,λh st=>?_,λV=>?_,λhs=>?_,λV T hv=>?_⟩
  ·obtain⟨⟨j,M⟩,l,e',_,m,_⟩:=st
   have:l=i+1:=by lia
   subst this;exact⟨⟨j,M⟩,m⟩
  ·obtain⟨ys,y,n,S⟩:=V
   rw[I.list_inj n q] at S;have:=(ak.mp S).1;simp
   lia
  ·obtain⟨ys,n,S⟩:=hs
   rw[I.list_inj n q] at S;simp
   lia
  ·obtain⟨t,x,⟨l,e',Z⟩,rfl⟩:=hv
   have:l=i:=by lia
   subst this;obtain⟨ys,y,n,S⟩:=V;rw[I.list_inj n q] at S;obtain⟨u,hu,ru⟩:=O.get S;have:u=x:=by
    have r:its[l]?=↑x:=by simpa using Z
    rw[hu] at r;cases r;rfl
   subst this;exact⟨[.int (c+l:Nat),y],.cons ⟨t,rfl⟩ (.cons ru .nil),by show 2<=sizeLine;rw[sizeLine_eq];decide,y,rfl,λzs C=>by rw[I.list_inj C q];exact S⟩
 ·obtain⟨⟨J,R⟩,_⟩:=st
  exact wpAny_pyIter_enum R W
def Itz(K:k6)(a b:Addr):It :=
 Itp (λi H=>∃xs ys x y,SqL K H a xs/\SqL K H b ys/\xs[i]?=↑x/\ys[i]?=↑y) (λi H vs=>∃x y,vs=[x,y]/\(∀xs,SqL K H a xs->xs[i]?=↑x)/\∀ys,SqL K H b ys->ys[i]?=↑y)
  (λi H=>∃xs ys,SqL K H a xs/\SqL K H b ys/\min xs.length ys.length=i)
structure ZNe (z ti to i1 i2:Addr):Prop where
 a1:ti≠z
 a2:to≠z
 a3:i1≠z
 a4:i2≠z
 a5:ti≠to
 a6:ti≠i1
 a7:ti≠i2
 a8:to≠i1
 a9:to≠i2
 aA:i1≠i2
variable{o:Int->Int->Int}
def z7u{h:Heap}{a b:Addr}{o o':Obj}(e:h.get? a=↑o)(e':h.get? b=↑o')(n:o.cls≠o'.cls):a≠b:=λz=>by
 subst z;rw[e] at e';cases e';exact n rfl
theorem z0f(a b z ti to r t:Addr)(U:ZNe z ti to r t) :
  Turn P w K (.Tuple es k pos) (Itz K a b) [z,ti,to,r,t] z (λi h=>IsZip h z ti to .none/\IsPair h ti (.ref r) (.ref t)/\(∃u v,IsPair h to u v)/\h.IsListIter r a i/\h.IsListIter t b i):=by
 refine z2f (by simp) (λi h st c B=>?_) (λi h h' st kk=>?_) ?_ λA i s Q E st hQ=>?_
 ·obtain⟨V,h1,⟨u,v,h2⟩,⟨o3,f,_,d3⟩,o4,g,_,d4⟩:=st
  simp at B;rcases B with rfl |rfl |rfl |rfl |rfl
  ·exact⟨_,V,λv q=>by cases (show Data.fields _=Data.cell v from q)⟩
  ·exact⟨_,h1,λv q=>by cases (show Data.seq _ _=Data.cell v from q)⟩
  ·exact⟨_,h2,λv q=>by cases (show Data.seq _ _=Data.cell v from q)⟩
  ·exact⟨_,f,λv q=>by rw[d3] at q;cases q⟩
  ·exact⟨_,g,λv q=>by rw[d4] at q;cases q⟩
 ·obtain⟨V,h1,⟨u,v,h2⟩,f,g⟩:=st
  exact⟨kk z (by simp) _ V,kk ti (by simp) _ h1,⟨u,v,kk to (by simp) _ h2⟩,f.at λo e=>kk r (by simp) o e,g.at λo e=>kk t (by simp) o e⟩
 ·intro X hP hw hK hh i pins s σ H I hf st C
  subst hP hw hK;obtain⟨V,h1,⟨u,v,h2⟩,f,g⟩:=st;have F:∃xs ys,SqL X.K H a xs/\SqL X.K H b ys/\i<=xs.length/\i<=ys.length:=by
   rcases C with⟨xs,ys,x,y,q,Y,S,j⟩ | ⟨xs,ys,q,Y,S⟩
   ·exact⟨xs,ys,q,Y,kq (ak.mp S).1,kq (ak.mp j).1⟩
   ·exact⟨xs,ys,q,Y,by lia,by lia⟩
  obtain⟨xs,ys,q,Y,ai,ab⟩:=F;obtain⟨its,rv,p,_⟩:=I.list q;obtain⟨its',G,p',_⟩:=I.list Y;have hl:=rv.length;have al:=G.length;obtain⟨ol,Z,d,_⟩:=id p.isList;obtain⟨an,J,R,_⟩:=id p'.isList;obtain⟨o3,L,M,_⟩:=id f;obtain⟨o4,N,O,_⟩:=id g;have m:∀ {l o T c o'},s.heap.get? l=↑o->o.cls=.type "list"->s.heap.get? c=↑o'->o'.cls=.type T->T ≠ "list"->l≠c:=λe1 e2 e3 e4 n=>z7u e1 e3 (by rw[e2,e4];intro z;cases z;exact n rfl);have D:ZipApart z ti to r t a b:=⟨U.a1,U.a2,U.a3,U.a4,U.a5,U.a6,U.a7,U.a8,U.a9,U.aA,m (T:="zip") Z d V rfl (by decide),m (T:="tuple") Z d h2 rfl (by decide),m Z d L M (by decide),m Z d N O (by decide),m (T:="zip") J R V rfl (by decide),m (T:="tuple") J R h2 rfl (by decide),m J R L M (by decide),m J R N O (by decide)⟩;refine⟨_,_,_,_,_,_,i,WalksT.zip2 hh z ti to r t a b D its.toArray its'.toArray,⟨V,h1,⟨u,v,h2⟩,f,g,p.isList,p'.isList⟩,λc B=>?_,λh st=>?_,λC=>?_,λhs=>?_,λC ag hv=>?_⟩
  ·simp at B ⊢
   rcases B with rfl |rfl |rfl |rfl <;> simp
  ·obtain⟨V,h1,h2,f,g,_,_⟩:=st
   exact⟨V,h1,h2,f,g⟩
  ·obtain⟨W,aa,x,y,q1,q2,S,j⟩:=C
   rw[I.list_inj q1 q] at S;rw[I.list_inj q2 Y] at j;have:=(ak.mp S).1;have:=(ak.mp j).1;simp
   lia
  ·obtain⟨W,aa,q1,q2,S⟩:=hs
   rw[I.list_inj q1 q,I.list_inj q2 Y] at S;simp
   lia
  ·obtain⟨W,aa,x,y,q1,q2,S,j⟩:=C
   rw[I.list_inj q1 q] at S;rw[I.list_inj q2 Y] at j;obtain⟨ux,uy,eu,ew,rfl⟩:=hv;obtain⟨u1,e1,r1⟩:=rv.get S;obtain⟨u2,e2,r2⟩:=G.get j;have t1:u1=ux:=by
    have z:its[i]?=↑ux:=by simpa using eu
    rw[e1] at z;cases z;rfl
   have t2:u2=uy:=by
    have z:its'[i]?=↑uy:=by simpa using ew
    rw[e2] at z;cases z;rfl
   subst t1;subst t2;exact⟨[x,y],.cons r1 (.cons r2 .nil),by show 2<=sizeLine;rw[sizeLine_eq];decide,x,y,rfl,λzs F=>by rw[I.list_inj F q];exact S,λzs F=>by rw[I.list_inj F Y];exact j⟩
 ·exact wpAny_pyIter_zip st.1 hQ
abbrev enH(h:Heap)(l:Addr):Heap:=h.push { cls:=.type "list_iterator",data:=.fields #[.ref l,.int 0 0] }
abbrev enHs(h:Heap)(l:Addr):Heap:=(enH h l).push { cls:=.type "enumerate",data:=.fields #[.none,.bool false,.ref h.objs.size,rawInt 1,.none,.none] }
def zv0(v:Value)(t:Tok):checkTypeCall "enumerate" ⟨[v],[("start",.int 1 t)]⟩=pure ():=by kernel_rfl
def zxt(v:Value)(t:Tok):checkBuiltinCall "enumerate.__new__" ⟨[.type "enumerate",v],[("start",.int 1 t)]⟩=pure ():=by kernel_rfl
def zxu(l:Addr)(D:k8)(n:Nat)(J:Option Addr)(sl:Array ia)(t:Tok) :
  Meets (Builtin.«enumerate.__new__» ⟨[.type "enumerate",.ref l],[("start",.int 1 t)]⟩) (λ_ R s=>s.heap.get? l=↑⟨.type "list",J,.seq D n,sl⟩/\R (.ok (.ret (.ref (enH s.heap l).objs.size))) { s with heap:=enHs s.heap l }) :=
 .of_wp λprog w A R s h=>by
  obtain⟨V,g,d,tk,os⟩:=s;obtain⟨I,h⟩:=h;have S:=sub_enumerate;have U:Heap.IsList (Shared.heap ⟨V,g,d,tk,os⟩) l D:=⟨_,I,rfl,n,rfl⟩
  wp_walk using AutoSeq1.wpAny_loadPart' I
  refine wpAny_stack_any λst=>wpAny_pure ?_;split
  ·rename_i c _ _ _ _ _
   cases (c==Value.type "enumerate") <;> (refine wpAny_bind (wpAny_of_eq (a:=(Value.ref l,↑(Value.int 1 t))) (by rfl) ?_);wp_walk using AutoSeq1.wpAny_loadPart' I,wpAny_pyIter_list U;exact⟨_,rfl,h⟩)
  ·refine wpAny_bind (wpAny_of_eq (a:=(Value.ref l,↑(Value.int 1 t))) (by rfl) ?_);wp_walk using AutoSeq1.wpAny_loadPart' I,wpAny_pyIter_list U;exact⟨_,rfl,h⟩
variable{t:Tok}
theorem z0g{v x:Value}:Meets (Builtin.«object.__init__» ⟨[v,x],[("start",.int 1 t)]⟩) (λ_ R s=>s.TypeIs v "enumerate"/\R (.ok (.ret .none)) s) :=
 .of_wp λprog w A R s D=>by
  obtain⟨hT,h⟩:=D;have I:=F.called_enumerate.made;have J:=F.called_enumerate.init.lookup;repeat (any_goals (first |assumption |wp_step))
  exact⟨_,rfl,h⟩
theorem z0h(a b:Value)(t:Tok):argsOk "object.__init__" ⟨[a,b],[("start",.int 1 t)]⟩:=by
 unfold argsOk;rw[signature?_of (id:="object.__init__") (n:=['_','_','t','i','n','i','_','_']) (o:=['t','c','e','j','b','o']) (by kernel_rfl) F.owner_object];kernel_rfl
variable{prog:Program}
theorem z0i{D:k8}{Q:Value->Shared->Prop}(Z:s.heap.IsList l D)(h:Q (.ref (enH s.heap l).objs.size) { s with heap:=enHs s.heap l }):wpAny (model prog w) A (call (.type "enumerate") [.ref l] [("start",.int 1 t)]) Q E s:=by
 obtain⟨⟨c,J,a,sl⟩,b,S,n,hd⟩:=Z;replace S:c=.type "list":=S;replace hd:a=.seq D n:=hd;subst S hd;have U:=F.called_enumerate.made;have Y:=F.called_enumerate.sub;have d:=zv0 (.ref l) t;refine wpAny_call (codeAny_of_tree (show wpAny _ _ (callAny (.type "enumerate") _) _ _ _ from wpAny_pure ⟨Code.quiet_builtin _ (by decide +kernel),codeAny_builtin F.entry_type_call ?_⟩));repeat (any_goals (first |assumption |wp_step))
 refine codeAny_mono (codeAny_call_builtin (R:=λr I=>r=.ok (.ret (.ref (enH s.heap l).objs.size))/\I={ s with heap:=enHs s.heap l }) F.called_enumerate.plain F.entry_enumerate_new (wpAny_of_eq (zxt _ t) (zxu l D n J sl t prog w A.in1 (λr I=>r=.ok (.ret (.ref (enH s.heap l).objs.size))/\I={ s with heap:=enHs s.heap l }) s ⟨b,rfl,rfl⟩))) λr I e=>?_;obtain⟨rfl,rfl⟩:=e;have hT:Shared.TypeIs { s with heap:=enHs s.heap l } (.ref (enH s.heap l).objs.size) "enumerate":=⟨_,cy _ rfl,rfl⟩;have f:=F.called_enumerate.init.lookup;have g:=F.called_enumerate.init.bind (.ref (enH s.heap l).objs.size);repeat (any_goals (first |assumption |wp_step))
 refine codeAny_mono (codeAny_call_builtin (R:=λr s2=>r=.ok (.ret .none)/\s2={ s with heap:=enHs s.heap l }) F.called_enumerate.init.plain F.entry_object_init (F.called_enumerate.init.check _ _ _ _ _ _ _ _ hT (z0h _ _ t) (z0g prog w A.in1 (λr s2=>r=.ok (.ret .none)/\s2={ s with heap:=enHs s.heap l }) _ ⟨hT,rfl,rfl⟩))) λi s2 V=>?_;obtain⟨rfl,rfl⟩:=V;repeat (any_goals (first |assumption |wp_step))
theorem zne(n:Nat):ZNe (n+4) (n+2) (n+3) n (n+1):=by
 have h:∀i j:Nat,i≠j->n+i≠n+j:=λi j z=>by lia
 exact⟨h 2 4 (by decide),h 3 4 (by decide),h 0 4 (by decide),h 1 4 (by decide),h 2 3 (by decide),h 2 0 (by decide),h 2 1 (by decide),h 3 0 (by decide),h 3 1 (by decide),h 0 1 (by decide)⟩
variable{c:Nat}
theorem mem2(h:c∈[n+1,n]):n<=c:=by simp at h;lia
theorem mem5(h:c∈[n+4,n+2,n+3,n,n+1]):n<=c:=by simp at h;lia
def zrq:bootBuiltins "enumerate" = ↑(.type "enumerate"):=by decide +kernel
def z0j:bootBuiltins "zip" = ↑(.type "zip"):=by decide +kernel
def z37(K:k6)(c:Nat)(ta:TA):TI:=λσ H R=>ta σ H λvs H1=>∃l xs,vs=[.ref l]/\SqL K H1 l xs/\R (Ite K l c) H1
def iZip(K:k6)(ta:TA):TI:=λσ H R=>ta σ H λvs H1=>∃l l' xs ys,vs=[.ref l,.ref l']/\SqL K H1 l xs/\SqL K H1 l' ys/\R (Itz K l l') H1
variable{p:Pos}{ta:TA}
def z38(V:Bn X "enumerate")(Z:PA X [a] ta)(b:starEach [a] X.env=[(false,eval a X.env)]:=by rfl) :
  PI X (.Tuple es k p1) (.Call (.Name "enumerate" p) [a] [] pos) (z37 X.K 0 ta):=by
 intro pins s σ H R I h;refine Call_ (xy I V.g V.m zrq (i6 (thn (Z pos pins s σ H _ I h) λus D d=>?_) b rfl));obtain⟨vs,H1,J,f,i⟩:=d;obtain⟨l,xs,e,j,q⟩:=i;subst e;cases f with
 |cons r rr =>
   cases rr;cases r;obtain⟨its,t,pl,u⟩:=J.list j;refine call_enumerate_list pl.isList λh' Y U n o=>wpAny_pyIter_enum Y ?_;refine⟨D.heap.objs.size+1,[D.heap.objs.size+1,D.heap.objs.size],_,_,H1,rfl,J.kept (t':=D.toks) o,zrp l _ _ 0 (Nat.succ_ne_self _),⟨⟨.none,Y⟩,U⟩,λc S=>?_,q⟩;have S:D.heap.objs.size<=c:=mem2 S;exact J.fpOk S (J.hok.fresh S)
variable{kp:Pos}
def z0k(Y:Bn X "enumerate")(b:PA X [a] ta)(d:starEach [a] X.env=(false,eval a X.env)::starEach [] X.env:=by rfl)(U:(backTo pos (starEach [a] X.env)).any (·.1)=false:=by rfl) :
  PI X (.Tuple es k p1) (.Call (.Name "enumerate" p) [a] [⟨some "start",.Constant (.int 1) j p2,kp⟩] pos) (z37 X.K 1 ta):=by
 intro pins s σ H R I h;refine wpAny_Call_Name_kw (xy I Y.g Y.m zrq ?_);refine PySem.W.callWith_of (P:=λ_=>True) (by rw[U];rfl) (λ_ _=>⟨Keeper.machine,.inr (.inl rfl),PySem.W.Looks.of_pure rfl⟩) (evalArgs_kw2 rfl (thn (b pos pins s σ H _ I h) λus f V=>?_) d);obtain⟨vs,H1,n,u,v⟩:=V;refine thn (z3h (nm:=some "start") (kpos:=kp) (y8 (i:=1) (j:=j) (pos:=p2)) z6n pos pins f σ H1 (λws H2=>H2=H1/\ws=[.int 1]) n ⟨rfl,rfl⟩) λws s2 V=>?_;obtain⟨A,H2,S,w,x,y⟩:=V;refine⟨trivial,?_⟩;subst x y;obtain⟨l,xs,e,z,q⟩:=v;subst e;cases u with
 |cons r rr =>
   cases rr;cases r;cases w with
   |cons r' rr' =>
   obtain⟨t,rfl⟩:=r';obtain⟨its,B,pl,C⟩:=S.list z;refine z0i (t:=t) pl.isList ?_;have Z:IsEnum (enHs s2.heap l) (enH s2.heap l).objs.size s2.heap.objs.size 1 .none:=cy _ rfl;have D:(enH s2.heap l).objs.size=s2.heap.objs.size+1:=jk ..;refine wpAny_pyIter_enum Z ?_;refine⟨(enH s2.heap l).objs.size,[(enH s2.heap l).objs.size,s2.heap.objs.size],_,_,H2,rfl,S.kept (t':=s2.toks) (λc o e=>aw _ (aw _ e)),zrp l _ _ 1 (by rw[D];exact Nat.succ_ne_self _),⟨⟨.none,Z⟩,⟨_,aw _ (cy _ rfl),rfl,rfl⟩⟩,λc J=>?_,q⟩;have J:s2.heap.objs.size<=c:=by rw[D] at J;exact mem2 J
   exact S.fpOk J (S.hok.fresh J)
def z7v(Z:Bn X "zip")(f:PA X [a,b] ta)(i:starEach [a,b] X.env=[(false,eval a X.env),(false,eval b X.env)]:=by rfl)(J:starEach [b] X.env=[(false,eval b X.env)]:=by rfl) :
  PI X (.Tuple es k p1) (.Call (.Name "zip" p) [a,b] [] pos) (iZip X.K ta):=by
 intro pins s σ H R I h;refine Call_ (xy I Z.g Z.m z0j (i6 (thn (f pos pins s σ H _ I h) λus D j=>?_) (by rw[i,J]) (by rw[J];rfl)));obtain⟨vs,H1,S,n,o⟩:=j;obtain⟨l,l',xs,ys,e,t,V,q⟩:=o;subst e;cases n with
 |cons r rr =>
   cases rr with
   |cons r' rr =>
   cases rr;cases r;cases r';obtain⟨its,C,pl,E⟩:=S.list t;obtain⟨its',u,Y,v⟩:=S.list V;refine call_zip_2 pl.isList Y.isList λh' d w x y z A B=>wpAny_pyIter_zip d ?_;refine⟨_,[D.heap.objs.size+4,D.heap.objs.size+2,D.heap.objs.size+3,D.heap.objs.size,D.heap.objs.size+1],_,_,H1,rfl,S.kept (t':=D.toks) B,z0f l l' _ _ _ _ _ (zne _),⟨d,w,⟨_,_,x⟩,y,z⟩,λc U=>?_,q⟩;have U:D.heap.objs.size<=c:=mem5 U;exact S.fpOk U (S.hok.fresh U)
def rh:Nat->la->la
 |_,[]=>[] |c,d::r=>.tup [.int c,d]::rh (c+1) r
def zipD:la->la->la
 |d::r,d'::r'=>.tup [d,d']::zipD r r' |_,_=>[]
theorem zrr:∀(ds:la) (c i:Nat),(rh c ds)[i]?=ds[i]?.map λd=>.tup [.int (c+i:Nat),d]
 | [],c,i=>by simp[rh]
 |d::r,c,0=>by simp[rh] |d::r,c,i+1=>by
   simp only[rh,ah];rw[zrr r (c+1) i];rw[show c+1+i=c+(i+1) by lia]
def zrs:∀(ds:la) (c:Nat),(rh c ds).length=ds.length
 | [],_=>rfl |d::r,c=>by simp[rh,zrs r]
def zud:∀(ds es:la) (i:Nat) (p:D),(zipD ds es)[i]?=↑p->∃d e,ds[i]?=↑d/\es[i]?=↑e/\p=.tup [d,e]
 |d::r,e::r',0,p,h=>by simp[zipD] at h;exact⟨d,e,by simp,by simp,h.symm⟩ |d::r,e::r',i+1,p,h=>by
   exact zud r r' i p h
def zue:∀(ds es:la),(zipD ds es).length=min ds.length es.length
 | [],es=>by simp[zipD] |d::r,[]=>by simp[zipD] |d::r,e::r'=>by simp[zipD,zue r r']
@[simp] def iEn(c:Nat)(ds:la):Option la:=match ds with | [.lst ds]=>↑(rh c ds) |_=>none
@[simp] def iZp(ds:la):Option la:=match ds with | [.lst ds,.lst es]=>↑(zipD ds es) |_=>none
def zxv{W':Addr->Prop}{t:Addr}(r:Reps K H' (Ow G W') ds vs)(D:H' t=none):Rep K (upd H' t (.tup vs)) (Ow G W') (.tup ds) (.ref t):=by
 refine .tup (kx ..) (r.mono (λa us e=>by rw[ii (qh e D)];exact e) λa us o h=>⟨o,?_⟩);exact h.keep λo e=>by rw[ii (qh e D)];exact e
def zxw{W:Addr->Prop}(c:Nat)(ok:Ok X.K G H0 W env σ H)(h:LsOk X.K H (Ow G W) l vs)(r:Reps X.K H (Ow G W) ds vs):z31 X.K G (Ite X.K l c) W H (rh c ds) where
 go:=λW' H' i d st e=>by
  rw[zrr] at e;cases e0:ds[i]? with
  |none=>rw[e0] at e;cases e
  |some d0 =>
    rw[e0] at e;cases e;obtain⟨v,D,I⟩:=(ok.reps st r).get e0;have h':=(ok.lsstep st h).sq;refine⟨⟨vs,v,h',D⟩,λx H'' ⟨t,us,hn,ex,eH,y,eu,hy⟩=>?_⟩;subst ex eH eu;have:=hy vs h';rw[D] at this;cases this;exact⟨om hn,zxv (.cons (.int _) (.cons I .nil)) hn⟩
 stop:=λW' H' st=>⟨vs,(ok.lsstep st h).sq,by rw[zrs,r.length]⟩
def z0l{W:Addr->Prop}{l':Addr}{I:k9}{es:la}(ok:Ok X.K G H0 W env σ H)(h:LsOk X.K H (Ow G W) l vs)(h':LsOk X.K H (Ow G W) l' I)(r:Reps X.K H (Ow G W) ds vs)(J:Reps X.K H (Ow G W) es I):z31 X.K G (Itz X.K l l') W H (zipD ds es) where
 go:=λW' H' i d st e=>by
  obtain⟨j,k,b,c,rfl⟩:=zud _ _ _ _ e;obtain⟨v1,R,f⟩:=(ok.reps st r).get b;obtain⟨v2,S,g⟩:=(ok.reps st J).get c;have U:=(ok.lsstep st h).sq;have Y:=(ok.lsstep st h').sq;refine⟨⟨vs,I,v1,v2,U,Y,R,S⟩,λx H'' ⟨t,us,hn,ex,eH,y1,y2,eu,hy1,hy2⟩=>?_⟩;subst ex eH eu;have Z:=hy1 vs U;have a:=hy2 I Y;rw[R] at Z;cases Z;rw[S] at a;cases a;exact⟨om hn,zxv (.cons f (.cons g .nil)) hn⟩
 stop:=λW' H' st=>⟨vs,I,(ok.lsstep st h).sq,(ok.lsstep st h').sq,by rw[zue,r.length,J.length]⟩
def zuf(J:PI X tg e (z37 X.K c (tDA X.K G H0 F))):DJx X G H0 tg e (ij (iEn c) F):=⟨J.imp λσ H R S=>by
 obtain⟨W,env,ds,env',ok,q,k⟩:=S;cases e1:F env with
 |none=>simp[e1] at q |some z =>
   obtain⟨as,D⟩:=z;cases e2:iEn c as with
   |none=>rw[ij,e1] at q;simp only[ac,e2] at q;cases q
   |some d' =>
     have q:↑(d',D)=↑(ds,env'):=by rw[ij,e1] at q;simp only[ac,e2] at q;exact q
     cases q;refine⟨W,env,as,_,ok,e1,λW1 vs H1 U I p1=>?_⟩;unfold iEn at e2;split at e2
     ·rename_i xs
      cases e2;obtain⟨v,rfl,V⟩:=ul p1;obtain⟨l,us,rfl,h,r⟩:=V.lst_;exact⟨l,us,rfl,h.sq,k W1 _ H1 U I (zxw c I h r)⟩
     ·cases e2⟩
def z39(D:DAx X G H0 [a] F)(I:Bn X "enumerate":=by walk_at "b")(J:starEach [a] X.env=[(false,eval a X.env)]:=by rfl) :
  DJx X G H0 (.Tuple es k p1) (.Call (.Name "enumerate" p) [a] [] pos) (ij (iEn 0) F):=zuf (z38 I D.out J)
def z0m(I:DAx X G H0 [a] F)(J:Bn X "enumerate":=by walk_at "b")(R:starEach [a] X.env=(false,eval a X.env)::starEach [] X.env:=by rfl)(D:(backTo pos (starEach [a] X.env)).any (·.1)=false:=by rfl) :
  DJx X G H0 (.Tuple es k p1) (.Call (.Name "enumerate" p) [a] [⟨some "start",.Constant (.int 1) j p2,kp⟩] pos) (ij (iEn 1) F):=zuf (z0k J I.out R D)
def z7w(U:DAx X G H0 [a,b] F)(V:Bn X "zip":=by walk_at "b")(Y:starEach [a,b] X.env=[(false,eval a X.env),(false,eval b X.env)]:=by rfl)(J:starEach [b] X.env=[(false,eval b X.env)]:=by rfl) :
  DJx X G H0 (.Tuple es k p1) (.Call (.Name "zip" p) [a,b] [] pos) (ij iZp F):=⟨(z7v V U.out Y J).imp λσ H R Z=>by
 obtain⟨W,env,ds,env',ok,q,k⟩:=Z;cases e1:F env with
 |none=>simp[e1] at q |some z =>
   obtain⟨as,D⟩:=z;cases e2:iZp as with
   |none=>rw[ij,e1] at q;simp only[ac,e2] at q;cases q
   |some d' =>
     have q:↑(d',D)=↑(ds,env'):=by rw[ij,e1] at q;simp only[ac,e2] at q;exact q
     cases q;refine⟨W,env,as,_,ok,e1,λW1 vs H1 c I p1=>?_⟩;unfold iZp at e2;split at e2
     ·rename_i xs ys
      cases e2;obtain⟨v,g,rfl,d,e⟩:=z3v p1;obtain⟨l,us,rfl,h,r⟩:=d.lst_;obtain⟨l',S,rfl,h',f⟩:=e.lst_;exact⟨l,l',us,S,rfl,h.sq,h'.sq,k W1 _ H1 c I (z0l I h h' r f)⟩
     ·cases e2⟩
def z0n{env0:DE0}{z:Int}(h:fVar i env=↑(.int z,env0)):env[i]?=↑↑(.sh (.int z))/\env0=env:=by
 unfold fVar at h;split at h
 ·rename_i d hd
  cases h;exact⟨hd,rfl⟩
 all_goals cases h
variable{op:D->D->ll}
def z94(U:∀D I d,op D I=↑d->∃u v,D=.int u/\I=.int v/\d=.int (o u v)):∀Dn σ H,tDS X G H0 (sSet i (fBin op (fVar i) f)) Dn σ H->tAug i (tD X.K G H0 f) (ipI o) Dn σ H :=
 λDn σ H V=>by
 obtain⟨W,env,fl,env',ok,q,k⟩:=V;unfold sSet fBin at q;cases e0:fVar i env with
 |none=>rw[e0] at q;cases q
 |some r0 =>
   obtain⟨Y,env0⟩:=r0;rw[e0,ac] at q;cases e1:f env0 with
   |none=>rw[e1] at q;cases q
   |some J =>
     obtain⟨D,S⟩:=J;rw[e1,ac] at q;cases e2:op Y D with
     |none=>rw[e2] at q;cases q
     |some I =>
       rw[e2] at q;cases q;obtain⟨u,v,rfl,rfl,rfl⟩:=U _ _ _ e2;obtain⟨Z,rfl⟩:=z0n e0;obtain⟨y,a,b⟩:=ok.slot i _ Z;refine⟨y,a,W,env0,_,_,ok,e1,λW1 v1 H1 c R J=>⟨u,v,Rep.int_ b,J.int_,k W1 _ H1 c (R.set (.int _))⟩⟩
def x9(I:Tos Nn X)(J:DEx X G H0 e f)(D:Nn[i]?=↑x:=by rfl) :
  DSx X G H0 (.AugAssign (.Name x p') .Add e pos) (sSet i (fBin gp (fVar i) f)):=⟨(z55 (I.t D).nd (I.t D).n (I.t D).l J.out z13 (I.t D).f).imp (z94 λR S d h=>by
 cases R <;> try (cases h;done)
 all_goals cases S <;> first | (cases h;done) |exact⟨_,_,rfl,rfl,(bz h).symm⟩)⟩
def z7x:V->V->Hp->VK->Prop:=λo i H Q=>∃l xs k v,o=.ref l/\i=.int k/\H l=↑(.lst xs)/\0<=k/\xs[k.toNat]?=↑v/\Q v H
theorem zug:PGet X z7x:=by
 intro pins s σ H o i Y Z Q I ro R h;obtain⟨l,xs,k,v,rfl,rfl,S,U,J,q⟩:=h;cases ro;obtain⟨t,rfl⟩:=R;obtain⟨its,r,pl,a⟩:=I.list (.inl (.inl S));obtain⟨w,V,D⟩:=r.get J;have b:=(ak.mp J).1;have c:=zb;exact wpAny_getItem_list pl.isList U ⋯ (by simpa using V) ⟨v,H,I,D,q⟩
def z0o(i:Nat)(op:D->D->ll)(k:Int)(d v:D)(e:DE0):Option (Fl×DE0):=match e[i]? with
 |some ↑(.ow ds)=>if k.toNat<ds.length then(op d v).map λr=>(.nx,e.set i ↑(.ow (ds.set k.toNat r))) else none
 |_=>none
def wp(i:Nat)(op:D->D->ll)(R S:FE):FS:=λe=>match e[i]? with
 |some ↑(.ow _)=>(R e).bind λI=>match I.1,I.2[i]? with
   | .int k,↑↑(.ow ds)=>if 0<=k then(ds[k.toNat]?).bind λd=>(S I.2).bind λJ=>z0o i op k d J.1 J.2 else none
   |_,_=>none
 |_=>none
theorem z2g(x:∀p r d,op p r=↑d->∃u v,p=.int u/\r=.int v/\d=.int (o u v)) :
  ∀Dn σ H,tDS X G H0 (wp i op g f) Dn σ H->z56 (tVar i) (tD X.K G H0 g) (tD X.K G H0 f) z7x (ipI o) z6t Dn σ H:=λDn σ H y=>by
 obtain⟨W,env,fl,env',ok,q,k⟩:=y;unfold wp at q;split at q;case h_2=>cases q
 rename_i z a;obtain⟨v,Y,l,A,rfl,B,C,_⟩:=ok.slot i _ a;cases e1:g env with
 |none=>rw[e1] at q;cases q
 |some Z =>
 obtain⟨dk,I⟩:=Z;rw[e1,ac] at q;dsimp only at q;split at q;case h_2=>cases q
 rename_i kk ds E;split at q;case isFalse=>cases q
 rename_i J;cases e2:ds[kk.toNat]? with
 |none=>rw[e2] at q;cases q
 |some dd =>
 rw[e2,ac] at q;cases e3:f I with
 |none=>rw[e3] at q;cases q
 |some r3 =>
 obtain⟨F,s⟩:=r3;rw[e3,ac] at q;unfold z0o at q;split at q;case h_2=>cases q
 rename_i L R;split at q;case isFalse=>cases q
 cases e4:op dd F with
 |none=>rw[e4] at q;cases q
 |some dr =>
 rw[e4] at q;cases q;obtain⟨u,w,rfl,rfl,rfl⟩:=x _ _ _ e4;refine⟨_,Y,W,env,_,_,ok,e1,λW1 v1 H1 M S Z=>?_⟩;obtain⟨N,D,l',b,O,P,c,e⟩:=S.slot i _ E;rw[Y] at D;cases D;cases O;obtain⟨Q,h,j⟩:=e.get e2;refine⟨l,b,kk,Q,rfl,Z.int_,c,J,h,W1,I,_,_,S,e3,λT v2 H2 s2 U r2=>?_⟩;refine⟨u,w,j.int_,r2.int_,?_⟩;obtain⟨N,D,l',m,e6,aa,n,V⟩:=U.slot i _ R;rw[Y] at D;cases D;cases e6;obtain⟨t1,t2⟩:=U.turn R Y (Reps.set (.int (o u w)) kk.toNat V);have t:=V.length;refine⟨l,m,kk,kk.toNat,rfl,Z.int_,n,?_,k T _ _ ((M.trans s2).trans t2) t1⟩;unfold ixN;rw[if_pos J,if_pos ⋯]
def z0p(R:DEx X G H0 b g)(S:DEx X G H0 e f)(an:Ats Nn Cn X)(J:Nn[i]?=↑x:=by rfl)(U:∀D I new,augStore b D I new=(do holding [new,D,I] (setItem D I new);release [new,D,I] [];pure .next):=by intros;rfl) :
  DSx X G H0 (.AugAssign (.Subscript (.Name x p') b p1) .Add e pos) (wp i gp g f):=⟨(zwl ((an.a J).pe) R.out zug S.out z13 zn U).imp (z2g λV Y d h=>by
 cases V <;> try (cases h;done)
 all_goals cases Y <;> first | (cases h;done) |exact⟨_,_,rfl,rfl,(bz h).symm⟩)⟩
def z0q(R:DEx X G H0 b g)(S:DEx X G H0 e f)(an:Ats Nn Cn X)(J:Nn[i]?=↑x:=by rfl)(U:∀D I new,augStore b D I new=(do holding [new,D,I] (setItem D I new);release [new,D,I] [];pure .next):=by intros;rfl) :
  DSx X G H0 (.AugAssign (.Subscript (.Name x p') b p1) .Sub e pos) (wp i dSub g f):=⟨(zwl ((an.a J).pe) R.out zug S.out z57 zn U).imp (z2g λV Y d h=>by
 cases V <;> try (cases h;done)
 all_goals cases Y <;> first | (cases h;done) |exact⟨_,_,rfl,rfl,(bz h).symm⟩)⟩
def z4a(I:la)(e:DE0)(i:Nat):Option (D×DE0):=match e[i]? with
 |some ↑(.ow ds)=>if Few (ds.length+I.length) then ↑(.non,e.set i ↑(.ow (ds++I))) else none
 |_=>none
def zp6(i:Nat)(F:FA):FE:=λe=>match e[i]? with
 |some ↑(.ow _)=>(F e).bind λr=>z4a r.1 r.2 i
 |_=>none
def zxx(h:DFx X G H0 a F)(an:Ats Nn Cn X)(V:Nn[i]?=↑x:=by rfl)(D:attributeBase (.Name x p') "extend" X.env (eval (.Name x p') X.env)=eval (.Name x p') X.env:=by rfl)(J:((backTo pos (starEach [a] X.env)).all (λx=>!x.1) && (backToKw pos (keywordEach [] X.env)).all (λx=>x.1.isSome)
   && decide ([a].length+([]:List Keyword).length+(if ([]:List Keyword).isEmpty then 0 else 1)<30))=true:=by rfl)(I:(p1.endLine==pos.line)=true:=by rfl)(c:starEach [a] X.env=(false,eval a X.env)::starEach [] X.env:=by rfl) :
  DEx X G H0 (.Call (.Attribute (.Name x p') "extend" p1) [a] [] pos) (zp6 i F):=⟨(zw2 fu PySem.F.slot_list_extend PySem.F.type_list_extend zw3 ((an.a V).pe) (n4 h.out qu c) D J I c rfl).imp λσ H Q j=>by
 obtain⟨W,env,d,env',ok,q,k⟩:=j;unfold zp6 at q;split at q;case h_2=>cases q
 rename_i m Y;obtain⟨v,Z,l,o,rfl,p,b,_⟩:=ok.slot i _ Y;cases e1:F env with
 |none=>rw[e1] at q;cases q
 |some r =>
   obtain⟨s,R⟩:=r;rw[e1,ac] at q;unfold z4a at q;split at q;case h_2=>cases q
   rename_i ds e;split at q;case isFalse=>cases q
   rename_i S;cases q;refine⟨_,Z,.inl ⟨rfl,_,.inl (.inl b)⟩,W,env,s,R,ok,e1,λW1 n us H1 t u U C w f=>?_⟩;obtain⟨E,g,l',vs,y,K,z,r⟩:=U.slot i _ e;rw[Z] at g;cases g;cases y;obtain⟨A,B⟩:=U.turn e Z (r.append f);refine⟨l,n,vs,us,rfl,rfl,z,w,?_,k _ _ _ (t.trans B) A .non⟩;rw[<-r.length,<-f.length];exact cr S (by rw[sizeLine_eq];decide)⟩
def zxy:D->D->ll
 | .tup ds,.tup es=>if ds≠[]/\es≠[]/\ds.length+es.length<=64 then ↑(.tup (ds++es)) else none
 |_,_=>none
def z4b:OpD X G H0 (z6q X.K) zxy:=λW env σ H x y V Y d Q ok Z a e k=>by
 cases V with
 |tup ds =>
   cases Y with
   |tup es =>
     unfold zxy at e;dsimp only at e;split at e;case isFalse=>cases e
     rename_i R;cases e;obtain⟨t,vs,rfl,c,D⟩:=Z.tup_;obtain⟨b,ws,rfl,f,I⟩:=a.tup_;have S:=D.length;have U:=I.length;refine⟨t,b,vs,ws,rfl,rfl,SqT.of c,SqT.of f,λz=>R.1 (by subst z;exact jo.mp S),?_,λz=>absurd (by subst z;exact jo.mp U) R.2.1,λ_ l J=>?_⟩
     ·rw[<-S,<-U];exact le64 R.2.2
     ·exact k _ _ (Step.same (om J)) (ok.same (om J)) (.tup kx ((ok.reps (Step.same (om J)) D).append (ok.reps (Step.same (om J)) I)))
   |_=>cases e
 |_=>cases e
def z4c(D:DEx X G H0 a f)(I:DEx X G H0 b g):DEx X G H0 (.BinOp a .Add b pos) (fBin zxy f g):=za z3l z4b D I
def z4d:D->Bool | .tup _=>false | .lst _=>false | .dct _ _=>false |_=>true
def Rep.atom{I:k6}{O':Addr->Prop}{d:D}(r:Rep K H O d v)(h:z4d d=true):Rep I H' O' d v:=by
 cases r with
 |non=>exact .non |bl b=>exact .bl b |int i=>exact .int i
 |str s=>exact .str s |tup _ _=>cases h
 |lst _ _ _=>cases h
 |klst _ _=>cases h
 |dct _ _=>cases h
 |exc a=>exact .exc a
structure z95 (K:k6) (G:Gd) (J:It) (W:Addr->Prop) (H:Hp) (ds:la):Prop where
 go:∀H' (i:Nat) d,Same H H'->ds[i]?=↑d->J.go i H'/\∀x H'',J.yld i H' x H''->H''=H'/\Rep K H' (Ow G W) d x
 stop:∀H',Same H H'->J.stop ds.length H'
def tDC(K:k6)(G:Gd)(H0:Hp)(f:FI):TI:=λσ H R=>DP K G H0 f (λW env ds env' =>
 ∀W' J H',Step W H W' H'->Ok K G H0 W' env' σ H'->z95 K G J W' H' ds->R J H') σ H
structure DCx (X:Cx) (G:Gd) (H0:Hp) (tg:Expr) (e:Expr) (f:FI):Prop where
 out:PI X tg e (tDC X.K G H0 f)
def fiV(i:Nat):FI:=λe=>match e[i]? with
 |some ↑(.ow ds)=>↑(ds,e) |some ↑(.sh (.lst ds))=>↑(ds,e) |_=>none
def z2h(an:Ats Nn Cn X)(I:Nn[i]?=↑x:=by rfl):DCx X G H0 tg (.Name x p1) (fiV i):=⟨(zwn ((an.a I).pe)).imp λσ H R b=>by
 obtain⟨W,env,ds,env',ok,q,k⟩:=b;unfold fiV at q;split at q
 ·rename_i J S
  cases q;obtain⟨v,U,l,vs,rfl,f,V,r⟩:=ok.slot i _ S;refine⟨_,U,l,rfl,⟨vs,.inl (.inl V)⟩,k W _ H Step.refl ok ⟨λH' j d sm e=>?_,λH' sm=>⟨vs,.inl (.inl (sm _ _ V)),by rw[r.length];exact b7 _⟩⟩⟩;obtain⟨w,Y,c⟩:=(ok.reps (Step.same sm) r).get e;have D:SqL X.K H' l vs:=.inl (.inl (sm _ _ V));exact⟨⟨vs,w,D,Y⟩,λy H'' ⟨e3,z⟩=>⟨e3,by have:=z vs D;rw[Y] at this;cases this;exact c⟩⟩
 ·rename_i J S
  cases q;obtain⟨v,U,r⟩:=ok.slot i _ S;obtain⟨l,vs,rfl,h,r⟩:=Rep.lst_ r;have Z:=zrm ok h r;exact⟨_,U,l,rfl,⟨vs,h.sq⟩,k W _ H Step.refl ok ⟨λH' j d sm e=>Z.go W H' j d (Step.same sm) e,λH' sm=>Z.stop W H' (Step.same sm)⟩⟩
 ·cases q⟩
variable{te:FE}
theorem z2i:∀σ H Q,tDF X.K G H0 (ig fi ix tt te) σ H Q->yv (tDC X.K G H0 fi) ix (tDxT X.K tt) (tDx X.K te) σ H Q:=λσ H Q u=>by
 obtain⟨W,env,d,env',ok,q,k⟩:=u;cases e1:fi env with
 |none=>simp[ig,e1] at q |some z =>
   obtain⟨ds,V⟩:=z;by_cases c:Few ds.length
   ·simp only[ig,e1,ac,if_pos c] at q
    cases e2:n9 tt te (ix.map λj=>capt (V.getD j none)) ds with
    |none=>rw[e2] at q;cases q
    |some outs =>
      rw[e2] at q;cases q;refine⟨W,env,ds,_,ok,e1,λW1 J H1 A f s=>?_⟩;refine⟨λi m H' ys=>∃rest D,m=ds.length-i/\i<=ds.length/\Same H1 H'/\Reps X.K H' (Ow G W1) D ys/\D.length<=i/\n9 tt te (ix.map λj=>capt (env'.getD j none)) (ds.drop i)=↑rest/\d=D++rest,⟨ds.length,d,[],rfl,fg _,Same.refl _,.nil,b7 _,e2,rfl⟩,?_⟩;rintro i m H' ys ⟨rest,D,rfl,hi,sm,rp,hd,ec,rfl⟩;have st:Step W1 H1 W1 H':=Step.same sm;have I:Ok X.K G H0 W1 env' σ H':=f.same sm;by_cases S:i<ds.length
      ·have B:ds.drop i=ds[i]::ds.drop (i+1):=fm S
       rw[B] at ec;obtain⟨C,E⟩:=s.go H' i ds[i] sm (by simp[S]);refine .inr ⟨C,λx g y=>?_⟩;obtain⟨rfl,F⟩:=E x g y;have n:=zpx (ix:=ix) I F;unfold n9 at ec;cases e3:tt (↑(.sh ds[i])::ix.map λj=>capt (env'.getD j none)) with
       |none=>rw[e3] at ec;cases ec
       |some bb =>
         obtain⟨b,R⟩:=bb;rw[e3,ac] at ec;refine⟨_,_,NoW,_,b,R,n,e3,λL H2 s2 U=>?_⟩;have p:Same H1 H2:=sm.trans U.stay;have r:Reps X.K H2 (Ow G W1) D ys:=I.reps (Step.same U.stay) rp;cases b with
         |false =>
           exact⟨ds.length-(i+1),by lia,rest,D,rfl,S,p,r,by lia,ec,rfl⟩
         |true =>
           cases e4:te R with
           |none=>simp only[e4] at ec;cases ec
           |some vv =>
             obtain⟨t,Y⟩:=vv;simp only[e4,ac] at ec;cases e5:n9 tt te (ix.map λj=>capt (env'.getD j none)) (ds.drop (i+1)) with
             |none=>rw[e5] at ec;cases ec
             |some rest' =>
               rw[e5] at ec;cases ec;refine⟨_,_,L,R,t,Y,U,e4,λW3 v H3 s3 Z r3=>⟨?_,ds.length-(i+1),by lia,rest',D++[t],rfl,S,sm.trans Z.stay,?_,by rw[au,i5];lia,by first |exact e5 |rfl,by simp⟩⟩
               ·have:ys.length<2 ^ 20:=by rw[<-rp.length];have:ds.length<=2 ^ 20:=c;lia
                exact bq this (by rw[sizeLine_eq];decide)
               ·refine(I.reps (Step.same Z.stay) rp).append (.cons (r3.mono (λ_ _ h=>h) λa us o h=>⟨?_,h⟩) .nil)
                rcases o.1 with z |z
                ·exact z
                ·exact⟨I.good a (I.stay.free z),λw=>by obtain⟨_,us,q⟩:=I.wl a w;rw[z] at q;cases q⟩
      ·have e:i=ds.length:=by lia
       subst e;rw[j8] at ec;cases ec;refine .inl ⟨s.stop H' sm,by rw[<-rp.length];exact cr hd (cr c (by rw[sizeLine_eq];decide)),λl M=>?_⟩;obtain⟨h1,h2,N,O,P,T⟩:=wt I rp M;rw[di] at k;exact k W1 l _ _ ((A.trans st).trans h1) h2 N O P T
   ·simp only[ig,e1,ac,if_neg c] at q;cases q
def z0r(an:Ats Nn Cn X)(hi:DCx X G H0 (.Name x px) a fi)(I:∀cl C s₂ H₂ fp G H0,Ats (x::(subN Nn ix)) (subN Nn ix) (jd X x (subN Nn ix) sc cl C s₂ H₂ fp)->DEx (jd X x (subN Nn ix) sc cl C s₂ H₂ fp) G H0 e te)(D:rj Nn Cn ix x sc=true:=by decide +kernel)(J:X.calm=true:=by rfl)(R:∀v,foldedSetIterable a X.env v=pure v:=by intro _;rfl) :
  DFx X G H0 (.ListComp e [⟨.Name x px,a,[],0⟩] sc pos) (ig fi ix fYes te) :=
 ⟨(zps (wx an D) (λ_ _ _ _ _ _ _ _ _=>J) hi.out (λcl C s₂ H₂ fp _=>yt (X:=X) rfl) (λcl C s₂ H₂ fp _=>el_x (X:=X) rfl (λG H0=>I cl C s₂ H₂ fp G H0 (uv D))) R).imp z2i⟩
def z0s(an:Ats Nn Cn X)(R:Tos Nn X)(hi:DCx X G H0 (.Name x px) a fi)(S:∀cl C s₂ H₂ fp G H0,Ats (x::(subN Nn ix)) (subN Nn ix) (jd X x (subN Nn ix) sc cl C s₂ H₂ fp)->DEx (jd X x (subN Nn ix) sc cl C s₂ H₂ fp) G H0 e te)(J:rj Nn Cn ix x sc=true:=by decide +kernel)(V:X.calm=true:=by rfl)(I:Nn[i]?=↑y:=by rfl)(U:swapsWith (.ListComp e [⟨.Name x px,a,[],0⟩] sc pos) ↑(.Name y py) spos.line X.env=pure true:=by rfl)(Y:∀v,foldedSetIterable a X.env v=pure v:=by intro _;rfl) :
  PS X (.Assign [.Name y py] (.ListComp e [⟨.Name x px,a,[],0⟩] sc pos) spos) (tAsg (tDF X.K G H0 (ig fi ix fYes te)) (ng i)) :=
 (zpt (wx an J) (λ_ _ _ _ _ _ _ _ _=>V) (R.t I).nd (R.t I).n (R.t I).l hi.out (λcl C s₂ H₂ fp _=>yt (X:=X) rfl) (λcl C s₂ H₂ fp _=>el_x (X:=X) rfl (λG H0=>S cl C s₂ H₂ fp G H0 (uv J))) U (R.t I).f Y).imp λD σ H h=>z2i σ H _ h
def z0t(i:Nat):FE:=λe=>match e[i]? with
 |some ↑(.ow ds)=>(ints? ds).map λD=>(.int D.sum,e) |some ↑(.sh (.lst ds))=>(ints? ds).map λD=>(.int D.sum,e) |_=>none
def z4e(an:Ats Nn Cn X)(U:X.calm=true:=by rfl)(R:Bn X "sum":=by walk_at "b")(D:Nn[i]?=↑x:=by rfl)(S:starEach [.Name x p1] X.env=(false,eval (.Name x p1) X.env)::starEach [] X.env:=by rfl):DEx X G H0 (.Call (.Name "sum" p') [.Name x p1] [] pos) (z0t i) :=
 ⟨(zo (zrl U) R.g R.m boot_sum (n4 ((an.a D).pe) qu S) (by decide) (by decide) S rfl).imp λσ H Q V=>by
  obtain⟨W,env,d,env',ok,q,k⟩:=V;unfold z0t at q;split at q
  ·rename_i ds I
   cases e2:ints? ds with
   |none=>rw[e2] at q;cases q
   |some ns =>
   rw[e2] at q;cases q;cases zna e2;obtain⟨v,J,l,vs,rfl,Z,Y,r⟩:=ok.slot i _ I;cases zlq r;exact⟨_,J,l,ns,rfl,.inl (.inl Y),k W _ H Step.refl ok (.int _)⟩
  ·rename_i ds I
   cases e2:ints? ds with
   |none=>rw[e2] at q;cases q
   |some ns =>
   rw[e2] at q;cases q;cases zna e2;obtain⟨v,J,r⟩:=ok.slot i _ I;obtain⟨l,us,rfl,h,r⟩:=Rep.lst_ r;cases zlq r;exact⟨_,J,l,ns,rfl,h.sq,k W _ H Step.refl ok (.int _)⟩
  ·cases q⟩
def tDL(K:k6)(G:Gd)(H0:Hp)(f:FA):TA:=λσ H Q=>DP K G H0 f (λW env ds env' =>
 ∀W' vs H',Step W H W' H'->Ok K G H0 W' env' σ H'->Reps K H' G ds vs->Q vs H') σ H
structure DLx (X:Cx) (G:Gd) (H0:Hp) (es:kb) (f:FA):Prop where
 out:PA X es (tDL X.K G H0 f)
def z96(h:DAx X G H0 es F):DLx X G H0 es F:=⟨h.out.imp λσ H Q ⟨W,env,ds,env',ok,q,k⟩ =>
 ⟨W,env,ds,env',ok,q,λW' vs H' st D r=>k W' vs H' st D (r.mono (λ_ _ h=>h) λa us o h=>⟨o.1,h⟩)⟩⟩
def z0u(i:Nat)(F:FA):FA:=λe=>match e[i]? with
 |some ↑(.ow _)=>(F e).bind λq=>match q.2[i]? with |some ↑(.ow ds)=>↑(.lst ds::q.1,q.2) |_=>none
 |_=>none
def z4f(Z:DLx X G H0 es F)(an:Ats Nn Cn X)(I:Nn[i]?=↑x:=by rfl)(b:starEach (.Name x p1::es) X.env=(false,eval (.Name x p1) X.env)::starEach es X.env:=by rfl):DLx X G H0 (.Name x p1::es) (z0u i F) :=
 ⟨(n4 ((an.a I).pe) Z.out b).imp λσ H Q c=>by
  obtain⟨W,env,ds,env',ok,q,k⟩:=c;unfold z0u at q;split at q;case h_2=>cases q
  rename_i d J;obtain⟨v,U,l,e,rfl,f,g,_⟩:=ok.slot i _ J;cases e1:F env with
  |none=>rw[e1] at q;cases q
  |some r =>
    obtain⟨R,V⟩:=r;rw[e1,ac] at q;split at q;case h_2=>cases q
    rename_i j S;cases q;refine⟨_,U,W,env,R,_,ok,e1,λW1 vs H1 m D n=>?_⟩;obtain⟨y,Y,l',p,s,t,u,w⟩:=D.slot i _ S;rw[U] at Y;cases Y;cases s;exact k W1 _ H1 m D (.cons (.lst (D.good l (D.wl l t).1) (.inl u) (w.mono (λ_ _ h=>h) λa us o h=>⟨o.1,h⟩)) n)⟩
def zrt(m:la->ll)(F:FA):FE:=λe=>(F e).bind λr=>(m r.1).bind λd=>if z4d d=true then ↑(d,r.2) else none
variable{E:XK}
def z7y:∀σ H Q,tD X.K G H0 (zrt m F) σ H Q->zwy (dSp X.K m) [] E (tDL X.K G H0 F) σ H Q:=λσ H Q R=>by
 obtain⟨W,env,d,env',ok,q,k⟩:=R;unfold zrt at q;cases e1:F env with
 |none=>rw[e1] at q;cases q
 |some r =>
   obtain⟨ds,J⟩:=r;rw[e1,ac] at q;cases e2:m ds with
   |none=>rw[e2] at q;cases q
   |some d' =>
     rw[e2,ac] at q;split at q;case isFalse=>cases q
     rename_i D;cases q;refine⟨W,env,ds,_,ok,e1,λW1 vs H1 S I p1=>?_⟩;show dSp X.K m (vs++[]) H1 Q E;rw[di];exact⟨G,ds,_,p1,e2,λv H2 sm U=>k W1 v H2 (S.trans (Step.same sm)) (I.same sm) (U.atom D)⟩
def z0v(c:Cal X.prog X.w X.K X.mg X.base CX0 x k (dSp X.K m))(R:Room jr X.A)(S:DLx X G H0 (e::es) F)(D:k<=jr:=by decide)(U:Gl X x:=by walk_at "g")(V:starEach (e::es) X.env=(false,eval e X.env)::starEach es X.env:=by rfl)(I:(backTo pos (starEach es X.env)).any (·.1)=false:=by rfl) :
  DEx X G H0 (.Call (.Name x p') (e::es) [] pos) (zrt m F):=let ⟨_,_,_,Y,Z,a,b,J⟩:=c;⟨(zpo Y (R.mono D) U Z a b .nil zzz S.out J V I).imp z7y⟩
def fSlT(f:FE)(l h:FO):FE:=λe=>(f e).bind λr=>(l r.2).bind λD=>(h D.2).bind λI=>match r.1 with
 | .tup ds=>if HT.sIx ds.length 0 D.1=0/\HT.sIx ds.length ds.length I.1=ds.length then none else ↑(.tup (cutD ds D.1 I.1),I.2)
 |_=>none
def z7z{lo hi:Option Expr}{fl U:FO}{sp:Pos}(c:DEx X G H0 a f)(e:DOx X G H0 lo fl)(g:DOx X G H0 hi U) :
  DEx X G H0 (.Subscript a (.Slice lo hi none sp) pos) (fSlT f fl U):=⟨(zt3 z6p c.out e.out g.out).imp λσ H Q i=>by
 obtain⟨W,env,d,env',ok,q,k⟩:=i;unfold fSlT at q;cases e1:f env with
 |none=>rw[e1] at q;cases q
 |some r =>
   obtain⟨u,D⟩:=r;rw[e1,ac] at q;dsimp only at q;cases e2:fl D with
   |none=>rw[e2] at q;cases q
   |some r2 =>
     obtain⟨j,I⟩:=r2;rw[e2,ac] at q;dsimp only at q;cases e3:U I with
     |none=>rw[e3] at q;cases q
     |some r3 =>
       obtain⟨m,Z⟩:=r3;rw[e3,ac] at q;dsimp only at q;split at q;case h_2=>cases q
       rename_i ds;split at q;case isTrue=>cases q
       rename_i n;cases q;refine⟨W,env,_,_,ok,e1,λW1 v1 H1 o J p1=>⟨W1,D,_,_,J,e2,λs H2 s2 V=>⟨s,I,_,_,V,e3,λt v b R=>?_⟩⟩⟩;obtain⟨l,us,rfl,h,r⟩:=(J.rep (s2.trans b) p1).tup_;have S:=r.length;refine⟨l,us,rfl,SqT.of h,by rw[<-S];exact n,λp Y=>?_⟩;exact k t _ _ (((o.trans s2).trans b).trans (Step.same (om Y))) (R.same (om Y)) (.tup kx (R.reps (Step.same (om Y)) (r.cut j m)))⟩
variable{xs:h7}
def gl_p(h:sc.names.lookup x=some .globalImplicit):Gl (z3r X xs N' sc cl C s H fp) x:=zeg h
section
variable (P:Program) (w:World)
end
section
variable {X:Cx} {CX:CXT} {k:Nat} {f C:Addr} {fd:FuncData} {ps ks:h7} {sp:Sp} {E:XK} {x m:Str} {p pos apos kpos:Pos} {e o:Expr} {es:kb} {kws:List Keyword} {te ta:TE} {t tk:TA} {nm:kf}
variable {g:h8->h8->h8} {gV:k9->k9->k9}
end
section
variable {κ:Type} [DecidableEq κ]
end
structure M1 (X:Cx) (o:Expr) (m:Str) (apos:Pos) (e:Expr) (cpos:Pos):Prop where
 base:attributeBase o m X.env (eval o X.env)=eval o X.env
 few:((backTo cpos (starEach [e] X.env)).all (λx=>!x.1) && (backToKw cpos (keywordEach [] X.env)).all (λx=>x.1.isSome)
  && decide (([e]:kb).length+([]:List Keyword).length+(if ([]:List Keyword).isEmpty then 0 else 1)<30))=true
 line:(apos.endLine==cpos.line)=true
 trees:backTo cpos (starEach [e] X.env)=[(false,eval e X.env)]
structure M2 (X:Cx) (o:Expr) (m:Str) (apos:Pos) (e f:Expr) (cpos:Pos):Prop where
 base:attributeBase o m X.env (eval o X.env)=eval o X.env
 few:((backTo cpos (starEach [e,f] X.env)).all (λx=>!x.1) && (backToKw cpos (keywordEach [] X.env)).all (λx=>x.1.isSome)
  && decide (([e,f]:kb).length+([]:List Keyword).length+(if ([]:List Keyword).isEmpty then 0 else 1)<30))=true
 line:(apos.endLine==cpos.line)=true
 trees:backTo cpos (starEach [e,f] X.env)=[(false,eval e X.env),(false,eval f X.env)]
end L2
namespace Att
open PySem PySem.W PySem.Calls PyProof.Rows
end Att
namespace L2
open PySem PySem.Spec PyProof.Rows
section
variable {κ:Type} [DecidableEq κ]
end
end L2
namespace L2
open PySem
theorem zuh{i:Nat}{g:FS}(P:Nat->DE0->Prop):∀(ds:la) (e:DE0) (n:Nat),P n e->(∀(k:Nat) (d:D) (e:DE0),ds[k]?=↑d->P (n+k) e->∃e',g (e.set i ↑(.sh d))=↑(.nx,e')/\P (n+k+1) e') ->
  ∃e',forL i g ds e=↑(.nx,e')/\P (n+ds.length) e'
 | [],e,n,h,_=>⟨e,rfl,h⟩ |d::r,e,n,h,hs=>by
   obtain⟨I,h1,p1⟩:=hs 0 d e rfl h;obtain⟨J,h2,p2⟩:=zuh P r I (n+1) p1 λk d' e' R S=>by
    have:=hs (k+1) d' e' (by simpa using R) (by rw[<-Nat.add_assoc,Nat.add_right_comm];exact S);rw[show n+(k+1)+1=n+1+k+1 by lia] at this;exact this
   refine⟨J,?_,by rw[am,show n+(r.length+1)=n+1+r.length by lia];exact p2⟩;simp[forL,h1,h2]
variable{i:Int}{g:FS}
def ud{i:Nat}(P:Nat->DE0->Prop)(ds:la)(e:DE0)(h:P 0 e)(I:∀(k:Nat) (d:D) (e:DE0),ds[k]?=↑d->P k e->∃e',g (e.set i ↑(.sh d))=↑(.nx,e')/\P (k+1) e') :
  ∃e',forL i g ds e=↑(.nx,e')/\P ds.length e':=by
 obtain⟨e',h1,h2⟩:=zuh P ds e 0 h λk d e J R=>by
  obtain⟨e',S,U⟩:=I k d e J (by simpa using R);exact⟨e',S,by simpa using U⟩
 exact⟨e',h1,by simpa using h2⟩
variable{lo:Int}{n:Nat}{d:D}
def ub{k:Nat}(h:(rngD lo n)[k]?=↑d):d=.int (lo+k)/\k<n:=by
 unfold rngD at h;rw[bw] at h;by_cases D:k<n
 ·rw[jh D] at h
  exact⟨(bz h).symm,D⟩
 ·rw[cg (by simpa using D)] at h;cases h
def wc:(rngD lo n).length=n:=by simp[rngD]
theorem tz(h:-1000000000000<i/\i<1000000000000):l9 i:=⟨by lia,by lia⟩
variable{α:Type}
theorem z70{xs:List α}(I:0<=i)(h1:i<xs.length):∃x,atI xs i=↑x/\xs[i.toNat]?=↑x:=by
 have D:i.toNat<xs.length:=by lia
 exact⟨xs[i.toNat],by unfold atI ixN;rw[if_pos I,if_pos h1];simp[D],by simp[D]⟩
def jw{ar:Nat}{ds:la}{e':DE0}(h:ds.length=ar)(I:g (jy n ds)=↑(.rt d,e')):runD n ar g ds=↑d:=by
 unfold runD;rw[if_pos h,I]
def few(h:n<=1000000):Few n:=cr h (by decide)
theorem og(n:Nat)(D:n<=1000000):iR1 [.int n]=↑(rngD 0 n):=by
 unfold iR1;dsimp only;rw[if_pos (show Bnd _ _ _ from⟨by lia,by lia⟩),f6]
variable{j:Int}
def zui(h:l9 j):dMul (.int i) (.int j)=↑(.int (i*j)):=by
 unfold dMul;dsimp only;rw[if_pos (.inr h)]
def tj(h:l9 i):dMul (.int i) (.int j)=↑(.int (i*j)):=by
 unfold dMul;dsimp only;rw[if_pos (.inl h)]
def oj(h:0<j):dMod (.int i) (.int j)=↑(.int (i % j)):=by
 unfold dMod;dsimp only;rw[if_pos h]
theorem p8(h:0<j)(h2:j<1073741824):dDiv (.int i) (.int j)=↑(.int (i / j)):=by
 unfold dDiv;dsimp only;rw[if_pos (show Bnd _ _ _ from⟨by lia,h2⟩)]
def qi{α:Type}{te:FE}{base:DE0}(φ ψ:α->D):∀(xs:List α),(∀x∈xs,∃e',te (↑(.sh (φ x))::base)=↑(ψ x,e'))->n9 fYes te base (xs.map φ)=↑(xs.map ψ)
 | [],_=>rfl |x::xs,h=>by
   obtain⟨e',I⟩:=h x b6;have J:=qi φ ψ xs λy R=>h y (bc _ R);simp[n9,I,J]
def zlv{α:Type}{tt:FT}{te:FE}{base:DE0}(φ ψ:α->D)(p:α->Bool):∀(xs:List α),(∀x∈xs,∃I,tt (↑(.sh (φ x))::base)=↑(p x,I)/\(p x=true->∃e',te I=↑(ψ x,e')))->n9 tt te base (xs.map φ)=↑((xs.filter p).map ψ)
 | [],_=>rfl |x::xs,h=>by
   obtain⟨I,h1,h2⟩:=h x b6;have J:=zlv φ ψ p xs λy R=>h y (bc _ R);cases hp:p x with
   |false =>
     simp[n9,h1,J,List.filter_cons,hp]
   |true =>
     obtain⟨e',S⟩:=h2 hp;simp[n9,h1,S,J,List.filter_cons,hp]
def zmd{α:Type}{te:FA}{base:DE0}(φ:α->D)(ψ:α->la):∀(xs:List α),(∀x∈xs,∃e',te (↑(.sh (φ x))::base)=↑(ψ x,e'))->zro te base (xs.map φ)=↑(xs.map ψ)
 | [],_=>rfl |x::xs,h=>by
   obtain⟨e',I⟩:=h x b6;have J:=zmd φ ψ xs λy R=>h y (bc _ R);simp[zro,I,J]
def z71(a b c:D):atI [a,b,c] 0=↑a:=rfl
def xo(a b c:D):atI [a,b,c] 1=↑b:=rfl
def xn(a b c:D):atI [a,b,c] 2=↑c:=rfl
def z97(a b c d:D):atI [a,b,c,d] 0=↑a:=rfl
def z98(a b c d:D):atI [a,b,c,d] 1=↑b:=rfl
def z99(a b c d:D):atI [a,b,c,d] 2=↑c:=rfl
def yaa(a b c d:D):atI [a,b,c,d] 3=↑d:=rfl
def zru{α:Type}{i:Nat}{g:FS}(φ:α->D)(P:List α->DE0->Prop)(all:List α)(J:∀(p:List α) (x:α) (q:List α) (e:DE0),all=p++x::q->P p e->∃e',g (e.set i ↑(.sh (φ x)))=↑(.nx,e')/\P (p++[x]) e') :
  ∀(xs I:List α) (e:DE0),all=I++xs->P I e->∃e',forL i g (xs.map φ) e=↑(.nx,e')/\P all e'
 | [],I,e,h,hp=>⟨e,rfl,by rw[h,di];exact hp⟩ |x::xs,I,e,h,hp=>by
   obtain⟨R,h1,p1⟩:=J I x xs e h hp;obtain⟨S,h2,p2⟩:=zru φ P all J xs (I++[x]) R (by rw[h];simp) p1;exact⟨S,by simp[forL,h1,h2],p2⟩
def sd{i:Nat}(φ:α->D)(P:List α->DE0->Prop)(all:List α)(e:DE0)(I:P [] e)(J:∀(p:List α) (x:α) (q:List α) (e:DE0),all=p++x::q->P p e->∃e',g (e.set i ↑(.sh (φ x)))=↑(.nx,e')/\P (p++[x]) e') :
  ∃e',forL i g (all.map φ) e=↑(.nx,e')/\P all e':=zru φ P all J all [] e rfl I
end L2
namespace L2
open PySem PySem.Spec PyProof.Rows PySem.W
abbrev Ag:=AK×ln
abbrev lx:=List Ag
abbrev l0:=Option (D×List Ag)
def slA(x:Ag)(j:Nat):Sl:=.ag x.1 ↑j x.2
def getA(env:DE0):ik->Option lx
 | []=>↑[] |i::r=>match env[i]? with |some ↑(.ag k _ ps)=>(getA env r).map λt=>(k,ps)::t |_=>none
def putA(env:DE0):ik->lx->DE0
 |i::r,x::t=>match env[i]? with |some ↑(.ag _ l _)=>putA (env.set i ↑(.ag x.1 l x.2)) r t |_=>putA env r t
 |_,_=>env
def ql(ags:lx):DE0:=ags.zipIdx.map λp=>↑(slA p.1 p.2)
section
variable {K:k6} {G:Gd} {W W':Addr->Prop} {H0 H H':Hp} {env:DE0} {σ:St}
def x8:∀ {is:ik} {ags:lx} {j i:Nat},getA env is=↑ags->is[j]?=↑i->∃x l,ags[j]?=↑x/\env[i]?=↑↑(.ag x.1 l x.2)
 |a::r,ags,j,i,h,e=>by
   unfold getA at h;split at h
   ·rename_i k l ps q
    cases h2:getA env r with
    |none=>rw[h2] at h;cases h
    |some t =>
      rw[h2] at h;cases h;cases j with
      |zero=>simp at e;subst e;exact⟨(k,ps),l,rfl,q⟩
      |succ j=>obtain⟨x,l',D,I⟩:=x8 h2 (by simpa using e);exact⟨x,l',by simpa using D,I⟩
   ·cases h
def zm:∀ {is:ik} {ags:lx},getA env is=↑ags->ags.length=is.length
 | [],_,h=>by cases h;rfl
 |a::r,ags,h=>by
   unfold getA at h;split at h
   ·cases h2:getA env r with
    |none=>rw[h2] at h;cases h
    |some t=>rw[h2] at h;cases h;rw[am,am,zm h2]
   ·cases h
def zp7:∀ {is:ik} {ags:lx} {env:DE0},(putA env is ags).length=env.length
 | [],_,_=>by simp[putA] |a::r,[],_=>by simp[putA] |a::r,x::t,env=>by
   unfold putA;split
   ·rw[zp7,dz]
   ·rw[zp7]
def zp8:∀ {is:ik} {ags:lx} {env:DE0} {i:Nat},i∉is->(putA env is ags)[i]?=env[i]?
 | [],_,_,_,_=>by simp[putA] |a::r,[],_,_,_=>by simp[putA] |a::r,x::t,env,i,h=>by
   have h1:a≠i:=λz=>h (by simp[z]);have h2:i∉r:=λz=>h (by simp[z]);unfold putA;split
   ·rw[zp8 h2,dh h1]
   ·rw[zp8 h2]
def zs0:∀ {is:ik} {ags:lx} {env:DE0} {j i:Nat} {x:Ag} {k:AK} {l:Option Nat} {ps:ln},is.Nodup->is[j]?=↑i->ags[j]?=↑x->env[i]?=↑↑(.ag k l ps)->(putA env is ags)[i]?=↑↑(.ag x.1 l x.2)
 |a::r,y::t,env,j,i,x,k,l,ps,nd,e1,e2,e3=>by
   cases j with
   |zero =>
     simp at e1 e2;subst e1;subst e2;unfold putA;rw[e3];rw[zp8 (b9.mp nd).1,em (ak.mp e3).1]
   |succ j =>
     have hi:a≠i:=λz=>by subst z;exact(b9.mp nd).1 (az (by simpa using e1))
     unfold putA;split
     ·exact zs0 (b9.mp nd).2 (by simpa using e1) (by simpa using e2) (by rw[dh hi];exact e3)
     ·exact zs0 (b9.mp nd).2 (by simpa using e1) (by simpa using e2) e3
def znd{ags:lx}{j:Nat}{s:Sl}(h:(ql ags)[j]?=↑↑s):∃x,ags[j]?=↑x/\s=slA x j:=by
 unfold ql at h;rw[bw,nt] at h;cases e:ags[j]? with
 |none=>rw[e] at h;cases h
 |some x=>rw[e] at h;cases h;exact⟨x,rfl,by simp⟩
def zrv{ags:lx}:(ql ags).length=ags.length:=by simp[ql]
def mask(H:Hp)(W:Addr->Prop):Hp:=λa=>open Classical in if W a then none else H a
def zp9{a:Addr}(h:W a):mask H W a=none:=if_pos h
def zuj{a:Addr}(h:¬W a):mask H W a=H a:=if_neg h
def zrw{a:Addr}{o:HO}(h:mask H W a=↑o):¬W a/\H a=↑o:=by
 by_cases z:W a
 ·rw[zp9 z] at h;cases h
 ·rw[zuj z] at h;exact⟨z,h⟩
def zrx{a:Addr}(h:mask H W a=none):W a\/H a=none:=by
 by_cases z:W a
 ·exact .inl z
 ·rw[zuj z] at h;exact .inr h
def Lent(H:Hp)(env:DE0)(σ:St)(is:ik):Addr->Prop:=λa=>∃i s v,i∈is/\env[i]?=↑↑s/\σ[i]?=↑↑v/\Owns H s v a
def Ok.lentW(ok:Ok K G H0 W env σ H){is:ik}{a:Addr}(h:Lent H env σ is a):W a:=by
 obtain⟨i,s,v,_,e,I,o⟩:=h;obtain⟨J,D,q⟩:=ok.slot i s e;rw[I] at D;cases D;exact q.owns o
def vf(G:Gd)(W L:Addr->Prop)(r:Nat->ic):Gd:=⟨λa=>G a/\(W a->L a),r⟩
def Ok.lend(ok:Ok K G H0 W env σ H){is:ik}{ags:lx}(nd:is.Nodup)(Y:getA env is=↑ags) :
  ∃(r:Nat->ic) (us:k9),us.length=is.length/\(∀(j i:Nat),is[j]?=↑i->∃u,us[j]?=↑u/\σ[i]?=↑↑u) /\
   (∀(j i:Nat) (k:AK) (l:Option Nat) (ps:ln),is[j]?=↑i->env[i]?=↑↑(.ag k l ps)->∃p as,us[j]?=↑(.ref p)/\Lab k (r j) p as/\∀n,l=↑n->Lab k (G.r n) p as) /\
   Ok K (vf G W (Lent H env σ is) r) (mask H (Lent H env σ is)) (Lent H env σ is) (ql ags) (us.map some) H:=by
 have B:∀a,Lent H env σ is a->W a:=λa=>ok.lentW;have ex:∀j:Nat,∃t:ic×V,∀(i:Nat) (x:Ag) (l:Option Nat),is[j]?=↑i->ags[j]?=↑x->env[i]?=↑↑(.ag x.1 l x.2) ->
   σ[i]?=↑↑t.2/\∃p as us,t.2=.ref p/\Lab x.1 t.1 p as/\W p/\(p::as).Nodup/\(∀n,l=↑n->Lab x.1 (G.r n) p as)/\AkOk K H x.1 p us/\PtsOk K G W H x.2 as us:=λj=>by
  cases J:is[j]? with
  |none=>exact⟨([],.non),λi x l e=>by cases e⟩
  |some i =>
    obtain⟨x,l,h1,h2⟩:=x8 Y J;obtain⟨v,I,p,as,us,R,X,F,hl,C,E⟩:=ok.slot i _ h2;refine⟨(match x.1 with | .ins true _ _=>[p] |_=>p::as,v),λL M l' z1 z2 z3=>?_⟩;cases z1;rw[h1] at z2;cases z2;rw[h2] at z3;cases z3;refine⟨I,p,as,us,R,?_,X,F,hl,C,E⟩;obtain⟨k,ps⟩:=x;cases k with
    |ls=>rfl |ins b c fs=>cases b <;> rfl
 obtain⟨t,U⟩:=Classical.axiomOfChoice ex;have Z:=zm Y;refine⟨λj=>(t j).1,(List.range is.length).map λj=>(t j).2,by simp,λj i e=>?_,λj i k l ps I R=>?_,?_⟩
 ·have J:=(ak.mp e).1
  obtain⟨x,l,h1,h2⟩:=x8 Y e;exact⟨_,by simp[J],(U j i x l e h1 h2).1⟩
 ·have J:=(ak.mp I).1
  obtain⟨x,l',h1,h2⟩:=x8 Y I;rw[R] at h2;cases h2;obtain⟨q1,p,as,us,f,N,_,_,q4,_⟩:=U j i x l I h1 R;exact⟨p,as,by simp[J,f],N,q4⟩
 ·have own:∀ {j i:Nat} {x:Ag} {l:Option Nat},is[j]?=↑i->ags[j]?=↑x->env[i]?=↑↑(.ag x.1 l x.2)->∀a,Owns H (slA x j) (t j).2 a->Lent H env σ is a:=λ{j i x l} I R g a o =>
   ⟨i,_,_,az I,g,(U j i x l I R g).1,o⟩
  have cv:∀ {d:D} {v:V},Rep K H (Ow G W) d v->Rep K H (Ow (vf G W (Lent H env σ is) λj=>(t j).1) (Lent H env σ is)) d v:=λr =>
   r.mono (λ_ _ h=>h) λa us o h=>⟨⟨⟨o.1,λz=>absurd z o.2⟩,λz=>o.2 (B a z)⟩,h⟩
  have O:∀ {d:la} {v:k9},Reps K H (Ow G W) d v->Reps K H (Ow (vf G W (Lent H env σ is) λj=>(t j).1) (Lent H env σ is)) d v:=λr =>
   r.mono (λ_ _ h=>h) λa us o h=>⟨⟨⟨o.1,λz=>absurd z o.2⟩,λz=>o.2 (B a z)⟩,h⟩
  have pos:∀ {j:Nat} {s:Sl},(ql ags)[j]?=↑↑s->∃i x l,is[j]?=↑i/\ags[j]?=↑x/\env[i]?=↑↑(.ag x.1 l x.2)/\s=slA x j/\(((List.range is.length).map λj=>(t j).2).map some)[j]?=↑↑(t j).2:=λ{j s} e=>by
   obtain⟨x,h1,rfl⟩:=znd e;have J:j<is.length:=by rw[<-Z];exact(ak.mp h1).1
   obtain⟨M,l,h2,S⟩:=x8 Y (show is[j]?=↑is[j] by simp[J]);rw[h1] at h2;cases h2;exact⟨is[j],x,l,by simp[J],h1,S,rfl,by simp[J]⟩
  refine⟨λa o e=>(zrw e).2,λa e=>?_,λa e=>⟨zp9 e,(ok.wl a (B a e)).2⟩,λj s e=>?_,λj j' s s' v v' a I R g e4 o1 o2=>?_,by rw[zrv,af,af,jt,Z]⟩
  ·rcases zrx e with z |z
   ·exact⟨ok.good a (ok.wl a (B a z)).1,λ_=>z⟩
   ·exact⟨ok.good a (ok.stay.free z),λw=>by obtain⟨_,m,q⟩:=ok.wl a w;rw[z] at q;cases q⟩
  ·obtain⟨i,x,l,h1,h2,S,rfl,P⟩:=pos e
   obtain⟨q1,p,as,us,f,N,X,F,q4,C,E⟩:=U j i x l h1 h2 S;refine⟨_,P,p,as,us,f,own h1 h2 S p (.inl f),F,λn z=>by cases z;exact N,C,E.step (λa vs ha z=>⟨own h1 h2 S a (.inr ⟨p,us,f,C.o,E.parts_iff.mpr ha⟩),z⟩) (λ_ _ r=>cv r) λ_ _ r=>O r⟩
  ·obtain⟨i,x,l,h1,h2,S,rfl,P⟩:=pos I
   obtain⟨L,M,l',y,Q,A,rfl,T⟩:=pos R;rw[P] at g;cases g;rw[T] at e4;cases e4;have:=ok.uniq i L _ _ _ _ a S A (U j i x l h1 h2 S).1 (U j' L M l' y Q A).1 o1 o2;subst this;exact zpu nd h1 y
theorem Ok.unlend(ok:Ok K G H0 W env σ H){is:ik}{ags I:lx}{r:Nat->ic}{us:k9}{env':DE0}{T:St}(nd:is.Nodup)(hg:getA env is=↑ags)(hu:∀(j i:Nat),is[j]?=↑i->∃u,us[j]?=↑u/\σ[i]?=↑↑u)(X:∀(j i:Nat) (k:AK) (l:Option Nat) (ps:ln),is[j]?=↑i->env[i]?=↑↑(.ag k l ps)->∃p as,us[j]?=↑(.ref p)/\Lab k (r j) p as/\∀n,l=↑n->Lab k (G.r n) p as)(hl:I.length=is.length)(ai:∀(j:Nat) (x y:Ag),ags[j]?=↑x->I[j]?=↑y->y.1=x.1)(st:Step (Lent H env σ is) H W' H')(B:Ok K (vf G W (Lent H env σ is) r) (mask H (Lent H env σ is)) W' env' T H')(Y:∀(j:Nat) (x:Ag),I[j]?=↑x->env'[j]?=↑↑(slA x j)) :
  Ok K G H0 (λa=>W' a\/(W a/\¬Lent H env σ is a)) (putA env is I) σ H'/\Step W H (λa=>W' a\/(W a/\¬Lent H env σ is a)) H' /\
   (∀ {d:D} {v:V},Rep K H' (Ow (vf G W (Lent H env σ is) r) W') d v->Rep K H' (Ow G (λa=>W' a\/(W a/\¬Lent H env σ is a))) d v):=by
 have lW:∀a,Lent H env σ is a->W a:=λa=>ok.lentW;have N:∀a,W' a->Lent H env σ is a\/H a=none:=st.ws;have n':∀a,W' a->W a->Lent H env σ is a:=λa h w=>(N a h).elim id λz=>by obtain⟨_,m,q⟩:=ok.wl a w;rw[z] at q;cases q
 have aa:Step W H (λa=>W' a\/(W a/\¬Lent H env σ is a)) H':=⟨λb o e n=>st.keep b o e λz=>n (lW b z),λa z=>by
  rcases z with z |z
  ·exact(N a z).imp (lW a) id
  ·exact .inl z.1⟩
 have back:∀ {j i:Nat} {y:Ag} {k:AK} {l:Option Nat} {ps:ln},is[j]?=↑i->I[j]?=↑y->env[i]?=↑↑(.ag k l ps) ->
   ∃u p as vs,σ[i]?=↑↑u/\T[j]?=↑↑u/\u=.ref p/\W' p/\(p::as).Nodup/\(∀n,l=↑n->Lab y.1 (G.r n) p as)/\AkOk K H' y.1 p vs/\PtsOk K (vf G W (Lent H env σ is) r) W' H' y.2 as vs:=λ{j i y k l ps} R A C=>by
  obtain⟨x,l',h1,h2⟩:=x8 hg R;rw[C] at h2;cases h2;obtain⟨v,M,p,as,vs,rfl,hW,n1,hr,hk,hp⟩:=B.slot j _ (Y j y A);obtain⟨u,F,L⟩:=hu j i R;obtain⟨p0,O,Q,Z,z5⟩:=X j i _ _ _ R C;rw[F] at Q;cases Q;have hy:=ai j x y h1 A;have S:Lab y.1 (r j) p as:=hr j rfl;have same:p=p0/\(as=O\/∃c fs,y.1=.ins true c fs):=by
   rw[<-hy] at Z;generalize y.1=kk at S Z;cases kk with
   |ls=>have S:r j=p::as:=S;have Z:r j=p0::O:=Z;rw[S] at Z;cases Z;exact⟨rfl,.inl rfl⟩
   |ins b c fs =>
     cases b with
     |true=>have S:r j=[p]:=S;have Z:r j=[p0]:=Z;rw[S] at Z;cases Z;exact⟨rfl,.inr ⟨c,fs,rfl⟩⟩
     |false=>have S:r j=p::as:=S;have Z:r j=p0::O:=Z;rw[S] at Z;cases Z;exact⟨rfl,.inl rfl⟩
  obtain⟨rfl,hs⟩:=same;refine⟨_,p,as,vs,L,M,rfl,hW,n1,λn hn=>?_,hk,hp⟩;have z6:=z5 n hn;rw[<-hy] at z6;rcases hs with rfl | ⟨c,fs,q⟩
  ·exact z6
  ·rw[q] at z6 ⊢;exact z6
 have up:∀(a:Addr) (us:k9),Ow (vf G W (Lent H env σ is) r) W' a->Rd H' a (.lst us)->Ow G (λa=>W' a\/(W a/\¬Lent H env σ is a)) a/\Rd H' a (.lst us):=λa us o h=>⟨⟨o.1.1,λz=>z.elim o.2 λy=>y.2 (o.1.2 y.1)⟩,h⟩;have cv:∀ {d:D} {v:V},Rep K H' (Ow (vf G W (Lent H env σ is) r) W') d v->Rep K H' (Ow G (λa=>W' a\/(W a/\¬Lent H env σ is a))) d v:=λrp=>rp.mono (λ_ _ h=>h) up;have an:∀ {d:la} {v:k9},Reps K H' (Ow (vf G W (Lent H env σ is) r) W') d v->Reps K H' (Ow G (λa=>W' a\/(W a/\¬Lent H env σ is a))) d v:=λrp=>rp.mono (λ_ _ h=>h) up;have f:∀ {i:Nat} {s:Sl} {v:V},i∉is->env[i]?=↑↑s->σ[i]?=↑↑v->∀a,Owns H s v a->W a/\¬Lent H env σ is a:=λ{i s v} hi e R a o=>by
  obtain⟨v',A,q⟩:=ok.slot i s e;rw[R] at A;cases A;refine⟨q.owns o,λz=>?_⟩;obtain⟨i',s',v',g,F,L,Q⟩:=z;exact hi ((ok.uniq i i' s s' _ _ a e F R L o Q) ▸ g)
 have P:∀ {i:Nat} {s:Sl} {v:V},i∉is->env[i]?=↑↑s->σ[i]?=↑↑v->∀a (m:Mo),Owns H s v a->H a=↑m.out->(W' a\/(W a/\¬Lent H env σ is a))/\H' a=↑m.out:=λ{i s v} hi e R a m o q=>by
  have z:=f hi e R a o;exact⟨.inr z,st.keep a _ q z.2⟩
 have t:∀ {i:Nat} {s:Sl} {v:V} {a:Addr},i∉is->env[i]?=↑↑s->σ[i]?=↑↑v->Owns H' s v a->Owns H s v a:=λ{i s v a} hi e R o=>by
  obtain⟨v',A,q⟩:=ok.slot i s e;rw[R] at A;cases A;refine q.back (λl z w m L=>?_) o;refine st.keep l _ L λy=>?_;obtain⟨i',s',v',g,F,Q,Z⟩:=y;have ol:Owns H s v l:=by
   cases s with
   |sh d=>exact o.elim |ow ds=>exact z |o2 dss=>exact .inl z |ag k r ps=>exact .inl z |al _ _=>exact o.elim |ro _ _=>exact o.elim
  exact hi ((ok.uniq i i' s s' _ _ l e F R Q ol Z) ▸ g)
 have J:∀ {i:Nat} {s:Sl},(putA env is I)[i]?=↑↑s->(i∉is/\env[i]?=↑↑s)\/∃(j:Nat) (y:Ag) (k:AK) (l:Option Nat) (ps:ln),is[j]?=↑i/\I[j]?=↑y/\env[i]?=↑↑(.ag k l ps)/\s=.ag y.1 l y.2:=λ{i s} e=>by
  by_cases hi:i∈is
  ·obtain⟨j,hj,ej⟩:=jg hi
   have R:is[j]?=↑i:=by simp[hj,ej]
   obtain⟨x,l,h1,h2⟩:=x8 hg R;have h3:I[j]?=↑(I[j]'⋯):=by simp[hl,hj]
   rw[zs0 nd R h3 h2] at e;cases e;exact .inr ⟨j,_,_,l,_,R,h3,h2,rfl⟩
  ·rw[zp8 hi] at e;exact .inl ⟨hi,e⟩
 refine⟨⟨λb o e=>?_,ok.good,λa z=>?_,λi s e=>?_,λi i' s s' v v' a R A C M o1 o2=>?_,by rw[zp7];exact ok.len⟩,aa,cv⟩
 ·exact st.keep b o (ok.stay b o e) λz=>by rw[(ok.wl b (lW b z)).1] at e;cases e
 ·rcases z with z |z
  ·refine⟨?_,(B.wl a z).2⟩
   rcases N a z with y |y
   ·exact(ok.wl a (lW a y)).1
   ·exact ok.stay.free y
  ·obtain⟨q,m,hm⟩:=ok.wl a z.1
   exact⟨q,m,st.keep a _ hm z.2⟩
 ·rcases J e with⟨hi,e⟩ | ⟨j,y,k,l,ps,R,A,C,rfl⟩
  ·obtain⟨v,R,q⟩:=ok.slot i s e
   exact⟨v,R,ok.slstep aa q (P hi e R)⟩
  ·obtain⟨u,p,as,vs,E,_,rfl,hW,n1,ap,hk,hp⟩:=back R A C
   exact⟨_,E,p,as,vs,rfl,.inl hW,n1,ap,hk,hp.step (λa ws ha z=>⟨.inl (hp.own ha).1,z⟩) (λ_ _ r=>cv r) λ_ _ r=>an r⟩
 ·rcases J R with⟨hi,f1⟩ | ⟨j,y,k,l,ps,f1,f2,f3,rfl⟩ <;> rcases J A with⟨g,U⟩ | ⟨j',y',k',l',ps',U,f2',f3',rfl⟩
  ·exact ok.uniq i i' s s' v v' a f1 U C M (t hi f1 C o1) (t g U M o2)
  ·exfalso
   obtain⟨F,L⟩:=f hi f1 C a (t hi f1 C o1);obtain⟨u,p,as,vs,E,q2,_⟩:=back U f2' f3';rw[M] at E;cases E;obtain⟨v0,w1,w2⟩:=B.slot j' _ (Y j' y' f2');rw[q2] at w1;cases w1;exact L (n' a (w2.owns o2) F)
  ·exfalso
   obtain⟨F,L⟩:=f g U M a (t g U M o2);obtain⟨u,p,as,vs,E,q2,_⟩:=back f1 f2 f3;rw[C] at E;cases E;obtain⟨v0,w1,w2⟩:=B.slot j _ (Y j y f2);rw[q2] at w1;cases w1;exact L (n' a (w2.owns o1) F)
  ·obtain⟨u,p,as,vs,E,q2,_⟩:=back f1 f2 f3
   obtain⟨u',p',a0,a1,ab,ar,_⟩:=back U f2' f3';rw[C] at E;cases E;rw[M] at ab;cases ab;have:=B.uniq j j' _ _ _ _ a (Y j y f2) (Y j' y' f2') q2 ar o1 o2;subst this;rw[f1] at U;cases U;rfl
end
def MCal(P:Program)(w:World)(K:k6)(mg:Str->ia)(base:Heap)(cn m:Str)(k:Nat)(sp:Sp):Prop :=
 ∃C D fd ps,Cls K C/\Meth K C m D/\FnOk P w K mg base (CXr P w) k D fd ps sp/\Binds K fd ps []/\Cl K cn C
def Atr(K:k6)(cn m:Str):Prop:=∃C,Cls K C/\NoAttr K C m/\Cl K cn C
def KCal(P:Program)(w:World)(K:k6)(mg:Str->ia)(base:Heap)(x:Str)(k:Nat)(sp:Sp):Prop :=
 ∃C D fd ps,Mk K C D/\FnOk P w K mg base (CXr P w) k D fd ps sp/\mg x=↑(.ref C)/\Binds K fd ps []/\Cl K x C/\(x==("__debug__" : Str))=false
def EXs(X:Cx)(σ:St):XK:=λcls _ H'=>∀pins H s C ea s',cls=.ref C->Inv X pins σ H s->Fly X.prog X.w X.stack H s C ea H' s'->X.xe (.ref ea) s'
variable{σ:St}{H:Hp}{s:Stmt}{us vs:k9}{X:Cx}{k:Nat}{f:Addr}{fd:FuncData}{ps:h7}{sp:Sp}
theorem zs1{pins:k7}{s:Shared}{Q:VK}{us:h8}(F:FnOk X.prog X.w X.K X.mg X.base (CXr X.prog X.w) k f fd ps sp)(R:Room k X.A)(S:Binds X.K fd ps [])(I:Inv X pins σ H s)(r:Vals vs us)(h:sp vs H Q (EXs X σ)):wpAny (model X.prog X.w) X.A (call (.ref f) us) (EP X pins σ Q) X.xe s:=by
 have U:(us++[]).length=ps.length:=by rw[di,<-r.length];exact F.len _ _ _ _ h
 have J:=S s us I.kIn U;rw[di] at J;refine wpAny_call (codeAny_mono (F.run X.A X.stack s H ⟨us,[]⟩ us vs Q (EXs X σ) R I.env0 J r h) λr s' D=>?_);cases r with
 |error e =>
   obtain⟨ea,C,H',rfl,fl,z⟩:=D;exact z pins H s C ea s' rfl I fl
 |ok fl =>
   cases fl with
   |ret u=>exact I.after D |next=>exact False.elim D |brk=>exact False.elim D |cont=>exact False.elim D
def z72(X:Cx)(sp:Sp)(t:TA):TE:=λσ H Q=>t σ H λvs H1=>sp vs H1 Q (EXs X σ)
variable{x:Str}{p pos:Pos}{e:Expr}{es:kb}{t:TA}
def zlx(F:FnOk X.prog X.w X.K X.mg X.base (CXr X.prog X.w) k f fd ps sp)(S:Room k X.A)(U:Gl X x)(V:X.mg x=↑(.ref f))(Y:PySem.W.keepIn X.K (.ref f)=true)(Z:Binds X.K fd ps [])(a:PA X (e::es) t)(D:(x==("__debug__" : Str))=false:=by decide)(b:starEach (e::es) X.env=(false,eval e X.env)::starEach es X.env:=by rfl)(J:(backTo pos (starEach es X.env)).any (·.1)=false:=by rfl) :
  PE X (.Call (.Name x p) (e::es) [] pos) (z72 X sp t):=by
 intro pins s σ H Q I h;refine wpAny_Call_Name_kw (ya I U V ?_ D);refine jl (h₀:=X.base) I.ok.mod.kin Y (thn (a pos pins s σ H _ I h) λus d c=>?_) b J;obtain⟨vs,H1,R,r,q⟩:=c;refine⟨R.kIn,?_⟩;exact zs1 F S Z R r q
def zuk(X:Cx)(C:Addr)(m:Str)(sp:Sp)(ta:TE)(t:TA):TE:=λσ H Q=>ta σ H λx H1=>∃a dx fs,x=.ref a/\H1 a=↑(.ins C dx fs)/\fs.lookup m=none/\t σ H1 λvs H2=>sp (x::vs) H2 Q (EXs X σ)
variable{pl:Sem Bool}{C:Addr}{m:Str}{apos:Pos}{o:Expr}{ta:TE}
def znf(Y:PE X o ta)(c:Cls X.K C)(S:Meth X.K C m f)(F:FnOk X.prog X.w X.K X.mg X.base (CXr X.prog X.w) k f fd ps sp)(Z:Room k X.A)(b:Binds X.K fd ps [])(d:PA X (e::es) t)(D:starEach (e::es) X.env=(false,eval e X.env)::starEach es X.env:=by rfl)(J:(backTo pos (starEach es X.env)).any (·.1)=false:=by rfl)(g:eval (.Call (.Attribute o m apos) (e::es) [] pos) X.env=(do
   let ov <-eval o X.env
   standAt apos.atName
   let (f,first) <-holding [ov] (getMethod ov m pl)
   callWith pos f first (backTo pos (starEach (e::es) X.env)) (backToKw pos (keywordEach [] X.env))):=by rfl) :
  PE X (.Call (.Attribute o m apos) (e::es) [] pos) (zuk X C m sp ta t):=by
 intro pins s σ H Q I h;refine PySem.W.methodCall_KW (pl:=pl) (thn (Y pins s σ H _ I h) λu i R=>?_) g;obtain⟨x,H1,U,j,a,dx,fs,ex,ea,l,q⟩:=R;subst ex;obtain rfl:u=Value.ref a:=j;refine zo3 U ea c S l ?_;refine jl (first:=[.ref a]) (h₀:=X.base) I.ok.mod.kin S.kp (thn (d pos pins i σ H1 _ U q) λus s2 R=>?_) D J;obtain⟨vs,H2,V,r,n⟩:=R;refine⟨V.kIn,?_⟩;exact zs1 (us:=.ref a::us) (vs:=.ref a::vs) F Z b V (.cons rfl r) n
def zn2(R:PE X o ta)(c:Cls X.K C)(J:Meth X.K C m f)(F:FnOk X.prog X.w X.K X.mg X.base (CXr X.prog X.w) k f fd ps sp)(S:Room k X.A)(U:Binds X.K fd ps [])(V:eval (.Call (.Attribute o m apos) [] [] pos) X.env=(do
   let ov <-eval o X.env
   standAt apos.atName
   let (f,first) <-holding [ov] (getMethod ov m pl)
   callWith pos f first (backTo pos (starEach [] X.env)) (backToKw pos (keywordEach [] X.env))):=by rfl) :
  PE X (.Call (.Attribute o m apos) [] [] pos) (zuk X C m sp ta tNil):=by
 intro pins s σ H Q I h;refine PySem.W.methodCall_KW (pl:=pl) (thn (R pins s σ H _ I h) λu b Y=>?_) V;obtain⟨x,H1,D,Z,a,dx,fs,ex,ea,l,q⟩:=Y;subst ex;obtain rfl:u=Value.ref a:=Z;refine zo3 D ea c J l ?_;exact PySem.W.callWith_K0 (first:=[.ref a]) D.kIn J.kp (zs1 (us:=[.ref a]) (vs:=[.ref a]) F S U D (.cons rfl .nil) q)
def z73(X:Cx)(C:Addr)(sp:Sp)(t:TA):TE:=λσ H Q=>t σ H λvs H1=>∀x dx,H1 x=none->H1 dx=none->dx≠x ->
 sp (.ref x::vs) (upd (upd H1 dx (.own x)) x (.ins C dx [])) (λv H2=>v=.non/\Q (.ref x) H2) (EXs X σ)
theorem z0w(M:Mk X.K C f)(F:FnOk X.prog X.w X.K X.mg X.base (CXr X.prog X.w) k f fd ps sp)(b:Room (k+1) X.A)(c:Gl X x)(d:X.mg x=↑(.ref C))(g:Binds X.K fd ps [])(i:PA X (e::es) t)(R:(x==("__debug__" : Str))=false:=by decide)(j:starEach (e::es) X.env=(false,eval e X.env)::starEach es X.env:=by rfl)(S:(backTo pos (starEach es X.env)).any (·.1)=false:=by rfl) :
  PE X (.Call (.Name x p) (e::es) [] pos) (z73 X C sp t):=by
 intro pins l σ H0 Q U m;refine wpAny_Call_Name_kw (ya U c d ?_ R);refine jl (h₀:=X.base) U.ok.mod.kin M.kp (thn (i pos pins l σ H0 _ U m) λus s n=>?_) j S;obtain⟨vs,H,I,r,h⟩:=n;refine⟨I.kIn,?_⟩;have Y:=h (s.heap.objs.size+1) s.heap.objs.size (I.hok.fresh (li _)) (I.hok.fresh (b7 _)) (cj (fx _));have J:=Inv.made (C:=C) I;have Z:Vals (V.ref (s.heap.objs.size+1)::vs) (Value.ref (s.heap.objs.size+1)::us):=.cons rfl r;have o:((Value.ref (s.heap.objs.size+1)::us)++[]).length=ps.length:=by rw[di,<-Z.length];exact F.len _ _ _ _ Y
 have a:=g ⟨_,s.gens,s.drawn,s.toks,s.os⟩ (Value.ref (s.heap.objs.size+1)::us) J.kIn o;rw[di] at a;refine wpAny_call (zzu (f:=f) I.kIn M.makes M.init (beq_iff_eq.mp M.fn) (codeAny_mono (F.run _ X.stack _ _ ⟨Value.ref (s.heap.objs.size+1)::us,[]⟩ (Value.ref (s.heap.objs.size+1)::us) _ _ (EXs X σ) (b.make C us [])
  (J.env0.make C us []) a Z Y) λr s' D=>?_))
 cases r with
 |error e =>
   obtain⟨ea,q,H',rfl,fl,z⟩:=D;exact z pins _ _ q ea s' rfl J fl
 |ok fl =>
   cases fl with
   |ret u =>
     obtain⟨v,H',y,B,E,G⟩:=J.after D;subst E;exact⟨B,⟨V.ref (s.heap.objs.size+1),H',y,rfl,G⟩⟩
   |next=>exact False.elim D |brk=>exact False.elim D |cont=>exact False.elim D
abbrev XF:=DE0->Option (Str×DE0)
def XEnd(X:Cx)(G:Gd)(H0:Hp)(W:Addr->Prop)(H:Hp)(σ:St)(c:Str)(env':DE0):Prop:=∀W' H' C,Cl X.K c C->Step W H W' H'->Ok X.K G H0 W' env' σ H'->∀pins e s',XS X pins σ H' C e s'->X.xe (.ref e) s'
def tDX(X:Cx)(G:Gd)(H0:Hp)(x:XF)(σ:St)(H:Hp):Prop:=DP X.K G H0 x (λW env c env'=> XEnd X G H0 W H σ c env') σ H
structure JX (X:Cx) (G:Gd) (H0:Hp) (e:Expr) (x:XF):Prop where
 out:PE X e (λσ H _=>tDX X G H0 x σ H)
structure JXA (X:Cx) (G:Gd) (H0:Hp) (es:kb) (x:XF):Prop where
 out:PA X es (λσ H _=>tDX X G H0 x σ H)
structure JXS (X:Cx) (G:Gd) (H0:Hp) (s:Stmt) (x:XF):Prop where
 out:PS X s (λ_ σ H=>tDX X G H0 x σ H)
@[simp] def sXp(x:XF)(g:FS):FS:=λe=>match x e with |some r=>↑(.xc r.1,r.2) |none=>g e
variable{x:XF}{G:Gd}{H0:Hp}{g:FS}
def me(R:DSx X G H0 s g)(S:JXS X G H0 s x):DSx X G H0 s (sXp x g):=⟨λpins s' σ H D I U=>by
 obtain⟨W,env,fl,env',ok,q,k⟩:=U;unfold sXp at q;cases e1:x env with
 |none=>rw[e1] at q;exact R.out pins s' σ H D I ⟨W,env,fl,env',ok,q,k⟩ |some r =>
   rw[e1] at q;cases q;exact S.out pins s' σ H D I ⟨W,env,r.1,r.2,ok,e1,λW' H' C V st J=>k W' σ H' C V st J⟩⟩
def pf(h:JX X G H0 e x)(D:swapsWith e none pos.line X.env=pure false:=by rfl):JXS X G H0 (.Expr e pos) x:=⟨(zwj h.out D).imp λ_ _ _ z=>z⟩
def x6(h:JX X G H0 e x):JXS X G H0 (.Return ↑e pos) x:=⟨(zd h.out).imp λ_ _ _ z=>z⟩
variable{Nn:h7}{y:Str}{p':Pos}{i:Nat}
def z4g(I:Tos Nn X)(h:JX X G H0 e x)(D:Nn[i]?=↑y:=by rfl)(J:swapsWith e ↑(.Name y p') pos.line X.env=pure false:=by rfl) :
  JXS X G H0 (.Assign [.Name y p'] e pos) x:=⟨(zq6 (I.t D).nd (I.t D).n (I.t D).l h.out J (I.t D).f).imp λ_ _ _ z=>z⟩
variable{K:k6}{c:Str}
def Cl.inj{D:Addr}(h:Cl K c C)(h':Cl K c D):C=D:=by
 unfold Cl at h h';rw[h] at h';cases h';rfl
def z0x(K:k6)(O:Addr->Prop)(H:Hp)(ags:lx)(us:k9):Prop :=
 us.length=ags.length/\∀(j:Nat) (x:Ag) (u:V),ags[j]?=↑x->us[j]?=↑u->∃p vs,u=.ref p/\AkOk K H x.1 p vs/\PtsRo K (gd O) NoW H x.2 vs
def qSp(K:k6)(m:lx->la->ll)(x:lx->la->kf):Sp:=λvs H Q E =>
 ∃(O:Addr->Prop) (ags:lx) (us:k9) (ds:la) (ws:k9),vs=us++ws/\z0x K O H ags us/\Reps K H O ds ws /\
  ((∃d,m ags ds=↑d/\∀v H',Same H H'->Rep K H' (λa=>O a\/H a=none) d v->Q v H')\/∃c,x ags ds=↑c/\∀C H',Cl K c C->Same H H'->E (.ref C) none H')
def jx(n:Nat)(ags:lx)(ds:la):DE0:=ags.map (λx=>↑(Sl.ro x.1 x.2))++jy (n-ags.length) ds
def runQ(n p ar:Nat)(g:FS):lx->la->ll:=λags ds=>if ags.length=p/\ds.length=ar then(match g (jx n ags ds) with |some (.rt d,_)=>↑d |some (.nx,_)=>some .non |_=>none) else none
def xQ(n p ar:Nat)(g:FS):lx->la->kf:=λags ds=>if ags.length=p/\ds.length=ar then(match g (jx n ags ds) with |some (.xc c,_)=>↑c |_=>none) else none
variable{O O':Addr->Prop}
def ni(h:∀a,O a->O' a):(∀(d:D) (v:V),Rep K H O d v->Rep K H O' d v)/\∀(d:la) (v:k9),Reps K H O d v->Reps K H O' d v :=
 ⟨λd v r=>r.mono (λ_ _ h=>h) λa us o q=>⟨h a o,q⟩,λd v r=>r.mono (λ_ _ h=>h) λa us o q=>⟨h a o,q⟩⟩
variable{ags:lx}{ws:k9}{ds:la}{N:h7}
theorem z2j(I:z0x K O H ags us)(r:Reps K H O ds ws)(b:us.length<=N.length) :
  Ok K (gd λa=>O a\/H a=none) H NoW (jx N.length ags ds) (start N (us++ws)) H:=by
 have R:=vp (N:=N.drop us.length) r;have J:=R.len;have es:start N (us++ws)=us.map some++start (N.drop us.length) ws:=by
  unfold start;rw[b8,d7,au,fb,Nat.sub_sub]
 have V:jx N.length ags ds=ags.map (λx=>↑(Sl.ro x.1 x.2))++jy (N.drop us.length).length ds:=by unfold jx;rw[fb,I.1]
 rw[es,V];refine⟨Same.refl _,R.good,R.wl,λi s e=>?_,λi j c s2 v1 v2 a D _ f _ o _=>?_,?_⟩
 ·by_cases hi:i<ags.length
  ·rw[ay (by simpa using hi),bw] at e
   cases D:ags[i]? with
   |none=>rw[D] at e;cases e
   |some x =>
     rw[D] at e;cases e;have S:us[i]?=↑(us[i]'(by rw[I.1];exact hi)):=by simp[I.1,hi]
     obtain⟨p,vs,h1,h2,Y⟩:=I.2 i x _ D S;refine⟨_,by rw[ay (by rw[af,I.1];exact hi),bw,S];rfl,p,vs,h1,λz=>z,h2,Y.step (λa vs n z=>⟨n,z⟩) (λd v q=>(ni λa z=>⟨.inl z.1,λz=>z⟩).1 d v q) λd v q=>(ni λa z=>⟨.inl z.1,λz=>z⟩).2 d v q⟩
  ·rw[dn (by simpa using hi),af] at e
   obtain⟨v,U,Z⟩:=R.slot _ s e;rw[<-I.1] at U;exact⟨v,by rw[dn (by rw[af,I.1];lia),af];exact U,Z⟩
 ·by_cases hi:i<ags.length
  ·rw[ay (by simpa using hi),bw] at D
   cases q:ags[i]? with
   |none=>rw[q] at D;cases D
   |some x=>rw[q] at D;cases D;exact o.elim
  ·rw[dn (by simpa using hi)] at D
   obtain⟨d,_,rfl⟩:=zkm D;exact o.elim
 ·rw[au,au,af,af,J,I.1]
variable{x qual:Str}{st:Stmt}{n ar:Nat}{P:Program}{w:World}{mg:Str->ia}{base:Heap}
theorem z74{p:Nat}(F:Fun K x qual st f fd)(S:tx N ps (gl st))(j:n=N.length)(l:p+ar=ps.length)(R:∀(cdv:Value) (A:Around) (outer:ka) (s:Shared) (H:Hp) (E:XK) (G:Gd) (H0:Hp),Room k (A.deeper (envOfC qual (gl st) s.heap.objs.size f cdv)) ->
   DBx (cxOf (CXr P w) P w K mg base N qual (gl st) f cdv A outer s H E) G H0 (mh st) g):FnOk P w K mg base (CXr P w) (k+1) f fd ps (qSp K (runQ n p ar g) (xQ n p ar g)):=by
 subst j;have m:ps.length<=N.length:=by have:=congrArg List.length S.pre;rw[du] at this;lia
 have U:∀ {O:Addr->Prop} {H:Hp} {ags:lx} {us:k9} {ds:la} {ws:k9},z0x K O H ags us->Reps K H O ds ws->(ags.length=p/\ds.length=ar)->(us++ws).length=ps.length:=λJ r h=>by rw[au,J.1,h.1,<-r.length,h.2,l]
 refine F.okX S (λvs H Q E h=>?_) (λcdv A outer s H vs Q E q h=>?_)
 ·obtain⟨O,ags,us,ds,ws,rfl,J,r,h⟩:=h
  refine U J r ?_;rcases h with⟨d,e,_⟩ | ⟨c,e,_⟩
  ·unfold runQ at e;split at e
   ·assumption
   ·cases e
  ·unfold xQ at e;split at e
   ·assumption
   ·cases e
 ·obtain⟨O,ags,us,ds,ws,rfl,J,r,h⟩:=h
  refine⟨_,(R cdv A outer s H E (gd λa=>O a\/H a=none) H q).out,?_⟩;rcases h with⟨d,e,k⟩ | ⟨c,e,k⟩
  ·unfold runQ at e
   split at e;case isFalse=>cases e
   rename_i i;have b:=z2j (N:=N) J r (by rw[J.1,i.1];lia);split at e
   ·rename_i d' env' Y
    cases e;exact⟨NoW,_,_,env',b,Y,λW' Z v H' st I t=>k v H' I.stay (t.mono (λ_ _ h=>h) λa us o h=>⟨o.1,h⟩)⟩
   ·rename_i env' Y
    cases e;exact⟨NoW,_,_,env',b,Y,λW' Z H' st I=>k .non H' I.stay .non⟩
   ·cases e
  ·unfold xQ at e
   split at e;case isFalse=>cases e
   rename_i i;have b:=z2j (N:=N) J r (by rw[J.1,i.1];lia);split at e
   ·rename_i z env' Y
    cases e;exact⟨NoW,_,_,env',b,Y,λW' Z H' u y st I pins e s' xs=>zmb xs (k u H' y I.stay)⟩
   ·cases e
def lSp(K:k6)(m:lx->la->l0)(x:lx->la->Option (Str×lx)):Sp:=λvs H Q E =>
 ∃(G:Gd) (W:Addr->Prop) (R:Hp) (ags:lx) (us:k9) (ds:la) (ws:k9),vs=us++ws/\us.length=ags.length/\Ok K G R W (ql ags) (us.map some) H/\Reps K H (Ow G W) ds ws /\
  ((∃d I, m ags ds = ↑(d, I) /\ ∀W' env' J v H', Step W H W' H' -> Ok K G R W' env' J H' -> (∀(j : Nat) (x : Ag), I[j]? = ↑x -> env'[j]? = ↑↑(slA x j)) -> Rep K H' (Ow G W') d v -> Q v H') \/
   ∃c I,x ags ds=↑(c,I)/\∀C W' env' J H',Cl K c C->Step W H W' H'->Ok K G R W' env' J H'->(∀(j:Nat) (x:Ag),I[j]?=↑x->env'[j]?=↑↑(slA x j))->E (.ref C) none H')
def kn(n:Nat)(ags:lx)(ds:la):DE0:=ql ags++jy (n-ags.length) ds
def outA(e:DE0):Nat->ik->Option lx
 |_,[]=>↑[] |j,_::r=>match e[j]? with |some ↑(.ag k ↑j' ps)=>if j'=j then(outA e (j+1) r).map λt=>(k,ps)::t else none |_=>none
def runL(n p ar:Nat)(g:FS):lx->la->l0:=λags ds=>if ags.length=p/\ds.length=ar then(match g (kn n ags ds) with |some (.rt d,e)=>(outA e 0 (List.range p)).map λt=>(d,t) |some (.nx,e)=>(outA e 0 (List.range p)).map λt=>(.non,t) |_=>none) else none
def xL(n p ar:Nat)(g:FS):lx->la->Option (Str×lx):=λags ds=>if ags.length=p/\ds.length=ar then(match g (kn n ags ds) with |some (.xc c,e)=>(outA e 0 (List.range p)).map λt=>(c,t) |_=>none) else none
theorem zqb{e:DE0}:∀ {l:ik} {i:Nat} {ags:lx},outA e i l=↑ags->ags.length=l.length/\∀(j:Nat) (x:Ag),ags[j]?=↑x->e[i+j]?=↑↑(slA x (i+j))
 | [],_,_,h=>by cases h;exact⟨rfl,λj x z=>by simp at z⟩
 |_::r,i,ags,h=>by
   unfold outA at h;split at h
   ·rename_i k D ps q
    split at h
    ·rename_i I
     subst I;cases e2:outA e (D+1) r with
     |none=>rw[e2] at h;cases h
     |some t =>
       rw[e2] at h;cases h;obtain⟨h1,h2⟩:=zqb e2;refine⟨by rw[am,am,h1],λj x z=>?_⟩;cases j with
       |zero=>simp at z;subst z;exact q |succ j =>
         have:=h2 j x (by simpa using z);rwa [show D+1+j=D+(j+1) by lia] at this
    ·cases h
   ·cases h
theorem z75{W:Addr->Prop}{I:Hp}(ok:Ok K G I W (ql ags) (us.map some) H)(J:us.length=ags.length)(r:Reps K H (Ow G W) ds ws) :
  Ok K G I W (kn N.length ags ds) (start N (us++ws)) H:=by
 have R:(ql ags).length=us.length:=by rw[zrv,J]
 have es:start N (us++ws)=us.map some++start (N.drop us.length) ws:=by
  unfold start;rw[b8,d7,au,fb,Nat.sub_sub]
 have b:kn N.length ags ds=ql ags++jy (N.drop us.length).length ds:=by unfold kn;rw[fb,J]
 have c:=vp (N:=N.drop us.length) (O:=Ow G W) r;rw[es,b];have D:∀ {i:Nat} {s:Sl},(ql ags++jy (N.drop us.length).length ds)[i]?=↑↑s->(i<us.length/\(ql ags)[i]?=↑↑s)\/(us.length<=i/\∃d,ds[i-us.length]?=↑d/\s=.sh d):=λ{i s} e=>by
  by_cases hi:i<us.length
  ·rw[ay ⋯] at e;exact .inl ⟨hi,e⟩
  ·rw[dn ⋯,R] at e
   obtain⟨d,q,z⟩:=zkm e;exact .inr ⟨by lia,d,q,z⟩
 refine⟨ok.stay,ok.good,ok.wl,λi s e=>?_,λi j f s2 v1 v2 a g h S U V Y=>?_,?_⟩
 ·rcases D e with⟨hi,e⟩ | ⟨hi,d,q,rfl⟩
  ·obtain⟨v,h1,h2⟩:=ok.slot i s e
   exact⟨v,by rw[ay (by simpa using hi)];exact h1,h2⟩
  ·obtain⟨v,h1,h2⟩:=r.get q
   refine⟨v,?_,h2⟩;rw[dn (by simpa using hi),af];unfold start;rw[ay (by simpa using(ak.mp h1).1),bw,h1];rfl
 ·rcases D g with⟨hi,k⟩ | ⟨hi,d,q,rfl⟩
  ·rcases D h with⟨Z,f2⟩ | ⟨Z,d,q,rfl⟩
   ·rw[ay (by simpa using hi)] at S
    rw[ay (by simpa using Z)] at U;exact ok.uniq i j f s2 v1 v2 a k f2 S U V Y
   ·exact Y.elim
  ·exact V.elim
 ·rw[au,au,R,af,c.len]
theorem z4h{p:Nat}(F:Fun K x qual st f fd)(S:tx N ps (gl st))(Z:n=N.length)(a:p+ar=ps.length)(J:∀(cdv:Value) (A:Around) (outer:ka) (s:Shared) (H:Hp) (E:XK) (G:Gd) (H0:Hp),Room k (A.deeper (envOfC qual (gl st) s.heap.objs.size f cdv)) ->
   DBx (cxOf (CXr P w) P w K mg base N qual (gl st) f cdv A outer s H E) G H0 (mh st) g):FnOk P w K mg base (CXr P w) (k+1) f fd ps (lSp K (runL n p ar g) (xL n p ar g)):=by
 subst Z;refine F.okX S (λvs H Q E h=>?_) (λcdv A outer s H vs Q E b h=>?_)
 ·obtain⟨G,W,Y,ags,us,ds,ws,rfl,U,ok,r,h⟩:=h
  have:ags.length=p/\ds.length=ar:=by
   rcases h with⟨d,t,e,_⟩ | ⟨c,t,e,_⟩
   ·unfold runL at e;split at e
    ·assumption
    ·cases e
   ·unfold xL at e;split at e
    ·assumption
    ·cases e
  rw[au,U,this.1,<-r.length,this.2,a]
 ·obtain⟨G,W,Y,ags,us,ds,ws,rfl,U,ok,r,h⟩:=h
  refine⟨_,(J cdv A outer s H E G Y b).out,?_⟩;have V:=z75 (N:=N) ok U r;rcases h with⟨d,t,e,k⟩ | ⟨c,t,e,k⟩
  ·unfold runL at e
   split at e;case isFalse=>cases e
   split at e
   ·rename_i d' env' R
    cases e2:outA env' 0 (List.range p) with
    |none=>rw[e2] at e;cases e
    |some t' =>
      rw[e2] at e;cases e;exact⟨W,_,_,env',V,R,λW' D v H' st I i=>k W' env' D v H' st I (λj x z=>by have:=(zqb e2).2 j x z;rwa [ko] at this) i⟩
   ·rename_i env' R
    cases e2:outA env' 0 (List.range p) with
    |none=>rw[e2] at e;cases e
    |some t' =>
      rw[e2] at e;cases e;exact⟨W,_,_,env',V,R,λW' D H' st I=>k W' env' D .non H' st I (λj x z=>by have:=(zqb e2).2 j x z;rwa [ko] at this) .non⟩
   ·cases e
  ·unfold xL at e
   split at e;case isFalse=>cases e
   split at e
   ·rename_i o env' R
    cases e2:outA env' 0 (List.range p) with
    |none=>rw[e2] at e;cases e
    |some t' =>
      rw[e2] at e;cases e;exact⟨W,_,_,env',V,R,λW' D H' l m st I pins e s' xs=>zmb xs (k l W' env' D H' m st I λj x z=>by have:=(zqb e2).2 j x z;rwa [ko] at this)⟩
   ·cases e
def getR(env:DE0):ik->Option lx
 | []=>↑[] |i::r=>match env[i]? with
   |some ↑(.ag k _ ps)=>(getR env r).map λt=>(k,ps)::t |some ↑(.ro k ps)=>(getR env r).map λt=>(k,ps)::t |_=>none
def aggs(env:DE0)(is:ik):Prop:=∀i∈is,∃s,env[i]?=↑↑s
instance (env:DE0) (is:ik):Decidable (aggs env is):=Classical.propDecidable _
variable{ps:ln}{as:ic}
def PtsOk.ro{W:Addr->Prop}(h:PtsOk K G W H ps as us):PtsRo K (gd (Ow G W)) NoW H ps us:=by
 induction h with
 |nil=>exact .nil |d q _ ih=>exact .d ((ni λa z=>⟨z,λz=>z⟩).1 _ _ q) ih |o hW hl q _ ih=>exact .o (λz=>z) hl ((ni λa z=>⟨z,λz=>z⟩).2 _ _ q) ih
def PtsRo.ro{W:Addr->Prop}(h:PtsRo K G W H ps us):PtsRo K (gd (Ow G W)) NoW H ps us :=
 h.step (λa vs _ z=>⟨λz=>z,z⟩) (λd v q=>(ni λa z=>⟨z,λz=>z⟩).1 d v q) λd v q=>(ni λa z=>⟨z,λz=>z⟩).2 d v q
section
variable {K:k6} {G:Gd} {W:Addr->Prop} {H0 H H':Hp} {env:DE0} {σ:St}
def Ok.roAll(ok:Ok K G H0 W env σ H):∀ {is:ik} {ags:lx} {us:k9},getR env is=↑ags->us.length=is.length->(∀(j i:Nat),is[j]?=↑i->∃u,us[j]?=↑u/\σ[i]?=↑↑u)->z0x K (Ow G W) H ags us
 | [],_,us,h,hl,_=>by cases h;exact⟨hl,λj x u e=>by simp at e⟩
 |i::r,ags,us,h,hl,hu=>by
   cases us with
   |nil=>simp at hl |cons u us =>
     obtain⟨g,Y,Z⟩:=hu 0 i rfl;simp at Y;subst Y;have R:∃k ps t,ags=(k,ps)::t/\getR env r=↑t/\∃p vs,u=.ref p/\AkOk K H k p vs/\PtsRo K (gd (Ow G W)) NoW H ps vs:=by
      unfold getR at h;split at h
      ·rename_i k l ps q
       cases h2:getR env r with
       |none=>rw[h2] at h;cases h
       |some t =>
         rw[h2] at h;cases h;obtain⟨v,D,p,as,vs,rfl,_,_,_,I,J⟩:=ok.slot i _ q;rw[Z] at D;cases D;exact⟨k,ps,t,rfl,rfl,p,vs,rfl,I,J.ro⟩
      ·rename_i k ps q
       cases h2:getR env r with
       |none=>rw[h2] at h;cases h
       |some t =>
         rw[h2] at h;cases h;obtain⟨v,D,p,vs,rfl,_,I,J⟩:=ok.slot i _ q;rw[Z] at D;cases D;exact⟨k,ps,t,rfl,rfl,p,vs,rfl,I,J.ro⟩
      ·cases h
     obtain⟨k,ps,t,rfl,h2,p,vs,rfl,I,J⟩:=R;obtain⟨a,b⟩:=ok.roAll (us:=us) h2 (by simpa using hl) λj c e=>by
      obtain⟨u,d,f⟩:=hu (j+1) c (by simpa using e);exact⟨u,by simpa using d,f⟩
     refine⟨by rw[am,am,a],λj x v S U=>?_⟩;cases j with
     |zero=>simp at S U;subst S;subst U;exact⟨p,vs,rfl,I,J⟩ |succ j=>exact b j x v (by simpa using S) (by simpa using U)
def Ok.newRep(ok:Ok K G H0 W env σ H){d:D}{v:V}(r:Rep K H' (λa=>Ow G W a\/H a=none) d v):Rep K H' (Ow G W) d v :=
 r.mono (λ_ _ h=>h) λa us o h=>⟨o.elim id λz=>⟨ok.good a (ok.stay.free z),λw=>by obtain⟨_,m,q⟩:=ok.wl a w;rw[z] at q;cases q⟩,h⟩
end
def tLA(X:Cx)(G:Gd)(H0:Hp)(is:ik)(F:FA):TA:=λσ H Q=>∃W env ds env',Ok X.K G H0 W env σ H/\aggs env is/\F env=↑(ds,env') /\
 ∀W' us ws H',Step W H W' H'->Ok X.K G H0 W' env' σ H'->us.length=is.length->(∀(j i:Nat),is[j]?=↑i->∃u,us[j]?=↑u/\σ[i]?=↑↑u)->Reps X.K H' (Ow G W') ds ws->Q (us++ws) H'
structure JLA (X:Cx) (G:Gd) (H0:Hp) (is:ik) (es:kb) (F:FA):Prop where
 out:PA X es (tLA X G H0 is F)
variable{F:FA}
def jq(h:DAx X G H0 es F):JLA X G H0 [] es F:=⟨h.out.imp λσ H Q ⟨W,env,ds,env',ok,_,q,k⟩=>⟨W,env,ds,env',ok,q,λW' vs H' st D r=>k W' [] vs H' st D rfl (λj i e=>by simp at e) r⟩⟩
variable{Cn:h7}{is:ik}
def p9(h:JLA X G H0 is es F)(an:Ats Nn Cn X)(D:Nn[i]?=↑x:=by rfl)(I:starEach (.Name x pos::es) X.env=(false,eval (.Name x pos) X.env)::starEach es X.env:=by rfl):JLA X G H0 (i::is) (.Name x pos::es) F :=
 ⟨(n4 ((an.a D).pe) h.out I).imp λσ H Q V=>by
  obtain⟨W,env,ds,env',ok,S,q,k⟩:=V;obtain⟨s,I⟩:=S i (by simp);obtain⟨v,U,_⟩:=ok.slot i s I;refine⟨v,U,W,env,ds,env',ok,λJ hi=>S J (by simp[hi]),q,λW' us ws H' st R Y Z r=>?_⟩;refine k W' (v::us) ws H' st R (by rw[am,am,Y]) (λj J e=>?_) r;cases j with
  |zero=>simp at e;subst e;exact⟨v,rfl,U⟩ |succ j=>obtain⟨u,b,c⟩:=Z j J (by simpa using e);exact⟨u,by simpa using b,c⟩⟩
def iu(m:lx->la->ll)(is:ik)(F:FA):FE:=λe=>if aggs e is then(F e).bind λr=>(getR r.2 is).bind λags=>(m ags r.1).map λd=>(d,r.2) else none
def ma(x:lx->la->kf)(is:ik)(F:FA):XF:=λe=>if aggs e is then(F e).bind λr=>(getR r.2 is).bind λags=>(x ags r.1).map λc=>(c,r.2) else none
variable{m:lx->la->ll}{xx:lx->la->kf}
def zs2:∀σ H Q,tD X.K G H0 (iu m is F) σ H Q->tLA X G H0 is F σ H λvs H1=>qSp X.K m xx vs H1 Q (EXs X σ):=λσ H Q J=>by
 obtain⟨W,env,d,env',ok,q,k⟩:=J;unfold iu at q;split at q;case isFalse=>cases q
 rename_i I;cases e1:F env with
 |none=>rw[e1] at q;cases q
 |some r =>
   rw[e1,ac] at q;cases e2:getR r.2 is with
   |none=>rw[e2] at q;cases q
   |some ags =>
     rw[e2,ac] at q;cases e3:m ags r.1 with
     |none=>rw[e3] at q;cases q
     |some d' =>
       rw[e3] at q;cases q;exact⟨W,env,r.1,r.2,ok,I,e1,λW1 us ws H1 R D S U V=>⟨Ow G W1,ags,us,r.1,ws,rfl,D.roAll e2 S U,V,.inl ⟨_,e3,λv H' sm Y=>k W1 v H' (R.trans (Step.same sm)) (D.same sm) (D.newRep Y)⟩⟩⟩
def zul:∀σ H (Q:VK),tDX X G H0 (ma xx is F) σ H->tLA X G H0 is F σ H λvs H1=>qSp X.K m xx vs H1 Q (EXs X σ):=λσ H Q R=>by
 obtain⟨W,env,c,env',ok,q,k⟩:=R;unfold ma at q;split at q;case isFalse=>cases q
 rename_i J;cases e1:F env with
 |none=>rw[e1] at q;cases q
 |some r =>
   rw[e1,ac] at q;cases e2:getR r.2 is with
   |none=>rw[e2] at q;cases q
   |some ags =>
     rw[e2,ac] at q;cases e3:xx ags r.1 with
     |none=>rw[e3] at q;cases q
     |some c' =>
       rw[e3] at q;cases q;refine⟨W,env,r.1,r.2,ok,J,e1,λW1 us ws H1 S D U V Y=>⟨Ow G W1,ags,us,r.1,ws,rfl,D.roAll e2 U V,Y,.inr ⟨_,e3,λC H' Z sm pins H2 s2 b ea s' a I fl=>?_⟩⟩⟩;cases a;exact k W1 H' C Z (S.trans (Step.same sm)) (D.same sm) pins ea s' (.inl ⟨s2,H2,I,fl⟩)
variable{jr:Nat}
def n6(c:Cal X.prog X.w X.K X.mg X.base (CXr X.prog X.w) x k (qSp X.K m xx))(R:Room jr X.A)(S:JLA X G H0 is (e::es) F)(D:k<=jr:=by decide)(U:Gl X x:=by walk_at "g")(V:starEach (e::es) X.env=(false,eval e X.env)::starEach es X.env:=by rfl)(I:(backTo pos (starEach es X.env)).any (·.1)=false:=by rfl) :
  DEx X G H0 (.Call (.Name x p') (e::es) [] pos) (iu m is F):=let ⟨_,_,_,Y,Z,a,b,J⟩:=c;⟨(zlx Y (R.mono D) U Z a b S.out J V I).imp zs2⟩
def o8(c:Cal X.prog X.w X.K X.mg X.base (CXr X.prog X.w) x k (qSp X.K m xx))(R:Room jr X.A)(S:JLA X G H0 is (e::es) F)(D:k<=jr:=by decide)(U:Gl X x:=by walk_at "g")(V:starEach (e::es) X.env=(false,eval e X.env)::starEach es X.env:=by rfl)(I:(backTo pos (starEach es X.env)).any (·.1)=false:=by rfl) :
  JX X G H0 (.Call (.Name x p') (e::es) [] pos) (ma xx is F):=let ⟨_,_,_,Y,Z,a,b,J⟩:=c;⟨(zlx Y (R.mono D) U Z a b S.out J V I).imp zul⟩
instance (a b:List AK):Decidable (a=b):=Classical.propDecidable _
def lf(m:lx->la->l0)(is:ik)(F:FA):FE:=λe=>if aggs e is then(F e).bind λr=>(getA r.2 is).bind λags=>(m ags r.1).bind λq=>if q.2.map (·.1)=ags.map (·.1) then ↑(q.1,putA r.2 is q.2) else none else none
def ny(x:lx->la->Option (Str×lx))(is:ik)(F:FA):XF:=λe=>if aggs e is then(F e).bind λr=>(getA r.2 is).bind λags=>(x ags r.1).bind λq=>if q.2.map (·.1)=ags.map (·.1) then ↑(q.1,putA r.2 is q.2) else none else none
variable{a b:Expr}
def z76{a b:lx}(h:b.map (·.1)=a.map (·.1)):b.length=a.length/\∀(j:Nat) (x y:Ag),a[j]?=↑x->b[j]?=↑y->y.1=x.1:=by
 refine⟨by simpa using congrArg List.length h,λj x y D I=>?_⟩;have:=congrArg (λl:List AK=>l[j]?) h;simp[bw,D,I,Option.some.injEq] at this;exact this
variable{m:lx->la->l0}{xx:lx->la->Option (Str×lx)}
theorem zs3(V:is.Nodup):∀σ H Q,tD X.K G H0 (lf m is F) σ H Q->tLA X G H0 is F σ H λvs H1=>lSp X.K m xx vs H1 Q (EXs X σ):=λσ H Q c=>by
 obtain⟨W,env,d,env',ok,q,k⟩:=c;unfold lf at q;split at q;case isFalse=>cases q
 rename_i J;cases e1:F env with
 |none=>rw[e1] at q;cases q
 |some r =>
   rw[e1,ac] at q;cases e2:getA r.2 is with
   |none=>rw[e2] at q;cases q
   |some ags =>
     rw[e2,ac] at q;cases e3:m ags r.1 with
     |none=>rw[e3] at q;cases q
     |some z =>
       rw[e3,ac] at q;split at q;case isFalse=>cases q
       rename_i R;cases q;obtain⟨e,f⟩:=z76 R;refine⟨W,env,r.1,r.2,ok,J,e1,λW1 us ws H1 g D M i l=>?_⟩;obtain⟨N,I,n,Y,p,S⟩:=D.lend V e2;have s:I=us:=by
        apply ek;intro j;by_cases Z:j<is.length
        ·obtain⟨u,t,w⟩:=i j is[j] (by simp[Z])
         obtain⟨O,x,b⟩:=Y j is[j] (by simp[Z]);rw[w] at b;cases b;rw[t,x]
        ·rw[cg ⋯,cg ⋯]
       subst s;refine⟨_,_,_,ags,I,r.1,ws,rfl,by rw[n,zm e2],S,?_,.inl ⟨_,_,e3,λW' env' y v H' st U A B=>?_⟩⟩
       ·exact l.mono (λ_ _ h=>h) λa us o h=>⟨⟨⟨o.1,λz=>absurd z o.2⟩,λz=>o.2 (D.lentW z)⟩,h⟩
       ·obtain⟨C,E,L⟩:=D.unlend V e2 Y p (by rw[e,zm e2]) f st U A
        exact k _ v H' (g.trans E) C (L B)
theorem zqc(Y:is.Nodup):∀σ H (Q:VK),tDX X G H0 (ny xx is F) σ H->tLA X G H0 is F σ H λvs H1=>lSp X.K m xx vs H1 Q (EXs X σ):=λσ H Q e=>by
 obtain⟨W,env,d,env',ok,q,k⟩:=e;unfold ny at q;split at q;case isFalse=>cases q
 rename_i R;cases e1:F env with
 |none=>rw[e1] at q;cases q
 |some r =>
   rw[e1,ac] at q;cases e2:getA r.2 is with
   |none=>rw[e2] at q;cases q
   |some ags =>
     rw[e2,ac] at q;cases e3:xx ags r.1 with
     |none=>rw[e3] at q;cases q
     |some z =>
       rw[e3,ac] at q;split at q;case isFalse=>cases q
       rename_i S;cases q;obtain⟨f,g⟩:=z76 S;refine⟨W,env,r.1,r.2,ok,R,e1,λW1 us ws H1 i D N l n=>?_⟩;obtain⟨O,J,p,Z,s,U⟩:=D.lend Y e2;have t:J=us:=by
        apply ek;intro j;by_cases b:j<is.length
        ·obtain⟨u,v,w⟩:=l j is[j] (by simp[b])
         obtain⟨P,x,c⟩:=Z j is[j] (by simp[b]);rw[w] at c;cases c;rw[v,x]
        ·rw[cg ⋯,cg ⋯]
       subst t;refine⟨_,_,_,ags,J,r.1,ws,rfl,by rw[p,zm e2],U,?_,.inr ⟨_,_,e3,λC W' env' y H' A st V B pins H2 s2 T ea s' E I fl=>?_⟩⟩
       ·exact n.mono (λ_ _ h=>h) λa us o h=>⟨⟨⟨o.1,λz=>absurd z o.2⟩,λz=>o.2 (D.lentW z)⟩,h⟩
       ·cases E
        obtain⟨L,M,u3⟩:=D.unlend Y e2 Z s (by rw[f,zm e2]) g st V B;exact k _ H' C A (i.trans M) L pins ea s' (.inl ⟨s2,H2,I,fl⟩)
def ye(c:Cal X.prog X.w X.K X.mg X.base (CXr X.prog X.w) x k (lSp X.K m xx))(R:Room jr X.A)(S:JLA X G H0 is (e::es) F)(D:k<=jr:=by decide)(U:Gl X x:=by walk_at "g")(V:is.Nodup:=by decide)(Y:starEach (e::es) X.env=(false,eval e X.env)::starEach es X.env:=by rfl)(I:(backTo pos (starEach es X.env)).any (·.1)=false:=by rfl) :
  DEx X G H0 (.Call (.Name x p') (e::es) [] pos) (lf m is F):=let ⟨_,_,_,Z,a,b,d,J⟩:=c;⟨(zlx Z (R.mono D) U a b d S.out J Y I).imp (zs3 V)⟩
def z0y(c:Cal X.prog X.w X.K X.mg X.base (CXr X.prog X.w) x k (lSp X.K m xx))(R:Room jr X.A)(S:JLA X G H0 is (e::es) F)(D:k<=jr:=by decide)(U:Gl X x:=by walk_at "g")(V:is.Nodup:=by decide)(Y:starEach (e::es) X.env=(false,eval e X.env)::starEach es X.env:=by rfl)(I:(backTo pos (starEach es X.env)).any (·.1)=false:=by rfl) :
  JX X G H0 (.Call (.Name x p') (e::es) [] pos) (ny xx is F):=let ⟨_,_,_,Z,a,b,d,J⟩:=c;⟨(zlx Z (R.mono D) U a b d S.out J Y I).imp (zqc V)⟩
def isK(κ:AK)(e:DE0)(i:Nat):Prop:=(∃l ps,e[i]?=↑↑(.ag κ l ps))\/∃ps,e[i]?=↑↑(.ro κ ps)
instance (κ:AK) (e:DE0) (i:Nat):Decidable (isK κ e i):=Classical.propDecidable _
def fK(κ:AK)(i:Nat)(f:FE):FE:=λe=>if isK κ e i then f e else none
def xK(κ:AK)(i:Nat)(f:XF):XF:=λe=>if isK κ e i then f e else none
def isK.at{K:k6}{W:Addr->Prop}{H:Hp}{env:DE0}{σ:St}{c:Str}{fs:h7}{C:Addr}(ok:Ok K G H0 W env σ H)(h:isK (.ins false c fs) env i)(S:Cl K c C):∃p dx us,σ[i]?=↑↑(.ref p)/\H p=↑(.ins C dx (fs.zip us))/\fs.length=us.length:=by
 rcases h with⟨l,ps,e⟩ | ⟨ps,e⟩
 ·obtain⟨v,I,p,as,us,rfl,_,_,_,⟨U,dx,J,D,R⟩,_⟩:=ok.slot i _ e
  rw[Cl.inj J S] at D;exact⟨p,dx,us,I,D,R⟩
 ·obtain⟨v,I,p,us,rfl,_,⟨U,dx,J,D,R⟩,_⟩:=ok.slot i _ e
  rw[Cl.inj J S] at D;exact⟨p,dx,us,I,D,R⟩
variable{m:Str}{fs:h7}
def zum(h:m∉fs):(fs.zip us).lookup m=none:=by
 induction fs generalizing us with
 |nil=>rfl |cons f r ih =>
   cases us with
   |nil=>rfl |cons u us =>
     rw[kz,db];have:(m==f)=false:=by simp;exact λz=>h (by simp[z])
     rw[this];exact ih λz=>h (by simp[z])
variable{f:FE}
def zun(S:Cl X.K c C)(U:m∉fs)(h:∀σ H Q,tD X.K G H0 f σ H Q->tLA X G H0 [i] F σ H λvs H1=>sp vs H1 Q (EXs X σ)):∀σ H Q,tD X.K G H0 (fK (.ins false c fs) i f) σ H Q->zuk X C m sp (tVar i) (tDA X.K G H0 F) σ H Q:=λσ H Q V=>by
 obtain⟨W,env,d,env',ok,q,k⟩:=V;unfold fK at q;split at q;case isFalse=>cases q
 rename_i Y;obtain⟨p,dx,us,R,Z,_⟩:=Y.at ok S;obtain⟨a,env0,ds,D,I,_,b,g⟩:=h σ H Q ⟨W,env,d,env',ok,q,k⟩;refine⟨_,R,p,dx,_,rfl,Z,zum U,a,env0,ds,D,I,b,λW' ws H' st J r=>?_⟩;exact g W' [.ref p] ws H' st J rfl (λj l e=>by cases j with |zero=>simp at e;subst e;exact⟨_,rfl,R⟩ |succ j=>simp at e) r
def zs4(S:Cl X.K c C)(U:m∉fs){f:XF}(h:∀σ H (Q:VK),tDX X G H0 f σ H->tLA X G H0 [i] F σ H λvs H1=>sp vs H1 Q (EXs X σ)):∀σ H (Q:VK),tDX X G H0 (xK (.ins false c fs) i f) σ H->zuk X C m sp (tVar i) (tDA X.K G H0 F) σ H Q:=λσ H Q V=>by
 obtain⟨W,env,d,env',ok,q,k⟩:=V;unfold xK at q;split at q;case isFalse=>cases q
 rename_i Y;obtain⟨p,dx,us,R,Z,_⟩:=Y.at ok S;obtain⟨a,env0,ds,D,I,_,b,g⟩:=h σ H Q ⟨W,env,d,env',ok,q,k⟩;refine⟨_,R,p,dx,_,rfl,Z,zum U,a,env0,ds,D,I,b,λW' ws H' st J r=>?_⟩;exact g W' [.ref p] ws H' st J rfl (λj l e=>by cases j with |zero=>simp at e;subst e;exact⟨_,rfl,R⟩ |succ j=>simp at e) r
variable{xx:lx->la->kf}{cn:Str}{mm:lx->la->ll}
def zxz(c:MCal X.prog X.w X.K X.mg X.base cn m k (qSp X.K mm xx))(U:Room jr X.A)(V:DAx X G H0 (e::es) F)(an:Ats Nn Cn X)(D:k<=jr:=by decide)(I:Nn[i]?=↑x:=by rfl)(Y:m∉fs:=by decide +kernel)(J:starEach (e::es) X.env=(false,eval e X.env)::starEach es X.env:=by rfl)(R:(backTo pos (starEach es X.env)).any (·.1)=false:=by rfl)(Z:eval (.Call (.Attribute (.Name x p') m apos) (e::es) [] pos) X.env=(do
   let ov <-eval (.Name x p') X.env
   standAt apos.atName
   let (f,first) <-holding [ov] (getMethod ov m pl)
   callWith pos f first (backTo pos (starEach (e::es) X.env)) (backToKw pos (keywordEach [] X.env))):=by rfl) :
  DEx X G H0 (.Call (.Attribute (.Name x p') m apos) (e::es) [] pos) (fK (.ins false cn fs) i (iu mm [i] F)):=let ⟨_,_,_,_,c,S,b,d,g⟩:=c;⟨(znf ((an.a I).pe) c S b (U.mono D) d V.out J R Z).imp (zun g Y zs2)⟩
def z0z(c:MCal X.prog X.w X.K X.mg X.base cn m k (qSp X.K mm xx))(U:Room jr X.A)(V:DAx X G H0 (e::es) F)(an:Ats Nn Cn X)(D:k<=jr:=by decide)(I:Nn[i]?=↑x:=by rfl)(Y:m∉fs:=by decide +kernel)(J:starEach (e::es) X.env=(false,eval e X.env)::starEach es X.env:=by rfl)(R:(backTo pos (starEach es X.env)).any (·.1)=false:=by rfl)(Z:eval (.Call (.Attribute (.Name x p') m apos) (e::es) [] pos) X.env=(do
   let ov <-eval (.Name x p') X.env
   standAt apos.atName
   let (f,first) <-holding [ov] (getMethod ov m pl)
   callWith pos f first (backTo pos (starEach (e::es) X.env)) (backToKw pos (keywordEach [] X.env))):=by rfl) :
  JX X G H0 (.Call (.Attribute (.Name x p') m apos) (e::es) [] pos) (xK (.ins false cn fs) i (ma xx [i] F)):=let ⟨_,_,_,_,c,S,b,d,g⟩:=c;⟨(znf ((an.a I).pe) c S b (U.mono D) d V.out J R Z).imp (zs4 g Y zul)⟩
def lw(c:MCal X.prog X.w X.K X.mg X.base cn m k (qSp X.K mm xx))(S:Room jr X.A)(an:Ats Nn Cn X)(D:k<=jr:=by decide)(I:Nn[i]?=↑x:=by rfl)(U:m∉fs:=by decide +kernel)(V:eval (.Call (.Attribute (.Name x p') m apos) [] [] pos) X.env=(do
   let ov <-eval (.Name x p') X.env
   standAt apos.atName
   let (f,first) <-holding [ov] (getMethod ov m pl)
   callWith pos f first (backTo pos (starEach [] X.env)) (backToKw pos (keywordEach [] X.env))):=by rfl) :
  DEx X G H0 (.Call (.Attribute (.Name x p') m apos) [] [] pos) (fK (.ins false cn fs) i (iu mm [i] fNil)):=let ⟨_,_,_,_,c,J,Y,Z,b⟩:=c;⟨(zn2 ((an.a I).pe) c J Y (S.mono D) Z V).imp λσ H Q h=>by
   obtain⟨d,h1,h2⟩:=zun (F:=fNil) b U (zs2 (xx:=xx)) σ H Q h;obtain⟨a,dx,R,e,g,j,W,env,ds,env',ok,q,kk⟩:=h2;cases q;exact⟨d,h1,a,dx,R,e,g,j,kk W [] H Step.refl ok .nil⟩⟩
variable{xx:lx->la->Option (Str×lx)}{mm:lx->la->l0}
def yd(c:MCal X.prog X.w X.K X.mg X.base cn m k (lSp X.K mm xx))(U:Room jr X.A)(V:DAx X G H0 (e::es) F)(an:Ats Nn Cn X)(D:k<=jr:=by decide)(I:Nn[i]?=↑x:=by rfl)(Y:m∉fs:=by decide +kernel)(J:starEach (e::es) X.env=(false,eval e X.env)::starEach es X.env:=by rfl)(R:(backTo pos (starEach es X.env)).any (·.1)=false:=by rfl)(Z:eval (.Call (.Attribute (.Name x p') m apos) (e::es) [] pos) X.env=(do
   let ov <-eval (.Name x p') X.env
   standAt apos.atName
   let (f,first) <-holding [ov] (getMethod ov m pl)
   callWith pos f first (backTo pos (starEach (e::es) X.env)) (backToKw pos (keywordEach [] X.env))):=by rfl) :
  DEx X G H0 (.Call (.Attribute (.Name x p') m apos) (e::es) [] pos) (fK (.ins false cn fs) i (lf mm [i] F)):=let ⟨_,_,_,_,c,S,b,d,g⟩:=c;⟨(znf ((an.a I).pe) c S b (U.mono D) d V.out J R Z).imp (zun g Y (zs3 (by simp)))⟩
def zqd(c:MCal X.prog X.w X.K X.mg X.base cn m k (lSp X.K mm xx))(U:Room jr X.A)(V:DAx X G H0 (e::es) F)(an:Ats Nn Cn X)(D:k<=jr:=by decide)(I:Nn[i]?=↑x:=by rfl)(Y:m∉fs:=by decide +kernel)(J:starEach (e::es) X.env=(false,eval e X.env)::starEach es X.env:=by rfl)(R:(backTo pos (starEach es X.env)).any (·.1)=false:=by rfl)(Z:eval (.Call (.Attribute (.Name x p') m apos) (e::es) [] pos) X.env=(do
   let ov <-eval (.Name x p') X.env
   standAt apos.atName
   let (f,first) <-holding [ov] (getMethod ov m pl)
   callWith pos f first (backTo pos (starEach (e::es) X.env)) (backToKw pos (keywordEach [] X.env))):=by rfl) :
  JX X G H0 (.Call (.Attribute (.Name x p') m apos) (e::es) [] pos) (xK (.ins false cn fs) i (ny xx [i] F)):=let ⟨_,_,_,_,c,S,b,d,g⟩:=c;⟨(znf ((an.a I).pe) c S b (U.mono D) d V.out J R Z).imp (zs4 g Y (zqc (by simp)))⟩
def zpb(c:MCal X.prog X.w X.K X.mg X.base cn m k (lSp X.K mm xx))(S:Room jr X.A)(an:Ats Nn Cn X)(D:k<=jr:=by decide)(I:Nn[i]?=↑x:=by rfl)(U:m∉fs:=by decide +kernel)(V:eval (.Call (.Attribute (.Name x p') m apos) [] [] pos) X.env=(do
   let ov <-eval (.Name x p') X.env
   standAt apos.atName
   let (f,first) <-holding [ov] (getMethod ov m pl)
   callWith pos f first (backTo pos (starEach [] X.env)) (backToKw pos (keywordEach [] X.env))):=by rfl) :
  DEx X G H0 (.Call (.Attribute (.Name x p') m apos) [] [] pos) (fK (.ins false cn fs) i (lf mm [i] fNil)):=let ⟨_,_,_,_,c,J,Y,Z,b⟩:=c;⟨(zn2 ((an.a I).pe) c J Y (S.mono D) Z V).imp λσ H Q h=>by
   obtain⟨d,h1,h2⟩:=zun (F:=fNil) b U (zs3 (xx:=xx) (by simp)) σ H Q h;obtain⟨a,dx,R,e,g,j,W,env,ds,env',ok,q,kk⟩:=h2;cases q;exact⟨d,h1,a,dx,R,e,g,j,kk W [] H Step.refl ok .nil⟩⟩
def zry(c:MCal X.prog X.w X.K X.mg X.base cn m k (lSp X.K mm xx))(S:Room jr X.A)(an:Ats Nn Cn X)(D:k<=jr:=by decide)(I:Nn[i]?=↑x:=by rfl)(U:m∉fs:=by decide +kernel)(V:eval (.Call (.Attribute (.Name x p') m apos) [] [] pos) X.env=(do
   let ov <-eval (.Name x p') X.env
   standAt apos.atName
   let (f,first) <-holding [ov] (getMethod ov m pl)
   callWith pos f first (backTo pos (starEach [] X.env)) (backToKw pos (keywordEach [] X.env))):=by rfl) :
  JX X G H0 (.Call (.Attribute (.Name x p') m apos) [] [] pos) (xK (.ins false cn fs) i (ny xx [i] fNil)):=let ⟨_,_,_,_,c,J,Y,Z,b⟩:=c;⟨(zn2 ((an.a I).pe) c J Y (S.mono D) Z V).imp λσ H Q h=>by
   obtain⟨d,h1,h2⟩:=zs4 (F:=fNil) b U (zqc (m:=mm) (by simp)) σ H Q h;obtain⟨a,dx,R,e,g,j,W,env,ds,env',ok,q,kk⟩:=h2;cases q;exact⟨d,h1,a,dx,R,e,g,j,kk W [] H Step.refl ok .nil⟩⟩
variable{z:Int}
def uu(D:∃t,X.mg x=↑(.int z t))(I:Gl X x:=by walk_at "g")(hd:(x==("__debug__" : Str))=false:=by decide +kernel):DEx X G H0 (.Name x pos) (fC (.int z)):=by
 obtain⟨t,D⟩:=D;exact de_c (zwh I D (v:=.int z) ⟨t,rfl⟩ hd) λ_ _=>.int _
abbrev FV:=DE0->Option DE0
def tV(X:Cx)(G:Gd)(H0:Hp)(v:FV):TE:=λσ H Q=>∃W env env',Ok X.K G H0 W env σ H/\v env=↑env'/\∀W' z H',Step W H W' H'->Ok X.K G H0 W' env' σ H'->Q (.str z) H'
structure JV (X:Cx) (G:Gd) (H0:Hp) (e:Expr) (v:FV):Prop where
 out:PE X e (tV X G H0 v)
variable{j:Nat}
def zrz{z:Str}:JV X G H0 (.Constant (.str z) j pos) some:=⟨z11.imp λσ H Q ⟨W,env,env',ok,q,k⟩=>by cases q;exact k W z H Step.refl ok⟩
structure JVP (X:Cx) (G:Gd) (H0:Hp) (e:Expr) (v:FV):Prop where
 out:∀(pins:k7) (s:Shared) (σ:St) (H:Hp) (Q:Nat->Hp->Prop),Inv X pins σ H s->(∃W env env',Ok X.K G H0 W env σ H/\v env=↑env'/\∀n W' H',n<=1000->Step W H W' H'->Ok X.K G H0 W' env' σ H'->Q n H') ->
  wpAny (model X.prog X.w) X.A (eval e X.env) (λu s'=>∃z t H',u=.str z t/\Inv X pins σ H' s'/\Q z.length H') X.xe s
def ww{z:Str}(D:z.length<=1000:=by decide):JVP X G H0 (.Constant (.str z) j pos) some:=⟨λpins s σ H Q I J=>by
 obtain⟨W,env,env',ok,q,k⟩:=J;cases q;exact Calls.Constant_str ⟨z,_,H,rfl,I.tok _,k _ W H D Step.refl ok⟩⟩
def vInt(f:FE):FV:=λe=>(f e).bind λr=>match r.1 with | .int z=>if z.natAbs<1000000 then ↑r.2 else none |_=>none
theorem zi(h:DEx X G H0 a f):JVP X G H0 (.FormattedValue a (-1) none pos) (vInt f):=⟨λpins s σ H Q I J=>by
 obtain⟨W,env,env',ok,q,k⟩:=J;unfold vInt at q;cases e1:f env with
 |none=>rw[e1] at q;cases q
 |some r =>
   rw[e1,ac] at q;split at q;case h_2=>cases q
   rename_i z Z;split at q;case isFalse=>cases q
   rename_i S;cases q;refine FormattedValue_plain (thn (h.out pins s σ H (λv H1=>v=.int z/\∀n,n<=1000->Q n H1) I ⟨W,env,r.1,r.2,ok,e1,λW1 v H1 U R V=>⟨by rw[Z] at V;exact V.int_,λn b=>k n W1 H1 b U R⟩⟩) λu U J=>?_);obtain⟨v,H1,c,d,e,g⟩:=J;subst e;obtain⟨t,rfl⟩:=d;have D:z.natAbs.log2<1920:=by
    by_cases Y:z.natAbs=0
    ·rw[Y];decide
    ·exact(Nat.log2_lt Y).mpr (bq S (cr (by decide:(1000000:Nat)<=2 ^ 20) (Nat.pow_le_pow_right (by decide) (by decide))))
   refine formatField_int_small D ⟨_,_,H1,rfl,(c.tok _).tok _,g _ ?_⟩;have:(toString z).length<=6+1:=int_text_length_le10 (by decide) S;rw[PySem.ofString_length]
   lia⟩
structure JVs (X:Cx) (G:Gd) (H0:Hp) (es:kb) (v:FV):Prop where
 out:∀(acc:Str) (pins:k7) (s:Shared) (σ:St) (H:Hp) (Q:VK),acc.length+1000*es.length<=100000->Inv X pins σ H s->tV X G H0 v σ H Q ->
  wpAny (model X.prog X.w) X.A (joinParts acc (evalEach es X.env)) (EP X pins σ Q) X.xe s
theorem zh  : JVs X G H0 [] some:=⟨λD pins s σ H Q R I J=>by
 obtain⟨W,env,env',ok,q,k⟩:=J;cases q;exact joinParts_nil ⟨.str D,H,I.tok _,⟨_,rfl⟩,k W D H Step.refl ok⟩ (by rw[sizeLine_eq];lia)⟩
variable{v:FV}
theorem qw{w:FV}(h:JVP X G H0 e v)(t:JVs X G H0 es w)(b:evalEach (e::es) X.env=eval e X.env::evalEach es X.env:=by rfl):JVs X G H0 (e::es) (λz=>(v z).bind w):=⟨λV pins s σ H Q Y I D=>by
 obtain⟨W,env,env',ok,q,k⟩:=D;cases e1:v env with
 |none=>simp only[e1] at q;cases q
 |some env1 =>
   have q:w env1=↑env':=by simpa only[e1,ac] using q
   rw[am] at Y;refine joinParts_cons (thn (h.out pins s σ H (λn H1=>n<=1000/\tV X G H0 w σ H1 Q) I ⟨W,env,env1,ok,e1,λn W1 H1 U J R=>⟨U,W1,env1,env',R,q,λW' z H' s2 S=>k W' z H' (J.trans s2) S⟩⟩) λu J D=>?_);obtain⟨z,tk,H1,Z,a,U,tv⟩:=D;subst Z;exact⟨by rw[strLen_append,sizeLine_eq];lia,t.out _ pins J σ H1 Q (by rw[strLen_append];lia) a tv⟩⟩
theorem zg{e':Expr}(h:JVs X G H0 (e::e'::es) v)(D:1000*(e::e'::es).length<=100000:=by decide):JV X G H0 (.JoinedStr (e::e'::es) pos) v :=
 ⟨λpins s σ H Q I t=>JoinedStr_many (h.out Str.empty pins s σ H Q (by show 0+_<=_;lia) I t)⟩
abbrev VEs:h8:=[.type "ValueError",.type "Exception",.type "BaseException",.type "object"]
def XC(K:k6)(C:Addr):Prop:=PySem.W.excIn K C VEs "ValueError.__new__" = true
def Exc(K:k6)(mg:Str->ia)(c:Str):Prop:=∃C,Cl K c C/\XC K C/\mg c=↑(.ref C)/\(c==("__debug__" : Str))=false
def XC.obj{h:Heap}(I:XC K C)(D:K.In h):∃bm N nm q bs hdct sn sub ab col dd k0 k1 k2 k3 k5 mN,h.get? C=↑(excClassObj nm q C N bs bm hdct sn sub ab col dd k0 k1 k2 k3 k5 "ValueError.__new__")/\h.Ns N mN/\mN "__init__" = none/\OwnTail h VEs bm:=by
 unfold XC PySem.W.excIn at I;split at I;case h_2=>cases I
 rename_i dd cd sl R;split at I;case h_2=>cases I
 rename_i i bm k0 k1 k2 k3 n k5 S U;simp only[eh,beq_iff_eq,lj] at I;obtain⟨⟨⟨⟨⟨V,Y⟩,Z⟩,a⟩,J⟩,b⟩:=I;subst V;subst Y;have c:=D _ _ R;obtain⟨nm,bs,d,e,f,hd,sn,sub,ab,col,g⟩:=cd;obtain⟨l⟩:=sl;subst S;subst Z;subst U;exact⟨bm,e,nm,f,bs,hd,sn,sub,ab,col,dd,k0,k1,k2,k3,k5,_,c,.of_isNs (isNs_of_in D J),nsMap_none_of_in D J b,tail_of_in D a⟩
def lz(c:Str)(v:FV):FS:=λe=>(v e).map λe'=>(.xc c,e')
def uc{h cpos:Pos}(i:Exc X.K X.mg c)(j:JV X G H0 a v)(l:X.calm=true:=by rfl)(n:Gl X c:=by walk_at "g")(S:starEach [a] X.env=(false,eval a X.env)::starEach [] X.env:=by rfl)(U:(backTo cpos (starEach [a] X.env)).any (·.1)=false:=by rfl) :
  DSx X G H0 (.Raise ↑(.Call (.Name c h) [a] [] cpos) none pos) (lz c v):=let ⟨C,o,p,r,V⟩:=i;⟨λpins s σ H D I Y=>by
 obtain⟨W,env,fl,env',ok,q,k⟩:=Y;unfold lz at q;cases e1:v env with
 |none=>rw[e1] at q;cases q
 |some env1 =>
   rw[e1] at q;cases q;obtain⟨tl,N,nm,q,bs,hdct,sn,sub,ab,col,dd,k0,k1,k2,k3,k5,mN,t,u,w,f⟩:=p.obj I.ok.mod.kin;refine wpAny_Raise_call_subT (C:=C) (nm:=nm) (q:=q) (N:=N) (bs:=bs) (bm:=tl) (hdct:=hdct) (sn:=sn) (sub:=sub) (ab:=ab) (col:=col) (dd:=dd) (k0:=k0) (k1:=k1) (k2:=k2) (k3:=k3) (k5:=k5) xk (mN:=mN)
    (f.hasType xk.hasBase) (I.ok.hd l) U w (ya I n r ⟨rfl,?_⟩ V)
   rw[S];refine Calls.evalArgs_plain ?_;have g:=(n4 j.out qu S) cpos pins s σ H (λvs H1=>vs.length=1/\∃W1,Step W H W1 H1/\Ok X.K G H0 W1 env' σ H1) I ⟨W,env,env',ok,e1,λW1 z H1 Z J=>⟨rfl,W1,Z,J⟩⟩;rw[S] at g;refine thn g λus Z Y=>?_;obtain⟨vs,H1,R,x,y,W1,b,J⟩:=Y;have d:us.length<=sizeLine:=by rw[<-x.length,y];decide
   exact⟨rfl,d,R.bk _ _ t,u.keeps R.bk,f.keeps R.bk,λh' e m=>k W1 σ H1 C o b J pins e _ (.inr ⟨Z,us,R,m,rfl⟩)⟩⟩
def agAt(e:DE0)(i:Nat):Option Ag:=match e[i]? with |some ↑(.ag k _ ps)=>↑(k,ps) |some ↑(.ro k ps)=>↑(k,ps) |_=>none
def tf:ln->Nat->Nat
 | .o _::r,j+1=>tf r j+1 | .d _::r,j+1=>tf r j |_,_=>0
inductive Acc where
 |at (κ:AK) |al (x:Nat)
def Acc.ok:Acc->DE0->Nat->Nat->Prop
 | .at κ,e,i,_=>isK κ e i
 | .al x,e,i,j=>∃k r ps,e[i]?=↑↑(.ag k ↑r ps)/\e[x]?=↑↑(.al r (tf ps j))
instance (A:Acc) (e:DE0) (i j:Nat):Decidable (A.ok e i j):=Classical.propDecidable _
def lv(A:Acc)(i j:Nat)(e:DE0):Option la:=if A.ok e i j then(agAt e i).bind λx=>match x.2[j]? with |some (.o ds)=>↑ds |_=>none else none
def PartAt(K:k6)(H:Hp)(env:DE0)(σ:St)(i j:Nat)(a:Addr):Prop:=∃k ps p us,agAt env i=↑(k,ps)/\σ[i]?=↑↑(.ref p)/\AkOk K H k p us/\us[j]?=↑(.ref a)
def tPt(X:Cx)(G:Gd)(H0:Hp)(A:Acc)(i j:Nat):TE:=λσ H Q=>∃W env ds,Ok X.K G H0 W env σ H/\lv A i j env=↑ds /\
 ∀a vs,PartAt X.K H env σ i j a->H a=↑(.lst vs)->Reps X.K H (Ow G W) ds vs->Q (.ref a) H
structure JPt (X:Cx) (G:Gd) (H0:Hp) (e:Expr) (A:Acc) (i j:Nat):Prop where
 out:PE X e (tPt X G H0 A i j)
protected def PtsOk.ix{W:Addr->Prop}(h:PtsOk K G W H ps as us)(e:ps[j]?=↑(.o ds)):∃a,us[j]?=↑(.ref a)/\as[tf ps j]?=↑a:=by
 induction h generalizing j with
 |nil=>simp at e |d _ _ ih =>
   cases j with
   |zero=>simp at e |succ j=>obtain⟨a,h1,h2⟩:=ih (j:=j) (by simpa using e);exact⟨a,by simpa using h1,h2⟩
 | @o _ a _ _ _ _ _ _ _ _ ih =>
   cases j with
   |zero=>exact⟨a,rfl,rfl⟩ |succ j=>obtain⟨b,h1,h2⟩:=ih (j:=j) (by simpa using e);exact⟨b,by simpa using h1,by simpa[tf] using h2⟩
section
variable {K:k6} {G:Gd} {W:Addr->Prop} {H0 H:Hp} {env:DE0} {σ:St}
def Ok.part(ok:Ok K G H0 W env σ H){i j:Nat}{k:AK}{ps:ln}{ds:la}(e:agAt env i=↑(k,ps))(U:ps[j]?=↑(.o ds)):∃p us a vs,σ[i]?=↑↑(.ref p)/\AkOk K H k p us/\us[j]?=↑(.ref a)/\H a=↑(.lst vs)/\Reps K H (Ow G W) ds vs:=by
 unfold agAt at e;split at e
 ·rename_i k' l ps' q
  cases e;obtain⟨v,I,p,as,us,rfl,_,_,_,J,R⟩:=ok.slot i _ q;obtain⟨a,vs,h1,_,_,h2,S⟩:=R.get U;exact⟨p,us,a,vs,I,J,h1,h2,S⟩
 ·rename_i k' ps' q
  cases e;obtain⟨v,I,p,us,rfl,_,J,R⟩:=ok.slot i _ q;obtain⟨a,vs,h1,_,h2,S⟩:=R.get U;exact⟨p,us,a,vs,I,J,h1,h2,S⟩
 ·cases e
def zly{A:Acc}{i j:Nat}{ds:la}(h:lv A i j env=↑ds):A.ok env i j/\∃k ps,agAt env i=↑(k,ps)/\ps[j]?=↑(.o ds):=by
 unfold lv at h;split at h;case isFalse=>cases h
 rename_i I;cases e:agAt env i with
 |none=>rw[e] at h;cases h
 |some x =>
   rw[e,ac] at h;split at h
   ·rename_i J q;cases h;exact⟨I,x.1,x.2,rfl,q⟩
   ·cases h
def PartAt.inj{i j:Nat}{a b:Addr}(h:PartAt K H env σ i j a)(h':PartAt K H env σ i j b):a=b:=by
 obtain⟨k,ps,p,us,h1,h2,S,U⟩:=h;obtain⟨k',ps',p',V,I,J,R,D⟩:=h';rw[h1] at I;cases I;rw[h2] at J;cases J;rw[xw S R.o] at D;rw[U] at D;cases D;rfl
def zqe{fs:h7}{us:k9}{j:Nat}{f:Str}{u:V}(D:fs.Nodup)(h1:fs[j]?=↑f)(h2:us[j]?=↑u):(fs.zip us).lookup f=↑u:=by
 induction fs generalizing us j with
 |nil=>simp at h1 |cons g r ih =>
   cases us with
   |nil=>simp at h2 |cons w us =>
     rw[kz,db];cases j with
     |zero=>simp at h1 h2;subst h1;subst h2;simp |succ j =>
       have I:(f==g)=false:=by simp;exact λz=>(b9.mp D).1 (z ▸ az h1)
       rw[I];exact ih (b9.mp D).2 h1 (by simpa using h2)
end
def xb(c:Atr X.K cn m)(an:Ats Nn Cn X)(I:Nn[i]?=↑x:=by rfl)(S:fs[j]?=↑m:=by rfl)(U:fs.Nodup:=by decide +kernel)(V:attributeBase (.Name x p') m X.env (eval (.Name x p') X.env)=eval (.Name x p') X.env:=by rfl):JPt X G H0 (.Attribute (.Name x p') m pos) (.at (.ins false cn fs)) i j:=let ⟨C,c,Y,Z⟩:=c;⟨(z16 ((an.a I).pe) V).imp λσ H Q b=>by
  obtain⟨W,env,ds,ok,q,k⟩:=b;obtain⟨d,κ,ps,D,e⟩:=zly q;obtain⟨p,us,a,vs,h1,h2,J,f,g⟩:=ok.part D e;have h:κ=.ins false cn fs:=by
   rcases d with⟨l,ps',z⟩ | ⟨ps',z⟩ <;> (unfold agAt at D;rw[z] at D;cases D;rfl)
  subst h;obtain⟨o,dx,n,R,r⟩:=id h2;rw[Cl.inj n Z] at R;exact⟨_,h1,p,C,dx,_,_,rfl,R,c,Y,zqe U S J,k a vs ⟨_,ps,p,us,D,h1,h2,J⟩ f g⟩⟩
variable{jj:Nat}{p1:Pos}
def z4i(an:Ats Nn Cn X)(I:Nn[i]?=↑x:=by rfl)(R:vn (.Constant (.int (j:Int)) jj p1):=by intro _ _;rfl):JPt X G H0 (.Subscript (.Name x p') (.Constant (.int (j:Int)) jj p1) pos) (.at .ls) i j :=
 ⟨(xq znv ((an.a I).pe) y8 R).imp λσ H Q S=>by
  obtain⟨W,env,ds,ok,q,k⟩:=S;obtain⟨U,κ,ps,D,V⟩:=zly q;obtain⟨p,us,a,vs,h1,h2,J,Y,Z⟩:=ok.part D V;have b:κ=.ls:=by
   rcases U with⟨l,ps',z⟩ | ⟨ps',z⟩ <;> (unfold agAt at D;rw[z] at D;cases D;rfl)
  subst b;exact⟨_,h1,p,us,j,_,rfl,rfl,.inl (.inl h2),zst J,k a vs ⟨_,ps,p,us,D,h1,h2,J⟩ Y Z⟩⟩
def zr0{ix:Nat}(an:Ats Nn Cn X)(S:Nn[ix]?=↑x:=by rfl):JPt X G H0 (.Name x pos) (.al ix) i j :=
 ⟨((an.a S).pe).imp λσ H Q g=>by
  obtain⟨W,env,ds,ok,q,k⟩:=g;obtain⟨⟨κ',r,ps',U,h⟩,κ,ps,V,Y⟩:=zly q;have J:agAt env i=↑(κ',ps'):=by unfold agAt;rw[U]
  rw[J] at V;cases V;obtain⟨v,l,p,as,us,rfl,_,_,m,n,Z⟩:=ok.slot i _ U;obtain⟨u,o,s,b,d,I,R,rfl⟩:=ok.slot ix _ h;obtain⟨a,vs,h1,_,_,h2,t⟩:=Z.get Y;obtain⟨w,e,f⟩:=Z.ix Y;rw[h1] at e;cases e;have D:=m r rfl;have:d=a:=by
   cases κ' with
   |ls=>have D:G.r r=p::as:=D;rw[D] at I;cases I;rw[f] at R;cases R;rfl
   |ins bb c fs =>
     cases bb with
     |true=>have D:G.r r=[p]:=D;rw[D] at I;cases I;simp at R
     |false=>have D:G.r r=p::as:=D;rw[D] at I;cases I;rw[f] at R;cases R;rfl
  subst this;exact⟨_,o,k d vs ⟨_,ps',p,us,J,l,n,h1⟩ h2 t⟩⟩
def pLen(A:Acc)(i j:Nat):FE:=λe=>(lv A i j e).map λds=>(.int ds.length,e)
variable{A:Acc}
def zqf(h:JPt X G H0 e A i j)(D:Bn X "len":=by walk_at "b")(I:starEach [e] X.env=(false,eval e X.env)::starEach [] X.env:=by rfl):DEx X G H0 (.Call (.Name "len" p') [e] [] pos) (pLen A i j) :=
 ⟨(zo zjp D.g D.m xj (n4 h.out qu I) (by decide) (by decide) I rfl).imp λσ H Q J=>by
  obtain⟨W,env,d,env',ok,q,k⟩:=J;unfold pLen at q;cases e1:lv A i j env with
  |none=>rw[e1] at q;cases q
  |some ds =>
    rw[e1] at q;cases q;exact⟨W,env,ds,ok,e1,λa vs _ R r=>⟨a,vs,rfl,.inl (.inl (.inl R)),by rw[<-r.length];exact k W _ H Step.refl ok (.int _)⟩⟩⟩
def z00(A:Acc)(i j:Nat):FA:=λe=>(lv A i j e).map λds=>(ds,e)
def zx0(h:JPt X G H0 e A i j)(J:Bn X "list":=by walk_at "b")(R:starEach [e] X.env=(false,eval e X.env)::starEach [] X.env:=by rfl):DFx X G H0 (.Call (.Name "list" p') [e] [] pos) (z00 A i j) :=
 ⟨(znt zmu J.g J.m zo8 (n4 h.out qu R) (by decide) (by decide) R rfl).imp λσ H Q S=>by
  obtain⟨W,env,I,env',ok,q,k⟩:=S;unfold z00 at q;cases e1:lv A i j env with
  |none=>rw[e1] at q;cases q
  |some ds =>
    rw[e1] at q;cases q;refine⟨W,env,_,ok,e1,λa vs _ U r=>⟨a,vs,rfl,.inl (.inl (.inl U)),λl D=>?_⟩⟩;obtain⟨V,d,Y,Z,c⟩:=ok.fresh (H':=upd H l (.lst vs)) (ds:=I) (om D) D kx ((r.mono (λ_ _ h=>h) λb us o h=>⟨⟨.inl o,λz=>by subst z;rcases h with h | ⟨_,h⟩ <;> rw[D] at h <;> cases h⟩,h⟩).mono (λb u h=>om D b _ h) λb us o h=>⟨o,h.keep λo q=>om D b _ q⟩);exact k W l vs _ c (ok.same (om D)) Y V kx Z⟩
structure JK (X:Cx) (e:Expr) (z:Int):Prop where
 out:PE X e (tC (.int z))
def z2k:JK X (.Constant (.int z) jj pos) z:=⟨y8⟩
def z2l(h:JK X e z):JK X (.UnaryOp .USub e pos) (-z):=⟨(z6b z14 h.out).imp λσ H Q q=>⟨z,rfl,q⟩⟩
def pIx(A:Acc)(i j:Nat)(z:Int):FE:=λe=>(lv A i j e).bind λds=>(atI ds z).map λd=>(d,e)
def zx1(h:JPt X G H0 e A i j)(D:JK X b z)(I:vn b:=by intro _ _;rfl):DEx X G H0 (.Subscript e b pos) (pIx A i j z) :=
 ⟨(xq znv h.out D.out I).imp λσ H Q J=>by
  obtain⟨W,env,d,env',ok,q,k⟩:=J;unfold pIx at q;cases e1:lv A i j env with
  |none=>rw[e1] at q;cases q
  |some ds =>
    rw[e1,ac] at q;cases e2:atI ds z with
    |none=>rw[e2] at q;cases q
    |some d' =>
      rw[e2] at q;cases q;refine⟨W,env,ds,ok,e1,λa vs _ R r=>?_⟩;obtain⟨v,S,U⟩:=zk r e2;exact⟨a,vs,z,v,rfl,rfl,.inl (.inl R),S,k W v H Step.refl ok U⟩⟩
def setP(e:DE0)(i j:Nat)(ds:la):DE0:=match e[i]? with |some ↑(.ag k l ps)=>e.set i ↑(.ag k l (ps.set j (.o ds))) |_=>e
def Ok.setP{K:k6}{W:Addr->Prop}{H:Hp}{env:DE0}{σ:St}{k:AK}{l:Option Nat}{ps:ln}{ds J:la}{a:Addr}{I:k9}(ok:Ok K G H0 W env σ H)(e:env[i]?=↑↑(.ag k l ps))(R:ps[j]?=↑(.o ds))(S:PartAt K H env σ i j a)(r:Reps K H (Ow G W) J I) :
  Ok K G H0 W (L2.setP env i j J) σ (upd H a (.lst I))/\Step W H W (upd H a (.lst I)):=by
 obtain⟨k',ps',p,us,h1,h2,U,Y⟩:=S;have:agAt env i=↑(k,ps):=by unfold agAt;rw[e]
 rw[this] at h1;cases h1;unfold L2.setP;rw[e];exact ok.turnP e h2 U R Y r
def pPop(A:Acc)(i j:Nat):FE:=λe=>match e[i]? with
 |some ↑(.ag _ _ _)=>(lv A i j e).bind λds=>(ds[ds.length-1]?).map λd=>(d,setP e i j ds.dropLast)
 |_=>none
def zng(h:JPt X G H0 e A i j)(D:attributeBase e "pop" X.env (eval e X.env)=eval e X.env:=by rfl)(I:(p1.endLine==pos.line)=true:=by rfl) :
  DEx X G H0 (.Call (.Attribute e "pop" p1) [] [] pos) (pPop A i j):=⟨(z19 fu m6 mz z2a h.out D I).imp λσ H Q V=>by
 obtain⟨W,env,d,env',ok,q,k⟩:=V;unfold pPop at q;split at q;case h_2=>cases q
 rename_i kk l Y J;cases e1:lv A i j env with
 |none=>rw[e1] at q;cases q
 |some ds =>
   rw[e1,ac] at q;cases e2:ds[ds.length-1]? with
   |none=>rw[e2] at q;cases q
   |some d' =>
     rw[e2] at q;cases q;obtain⟨_,κ,ps,R,Z⟩:=zly e1;have:agAt env i=↑(kk,Y):=by unfold agAt;rw[J]
     rw[this] at R;cases R;refine⟨W,env,ds,ok,e1,λa vs b S r=>⟨.inl ⟨rfl,_,.inl (.inl S)⟩,?_⟩⟩;obtain⟨u,c,f⟩:=r.get e2;obtain⟨g,U⟩:=ok.setP J Z b r.dropLast;exact⟨a,vs,u,rfl,rfl,S,by rw[<-r.length];exact c,k W _ _ U g (ok.rep U f)⟩⟩
def labO(k:AK)(l:Option Nat):Prop:=l.isSome=true/\∀c fs,k≠.ins true c fs
instance (k:AK) (l:Option Nat):Decidable (labO k l):=Classical.propDecidable _
variable{env:DE0}
def z01{W W1:Addr->Prop}{H1:Hp}{J:DE0}{k:AK}{l:Option Nat}{R:ln}{Z:la}{a:Addr}(u:labO k l)(ok:Ok K G H0 W env σ H)(d:Ok K G H0 W1 J σ H1)(e:env[i]?=↑↑(.ag k l ps))(w:J[i]?=↑↑(.ag k l R))(x:ps[j]?=↑(.o ds))(f:R[j]?=↑(.o Z))(y:tf R j=tf ps j)(z:PartAt K H env σ i j a):PartAt K H1 J σ i j a:=by
 obtain⟨r,rfl⟩:=lu.mp u.1;obtain⟨v,g,p,as,us,rfl,_,_,h1,A,B⟩:=ok.slot i _ e;obtain⟨L,V,p',S,h,rfl,_,_,m,n,q⟩:=d.slot i _ w;rw[g] at V;cases V;have U:=h1 r rfl;have I:=m r rfl;obtain⟨b,C,E⟩:=B.ix x;obtain⟨M,s,Y⟩:=q.ix f;have F:PartAt K H env σ i j b:=⟨k,ps,p,us,by unfold agAt;rw[e],g,A,C⟩;have ab:=z.inj F;subst ab;have t:S=as:=by
  cases k with
  |ls=>have U:G.r r=p::as:=U;have I:G.r r=p::S:=I;rw[U] at I;cases I;rfl
  |ins bb c fs =>
    cases bb with
    |true=>exact absurd rfl (u.2 c fs) |false=>have U:G.r r=p::as:=U;have I:G.r r=p::S:=I;rw[U] at I;cases I;rfl
 subst t;rw[y,E] at Y;cases Y;exact⟨k,R,p,h,by unfold agAt;rw[w],g,n,s⟩
instance (k k':AK):Decidable (k=k'):=Classical.propDecidable _
def appP(i j:Nat)(k0:AK)(I:Option Nat)(n:Nat)(d:D)(e:DE0):Option (D×DE0):=match e[i]? with
 |some ↑(.ag k l ps)=>(match ps[j]? with |some (.o ds)=>if k=k0/\l=I/\tf ps j=n/\Few (ds.length+1) then ↑(.non,setP e i j (ds++[d])) else none |_=>none)
 |_=>none
def ut(A:Acc)(i j:Nat)(f:FE):FE:=λe=>match e[i]? with
 |some ↑(.ag k l ps)=>if labO k l then(lv A i j e).bind λ_=>(f e).bind λr=>appP i j k l (tf ps j) r.1 r.2 else none
 |_=>none
def zim(h:JPt X G H0 e A i j)(n:DEx X G H0 a f)(I:attributeBase e "append" X.env (eval e X.env)=eval e X.env:=by rfl)(U:((backTo pos (starEach [a] X.env)).all (λx=>!x.1) && (backToKw pos (keywordEach [] X.env)).all (λx=>x.1.isSome)
   && decide ([a].length+([]:List Keyword).length+(if ([]:List Keyword).isEmpty then 0 else 1)<30))=true:=by rfl)(J:(p1.endLine==pos.line)=true:=by rfl)(c:starEach [a] X.env=(false,eval a X.env)::starEach [] X.env:=by rfl) :
  DEx X G H0 (.Call (.Attribute e "append" p1) [a] [] pos) (ut A i j f):=⟨(zw2 fu PySem.F.slot_list_append PySem.F.type_list_append zrg h.out (n4 n.out qu c) I U J c rfl).imp λσ H Q o=>by
 obtain⟨W,env,d,env',ok,q,k⟩:=o;unfold ut at q;split at q;case h_2=>cases q
 rename_i kk T s g;split at q;case isFalse=>cases q
 rename_i V;cases e1:lv A i j env with
 |none=>rw[e1] at q;cases q
 |some ds =>
   rw[e1,ac] at q;cases e2:f env with
   |none=>rw[e2] at q;cases q
   |some r =>
     rw[e2,ac] at q;unfold appP at q;split at q;case h_2=>cases q
     rename_i k1 l1 t D;split at q;case h_2=>cases q
     rename_i u R;split at q;case isFalse=>cases q
     rename_i v;obtain⟨rfl,rfl,w,Z⟩:=v;cases q;obtain⟨_,κ,ps,l,y⟩:=zly e1;have:agAt env i=↑(k1,s):=by unfold agAt;rw[g]
     rw[this] at l;cases l;refine⟨W,env,ds,ok,e1,λad vs z B rr=>⟨.inl ⟨rfl,_,.inl (.inl B)⟩,W,env,r.1,r.2,ok,e2,λW1 v1 H1 C S E=>?_⟩⟩;have Y:=z01 V ok S g D y R w z;obtain⟨p,us,a1,b,K,L,M,N,m⟩:=S.part (i:=i) (by unfold agAt;rw[D]) R;have:=Y.inj ⟨_,_,p,us,by unfold agAt;rw[D],K,L,M⟩;subst this;obtain⟨O,P⟩:=S.setP D R Y (m.append (.cons E .nil));exact⟨ad,b,v1,rfl,rfl,N,by rw[<-m.length];exact lt20 (qz Z),k W1 _ _ (C.trans P) O .non⟩⟩
def fDat(i j:Nat):FE:=λe=>match e[i]? with
 |some ↑(.ag .ls _ ps)=>(match ps[j]? with |some (.d d)=>↑(d,e) |_=>none)
 |some ↑(.ro .ls ps)=>(match ps[j]? with |some (.d d)=>↑(d,e) |_=>none)
 |_=>none
def zs5(an:Ats Nn Cn X)(D:Nn[i]?=↑x:=by rfl)(U:vn (.Constant (.int (j:Int)) jj p1):=by intro _ _;rfl):DEx X G H0 (.Subscript (.Name x p') (.Constant (.int (j:Int)) jj p1) pos) (fDat i j) :=
 ⟨(xq znv ((an.a D).pe) y8 U).imp λσ H Q V=>by
  obtain⟨W,env,d,env',ok,q,k⟩:=V;unfold fDat at q;split at q
  ·rename_i l ps I
   split at q;case h_2=>cases q
   rename_i d' hd;cases q;obtain⟨v,J,p,as,us,rfl,_,_,_,R,S⟩:=ok.slot i _ I;obtain⟨u,h1,h2⟩:=S.getD hd;exact⟨_,J,p,us,j,_,rfl,rfl,.inl (.inl R),zst h1,k W u H Step.refl ok h2⟩
  ·rename_i ps I
   split at q;case h_2=>cases q
   rename_i d' hd;cases q;obtain⟨v,J,p,us,rfl,_,R,S⟩:=ok.slot i _ I;obtain⟨u,h1,h2⟩:=S.getD hd;exact⟨_,J,p,us,j,_,rfl,rfl,.inl (.inl R),zst h1,k W u H Step.refl ok h2⟩
  ·cases q⟩
def uk(i j:Nat)(f:FE):FS:=λe=>(f e).bind λr=>match r.2[i]? with
 |some ↑(.ag .ls l ps)=>(match ps[j]? with |some (.d _)=>↑(.nx,r.2.set i ↑(.ag .ls l (ps.set j (.d r.1)))) |_=>none)
 |_=>none
variable{p2:Pos}
theorem znh(V:DEx X G H0 e f)(an:Ats Nn Cn X)(J:Nn[i]?=↑x:=by rfl)(Y:swapsWithSole [.Subscript (.Name x p') (.Constant (.int (j:Int)) jj p2) p1] e pos.line X.env=pure false:=by rfl)(Z:swappedStores [.Subscript (.Name x p') (.Constant (.int (j:Int)) jj p2) p1] e X.env=pure none:=by rfl)(h1:(assignEach [.Subscript (.Name x p') (.Constant (.int (j:Int)) jj p2) p1] X.env).map (·.2)=[assign (.Subscript (.Name x p') (.Constant (.int (j:Int)) jj p2) p1) X.env]:=by rfl)(D:∀v,assign (.Subscript (.Name x p') (.Constant (.int (j:Int)) jj p2) p1) X.env v=(do
   let ov <-holding [v] (eval (.Name x p') X.env);let iv <-holding [v,ov] (eval (.Constant (.int (j:Int)) jj p2) X.env)
   standAt p1
   holding [v,ov,iv] (setItem ov iv v)
   release [v,ov,iv] []):=by intro _;rfl) :
  DSx X G H0 (.Assign [.Subscript (.Name x p') (.Constant (.int (j:Int)) jj p2) p1] e pos) (uk i j f):=⟨(zc V.out (zt1 ((an.a J).pe) y8 zn D) Y Z h1).imp λDn σ H b=>by
 obtain⟨W,env,fl,env',ok,q,k⟩:=b;unfold uk at q;cases e1:f env with
 |none=>rw[e1] at q;cases q
 |some r =>
   rw[e1,ac] at q;split at q;case h_2=>cases q
   rename_i l ps R;split at q;case h_2=>cases q
   rename_i d' hd;cases q;refine⟨W,env,r.1,r.2,ok,e1,λW1 v1 H1 c I d=>?_⟩;obtain⟨v,S,p,as,us,rfl,_,_,_,U,g⟩:=I.slot i _ R;obtain⟨u,h1,h2⟩:=g.getD hd;obtain⟨h,m⟩:=I.turnD R S U hd d;have n:=(ak.mp h1).1;exact⟨_,S,p,us,j,j,rfl,rfl,U,by unfold ixN;rw[if_pos ⋯,if_pos ⋯];simp,k W1 _ _ (c.trans m) h⟩⟩
abbrev FG:=DE0->Option (Ag×DE0)
def z77(env:DE0)(σ:St)(H:Hp)(s:Sl)(v:V):Prop:=∀(j:Nat) (s':Sl) (D:V) (a:Addr),env[j]?=↑↑s'->σ[j]?=↑↑D->Owns H s v a->¬Owns H s' D a
def tAG(X:Cx)(G:Gd)(H0:Hp)(f:FG):TE:=λσ H Q=>DP X.K G H0 f (λW env x env' =>
 ∀W' p H',Step W H W' H'->Ok X.K G H0 W' env' σ H'->SlOk X.K G W' H' (.ag x.1 none x.2) (.ref p)->z77 env' σ H' (.ag x.1 none x.2) (.ref p)->Q (.ref p) H') σ H
structure JAg (X:Cx) (G:Gd) (H0:Hp) (e:Expr) (f:FG):Prop where
 out:PE X e (tAG X G H0 f)
def zx2(i:Nat)(f:FG):FS:=λe=>(f e).map λr=>(.nx,r.2.set i ↑(.ag r.1.1 none r.1.2))
def z02(f:FG):FS:=λe=>(f e).map λr=>(.ra r.1.1 r.1.2,r.2)
def yav(i:Nat):FS:=λe=>match e[i]? with |some ↑(.ag k _ ps)=>↑(.ra k ps,e) |_=>none
section
variable {K:k6} {G G':Gd} {W W':Addr->Prop} {H0 H H':Hp} {env:DE0} {σ:St}
def Ok.newA(ok:Ok K G H0 W env σ H)(sm:Same H H')(S:∀a,W' a->H a=none)(u:∀a,W' a->∃m:Mo,H' a=↑m.out)(x:∀a,G' a->Ow G W a\/H a=none){k k':AK}{l:Option Nat}{ps:ln}{p:Addr}(c:∀us,AkOk K H' k p us->AkOk K H' k' p us)(h:SlOk K G' W' H' (.ag k l ps) (.ref p)) :
  Ok K G H0 (λa=>W a\/W' a) env σ H'/\Step W H (λa=>W a\/W' a) H'/\SlOk K G (λa=>W a\/W' a) H' (.ag k' none ps) (.ref p)/\z77 env σ H' (.ag k' none ps) (.ref p):=by
 have st:Step W H (λa=>W a\/W' a) H':=⟨λb o e _=>sm b o e,λa z=>z.imp id (S a)⟩;have D:=ok.same sm;have U:Ok K G H0 (λa=>W a\/W' a) env σ H':=by
  refine⟨D.stay,ok.good,λa z=>?_,λi s e=>?_,D.uniq,ok.len⟩
  ·rcases z with z |z
   ·exact D.wl a z
   ·exact⟨ok.stay.free (S a z),u a z⟩
  ·obtain⟨v,Y,q⟩:=ok.slot i s e
   exact⟨v,Y,ok.slstep st q λa m o Z=>⟨.inl (q.owns o),sm _ _ Z⟩⟩
 obtain⟨p',as,us,e,f,A,F,I,J⟩:=h;cases e;have g:∀(a:Addr) (us:k9),Ow G' W' a->Rd H' a (.lst us)->Ow G (λa=>W a\/W' a) a/\Rd H' a (.lst us):=λa us o q=>⟨by
  rcases x a o.1 with z |z
  ·exact⟨z.1,λy=>y.elim z.2 o.2⟩
  ·exact⟨ok.good a (ok.stay.free z),λy=>y.elim (λw=>by obtain⟨_,m,q⟩:=ok.wl a w;rw[z] at q;cases q) o.2⟩,q⟩
 refine⟨U,st,⟨p,as,us,rfl,.inr f,A,(λn z=>nomatch z),c us I,J.step (λa vs R z=>⟨.inr (J.own R).1,z⟩) (λd v r=>r.mono (λ_ _ h=>h) g) λd v r=>r.mono (λ_ _ h=>h) g⟩,λj s v a Y Z B C=>?_⟩;have E:W' a:=by
  rcases B with o | ⟨p',us',z,q,R⟩
  ·cases o;exact f
  ·cases z
   rw[xw (c us I) q] at R;exact(J.own (J.parts_iff.mp R)).1
 obtain⟨L,t,q⟩:=D.slot j s Y;rw[Z] at t;cases t;obtain⟨_,m,z⟩:=ok.wl a (q.owns C);rw[S a E] at z;cases z
end
variable{g:FG}
def zuo(I:Tos Nn X)(h:JAg X G H0 e g)(D:Nn[i]?=↑y:=by rfl)(R:swapsWith e ↑(.Name y p') pos.line X.env=pure false:=by rfl) :
  DSx X G H0 (.Assign [.Name y p'] e pos) (zx2 i g):=⟨(zq6 (I.t D).nd (I.t D).n (I.t D).l h.out R (I.t D).f).imp λDn σ H S=>by
 obtain⟨W,env,fl,env',ok,q,k⟩:=S;unfold zx2 at q;cases e1:g env with
 |none=>rw[e1] at q;cases q
 |some r =>
   rw[e1] at q;cases q;exact⟨W,env,r.1,r.2,ok,e1,λW1 p H1 U J sl V=>k W1 _ H1 U (J.put sl V)⟩⟩
def z03(h:JAg X G H0 e g):DSx X G H0 (.Return ↑e pos) (z02 g):=⟨(zd h.out).imp λDn σ H I=>by
 obtain⟨W,env,fl,env',ok,q,k⟩:=I;unfold z02 at q;cases e1:g env with
 |none=>rw[e1] at q;cases q
 |some r =>
   rw[e1] at q;cases q;exact⟨W,env,r.1,r.2,ok,e1,λW1 p H1 J D sl R=>k W1 σ p H1 J D sl⟩⟩
def gSp(K:k6)(m:la->Option Ag)(x:la->kf):Sp:=λvs H Q E=>∃O ds,Reps K H O ds vs /\
 ((∃y,m ds=↑y/\∀(W':Addr->Prop) p H',Same H H'->(∀a,W' a->H a=none)->(∀a,W' a->∃m:Mo,H' a=↑m.out)->SlOk K (gd λa=>O a\/H a=none) W' H' (.ag y.1 none y.2) (.ref p)->Q (.ref p) H')\/∃c,x ds=↑c/\∀C H',Cl K c C->Same H H'->E (.ref C) none H')
def runG(n ar:Nat)(g:FS):la->Option Ag:=λds=>if ds.length=ar then(match g (jy n ds) with |some (.ra k ps,_)=>↑(k,ps) |_=>none) else none
def xG(n ar:Nat)(g:FS):la->kf:=λds=>if ds.length=ar then(match g (jy n ds) with |some (.xc c,_)=>↑c |_=>none) else none
variable{ps:h7}{g:FP}
theorem yab{f:Addr}{g:FS}(F:Fun K x qual st f fd)(S:tx N ps (gl st))(U:n=N.length)(V:ar=ps.length)(I:∀(cdv:Value) (A:Around) (outer:ka) (s:Shared) (H:Hp) (E:XK) (G:Gd) (H0:Hp),Room k (A.deeper (envOfC qual (gl st) s.heap.objs.size f cdv)) ->
   DBx (cxOf (CXr P w) P w K mg base N qual (gl st) f cdv A outer s H E) G H0 (mh st) g):FnOk P w K mg base (CXr P w) (k+1) f fd ps (gSp K (runG n ar g) (xG n ar g)):=by
 subst U V;refine F.okX S (λvs H Q E h=>?_) (λcdv A outer s H vs Q E Y h=>?_)
 ·obtain⟨O,ds,r,h⟩:=h
  rw[<-r.length];rcases h with⟨y,e,_⟩ | ⟨c,e,_⟩
  ·unfold runG at e;split at e
   ·assumption
   ·cases e
  ·unfold xG at e;split at e
   ·assumption
   ·cases e
 ·obtain⟨O,ds,r,h⟩:=h
  refine⟨_,(I cdv A outer s H E (gd λa=>O a\/H a=none) H Y).out,?_⟩;rcases h with⟨y,e,k⟩ | ⟨c,e,k⟩
  ·unfold runG at e
   split at e;case isFalse=>cases e
   split at e
   ·rename_i k' ps' env' J
    cases e;exact⟨NoW,_,_,env',vp r,J,λW' R p H' st D sl=>k W' p H' D.stay (λa z=>(st.ws a z).elim (λz=>z.elim) id) (λa z=>(D.wl a z).2) sl⟩
   ·cases e
  ·unfold xG at e
   split at e;case isFalse=>cases e
   split at e
   ·rename_i d env' J
    cases e;exact⟨NoW,_,_,env',vp r,J,λW' R H' Z b st D pins e s' xs=>zmb xs (k Z H' b D.stay)⟩
   ·cases e
def zup(m:la->Option Ag)(F:FA):FG:=λe=>(F e).bind λr=>(m r.1).map λy=>(y,r.2)
def z04{m:la->Option Ag}{xx:la->kf}(c:Cal X.prog X.w X.K X.mg X.base (CXr X.prog X.w) x k (gSp X.K m xx))(U:Room jr X.A)(V:DAx X G H0 (e::es) F)(I:k<=jr:=by decide)(Y:Gl X x:=by walk_at "g")(Z:starEach (e::es) X.env=(false,eval e X.env)::starEach es X.env:=by rfl)(J:(backTo pos (starEach es X.env)).any (·.1)=false:=by rfl) :
  JAg X G H0 (.Call (.Name x p') (e::es) [] pos) (zup m F):=let ⟨_,_,_,b,d,f,g,R⟩:=c;⟨(zlx b (U.mono I) Y d f g V.out R Z J).imp λσ H Q h=>by
 obtain⟨W,env,y,env',ok,q,k⟩:=h;unfold zup at q;cases e1:F env with
 |none=>rw[e1] at q;cases q
 |some r =>
   rw[e1,ac] at q;cases e2:m r.1 with
   |none=>rw[e2] at q;cases q
   |some y' =>
     rw[e2] at q;cases q;refine⟨W,env,r.1,r.2,ok,e1,λW1 vs H1 i S j=>⟨Ow G W1,r.1,j,.inl ⟨_,e2,λW' p H' sm l n sl=>?_⟩⟩⟩;obtain⟨o,s,t,u⟩:=S.newA sm l n (λa z=>z) (k':=y.1) (λus z=>z) sl;exact k _ p H' (i.trans s) o t u⟩
def zx3(c:Str)(m:lx->la->l0)(F:FA):FG:=λe=>(F e).bind λr=>(m [(.ins true c [],[])] r.1).bind λq=>match q with
 | (.non,[(.ins true c' fs,ps)])=>↑((.ins false c' fs,ps),r.2) |_=>none
def zx4{W:Addr->Prop}{D dx:Addr}(ok:Ok K G H0 W env σ H)(S:Cl K cn C)(h1:H D=none)(h2:H dx=none)(d:dx≠D)(r:Reps K H (Ow G W) ds vs) :
  Same H (upd (upd H dx (.own D)) D (.ins C dx [])) /\
  Ok K ⟨Ow G W,λ_=>[D]⟩ (mask (upd (upd H dx (.own D)) D (.ins C dx [])) (λb=>b=D)) (λb=>b=D) (ql [(.ins true cn [],[])]) [↑(.ref D)] (upd (upd H dx (.own D)) D (.ins C dx [])) /\
  Reps K (upd (upd H dx (.own D)) D (.ins C dx [])) (Ow ⟨Ow G W,λ_=>[D]⟩ (λb=>b=D)) ds vs:=by
 have sm:Same H (upd (upd H dx (.own D)) D (.ins C dx [])):=λb o e=>by rw[ii (qh e h1),ii (qh e h2)];exact e
 have J:∀a,H a=none->Ow G W a:=λa z=>⟨ok.good a (ok.stay.free z),λw=>by obtain⟨_,m,q⟩:=ok.wl a w;rw[z] at q;cases q⟩;refine⟨sm,⟨λa o e=>(zrw e).2,λa e=>?_,λa e=>⟨zp9 e,.i C dx [],by rw[show a=D from e,kx]⟩,λI s e=>?_,λI U s s' v f b V Y g j k l=>?_,rfl⟩,?_⟩
 ·rcases zrx e with z |z
  ·rw[show a=D from z];exact J D h1
  ·refine J a ?_
   by_cases y:a=D
   ·rw[y];exact h1
   ·rw[ii y] at z
    by_cases R:a=dx
    ·rw[R];exact h2
    ·rwa [ii R] at z
 ·obtain⟨p,q,rfl⟩:=znd e
  cases I with
  |zero =>
    simp at q;subst q;exact⟨.ref D,rfl,D,[],[],rfl,rfl,by simp,λn _=>rfl,⟨C,dx,S,kx,rfl⟩,.nil⟩
  |succ n=>simp at q
 ·obtain⟨_,Z,_⟩:=znd V
  obtain⟨_,c,_⟩:=znd Y;cases I with
  |zero=>cases U with
    |zero=>rfl |succ n=>simp at c
  |succ n=>simp at Z
 ·refine r.mono (λa u z=>sm _ _ z) λa us o h=>⟨⟨o,λz=>?_⟩,h.keep λo z=>sm _ _ z⟩
  rw[show a=D from z] at h;rcases h with h | ⟨_,h⟩ <;> (have h2:=h1.symm.trans h;cases h2)
def z05{m:lx->la->l0}(c:KCal X.prog X.w X.K X.mg X.base x k (lSp X.K m xx))(U:Room jr X.A)(j:DAx X G H0 (e::es) F)(V:k+1<=jr:=by decide)(n:Gl X x:=by walk_at "g")(s:starEach (e::es) X.env=(false,eval e X.env)::starEach es X.env:=by rfl)(Y:(backTo pos (starEach es X.env)).any (·.1)=false:=by rfl) :
  JAg X G H0 (.Call (.Name x p') (e::es) [] pos) (zx3 x m F):=let ⟨_,_,_,_,M,t,u,B,C,Z⟩:=c;⟨(z0w M t (U.mono V) n u B j.out Z s Y).imp λσ H Q E=>by
 obtain⟨W,env,y,env',ok,q,k⟩:=E;unfold zx3 at q;cases e1:F env with
 |none=>rw[e1] at q;cases q
 |some r =>
   rw[e1,ac] at q;cases e2:m [(.ins true x [],[])] r.1 with
   |none=>rw[e2] at q;cases q
   |some z =>
     rw[e2,ac] at q;split at q;case h_2=>cases q
     rename_i h J ps';cases q;refine⟨W,env,r.1,r.2,ok,e1,λW1 vs H1 L R N I dx h1 h2 O=>?_⟩;obtain⟨sm,d,U⟩:=zx4 R C h1 h2 O N;refine⟨_,_,_,_,[.ref I],r.1,vs,rfl,rfl,d,U,.inl ⟨_,_,e2,λW' en P v H' st S T rp=>⟨rp.non_,?_⟩⟩⟩;have hs:=T 0 _ rfl;obtain⟨v',z1,i⟩:=S.slot 0 _ hs;have ev:v'=.ref I:=by
      obtain⟨p,as,us,rfl,_,_,f,_⟩:=i;have f:([I]:ic)=[p]:=f 0 rfl;cases f;rfl
     subst ev;have g:Same H1 H':=λb o z=>st.keep b o (sm b o z) λy=>by rw[show b=I from y,h1] at z;cases z
     have hn:∀a,W' a->H1 a=none:=λa z=>by
      rcases st.ws a z with y |y
      ·rw[show a=I from y];exact h1
      ·cases q:H1 a with
       |none=>rfl |some o=>rw[sm a o q] at y;cases y
     obtain⟨w1,w2,w3,w4⟩:=R.newA (G':=⟨Ow G W1,λ_=>[I]⟩) (k:=.ins true h J) (l:=↑0) (ps:=ps') (p:=I) (k':=.ins false h J) g hn (λa z=>(S.wl a z).2) (λa z=>.inl z) (λus z=>z) i;exact k _ I H' (L.trans w2) w1 w3 w4⟩
mutual
def noL:D->Bool
 | .lst _=>false | .dct _ _=>false | .tup ds=>noLs ds |_=>true
def noLs:la->Bool
 | []=>true |d::r=>noL d && noLs r
end
def Rep.noL{d:D}{v:V}:Rep K H O d v->L2.noL d=true->Rep K H O' d v :=
 Rep.rec (motive_1:=λd v _=>L2.noL d=true->Rep K H O' d v) (motive_2:=λds vs _=>L2.noLs ds=true->Reps K H O' ds vs) (λ_=>.non) (λb _=>.bl b) (λb _=>.int b) (λb _=>.str b) (λh _ q e=>.tup h (q (by rw[L2.noL] at e;exact e))) (λ_ _ _ _ e=>by rw[L2.noL] at e;cases e) (λ_ _ _ e=>by rw[L2.noL] at e;cases e) (λ_ _ _ e=>by rw[L2.noL] at e;cases e) (λa _=>.exc a) (λ_=>.nil) λ_ _ p q e=>by rw[L2.noLs,eh] at e;exact .cons (p e.1) (q e.2)
def Reps.noLs{ds:la}{vs:k9}:Reps K H O ds vs->L2.noLs ds=true->Reps K H O' ds vs :=
 Reps.ind (P:=λds vs=>L2.noLs ds=true->Reps K H O' ds vs) (λ_=>.nil) λr _ q e=>by rw[L2.noLs,eh] at e;exact .cons (r.noL e.1) (q e.2)
def ptD:Pt->D | .d d=>d | .o ds=>.lst ds
def ve(r:Nat):DE0->Option ln
 | []=>none |some (.ag .ls ↑r' ps)::e=>if r'=r then ↑ps else ve r e
 |_::e=>ve r e
def wo:ln->Nat->Option la
 | .o ds::_,0=>↑ds | .o _::r,j+1=>wo r j | .d _::r,j=>wo r j | [],_=>none
def z06(b:Bool)(ps:ln):ln:=if b=true then ps.map λp=>.d (ptD p) else ps
def frz1(b:Bool)(env:DE0):lp->lp
 |some (.sh d)=>↑(.sh d) |some (.ow ds)=>↑(.sh (.lst ds)) |some (.o2 dss)=>↑(.sh (.lst (dss.map D.lst))) |some (.ag .ls _ ps)=>↑(.sh (.lst (ps.map ptD))) |some (.ag k _ ps)=>↑(.ro k (z06 b ps)) |some (.ro .ls ps)=>↑(.sh (.lst (ps.map ptD))) |some (.ro k ps)=>↑(.ro k (z06 b ps)) |some (.al r j)=>(ve r env).bind λps=>(wo ps j).map λds=>.sh (.lst ds) |none=>none
def frz(b:Bool)(env:DE0):DE0:=env.map (frz1 b env)
def AllG(r:Nat->ic):Gd:=⟨λ_=>True,r⟩
def zmh{r:Nat}{ps:ln}:∀ {env:DE0},ve r env=↑ps->∃i:Nat,env[i]?=↑↑(Sl.ag AK.ls ↑r ps)
 |x::e,h=>by
   unfold ve at h;split at h
   ·rename_i D;cases D
   ·rename_i J ps' e' q
    cases q;split at h
    ·rename_i I;cases h;subst I;exact⟨0,rfl⟩
    ·obtain⟨i,z⟩:=zmh h;exact⟨i+1,by simpa using z⟩
   ·rename_i q
    cases q;obtain⟨i,z⟩:=zmh h;exact⟨i+1,by simpa using z⟩
section
variable {K:k6} {G:Gd} {W:Addr->Prop} {H0 H:Hp} {env:DE0} {σ:St}
def z07{ps:ln}{as:ic}{us:k9}{j:Nat}{ds:la}{a:Addr}(h:PtsOk K G W H ps as us)(e:wo ps j=↑ds)(ea:as[j]?=↑a):∃vs,H a=↑(.lst vs)/\Reps K H (Ow G W) ds vs:=by
 induction h generalizing j with
 |nil=>cases e
 |d _ _ ih=>exact ih e ea |o hW hl r _ ih =>
   cases j with
   |zero=>cases e;simp at ea;subst ea;exact⟨_,hl,r⟩
   |succ j=>exact ih (j:=j) e (by simpa using ea)
def PtsRo.all{ps:ln}{us:k9}{O:Addr->Prop}(h:PtsRo K G W H ps us)(D:∀a,O a):Reps K H O (ps.map ptD) us:=by
 induction h with
 |nil=>exact .nil |d r _ ih=>exact .cons ((ni λa _=>D a).1 _ _ r) ih |o _ hl r _ ih=>exact .cons (.lst (D _) (.inl hl) ((ni λa _=>D a).2 _ _ r)) ih
def PtsRo.roG{ps:ln}{us:k9}{G':Gd}(h:PtsRo K G W H ps us)(D:∀a,Ow G W a->Ow G' NoW a):PtsRo K G' NoW H ps us :=
 h.step (λa vs _ z=>⟨λz=>z,z⟩) (λd v q=>(ni D).1 d v q) λd v q=>(ni D).2 d v q
def PtsOk.toRo{ps:ln}{as:ic}{us:k9}{G':Gd}(h:PtsOk K G W H ps as us)(D:∀a,Ow G W a->Ow G' NoW a):PtsRo K G' NoW H ps us :=
 PtsRo.roG (W:=NoW) (G:=gd (Ow G W)) h.ro λa z=>D a z.1
def PtsRo.dat{ps:ln}{us:k9}(h:PtsRo K G W H ps us)(D:∀a,Ow G W a):PtsRo K G W H (ps.map λp=>.d (ptD p)) us:=by
 induction h with
 |nil=>exact .nil |d r _ ih=>exact .d r ih |o _ hl r _ ih=>exact .d (.lst (D _) (.inl hl) r) ih
def PtsRo.roB{ps:ln}{us:k9}(b:Bool)(h:PtsRo K G W H ps us)(D:∀a,Ow G W a):PtsRo K G W H (z06 b ps) us:=by
 unfold z06;split
 ·exact h.dat D
 ·exact h
def Ok.freeze(b:Bool)(ok:Ok K G H0 W env σ H):Ok K (AllG G.r) H NoW (frz b env) σ H:=by
 have S:∀a,Ow G W a->Ow (AllG G.r) NoW a:=λa _=>⟨trivial,λz=>z⟩;have all:∀a,Ow (AllG G.r) NoW a:=λa=>⟨trivial,λz=>z⟩;have U:∀(i:Nat) (s:Sl),(frz b env)[i]?=↑↑s->∃I,env[i]?=↑↑I/\frz1 b env ↑I=↑s:=λi s e=>by
  unfold frz at e;rw[bw] at e;cases q:env[i]? with
  |none=>rw[q] at e;cases e
  |some o =>
    rw[q] at e;cases o with
    |none=>cases e
    |some I=>exact⟨I,rfl,by simpa using e⟩
 refine⟨Same.refl _,λa _=>trivial,λl z=>z.elim,λi s e=>?_,λi j s s' v u a D _ C _ o _=>?_,by unfold frz;rw[af];exact ok.len⟩
 ·obtain⟨I,t,D⟩:=U i s e
  obtain⟨v,w,h⟩:=ok.slot i I t;refine⟨v,w,?_⟩;cases I with
  |sh d=>cases D;exact(ni S).1 _ _ h
  |ow ds=>cases D;obtain⟨l,vs,rfl,Z,J,r⟩:=h;exact .lst (all l) (.inl J) ((ni S).2 _ _ r)
  |o2 dss =>
    cases D;obtain⟨l,ls,rfl,Z,J,x,hi⟩:=h;exact .lst (all l) (.inl J) (zpv (W':=NoW) (G:=AllG G.r) (W:=W) ⟨hi.1,λj ds a Y f=>let ⟨g,vs,m,A⟩:=hi.2 j ds a Y f;⟨g,vs,m,(ni λb z=>⟨trivial,z.2⟩).2 _ _ A⟩⟩ (λa _ _=>all a) λds vs r=>(ni λb _=>all b).2 _ _ r)
  |ag k l ps =>
    obtain⟨p,as,us,rfl,Z,x,J,V,R⟩:=h;cases k with
    |ls=>cases D;exact .lst (all p) (.inl V) ((R.toRo S).all all)
    |ins _ c fs=>cases D;exact⟨p,us,rfl,λz=>z,V,(R.toRo S).roB b all⟩
  |ro k ps =>
    obtain⟨p,us,rfl,Z,V,R⟩:=h;cases k with
    |ls=>cases D;exact .lst (all p) (.inl V) (R.all all)
    |ins _ c fs=>cases D;exact⟨p,us,rfl,λz=>z,V,(R.roG S).roB b all⟩
  |al r j =>
    have D:((ve r env).bind λps=>(wo ps j).map λds=>Sl.sh (.lst ds))=↑s:=D;cases q1:ve r env with
    |none=>rw[q1] at D;cases D
    |some ps =>
      rw[q1,ac] at D;cases q2:wo ps j with
      |none=>rw[q2] at D;cases D
      |some ds =>
        rw[q2] at D;cases D;obtain⟨p,as,a,Y,f,rfl⟩:=h;obtain⟨B,y⟩:=zmh q1;obtain⟨u,E,p',n,us,rfl,_,_,J,_,R⟩:=ok.slot B _ y;have J:G.r r=p'::n:=J r rfl;rw[J] at Y;cases Y;obtain⟨vs,g,m⟩:=z07 R q2 f;exact .lst (all a) (.inl g) ((ni S).2 _ _ m)
 ·obtain⟨I,t,D⟩:=U i s D
  cases I with
  |sh d=>cases D;exact o.elim
  |ow d=>cases D;exact o.elim
  |o2 d=>cases D;exact o.elim
  |ag k l ps=>cases k <;> (cases D;exact o.elim)
  |ro k ps=>cases k <;> (cases D;exact o.elim)
  |al r j =>
    have D:((ve r env).bind λps=>(wo ps j).map λds=>Sl.sh (.lst ds))=↑s:=D;cases q1:ve r env with
    |none=>rw[q1] at D;cases D
    |some ps =>
      rw[q1,ac] at D;cases q2:wo ps j with
      |none=>rw[q2] at D;cases D
      |some ds=>rw[q2] at D;cases D;exact o.elim
def Step.noW{W':Addr->Prop}{H':Hp}(s:Step NoW H W' H'):Same H H':=λb o e=>s.keep b o e λz=>z
end
def fFrz(b:Bool)(f:FE):FE:=λe=>(f (frz b e)).bind λr=>if noL r.1=true then ↑(r.1,e) else none
def qk(b:Bool)(f:FA):FA:=λe=>(f (frz b e)).bind λr=>if noLs r.1=true then ↑(r.1,e) else none
def xFrz(b:Bool)(x:XF):XF:=λe=>(x (frz b e)).map λr=>(r.1,e)
variable{b:Bool}
def vk(h:∀G H0,DEx X G H0 e f):DEx X G H0 e (fFrz b f):=⟨λpins s σ H Q I D=>by
 obtain⟨W,env,d,env',ok,q,k⟩:=D;unfold fFrz at q;cases e1:f (frz b env) with
 |none=>rw[e1] at q;cases q
 |some r =>
   rw[e1,ac] at q;split at q;case isFalse=>cases q
   rename_i J;cases q;refine(h (AllG G.r) H).out pins s σ H Q I ⟨NoW,frz b env,r.1,r.2,ok.freeze b,e1,λW' v H' st R S=>?_⟩;exact k W v H' (Step.same st.noW) (ok.same st.noW) (S.noL J)⟩
def zx5(h:∀G H0,DFx X G H0 e F):DFx X G H0 e (qk b F):=⟨λpins s σ H Q I R=>by
 obtain⟨W,env,d,env',ok,q,k⟩:=R;unfold qk at q;cases e1:F (frz b env) with
 |none=>rw[e1] at q;cases q
 |some r =>
   rw[e1,ac] at q;split at q;case isFalse=>cases q
   rename_i S;cases q;refine(h (AllG G.r) H).out pins s σ H Q I ⟨NoW,frz b env,r.1,r.2,ok.freeze b,e1,λW' l vs H' st U V f J Y=>?_⟩;have D:H l=none:=(st.ws l (.inr rfl)).elim (λz=>z.elim) id;obtain⟨Z,g,a,c⟩:=ok.fresh0 (H':=H') st.noW D J;exact k W l vs H' c (ok.same st.noW) a Z J (Y.noLs S)⟩
variable{y:XF}
def zuq(h:∀G H0,JX X G H0 e y):JX X G H0 e (xFrz b y):=⟨λpins s σ H Q I D=>by
 obtain⟨W,env,c,env',ok,q,k⟩:=D;unfold xFrz at q;cases e1:y (frz b env) with
 |none=>rw[e1] at q;cases q
 |some r =>
   rw[e1] at q;cases q;exact(h (AllG G.r) H).out pins s σ H Q I ⟨NoW,frz b env,r.1,r.2,ok.freeze b,e1,λW' H' C J st R=>k W H' C J (Step.same st.noW) (ok.same st.noW)⟩⟩
section
variable {K:k6} {G:Gd} {W W':Addr->Prop} {H0 H H':Hp} {env:DE0} {σ:St}
def Ok.newW(ok:Ok K G H0 W env σ H)(sm:Same H H')(I:∀a,W' a->H a=none)(J:∀a,W' a->∃m:Mo,H' a=↑m.out):Ok K G H0 (λa=>W a\/W' a) env σ H'/\Step W H (λa=>W a\/W' a) H':=by
 have st:Step W H (λa=>W a\/W' a) H':=⟨λb o e _=>sm b o e,λa z=>z.imp id (I a)⟩;have D:=ok.same sm;refine⟨⟨D.stay,ok.good,λa z=>?_,λi s e=>?_,D.uniq,ok.len⟩,st⟩
 ·rcases z with z |z
  ·exact D.wl a z
  ·exact⟨ok.stay.free (I a z),J a z⟩
 ·obtain⟨v,R,q⟩:=ok.slot i s e
  exact⟨v,R,ok.slstep st q λa m o S=>⟨.inl (q.owns o),sm _ _ S⟩⟩
end
def frs1:lp->lp
 |some (.sh d)=>↑(.sh d) |some (.ag k _ ps)=>↑(.ro k ps) |some (.ro k ps)=>↑(.ro k ps) |_=>none
def frsE(env:DE0):DE0:=env.map frs1
def OwG(G:Gd)(W:Addr->Prop)(H:Hp):Gd:=⟨λa=>Ow G W a\/H a=none,G.r⟩
section
variable {K:k6} {G:Gd} {W W':Addr->Prop} {H0 H H':Hp} {env:DE0} {σ:St}
def Ok.freezeS(ok:Ok K G H0 W env σ H):Ok K (OwG G W H) H NoW (frsE env) σ H:=by
 have R:∀a,Ow G W a->Ow (OwG G W H) NoW a:=λa z=>⟨.inl z,λz=>z⟩;have J:∀(i:Nat) (s:Sl),(frsE env)[i]?=↑↑s->∃I,env[i]?=↑↑I/\frs1 ↑I=↑s:=λi s e=>by
  unfold frsE at e;rw[bw] at e;cases q:env[i]? with
  |none=>rw[q] at e;cases e
  |some o =>
    rw[q] at e;cases o with
    |none=>cases e
    |some I=>exact⟨I,rfl,by simpa using e⟩
 refine⟨Same.refl _,λa z=>.inr z,λl z=>z.elim,λi s e=>?_,λi j s s' v b a D _ c _ o _=>?_,by unfold frsE;rw[af];exact ok.len⟩
 ·obtain⟨I,V,D⟩:=J i s e
  obtain⟨v,Y,h⟩:=ok.slot i I V;refine⟨v,Y,?_⟩;cases I with
  |sh d=>cases D;exact(ni R).1 _ _ h
  |ow ds=>cases D
  |o2 dss=>cases D
  |ag k l ps=>cases D;obtain⟨p,as,us,rfl,Z,f,g,S,U⟩:=h;exact⟨p,us,rfl,λz=>z,S,U.toRo R⟩
  |ro k ps=>cases D;obtain⟨p,us,rfl,Z,S,U⟩:=h;exact⟨p,us,rfl,λz=>z,S,U.roG R⟩
  |al r j=>cases D
 ·obtain⟨I,V,D⟩:=J i s D
  cases I <;> cases D <;> exact o.elim
end
def PtsOk.length{W:Addr->Prop}{ps:ln}(h:PtsOk K G W H ps as us):ps.length=us.length:=by
 induction h with
 |nil=>rfl |d _ _ ih=>rw[am,am,ih] |o _ _ _ _ ih=>rw[am,am,ih]
abbrev FP:=DE0->Option ln
def tPs(X:Cx)(G:Gd)(H0:Hp)(f:FP):TA:=λσ H Q=>∃W env ps,Ok X.K G H0 W env σ H/\f env=↑ps /\
 ∀as us H',Same H H'->as.Nodup->(∀a∈as,H a=none)->PtsOk X.K (OwG G W H) (λa=>a∈as) H' ps as us->Q us H'
structure JPs (X:Cx) (G:Gd) (H0:Hp) (es:kb) (f:FP):Prop where
 out:PA X es (tPs X G H0 f)
def pNil:FP:=λ_=>↑[]
def pCd(f:FE)(g:FP):FP:=λe=>(f (frsE e)).bind λr=>(g e).map λt=>.d r.1::t
def pCo(F:FA)(g:FP):FP:=λe=>(F (frsE e)).bind λr=>(g e).map λt=>.o r.1::t
def Rd.some{a:Addr}{u:HO}(h:Rd H a u):H a≠none:=λz=>by rcases h with h | ⟨_,h⟩ <;> rw[z] at h <;> cases h
def z4j  : JPs X G H0 [] pNil:=⟨qu.imp λσ H Q D=>by
 obtain⟨W,env,ps,ok,q,k⟩:=D;cases q;exact k [] [] H (Same.refl _) .nil (λa z=>by cases z) .nil⟩
def z78(h:∀G H0,DEx X G H0 e f)(J:JPs X G H0 es g)(R:starEach (e::es) X.env=(false,eval e X.env)::starEach es X.env:=by rfl):JPs X G H0 (e::es) (pCd f g):=⟨λpos pins s σ H Q I S=>by
 obtain⟨W,env,ps,ok,q,k⟩:=S;unfold pCd at q;cases e1:f (frsE env) with
 |none=>rw[e1] at q;cases q
 |some r =>
   rw[e1,ac] at q;cases e2:g env with
   |none=>rw[e2] at q;cases q
   |some t =>
     rw[e2] at q;cases q;refine(n4 (h (OwG G W H) H).out J.out R) pos pins s σ H Q I ⟨NoW,frsE env,r.1,r.2,ok.freezeS,e1,λW1 v H1 st U V=>?_⟩;refine⟨W,env,t,ok.same st.noW,e2,λas us H2 sm Y D Z=>?_⟩;refine k as (v::us) H2 (st.noW.trans sm) Y (λa z=>st.noW.free (D a z)) (.d (V.mono (λa u z=>sm _ _ z) λa vs o z=>⟨⟨o.1,λy=>z.some (D a y)⟩,z.keep λo y=>sm _ _ y⟩) (Z.step (λa vs b z=>⟨b,z⟩) (λd v q=>(ni ?_).1 d v q) λd v q=>(ni ?_).2 d v q)) <;>
     exact λa z=>⟨z.1.imp id λy=>st.noW.free y,z.2⟩⟩
def z79(h:∀G H0,DFx X G H0 e F)(Y:JPs X G H0 es g)(Z:starEach (e::es) X.env=(false,eval e X.env)::starEach es X.env:=by rfl):JPs X G H0 (e::es) (pCo F g):=⟨λpos pins s σ H Q I b=>by
 obtain⟨W,env,ps,ok,q,k⟩:=b;unfold pCo at q;cases e1:F (frsE env) with
 |none=>rw[e1] at q;cases q
 |some r =>
   rw[e1,ac] at q;cases e2:g env with
   |none=>rw[e2] at q;cases q
   |some t =>
     rw[e2] at q;cases q;refine(n4 (h (OwG G W H) H).out Y.out Z) pos pins s σ H Q I ⟨NoW,frsE env,r.1,r.2,ok.freezeS,e1,λW1 l vs H1 st c f A D i=>?_⟩;have U:H l=none:=(st.ws l (.inr rfl)).elim (λz=>z.elim) id;obtain⟨J,_⟩:=ok.newW (W':=λa=>a=l) st.noW (λa z=>by rw[z];exact U) λa z=>⟨.l vs,by rw[z];exact D⟩;refine⟨_,env,t,J,e2,λas us H2 sm j R m=>?_⟩;have S:l∉as:=λz=>by rw[R l z] at D;cases D
     have h1:∀a∈l::as,H a=none:=λa z=>by
      rcases ce.mp z with rfl |z
      ·exact U
      ·exact st.noW.free (R a z)
     have n:Reps X.K H2 (Ow (OwG G W H) λa=>a∈l::as) r.1 vs:=i.mono (λa u z=>sm _ _ z) λa vs o z=>by
      refine⟨⟨o.1,λy=>?_⟩,z.keep λo y=>sm _ _ y⟩;rcases ce.mp y with y |y
      ·exact o.2 (.inr y)
      ·exact z.some (R a y)
     have V:∀a,Ow (OwG G (λa=>W a\/a=l) H1) (λa=>a∈as) a->Ow (OwG G W H) (λa=>a∈l::as) a:=λa o=>by
      have p:a≠l:=λz=>by
       rcases o.1 with y |y
       ·exact y.2 (.inr z)
       ·rw[z,D] at y;cases y
      refine⟨o.1.imp (λy=>⟨y.1,λw=>y.2 (.inl w)⟩) λy=>st.noW.free y,λy=>?_⟩;rcases ce.mp y with y |y
      ·exact p y
      ·exact o.2 y
     exact k (l::as) (.ref l::us) H2 (st.noW.trans sm) (b9.mpr ⟨S,j⟩) h1 (.o b6 (sm _ _ D) n (m.step (λa vs x z=>⟨bc _ x,z⟩) (λd v q=>(ni V).1 d v q) λd v q=>(ni V).2 d v q))⟩
def fAgL(g:FP):FG:=λe=>(g e).bind λps=>if ps.length<=64 then ↑((.ls,ps),e) else none
theorem z4k(h:JPs X G H0 es g):JAg X G H0 (.List es pos) (fAgL g):=⟨(z17 h.out).imp λσ H Q R=>by
 obtain⟨W,env,x,env',ok,q,k⟩:=R;unfold fAgL at q;cases e1:g env with
 |none=>rw[e1] at q;cases q
 |some ps =>
   rw[e1,ac] at q;split at q;case isFalse=>cases q
   cases q;refine⟨W,env,ps,ok,e1,λas us H1 sm S U J=>⟨?_,λp I=>?_⟩⟩
   ·rw[<-J.length,sizeLine_eq];lia
   ·have D:Same H1 (upd H1 p (.lst us)):=om I
    have V:p∉as:=λz=>by obtain⟨_,vs,y⟩:=J.own z;rw[I] at y;cases y
    have sl:SlOk X.K (OwG G W H) (λa=>a=p\/a∈as) (upd H1 p (.lst us)) (.ag .ls none ps) (.ref p):=by
     refine⟨p,as,us,rfl,.inl rfl,b9.mpr ⟨V,S⟩,(λn z=>nomatch z),kx,J.step (λa vs Y z=>⟨.inr Y,D _ _ z⟩) (λd v q=>q.mono (λa u z=>D _ _ z) ?_) λd v q=>q.mono (λa u z=>D _ _ z) ?_⟩ <;>
     exact λa vs o z=>⟨⟨o.1,λy=>y.elim (λy=>z.some (y ▸ I)) o.2⟩,z.keep λo y=>D _ _ y⟩
    have Z:∀a,a=p\/a∈as->H a=none:=λa z=>by
     rcases z with rfl |z
     ·exact sm.free I
     ·exact U a z
    have n2:∀a,a=p\/a∈as->∃m:Mo,upd H1 p (.lst us) a=↑m.out:=λa z=>by
     rcases z with rfl |z
     ·exact⟨.l us,kx⟩
     ·obtain⟨_,vs,y⟩:=J.own z
      exact⟨.l vs,D _ _ y⟩
    obtain⟨b,c,e,f⟩:=ok.newA (k':=.ls) (sm.trans D) Z n2 (λa z=>z) (λus z=>z) sl;exact k _ p _ c b e f⟩
def rg(κ:AK)(i j:Nat):FE:=λe=>if isK κ e i then(agAt e i).bind λx=>(match x.2[j]? with |some (.d d)=>↑(d,e) |_=>none) else none
def vo(c:Atr X.K cn m)(an:Ats Nn Cn X)(J:Nn[i]?=↑x:=by rfl)(U:fs[j]?=↑m:=by rfl)(V:fs.Nodup:=by decide +kernel)(b:attributeBase (.Name x p') m X.env (eval (.Name x p') X.env)=eval (.Name x p') X.env:=by rfl):DEx X G H0 (.Attribute (.Name x p') m pos) (rg (.ins false cn fs) i j):=let ⟨C,c,Y,Z⟩:=c;⟨(z16 ((an.a J).pe) b).imp λσ H Q e=>by
  obtain⟨W,env,d,env',ok,q,k⟩:=e;unfold rg at q;split at q;case isFalse=>cases q
  rename_i f;cases D:agAt env i with
  |none=>rw[D] at q;cases q
  |some y =>
    rw[D,ac] at q;split at q;case h_2=>cases q
    rename_i d' hd;cases q;rcases f with⟨l,ps',z⟩ | ⟨ps',z⟩
    ·have D:↑(AK.ins false cn fs,ps')=↑y:=by unfold agAt at D;rw[z] at D;exact D
     cases D;obtain⟨v,D,p,as,us,rfl,_,_,_,⟨g,dx,R,I,h⟩,S⟩:=ok.slot i _ z;rw[Cl.inj R Z] at I;obtain⟨u,h1,h2⟩:=S.getD hd;exact⟨_,D,p,C,dx,_,u,rfl,I,c,Y,zqe V U h1,k W u H Step.refl ok h2⟩
    ·have D:↑(AK.ins false cn fs,ps')=↑y:=by unfold agAt at D;rw[z] at D;exact D
     cases D;obtain⟨v,D,p,us,rfl,_,⟨g,dx,R,I,h⟩,S⟩:=ok.slot i _ z;rw[Cl.inj R Z] at I;obtain⟨u,h1,h2⟩:=S.getD hd;exact⟨_,D,p,C,dx,_,u,rfl,I,c,Y,zqe V U h1,k W u H Step.refl ok h2⟩⟩
section
variable {K:k6} {G:Gd} {W:Addr->Prop} {H0 H H':Hp} {env:DE0} {σ:St}
def Ok.chgN(ok:Ok K G H0 W env σ H){i:Nat}{s s':Sl}{v:V}{a l:Addr}(J:Mo)(e:env[i]?=↑↑s)(R:σ[i]?=↑↑v)(x:Owns H s v a)(A:SlOk K G W (upd H a J.out) s' v)(y:∀(j:Nat) (s:Sl) (v:V),env[j]?=↑↑s->σ[j]?=↑↑v->¬Owns H s v l)(m:∀b,Owns (upd H a J.out) s' v b->Owns H s v b\/b=l):Ok K G H0 W (env.set i ↑s') σ (upd H a J.out)/\Step W H W (upd H a J.out):=by
 have c:W a:=by obtain⟨B,f,h⟩:=ok.slot i s e;rw[R] at f;cases f;exact h.owns x
 have st:Step W H W (upd H a J.out):=⟨λb o q n=>by rw[ii (λz:b=a=>n (by rw[z];exact c))];exact q,λb z=>.inl z⟩;have t:∀ {j:Nat} {sl:Sl} {u:V} {b:Addr},i≠j->env[j]?=↑↑sl->σ[j]?=↑↑u->Owns H sl u b->b≠a:=λ{j sl u b} hj q S o z=>by
  subst z;exact hj (ok.uniq i j s sl v u b e q R S x o)
 have bk:∀ {j:Nat} {sl:Sl} {u:V} {b:Addr},i≠j->env[j]?=↑↑sl->σ[j]?=↑↑u->Owns (upd H a J.out) sl u b->Owns H sl u b:=λ{j sl u b} hj q S o=>by
  obtain⟨C,Y,h⟩:=ok.slot j sl q;rw[S] at Y;cases Y;cases sl with
  |sh d=>exact o.elim |ow ds=>exact o |o2 dss=>exact h.back (λl D _ vs I=>by rw[ii (t hj q S (.inl D))];exact I) o |ag k p ps=>exact h.back (λl D _ vs I=>by rw[ii (t hj q S (.inl D))];exact I) o |al _ _=>exact o.elim |ro _ _=>exact o.elim
 refine⟨⟨λb o q=>?_,ok.good,λb z=>?_,λj sl q=>?_,λj k w s2 v1 v2 b S Y D I Z o2=>?_,by rw[dz,ok.len]⟩,st⟩
 ·rw[ii (λz=>by rw[z,(ok.wl a c).1] at q;cases q)];exact ok.stay b o q
 ·obtain⟨q,us,m⟩:=ok.wl b z
  by_cases h:b=a
  ·exact⟨q,J,by rw[h,kx]⟩
  ·exact⟨q,us,by rw[ii h];exact m⟩
 ·rcases pv q with⟨rfl,r,_⟩ | ⟨hj,r⟩
  ·cases r
   exact⟨v,R,A⟩
  ·obtain⟨u,f,h⟩:=ok.slot j sl r
   exact⟨u,f,ok.slstep st h λb vs o Y=>⟨h.owns o,by rw[ii (t hj r f o)];exact Y⟩⟩
 ·rcases pv S with⟨a1,b1,_⟩ | ⟨a1,b1⟩ <;> rcases pv Y with⟨g,U,_⟩ | ⟨g,U⟩
  ·rw[<-a1,<-g]
  ·subst a1;cases b1
   rw[R] at D;cases D;have o2:=bk g U I o2;rcases m b Z with z |z
   ·exact ok.uniq i k s s2 v v2 b e U R I z o2
   ·subst z;exact absurd o2 (y k s2 v2 U I)
  ·subst g;cases U
   rw[R] at I;cases I;have Z:=bk a1 b1 D Z;rcases m b o2 with z |z
   ·exact ok.uniq j i w s v1 v b b1 e D R Z z
   ·subst z;exact absurd Z (y j w v1 b1 D)
  ·exact ok.uniq j k w s2 v1 v2 b b1 U D I (bk a1 b1 D Z) (bk g U I o2)
def PtsOk.snoc{ps:ln}{as:ic}{us vs:k9}{ds:la}{l:Addr}(h:PtsOk K G W H ps as us)(I:W l)(J:H l=↑(.lst vs))(r:Reps K H (Ow G W) ds vs):PtsOk K G W H (ps++[.o ds]) (as++[l]) (us++[.ref l]):=by
 induction h with
 |nil=>exact .o I J r .nil |d q _ ih=>exact .d q ih |o a b c _ ih=>exact .o a b c ih
def zur{f:Str}{v:V}:∀ {fs:h7} {us:k9},f∉fs->fs.length=us.length->putF f v (fs.zip us)=(fs++[f]).zip (us++[v])
 | [],[],_,_=>rfl |g::fs,u::us,hf,hl=>by
   have:g≠f:=λz=>hf (by simp[z]);rw[kz,j9,j9,kz];show(if g=f then(g,v)::fs.zip us else(g,u)::putF f v (fs.zip us))=_;rw[if_neg this,zur (λz=>hf (by simp[z])) (by simpa using hl)]
end
def zx6(i:Nat)(cn f:Str)(F:FA):FS:=λe=>(F e).bind λr=>match r.2[i]? with
 |some ↑(.ag (.ins true c fs) l ps)=>if c=cn/\f∉fs/\fs.length<900 then ↑(.nx,r.2.set i ↑(.ag (.ins true c (fs++[f])) l (ps++[.o r.1]))) else none
 |_=>none
variable{value:Expr}
theorem zus(ca:Atr X.K cn m)(an:Ats Nn Cn X)(he:DFx X G H0 value F)(d:Nn[i]?=↑x:=by rfl)(hs:swapsWith value ↑(.Attribute (.Name x p') m p1) pos.line X.env=pure false:=by rfl) :
  DSx X G H0 (.Assign [.Attribute (.Name x p') m p1] value pos) (zx6 i cn m F):=let ⟨C,c,hn,e⟩:=ca;⟨(z6j ((an.a d).pe) he.out hs).imp λDn σ H zq=>by
 obtain⟨W,env,fl,env',ok,q,k⟩:=zq;unfold zx6 at q;cases e1:F env with
 |none=>rw[e1] at q;cases q
 |some r =>
   rw[e1,ac] at q;split at q;case h_2=>cases q
   rename_i E fs l ps f;split at q;case isFalse=>cases q
   rename_i g;obtain⟨rfl,hf,L⟩:=g;cases q;refine⟨W,env,r.1,r.2,ok,e1,λW1 ad vs H1 s1 R D M N rp=>?_⟩;obtain⟨v,t,p,as,us,rfl,O,U,hr,⟨C',dx,z1,I,Y⟩,J⟩:=D.slot i _ f;rw[Cl.inj z1 e] at I;have P:p≠ad:=λz=>by rw[z,N] at I;cases I
   have na:ad∉as:=λz=>by
    obtain⟨v',Z,h⟩:=R.slot i _ f;rw[t] at Z;cases Z;exact M (h.owns (.inr ⟨p,us,rfl,⟨Y,C,dx,I⟩,J.parts_iff.mpr z⟩))
   refine⟨_,t,p,C,dx,fs.zip us,rfl,I,c,hn,?_,?_⟩
   ·rw[mw];lia
   ·have st:Step (addW W1 ad) H1 (addW W1 ad) (upd H1 p (.ins C dx ((fs++[m]).zip (us++[.ref ad])))):=⟨λb o q n=>by rw[ii (λz:b=p=>n (by rw[z];exact O))];exact q,λb z=>.inl z⟩
    have u:upd H1 p (.ins C dx ((fs++[m]).zip (us++[.ref ad]))) ad=↑(.lst vs):=by rw[ii (Ne.symm P)];exact N
    have A:PtsOk X.K G (addW W1 ad) (upd H1 p (.ins C dx ((fs++[m]).zip (us++[.ref ad])))) ps as us:=J.step (λb ws Q z=>⟨(J.own Q).1,by rw[ii (λy:b=p=>by subst y;exact(b9.mp U).1 Q)];exact z⟩) (λ_ _ r=>D.rep st r) λ_ _ r=>D.reps st r;have S:(fs++[m]).length=(us++[V.ref ad]).length:=by rw[au,au,Y];rfl
    obtain⟨w1,w2⟩:=D.chgN (l:=ad) (s':=.ag (.ins true E (fs++[m])) l (ps++[.o r.1])) (.i C dx ((fs++[m]).zip (us++[.ref ad]))) f t (.inl rfl)
     ⟨p,as++[ad],us++[.ref ad],rfl,O,by
      rw[b9] at U ⊢;refine⟨λz=>?_,List.nodup_append.mpr ⟨U.2,by simp,λy hy z g=>?_⟩⟩
      ·rcases dg.mp z with z |z
       ·exact U.1 z
       ·exact P (de.mp z)
      ·rw[de.mp g];exact λw=>na (w ▸ hy),hr,⟨C,dx,e,kx,S⟩,A.snoc (.inr rfl) u (D.reps st rp)⟩
     (λj s v Z e4=>R.noOwn M j s v Z e4) λb B=>by
       rcases B with B | ⟨p',us',z,y,j,ds,h1,h2⟩
       ·exact .inl (.inl B)
       ·cases z
        have ey:us'=us++[.ref ad]:=xw (K:=X.K) (k:=.ins true E (fs++[m])) (us:=us++[.ref ad]) ⟨C,dx,e,kx,S⟩ y;rw[ey] at h2;by_cases T:j<ps.length
        ·rw[ay T] at h1
         rw[ay (by rw[<-J.length];exact T)] at h2;exact .inl (.inr ⟨p,us,rfl,⟨Y,C,dx,I⟩,j,ds,h1,h2⟩)
        ·rw[dn (by rw[<-J.length];lia),<-J.length] at h2
         cases hjj:j-ps.length with
         |zero=>rw[hjj] at h2;simp at h2;exact .inr h2.symm |succ n=>rw[hjj] at h2;simp at h2
    rw[zur hf Y];exact k _ σ _ (s1.trans w2) w1⟩
end L2
namespace L2
open PySem
abbrev ir:h7:=["kept", "states"]
end L2
namespace L2
open PySem PySem.Spec PyProof.Rows
def wn(i:Nat)(g:FE)(F:FA):FS:=λe=>(F e).bind λr=>match r.2[i]? with
 |some ↑(.o2 dss)=>(g (frsE r.2)).bind λq=>(match q.1 with | .int k=>(ixN dss.length k).map λj=>(.nx,r.2.set i ↑(.o2 (dss.set j r.1))) |_=>none)
 |_=>none
def zut(i:Nat)(g h f:FE):FS:=λe=>(f e).bind λr=>match r.2[i]? with
 |some ↑(.o2 dss)=>(g (frsE r.2)).bind λq=>(h (frsE r.2)).bind λp=>(match q.1,p.1 with
   | .int k,.int m=>(ixN dss.length k).bind λj=>(dss[j]?).bind λds=>(ixN ds.length m).map λn=>(.nx,r.2.set i ↑(.o2 (dss.set j (ds.set n r.1))))
   |_,_=>none)
 |_=>none
section
variable {X:Cx} {G:Gd} {H0:Hp} {a b e:Expr} {es:kb} {f g h:FE} {F:FA} {x:Str} {pos p' p1 p2:Pos} {i j:Nat} {K:k6} {W:Addr->Prop} {H:Hp} {env:DE0} {σ:St}
theorem Ok.swap2(R:Ok K G H0 W env σ H){l:Addr}{us:k9}{ds:la}{dss:List la}{j:Nat}{v:V}(ok:Ok K G H0 (addW W l) env σ H)(p:¬W l)(hl:H l=↑(.lst us))(r:Reps K H (Ow G (addW W l)) ds us)(t:env[i]?=↑↑(.o2 dss))(x:σ[i]?=↑↑v)(hj:j<dss.length) :
  ∃(L:Addr) (ls:ic),v=.ref L/\H L=↑(.lst (ls.map V.ref))/\ls.length=dss.length/\Ok K G H0 (addW W l) (env.set i ↑(.o2 (dss.set j ds))) σ (upd H L (.lst ((ls.set j l).map V.ref)))/\Step (addW W l) H (addW W l) (upd H L (.lst ((ls.set j l).map V.ref))):=by
 obtain⟨v1,Q,L,ls,rfl,T,A,B,hi⟩:=R.slot i _ t;rw[x] at Q;cases Q;have S:addW W l L:=.inl T;have st:Step (addW W l) H (addW W l) (upd H L (.lst ((ls.set j l).map V.ref))):=⟨λb o q n=>by rw[ii (λz:b=L=>n (by rw[z];exact S))];exact q,λb z=>.inl z⟩;have nl:∀(k:Nat) (s:Sl) (u:V),env[k]?=↑↑s->σ[k]?=↑↑u->¬Owns H s u l:=λk s u C g o=>by
  obtain⟨u',X,h⟩:=R.slot k s C;rw[g] at X;cases X;exact p (h.owns o)
 have U:l≠L:=λz=>p (z ▸ T);have I:=hi.1;have J:∀(k:Nat) (c:Addr),(ls.set j l)[k]?=↑c->(j=k/\c=l)\/(j≠k/\ls[k]?=↑c):=λk c q=>by
  rcases pv q with⟨e,q,_⟩ |q
  ·exact .inl ⟨e,q⟩
  ·exact .inr q
 have E:(L::ls.set j l).Nodup:=by
  refine b9.mpr ⟨λz=>?_,?_⟩
  ·obtain⟨k,Y⟩:=m7.mp z
   rcases J k L Y with⟨_,e⟩ | ⟨_,e⟩
   ·exact U e.symm
   ·exact(b9.mp B).1 (az e)
  ·refine List.pairwise_iff_getElem.mpr λk1 k2 F Z aa z=>?_
   obtain⟨c2,hc2⟩:∃c,(ls.set j l)[k2]?=↑c:=⟨_,av Z⟩;have M:(ls.set j l)[k1]?=↑c2:=by rw[<-hc2,av F,av Z,z]
   have a:∀k c,ls[k]?=↑c->c≠l:=λk c q w=>p (w ▸ (hi.2 k (dss[k]'(by rw[<-I];exact(ak.mp q).1)) c (av _) q).1);rcases J k1 c2 M with⟨a1,b1⟩ | ⟨a1,b1⟩ <;> rcases J k2 c2 hc2 with⟨a2,m⟩ | ⟨a2,m⟩
   ·lia
   ·exact a _ _ m b1
   ·exact a _ _ b1 m
   ·have:=zpu (b9.mp B).2 b1 m;lia
 refine⟨L,ls,rfl,A,I,?_⟩;refine ok.chgN (.l _) t x (.inl rfl) ⟨L,ls.set j l,rfl,S,kx,E,by simp[I],λk es c C g=>?_⟩ nl λb o=>?_
 ·rcases pv C with⟨rfl,z,_⟩ | ⟨Y,q'⟩
  ·cases z
   rcases J j c g with⟨_,rfl⟩ | ⟨y,_⟩
   ·exact⟨.inr rfl,us,by rw[ii U];exact hl,ok.reps st r⟩
   ·exact absurd rfl y
  ·rcases J k c g with⟨y,_⟩ | ⟨_,y⟩
   ·exact absurd y Y
   ·obtain⟨N,vs,hc,rc⟩:=hi.2 k es c q' y
    have ne:c≠L:=λz=>(b9.mp B).1 (z ▸ az y);refine⟨.inl N,vs,by rw[ii ne];exact hc,?_⟩;obtain⟨v2,e2,L2,ab,e3,_,d,_,O⟩:=ok.slot i _ t;rw[x] at e2;cases e2;cases e3;rw[A] at d;have:=xf (by simpa using d);subst this;obtain⟨_,ag,f,P⟩:=O.2 k es c q' y;rw[hc] at f;cases f;exact ok.reps st P
 ·rcases o with o | ⟨L',ls',z,q,hb⟩
  ·exact .inl (.inl o)
  ·cases z
   rw[kx] at q;have:=xf (show(ls.set j l).map V.ref=ls'.map V.ref by simpa using q);subst this;obtain⟨k,Y⟩:=m7.mp hb;rcases J k b Y with⟨_,e⟩ | ⟨_,e⟩
   ·exact .inr e
   ·exact .inl (.inr ⟨L,ls,rfl,A,az e⟩)
def zuu{Nn Cn:h7}(h:∀G H0,DEx X G H0 b g)(m:DFx X G H0 e F)(an:Ats Nn Cn X)(Y:Nn[i]?=↑x:=by rfl)(n:swapsWithSole [.Subscript (.Name x p') b p1] e pos.line X.env=pure false:=by rfl)(o:swappedStores [.Subscript (.Name x p') b p1] e X.env=pure none:=by rfl)(h1:(assignEach [.Subscript (.Name x p') b p1] X.env).map (·.2)=[assign (.Subscript (.Name x p') b p1) X.env]:=by rfl)(J:∀v,assign (.Subscript (.Name x p') b p1) X.env v=(do
   let ov <-holding [v] (eval (.Name x p') X.env);let iv <-holding [v,ov] (eval b X.env)
   standAt p1
   holding [v,ov,iv] (setItem ov iv v)
   release [v,ov,iv] []):=by intro _;rfl) :
  DSx X G H0 (.Assign [.Subscript (.Name x p') b p1] e pos) (wn i g F):=⟨λpins s σ H Dn I p=>by
 obtain⟨W,env,fl,env',ok,q,k⟩:=p;unfold wn at q;cases e1:F env with
 |none=>rw[e1] at q;cases q
 |some r =>
   rw[e1,ac] at q;split at q;case h_2=>cases q
   rename_i dss c;cases e2:g (frsE r.2) with
   |none=>rw[e2] at q;cases q
   |some r2 =>
     rw[e2,ac] at q;split at q;case h_2=>cases q
     rename_i kk Z;cases e3:ixN dss.length kk with
     |none=>rw[e3] at q;cases q
     |some j =>
       rw[e3] at q;cases q;have t:j<dss.length:=(zpp e3).2.1;refine(zc m.out (zt1 ((an.a Y).pe) (el_x (X:=X) rfl h) zn J) n o h1) pins s σ H Dn I ⟨W,env,r.1,r.2,ok,e1,λW1 l us H1 u R D w y z=>?_⟩;obtain⟨v,d,_⟩:=R.slot i _ c;refine⟨_,d,OwG G (addW W1 l) H1,H1,NoW,frsE r.2,r2.1,r2.2,D.freezeS,e2,λC v2 H2 s2 A S=>?_⟩;have sm:=s2.noW;rw[Z] at S;obtain⟨L,ls,rfl,B,U,f,V⟩:=Ok.swap2 (R.same sm) (D.same sm) w (sm _ _ y) ((D.reps (Step.same sm) z)) c d t;exact⟨L,_,kk,j,rfl,S.int_,B,by rw[af,U];exact e3,by rw[gw] at f V;exact k _ _ _ ((u.trans (Step.same sm)).trans V) f⟩⟩
theorem zx7{Nn Cn:h7}(C:∀G H0,DEx X G H0 a g)(E:∀G H0,DEx X G H0 b h)(F:DEx X G H0 e f)(an:Ats Nn Cn X)(Z:Nn[i]?=↑x:=by rfl)(d:vn a:=by intro _ _;rfl)(K:swapsWithSole [.Subscript (.Subscript (.Name x p') a p2) b p1] e pos.line X.env=pure false:=by rfl)(M:swappedStores [.Subscript (.Subscript (.Name x p') a p2) b p1] e X.env=pure none:=by rfl)(h1:(assignEach [.Subscript (.Subscript (.Name x p') a p2) b p1] X.env).map (·.2)=[assign (.Subscript (.Subscript (.Name x p') a p2) b p1) X.env]:=by rfl)(U:∀v,assign (.Subscript (.Subscript (.Name x p') a p2) b p1) X.env v=(do
   let ov <-holding [v] (eval (.Subscript (.Name x p') a p2) X.env);let iv <-holding [v,ov] (eval b X.env)
   standAt p1
   holding [v,ov,iv] (setItem ov iv v)
   release [v,ov,iv] []):=by intro _;rfl) :
  DSx X G H0 (.Assign [.Subscript (.Subscript (.Name x p') a p2) b p1] e pos) (zut i g h f):=⟨λpins s σ H Dn I N=>by
 obtain⟨W,env,fl,env',ok,q,k⟩:=N;unfold zut at q;cases e1:f env with
 |none=>rw[e1] at q;cases q
 |some r =>
   rw[e1,ac] at q;split at q;case h_2=>cases q
   rename_i dss l;cases e2:g (frsE r.2) with
   |none=>rw[e2] at q;cases q
   |some r2 =>
     rw[e2,ac] at q;cases e3:h (frsE r.2) with
     |none=>rw[e3] at q;cases q
     |some r3 =>
       rw[e3,ac] at q;split at q;case h_2=>cases q
       rename_i kk mm m p;cases e4:ixN dss.length kk with
       |none=>rw[e4] at q;cases q
       |some j =>
         rw[e4,ac] at q;cases e5:dss[j]? with
         |none=>rw[e5] at q;cases q
         |some ds =>
           rw[e5,ac] at q;cases e6:ixN ds.length mm with
           |none=>rw[e6] at q;cases q
           |some n =>
             rw[e6] at q;cases q;refine(zc F.out (zt1 (xq znv ((an.a Z).pe) (el_x (X:=X) rfl C) d) (el_x (X:=X) rfl E) zn U) K M h1) pins s σ H Dn I ⟨W,env,r.1,r.2,ok,e1,λW1 v1 H1 O J P=>?_⟩;obtain⟨v,t,_⟩:=J.slot i _ l;refine⟨_,t,OwG G W1 H1,H1,NoW,frsE r.2,r2.1,r2.2,J.freezeS,e2,λW2 v2 H2 s2 Q V=>?_⟩;have sm:=s2.noW;rw[m] at V;have R:=J.same sm;obtain⟨L,ls,c,vs,rfl,A,u,w,T,B⟩:=zub R l t e4 e5;refine⟨L,_,kk,.ref c,rfl,V.int_,.inl (.inl A),w,OwG G W1 H2,H2,NoW,frsE r.2,r3.1,r3.2,R.freezeS,e3,λW3 v3 H3 s3 aa Y=>?_⟩;have D:=s3.noW;rw[p] at Y;have y:=R.same D;have S:Same H1 H3:=λb o z=>D b o (sm b o z);obtain⟨t1,t2⟩:=y.turn2 l t (D _ _ A) e5 u (Reps.set (J.rep (Step.same S) P) n (R.reps (Step.same D) B));exact⟨c,vs,mm,n,rfl,Y.int_,D _ _ T,by rw[<-B.length];exact e6,k _ _ _ ((O.trans (Step.same S)).trans t2) t1⟩⟩
end
end L2
namespace L2
open PySem PySem.Spec PyProof.Rows PySem.F
variable{prog:Program}{w:World}{A:Around}{E:Value->Shared->Prop}{s:Shared}
theorem zr3{it t:Addr}{D:k8}(U:t≠it):∀(n i:Nat) (s:Shared) (Q:h8->Shared->Prop),s.heap.IsListIter it t i->s.heap.IsList t D->i+n<=D.size ->
  (∀h',h'.IsListIter it t (i+n)->Heap.SameBut it s.heap h'->Q ((D.toList.drop i).take n) { s with heap:=h' })->wpAny (model prog w) A (draw (.ref it) n) Q E s
 |0,i,s,Q,hit,_,_,hQ=>by
   exact wpAny_pure (by simpa using hQ s.heap hit (Heap.SameBut.refl ..))
 |n+1,i,s,Q,hit,ht,hle,hQ=>by
   have V:i<D.size:=by lia
   refine wpAny_bind (wpAny_pyNext_list_item hit ht (x:=D[i]) (by simp[V]) λh₁ J I=>?_);refine wpAny_bind (wpAny_holding (zr3 U n (i+1) _ _ J (ht.extBut I.extBut U) ⋯ λY R S=>wpAny_pure ?_));have hd:D.toList.drop i=D[i]::D.toList.drop (i+1):=by simp[fm,V]
   have:=hQ Y (by rw[show i+(n+1)=i+1+n by lia];exact R) (I.trans S);rw[hd,List.take_succ_cons] at this;exact this
variable{pos:Pos}
theorem zmj{env:Env}{I:kb}{x1}{t:Addr}{D:k8}{Q:Unit->Shared->Prop}(f:A.handled=none)(Y:s.heap.IsList t D)(g:(assignEach I env).length=D.size)(S:(assignEach I env).findIdx? (·.1)=none)(h:∀h',Heap.ExtBut s.heap.objs.size s.heap h'->wpAny (model prog w) A (assignInOrder ((assignEach I env).map (·.2)) D.toList) Q E { s with heap:=h' }):wpAny (model prog w) A (assign (.Tuple I x1 pos) env (.ref t)) Q E s:=by
 refine wpAny_bind (wpAny_standAt ?_);unfold unpack;rw[g,S];refine wpAny_bind (wpAny_holding ?_);have Z:t≠s.heap.objs.size:=by obtain⟨o,i,_⟩:=Y;exact cj (bu i)
 refine wpAny_bind ?_;refine wpAny_bind (wpAny_specialOf Y.typeIs PySem.slot_list_iter.lookup ?_);refine wpAny_pure ?_;refine wpAny_bind (wpAny_holding (wpAny_pyIter_list Y ?_));refine wpAny_bind (wpAny_holding (zr3 Z D.size 0 _ _ ⟨_,cy _ rfl,rfl,rfl⟩ (Y.push _) ⋯ λh₁ R J=>?_));have a:List.take D.size (List.drop 0 D.toList)=D.toList:=by
  rw[List.drop_zero];exact io (by simp)
 rw[a];rw[if_neg (by simp)];have U:h₁.IsList t D:=(Y.push _).extBut J.extBut Z;refine wpAny_bind (wpAny_holding (wpAny_pyNext_list_end f R U (by simp) λc V=>?_));exact wpAny_pure (h c λb o d e=>V b o d (J.extBut b o d (aw _ e)))
def y7(r:Nat):ik->ln->Nat->DE0->Option DE0
 | [],[],_,e=>↑e |i::ix,.d d::ps,n,e=>y7 r ix ps n (e.set i ↑(.sh d))
 |i::ix,.o _::ps,n,e=>y7 r ix ps (n+1) (e.set i ↑(.al r n))
 |_,_,_,_=>none
def xu(i:Nat)(ix:ik):FS:=λe=>match e[i]? with
 |some ↑(.ag .ls ↑r ps)=>if i∈ix then none else(y7 r ix ps 0 e).map λe'=>(.nx,e')
 |_=>none
variable{G:Gd}{H0:Hp}{ix:ik}
theorem zs7{K:k6}{W:Addr->Prop}{H:Hp}{r:Nat}{p:Addr}{D:ic}(J:G.r r=p::D):∀(ix:ik) (ps:ln) (n:Nat) (as:ic) (us:k9) (env env':DE0) (σ:St) (Q:St->Hp->Prop),Ok K G H0 W env σ H->PtsOk K G W H ps as us->(∀(m:Nat) (a:Addr),as[m]?=↑a->D[n+m]?=↑a) ->
  y7 r ix ps n env=↑env'->(∀I,Ok K G H0 W env' I H->Q I H)->gIs ix us σ H Q
 | [],[],_,_,_,_,_,σ,Q,ok,.nil,_,e,k=>by cases e;exact⟨rfl,k σ ok⟩
 |i::ix,.d d::ps,n,as,_,env,env',σ,Q,ok,.d (v:=v) (us:=us) q t,ha,e,k =>
   ⟨v,us,rfl,zs7 J ix ps n as us _ env' _ Q (ok.put (s:=.sh d) (v:=v) q λ_ _ _ _ _ _ o=>o.elim) t ha e k⟩
 |i::ix,.o ds::ps,n,_,_,env,env',σ,Q,ok,.o (a:=a) (as:=as) (us:=us) hW hl q t,ha,e,k =>
   ⟨.ref a,us,rfl,zs7 J ix ps (n+1) as us _ env' _ Q (ok.put (s:=.al r n) (v:=.ref a) ⟨p,D,a,J,by simpa using ha 0 a rfl,rfl⟩ λ_ _ _ _ _ _ o=>o.elim) t (λm b R=>by have:=ha (m+1) b (by simpa using R);rwa [show n+1+m=n+(m+1) by lia]) e k⟩
variable{X:Cx}{es:kb}{x:Str}{p' p1:Pos}{i:Nat}
def z08{Nn Cn:h7}{k:Nat}(h:PGs X es (gIs ix))(an:Ats Nn Cn X)(R:Nn[i]?=↑x:=by rfl)(f:X.calm=true:=by rfl)(g:(assignEach es X.env).length=ix.length:=by rfl)(S:(assignEach es X.env).findIdx? (·.1)=none:=by rfl)(j:swapsWithSole [.Tuple es k p1] (.Name x p') pos.line X.env=pure false:=by rfl)(J:swappedStores [.Tuple es k p1] (.Name x p') X.env=pure none:=by rfl)(h1:(assignEach [.Tuple es k p1] X.env).map (·.2)=[assign (.Tuple es k p1) X.env]:=by rfl):DSx X G H0 (.Assign [.Tuple es k p1] (.Name x p') pos) (xu i ix):=⟨by
 have pg:PG X (.Tuple es k p1) (λv σ H Q=>∃a xs,v=.ref a/\H a=↑(.lst xs)/\xs.length=ix.length/\gIs ix xs σ H Q):=by
  intro pins s σ H v u Q I r J;obtain⟨a,xs,D,U,V,J⟩:=J;subst D;cases r;obtain⟨its,c,l,C⟩:=I.list (.inl (.inl U));refine zmj (I.ok.hd f) l.isList (by simp[g,<-V,c.length]) S λh' t=>?_;have w:Inv X pins σ H { s with heap:=h' }:=I.kept (t':=s.toks) λb o e=>t b o (cj (bu e)) e;exact h pins _ σ H xs _ Q w (by simpa using c) J
 refine(zc ((an.a R).pe) pg j J h1).imp λDn σ H y=>?_;obtain⟨W,env,fl,env',ok,q,kk⟩:=y;unfold xu at q;split at q;case h_2=>cases q
 rename_i r ps U;split at q;case isTrue=>cases q
 cases D:y7 r ix ps 0 env with
 |none=>rw[D] at q;cases q
 |some e' =>
   rw[D] at q;cases q;obtain⟨v,z,p,as,us,rfl,E,F,A,B,d⟩:=ok.slot i _ U;have V:∀(ix:ik) (ps:ln) (n:Nat) (env e':DE0),y7 r ix ps n env=↑e'->ix.length=ps.length:=λix=>by
    induction ix with
    |nil=>intro ps n env e' e;cases ps with |nil=>rfl |cons p _=>cases p <;> cases e
    |cons i ix ih =>
      intro ps n env e' e;cases ps with
      |nil=>cases e
      |cons p ps=>cases p <;> exact congrArg Nat.succ (ih ps _ _ _ e)
   exact⟨_,z,p,us,rfl,B,by rw[<-d.length];exact(V _ _ _ _ _ D).symm,zs7 (A r rfl) ix ps 0 as us env _ σ _ ok d (λm a K=>by rwa [ko]) D λY Z=>kk W Y H Step.refl Z⟩⟩
end L2
namespace L2
open PySem PySem.Spec PyProof.Rows
variable{X:Cx}{G:Gd}{H0:Hp}{F:FA}{st:Stmt}{i:Nat}
def z4l{b:Bool}(h:∀G H0,PS X st (tAsg (tDF X.K G H0 F) (ng i))):PS X st (tAsg (tDF X.K G H0 (qk b F)) (ng i)):=λpins s σ H D I S=>by
 obtain⟨W,env,d,env',ok,q,k⟩:=S;unfold qk at q;cases e1:F (frz b env) with
 |none=>rw[e1] at q;cases q
 |some r =>
   rw[e1,ac] at q;split at q;case isFalse=>cases q
   rename_i U;cases q;refine h (AllG G.r) H pins s σ H D I ⟨NoW,frz b env,r.1,r.2,ok.freeze b,e1,λW' l vs H' st V Y f R Z=>?_⟩;have J:H l=none:=(st.ws l (.inr rfl)).elim (λz=>z.elim) id;obtain⟨a,g,c,e⟩:=ok.fresh0 (H':=H') st.noW J R;exact k W l vs H' e (ok.same st.noW) c a R (Z.noLs U)
def celN(N:h7)(sc:Scope):h7:=N.filter λu=>sc.names.lookup u==some .cell
def scB(N ps:h7)(sc:Scope):Bool:=decide (sc.kind=.function) && !sc.isCoroutine && !sc.isGenerator && decide N.Nodup && decide (N.take ps.length=ps) && decide (∀y∈sc.names,y.2≠.free) && N.all λx=>okN x && (sc.names.lookup x==some .local || sc.names.lookup x==some .cell)
variable{N ps:h7}{sc:Scope}
def qr(h:scB N ps sc=true):tx N ps sc/\∀x∈N,Loc sc x/\(x==("__debug__" : Str))=false/\(x==("__classdict__" : Str))=false:=by
 unfold scB at h;simp only[eh,decide_eq_true_eq,lj,ib] at h;obtain⟨⟨⟨⟨⟨⟨h1,h2⟩,R⟩,S⟩,I⟩,U⟩,V⟩:=h;have J:∀x∈N,Loc sc x/\(x==("__debug__" : Str))=false/\(x==("__classdict__" : Str))=false:=λx D=>by
  obtain⟨a,b⟩:=V x D;have a:=uo a;rcases Bool.or_eq_true _ _ ▸ b with b |b
  ·exact⟨.inl (wm b),a⟩
  ·exact⟨.inr (wm b),a⟩
 exact⟨⟨h1,h2,R,S,I,λx D=>(J x (by rw[<-I] at D;exact List.mem_of_mem_take D)).1,U⟩,J⟩
variable{P:Program}{w:World}{K:k6}{mg:Str->ia}{base:Heap}{CX:CXT}{qual:Str}{f:Addr}{cdv:Value}{A:Around}{outer:ka}{s:Shared}{H:Hp}{E:XK}
def t9(h:scB N ps sc=true):Ats N (celN N sc) (cxOf CX P w K mg base N qual sc f cdv A outer s H E) :=
 ⟨rfl,λi x e=>let z:=(qr h).2 x (az e);⟨e,z.1.elim .inl λq=>.inr (.inl q),z.2.1,z.2.2⟩,λu D=>by
  obtain⟨_,h2⟩:=iw.mp D;exact .inl (wm h2)⟩
def t6(h:scB N ps sc=true):Tos N (cxOf CX P w K mg base N qual sc f cdv A outer s H E) :=
 ⟨λi x e=>⟨(qr h).1.nd,e,((qr h).2 x (az e)).1,.inl rfl⟩⟩
variable{x:Str}{pos:Pos}
def Tos.pg(t:Tos N X)(h:N[i]?=↑x:=by rfl):PG X (.Name x pos) (ng i):=zwk (t.t h).nd (t.t h).n (t.t h).l (t.t h).f
variable{e:Expr}{p':Pos}
def Tos.psF(t:Tos N X)(D:DFx X G H0 e F)(h:N[i]?=↑x:=by rfl)(I:swapsWith e ↑(.Name x p') pos.line X.env=pure false:=by rfl):PS X (.Assign [.Name x p'] e pos) (tAsg (tDF X.K G H0 F) (ng i)):=zq6 (t.t h).nd (t.t h).n (t.t h).l D.out I (t.t h).f
variable{f2:FA2}
def Tos.psF2(t:Tos N X)(D:DF2x X G H0 e f2)(h:N[i]?=↑x:=by rfl)(I:swapsWith e ↑(.Name x p') pos.line X.env=pure false:=by rfl):PS X (.Assign [.Name x p'] e pos) (tAsg (tDF2 X.K G H0 f2) (ng i)):=zq6 (t.t h).nd (t.t h).n (t.t h).l D.out I (t.t h).f
variable{P:h8->Prop}
def us0(h:P [])(us:h8)(e:us.length=0):P us:=kg e ▸ h
variable{n:Nat}
def usn(h:∀a,∀us:h8,us.length=n->P (a::us))(us:h8)(e:us.length=n+1):P us:=by
 cases us with
 |nil=>cases e
 |cons a us=>exact h a us (Nat.succ.inj e)
def us1(h:∀a,P [a]):∀us,us.length=1->P us:=usn λa=>us0 (h a)
def us2(h:∀a b,P [a,b]):∀us,us.length=2->P us:=usn λa=>us1 (P:=λus=>P (a::us)) (h a)
def us3(h:∀a b c,P [a,b,c]):∀us,us.length=3->P us:=usn λa=>us2 (P:=λus=>P (a::us)) (h a)
def us4(h:∀a b c d,P [a,b,c,d]):∀us,us.length=4->P us:=usn λa=>us3 (P:=λus=>P (a::us)) (h a)
def us5(h:∀a b c d e,P [a,b,c,d,e]):∀us,us.length=5->P us:=usn λa=>us4 (P:=λus=>P (a::us)) (h a)
def Def(K:k6)(mg:Str->ia)(st:Stmt)(x:Str)(ps:h7):Prop:=∃f fd,Fun K x x st f fd/\Binds K fd ps []/\mg x=↑(.ref f)
def Mef(K:k6)(C:Addr)(st:Stmt)(x qual:Str)(ps:h7):Prop:=∃f fd,Fun K x qual st f fd/\Binds K fd ps []/\Meth K C x f
variable{P:Program}{k ar:Nat}{g:FS}
theorem jc(T:Def K mg st x ps)(N:h7)(D:∀ {f:Addr} {cdv:Value} {A:Around} {outer:ka} {s:Shared} {H:Hp} {E:XK} {G:Gd} {H0:Hp},Room k (A.deeper (envOfC x (gl st) s.heap.objs.size f cdv)) ->
   Ats N (celN N (gl st)) (cxOf CX0 P w K mg base N x (gl st) f cdv A outer s H E).nox->Tos N (cxOf CX0 P w K mg base N x (gl st) f cdv A outer s H E).nox->DBx (cxOf CX0 P w K mg base N x (gl st) f cdv A outer s H E).nox G H0 (mh st) g)(h:scB N ps (gl st)=true:=by decide +kernel)(I:okN x=true:=by decide +kernel)(J:n=N.length:=by rfl)(R:ar=ps.length:=by rfl):Cal P w K mg base CX0 x (k+1) (dSp K (runD n ar g)):=by
 obtain⟨f,fd,F,b,m⟩:=T;exact⟨f,fd,ps,fn_D F (qr h).1 J R λcdv A outer s H E G H0 S=>D S (t9 h).nox (t6 h).nox,m,F.kp,b,(uo I).1⟩
theorem z4m(T:Def K mg st x ps)(N:h7)(D:∀ {f:Addr} {cdv:Value} {A:Around} {outer:ka} {s:Shared} {H:Hp} {E:XK} {G:Gd} {H0:Hp},Room k (A.deeper (envOfC x (gl st) s.heap.objs.size f cdv)) ->
   Ats N (celN N (gl st)) (cxOf CX0 P w K mg base N x (gl st) f cdv A outer s H E).nox->Tos N (cxOf CX0 P w K mg base N x (gl st) f cdv A outer s H E).nox->DBx (cxOf CX0 P w K mg base N x (gl st) f cdv A outer s H E).nox G H0 (mh st) g)(h:scB N ps (gl st)=true:=by decide +kernel)(I:okN x=true:=by decide +kernel)(J:n=N.length:=by rfl)(R:ar=ps.length:=by rfl):Cal P w K mg base CX0 x (k+1) (fSp K (runF n ar g)):=by
 obtain⟨f,fd,F,b,m⟩:=T;exact⟨f,fd,ps,fn_F F (qr h).1 J R λcdv A outer s H E G H0 S=>D S (t9 h).nox (t6 h).nox,m,F.kp,b,(uo I).1⟩
theorem z8a(T:Def K mg st x ps)(N:h7)(D:∀ {f:Addr} {cdv:Value} {A:Around} {outer:ka} {s:Shared} {H:Hp} {E:XK} {G:Gd} {H0:Hp},Room k (A.deeper (envOfC x (gl st) s.heap.objs.size f cdv)) ->
   Ats N (celN N (gl st)) (cxOf CX0 P w K mg base N x (gl st) f cdv A outer s H E).nox->Tos N (cxOf CX0 P w K mg base N x (gl st) f cdv A outer s H E).nox->DBx (cxOf CX0 P w K mg base N x (gl st) f cdv A outer s H E).nox G H0 (mh st) g)(h:scB N ps (gl st)=true:=by decide +kernel)(I:okN x=true:=by decide +kernel)(J:n=N.length:=by rfl)(R:ar=ps.length:=by rfl):Cal P w K mg base CX0 x (k+1) (fSp2 K (yp n ar g)):=by
 obtain⟨f,fd,F,b,m⟩:=T;exact⟨f,fd,ps,z93 F (qr h).1 J R λcdv A outer s H E G H0 S=>D S (t9 h).nox (t6 h).nox,m,F.kp,b,(uo I).1⟩
abbrev Bd(P:Program)(w:World)(K:k6)(mg:Str->ia)(base:Heap)(N:h7)(qual:Str)(st:Stmt)(k:Nat)(g:FS):Prop:=∀ {f:Addr} {cdv:Value} {A:Around} {outer:ka} {s:Shared} {H:Hp} {E:XK} {G:Gd} {H0:Hp},Room k (A.deeper (envOfC qual (gl st) s.heap.objs.size f cdv)) ->
   Ats N (celN N (gl st)) (cxOf (CXr P w) P w K mg base N qual (gl st) f cdv A outer s H E)->Tos N (cxOf (CXr P w) P w K mg base N qual (gl st) f cdv A outer s H E)->DBx (cxOf (CXr P w) P w K mg base N qual (gl st) f cdv A outer s H E) G H0 (mh st) g
theorem Def.cal{sp:Sp}(T:Def K mg st x ps)(D:okN x=true)(h:∀f fd,Fun K x x st f fd->FnOk P w K mg base CX k f fd ps sp):Cal P w K mg base CX x k sp:=by
 obtain⟨f,fd,F,b,m⟩:=T;exact⟨f,fd,ps,h f fd F,m,F.kp,b,(uo D).1⟩
variable{p:Nat}
def td(T:Def K mg st x ps)(N:h7)(D:Bd P w K mg base N x st k g)(h:scB N ps (gl st)=true:=by decide +kernel)(I:okN x=true:=by decide +kernel)(J:n=N.length:=by rfl)(R:p+ar=ps.length:=by rfl):Cal P w K mg base (CXr P w) x (k+1) (qSp K (runQ n p ar g) (xQ n p ar g)) :=
 T.cal I λf fd F=>z74 F (qr h).1 J R λcdv A outer s H E G H0 S=>D S (t9 h) (t6 h)
def z4n(T:Def K mg st x ps)(N:h7)(D:Bd P w K mg base N x st k g)(h:scB N ps (gl st)=true:=by decide +kernel)(I:okN x=true:=by decide +kernel)(J:n=N.length:=by rfl)(R:p+ar=ps.length:=by rfl):Cal P w K mg base (CXr P w) x (k+1) (lSp K (runL n p ar g) (xL n p ar g)) :=
 T.cal I λf fd F=>z4h F (qr h).1 J R λcdv A outer s H E G H0 S=>D S (t9 h) (t6 h)
def yac(T:Def K mg st x ps)(N:h7)(D:Bd P w K mg base N x st k g)(h:scB N ps (gl st)=true:=by decide +kernel)(I:okN x=true:=by decide +kernel)(J:n=N.length:=by rfl)(R:ar=ps.length:=by rfl):Cal P w K mg base (CXr P w) x (k+1) (gSp K (runG n ar g) (xG n ar g)) :=
 T.cal I λf fd F=>yab F (qr h).1 J R λcdv A outer s H E G H0 S=>D S (t9 h) (t6 h)
variable{C:Addr}{cn:Str}
def t5(D:Cl K cn C)(c:Cls K C)(T:Mef K C st x qual ps)(N:h7)(I:Bd P w K mg base N qual st k g)(h:scB N ps (gl st)=true:=by decide +kernel)(J:n=N.length:=by rfl)(R:p+ar=ps.length:=by rfl):MCal P w K mg base cn x (k+1) (qSp K (runQ n p ar g) (xQ n p ar g)):=by
 obtain⟨f,fd,F,b,m⟩:=T;exact⟨C,f,fd,ps,c,m,z74 F (qr h).1 J R λcdv A outer s H E G H0 S=>I S (t9 h) (t6 h),b,D⟩
def yw(D:Cl K cn C)(c:Cls K C)(T:Mef K C st x qual ps)(N:h7)(I:Bd P w K mg base N qual st k g)(h:scB N ps (gl st)=true:=by decide +kernel)(J:n=N.length:=by rfl)(R:p+ar=ps.length:=by rfl):MCal P w K mg base cn x (k+1) (lSp K (runL n p ar g) (xL n p ar g)):=by
 obtain⟨f,fd,F,b,m⟩:=T;exact⟨C,f,fd,ps,c,m,z4h F (qr h).1 J R λcdv A outer s H E G H0 S=>I S (t9 h) (t6 h),b,D⟩
def yad(D:Cl K cn C)(I:mg cn=↑(.ref C))(J:PySem.W.makesIn K C=true)(kp:PySem.W.keepIn K (.ref C)=true)(T:Mef K C st "__init__" qual ps)(N:h7)(R:Bd P w K mg base N qual st k g)(h:scB N ps (gl st)=true:=by decide +kernel)(S:okN cn=true:=by decide +kernel)(U:n=N.length:=by rfl)(V:p+ar=ps.length:=by rfl) :
  KCal P w K mg base cn (k+1) (lSp K (runL n p ar g) (xL n p ar g)):=by
 obtain⟨f,fd,F,b,m⟩:=T;exact⟨C,f,fd,ps,⟨J,m.at_,m.fn,kp⟩,z4h F (qr h).1 U V λcdv A outer s H E G H0 Y=>R Y (t9 h) (t6 h),I,b,D,(uo S).1⟩
def yae(N:h7)(D:∀ {f:Addr} {cdv:Value} {A:Around} {outer:ka} {s:Shared} {H:Hp} {E:XK} {G:Gd} {H0:Hp},Room k (A.deeper (envOfC x (gl st) s.heap.objs.size f cdv)) ->
   Ats N (celN N (gl st)) (cxOf CX0 P w K mg base N x (gl st) f cdv A outer s H E).nox->Tos N (cxOf CX0 P w K mg base N x (gl st) f cdv A outer s H E).nox->DBx (cxOf CX0 P w K mg base N x (gl st) f cdv A outer s H E).nox G H0 (mh st) g)(h:scB N ps (gl st)=true:=by decide +kernel)(I:n=N.length:=by rfl)(J:ar=ps.length:=by rfl):∀f fd,Fun K x x st f fd->FnOk P w K mg base CX0 (k+1) f fd ps (dSp K (runD n ar g)) :=
 λf fd F=>fn_D F (qr h).1 I J λcdv A outer s H E G H0 R=>D R (t9 h).nox (t6 h).nox
variable{h:Heap}{oc:Value}{od an:Option Addr}{osl:Array ia}
def law_mk{R:Addr}{s:Str}{m:la->ll}{kV I S cdv ct:Value}(X:K.In h)(G:h.Ns mainGlobals mg)(J:mg x=↑(.ref R))(a:PySem.W.nsIn K mainGlobals x=↑↑(.ref f))(l:K.lookup f=↑⟨oc,od,.func (PySem.W.fnOf x x (vm st) (mh st) (gl st) .none kV I S an cdv ct),osl⟩)(c:PySem.W.codeIn K cdv x=true)(k':PySem.W.keepIn K (.ref f)=true)(V:∀v:Value,bindArgs (PySem.W.fnOf x x (vm st) (mh st) (gl st) .none kV I S an cdv ct) ⟨[v],[]⟩=pure [(s,v)])(F:∀base f fd,Fun K x x st f fd->FnOk P w K mg base CX0 k f fd [s] (dSp K m))(good:∀U:i0,U.length<=63->m [.lst (U.map D.int)]=↑(.bl true)) :
  ∃fd:FuncData,(∀(t:Shared) (v:Value),BindsTo t fd ⟨[v],[]⟩ [(s,v)])/\∀base:Heap,K.In base->base.Ns mainGlobals mg->FnOk P w K mg base CX0 k R fd [s] (zua K):=by
 have e:=J.symm.trans (lr X G a);cases e;exact⟨_,λt v=>.of_eq (V v),λbase _ _=>z92 (F base _ _ (zw6 l c k')) good⟩
def walkD{l:PySem.W.OpenLaw}{q:Program}{D:h7}{S:(Str->ia)->Heap->Prop}{J:World->Heap->Prop}{d:DefRec}{K:Params->k6}{s:Str}(U:Room k callerA)(V:l.most=↑63)(I:d.params.defaults=[])(Y:∀(w:World) (h:Heap),J w h->(K w.params).In h)(F:∀(w:World) (mg:Str->ia) (R:Addr) (h:Heap),(K w.params).In h->h.Ns mainGlobals mg->mg d.name=↑(.ref R) ->
   ∃fd:FuncData,(∀(t:Shared) (u:Value),BindsTo t fd ⟨[u],[]⟩ [(s,u)])/\∀base:Heap,(K w.params).In base->base.Ns mainGlobals mg->FnOk l.prog w (K w.params) mg base CX0 k R fd [s] (zua (K w.params))) :
  PySem.W.WalkO q D S J l.row.toRowW d [] (λf vs=>PySem.call f vs) :=
 z3q (n:=63) (k:=k) (x:=s) (CX:=λ_=>CX0) (sp:=λw=>zua (K w.params)) V (by decide) I U Y F (λ_ _ a Z b _ c=>⟨a,Z,rfl,c,b,λ_=>rfl⟩) λ_ _ _ _ _ z=>z
def def_mk{kV D I cdv ct:Value}(X:K.In h)(G:h.Ns mainGlobals mg)(a:PySem.W.nsIn K mainGlobals x=↑↑(.ref f))(l:K.lookup f=↑⟨oc,od,.func (PySem.W.fnOf x x (vm st) (mh st) (gl st) .none kV D I an cdv ct),osl⟩)(c:PySem.W.codeIn K cdv x=true)(k:PySem.W.keepIn K (.ref f)=true)(J:∀us:h8,us.length=ps.length->bindArgs (PySem.W.fnOf x x (vm st) (mh st) (gl st) .none kV D I an cdv ct) ⟨us,[]⟩=pure (ps.zip us)):Def K mg st x ps :=
 ⟨f,_,zw6 l c k,.all J,lr X G a⟩
def exc_mk{c:Str}(X:K.In h)(G:h.Ns mainGlobals mg)(a:PySem.W.nsIn K mainGlobals c=↑↑(.ref C))(b:PySem.W.excIn K C VEs "ValueError.__new__" = true)(d:okN c=true):Exc K mg c:=⟨C,a,b,lr X G a,(uo d).1⟩
def con_mk{z:Int}{t:Tok}(X:K.In h)(G:h.Ns mainGlobals mg)(a:PySem.W.nsIn K mainGlobals x=↑↑(.int z t)):∃t,mg x=↑(.int z t):=⟨t,lr X G a⟩
def mef_mk{kV D I cdv ct:Value}(a:PySem.W.findIn K (.ref C) x=↑↑(.ref f))(l:K.lookup f=↑⟨oc,od,.func (PySem.W.fnOf x qual (vm st) (mh st) (gl st) .none kV D I an cdv ct),osl⟩)(c:PySem.W.codeIn K cdv qual=true)(k:PySem.W.keepIn K (.ref f)=true)(i:PySem.W.isFn K (.ref f)=true)(J:∀us:h8,us.length=ps.length->bindArgs (PySem.W.fnOf x qual (vm st) (mh st) (gl st) .none kV D I an cdv ct) ⟨us,[]⟩=pure (ps.zip us)):Mef K C st x qual ps :=
 ⟨f,_,zw6 l c k,.all J,a,i,k⟩
def dEqN:D->D->ll | .lst ds,.lst []=>↑(.bl ds.isEmpty) |_,_=>none
def rEqN(K:k6):R2:=λx y H Q=>∃p q vs,x=.ref p/\y=.ref q/\SqL K H p vs/\SqL K H q []/\Q (.bl vs.isEmpty) H
def z8b(S:X.A.units<cLine):OpR X (compareOp .Eq) (rEqN X.K):=by
 intro pins s σ H x y v u Q I Y Z h;obtain⟨p,q,vs,rfl,rfl,h1,h2,U⟩:=h;cases Y;cases Z;obtain⟨its,b,V,_⟩:=I.list h1;obtain⟨its',R,D,_⟩:=I.list h2;cases R;show wpAny (model X.prog X.w) X.A (richCompare .Eq (.ref p) (.ref q)) (EP X pins σ Q) X.xe s;have J:=b.length;cases vs with
 |nil =>
   have c:its=[]:=jo.mp J.symm;subst c;have r:=SeqAt.RcAt.lists (A:=X.A) (s:=s) (e:=λ_=>true) V.isList D.isList rfl S (λj h1 _=>absurd h1 (Nat.not_lt_zero j));exact r X.prog X.w X.xe _ (kv I U rfl)
 |cons a vs =>
   have d:(its.toArray.size != ([]:h8).toArray.size)=true:=by
    rw[am] at J;simp;intro z;rw[z] at J;cases J
   have r:=SeqAt.RcAt.lists_lengths (A:=X.A) (s:=s) V.isList D.isList d S;exact r X.prog X.w X.xe _ (kv I U rfl)
def z8c:OpD X G H0 (rEqN X.K) dEqN:=by
 intro W env σ H x y U V d Q ok D I e k;unfold dEqN at e;split at e;case h_2=>cases e
 cases e;obtain⟨p,vs,rfl,h1,J⟩:=D.lst_;obtain⟨q,us,rfl,h2,R⟩:=I.lst_;cases R;refine⟨p,q,vs,rfl,rfl,h1.sq,h2.sq,?_⟩;rename_i ds;have S:vs.isEmpty=ds.isEmpty:=by
  have:=J.length;cases ds <;> cases vs <;> first |rfl |cases this
 rw[S];exact k _ H Step.refl ok (.bl _)
def z8d{a b:Expr}{f g:FE}{jr:Nat}(D:Room jr X.A)(I:DEx X G H0 a f)(J:DEx X G H0 b g):DTx X G H0 (.Compare a [.Eq] [b] pos) (fTst (fBin dEqN f g)):=y9 (z8b (ky (li _) (z9s D))) z8c I J (wu _)
def ExcO(o:Obj)(C:Addr):Prop:=∃vs,o.cls=.ref C/\o.data=.fields vs/\vs[2]?=some .none
def zqh:entryFor table "proto.unchain" = ↑Builtin.«proto.unchain»:=entryFor_of_fast (by kernel_rfl)
variable{E:Value->Shared->Prop}{oc:Obj}{prog:Program}
def zv2{α:Type}{x c:Addr}{ox:Obj}{D:k8}{Q:α->Shared->Prop}(J:A.handled=↑(.ref c))(R:s.heap.get? c=↑oc)(S:ExcO oc C)(I:s.heap.get? x=↑ox)(hd:ox.data=.fields D)(h2:2<D.size)(U:c≠x)(h:E (.ref x) { s with heap:=s.heap.update x (Obj.mapFields (·.setIfInBounds 2 (.ref c))) }):wpAny (model prog w) A (raiseNew (.ref x):Sem α) Q E s:=by
 refine wpAny_bind (wpAny_handled ?_);rw[J];dsimp only;rw[if_pos (by simp[U])];obtain⟨Z,a,V,Y⟩:=S;refine wpAny_bind (wpAny_holding (wpAny_runValue (codeAny_builtin zqh ?_)));refine wpAny_bind (wpAny_field R V Y ?_);refine wpAny_bind (wpAny_pure (wpAny_pure ?_));refine wpAny_bind ?_;refine wpAny_bind (wpAny_load I ?_);rw[hd];dsimp only;rw[if_pos h2];exact wpAny_update I (wpAny_throw h)
theorem zs8{it:Addr}{x left step:Int}{c:Addr}{Q:ia->Shared->Prop}(R:A.handled=↑(.ref c))(J:s.heap.get? c=↑oc)(S:ExcO oc C)(D:IsRangeIter s.heap it x left step)(I:left<=0)(U:∀h',Heap.ExtBut it s.heap h'->Q none { s with heap:=h' }):wpAny (model prog w) A (pyNext (.ref it)) Q E s:=by
 have hT:s.TypeIs (.ref it) "range_iterator":=⟨_,D,rfl⟩;refine wpAny_bind (wpAny_attempt (wpAny_callSpecial?_slot (name:=Str.ofString "__next__") hT F.slot_range_iterator_next
  (wpAny_call_entry F.slot_range_iterator_next hT F.entry_range_iterator_next ?_ (F.args_range_iterator_next_1 _))))
 show wpAny _ _ (field (.ref it) 0 >>= _) _ _ s;refine wpAny_bind (wpAny_field D rfl (x:=rawInt x) rfl ?_);show wpAny _ _ (field (.ref it) 1 >>= _) _ _ s;refine wpAny_bind (wpAny_field D rfl (x:=rawInt left) rfl ?_);refine wpAny_bind (wpAny_field D rfl (x:=rawInt step) rfl ?_);show wpAny _ _ (if left<=0 then _ else _) _ _ s;rw[if_pos I];refine wpAny_bind (wpAny_rule ?_);refine wpAny_bind ?_;refine wpAny_bind ?_;refine wpAny_bind (m:=firstArgMember _ _) (wpAny_of_eq (a:=Value.none) (by first |rfl | (simp only[firstArgMember];rfl)) ?_);refine wpAny_newObj_type ?_ (by size_fits);refine zv2 (show A.in1.handled=↑(.ref c) from R) (aw _ (aw _ J)) S (cy _ rfl) rfl (by simp;lia) (cj (by rw[jk];exact gv (bu J))) ?_;refine wpAny_bind (wpAny_isInstance (T:="StopIteration") (b:=true) ⟨_,gk _ (cy _ rfl) (by rfl),rfl⟩ isSubtype_stop ?_);refine wpAny_pure (U _ λb o V e=>?_);rw[cz _ _ (λz=>absurd (z ▸ bu e) (by rw[jk];exact Nat.not_lt.mpr (li _)))];exact aw _ (aw _ e)
end L2
namespace L2
open PySem PySem.Spec PyProof.Rows PySem.W
structure ECls (K:k6) (C:Addr):Prop where
 ga:PySem.W.findIn K (.ref C) "__getattribute__" = ↑↑(.builtin "BaseException.__getattribute__")
 hk:PySem.W.findIn K (.ref C) "__getattr__" = ↑none
 fd:PySem.W.findObj K C none "__class__" = ↑(.bind (.builtin "getset_descriptor.__get__") (.builtin "object.__class__"))
 ob:PySem.W.mroIn K C (.type "object")=↑true
 be:PySem.W.mroIn K C (.type "BaseException")=↑true
variable{K:k6}{w:World}{A:Around}{E:Value->Shared->Prop}{s:Shared}{x:Str}{C:Addr}{Q:Unit->Shared->Prop}
theorem zx8{prog:Program}{x:Addr}{ox:Obj}{Q:ia->Shared->Prop}(c:ECls K C)(X:K.In s.heap)(I:PySem.W.InstAt s.heap x ox C none)(h:Q ↑(.ref C) { s with toks:=s.toks+1 }):wpAny (model prog w) A (getAttr? (.ref x) "__class__") Q E s:=by
 obtain⟨D,g,d,t,os⟩:=s;have J:=I.type (M:=model prog w);have R:=looks_findIn (M:=model prog w) X c.ga;have S:=looks_findIn (M:=model prog w) X c.hk;have U:=looks_find (M:=model prog w) X I c.fd;have V:=looks_mroIn (M:=model prog w) X c.be;refine wpAny_bind (wpAny_mkText (wpAny_bind (wpAny_attempt (wpAny_holding (wpAny_bind (J.at (wpAny_bind (R.at ?_))))))));refine wpAny_bind (m:=hookBefore _) (S.at ?_);refine wpAny_bind (wpAny_attempt (wpAny_holding ?_));refine wpAny_bind (wpAny_pure (wpAny_call ?_));refine codeAny_call_builtin F.excAttr_ValueError.ga.plain F.entry_bexc_ga ?_;have Y:Looks (model prog w) D (isInstance (.ref x) (.type "BaseException")) true:=J.andThen V;refine wpAny_bind (Y.at ?_);repeat (first |wp_step |assumption)
 refine wpAny_loadPart_at I.at_ ?_;rw[I.cls];refine wpAny_pure (wpAny_bind (U.at ?_));refine wpAny_bind (wpAny_holding (wpAny_call (class_get (s:=⟨D,g,d,t+1,os⟩) (ox:=ox) (od:=none) X I c.ob ?_)));exact wpAny_pure (handed_on rfl (wpAny_pure h))
def Exo(o:Obj)(C:Addr):Prop:=ExcO o C/\o.dict=none
variable{h:Heap}{ea:Addr}{o:Obj}
def Exo.inst(e:h.get? ea=↑o)(x:Exo o C):PySem.W.InstAt h ea o C none:=by
 obtain⟨⟨vs,h1,h2,_⟩,D⟩:=x;exact⟨e,h1,by unfold notCls;rw[h2],by rw[D];trivial⟩
def z09(c:ECls K C):KitX K (.ref ea) (.ref C) (λh=>∃ox,PySem.W.InstAt h ea ox C none):=by
 obtain⟨cd,D,_⟩:=dq.mp c.fd;unfold clsIn at D;split at D;case h_2=>cases D
 rename_i Y d' S U R;exact⟨λ_ _ _ ⟨_,I⟩=>I.type,λ_ _ X _ Z a b s' k q=>by
   exact wpAny_bind (wpAny_loadPart (k _ _ (X _ _ R)) (wpAny_pure q)),
  λh V dd its n sl X J=>Bool.eq_false_iff.mpr λq=>by
   have e:C=V:=Value.ref.inj (beq_iff_eq.mp q);subst e;have z:=(X _ _ R).symm.trans J
   (injection z with z;injection z with _ _ z;cases z),
  λX ⟨_,I⟩ k=>zx8 c X I k⟩
structure Hd (ea C:Addr) (X:Cx):Prop where
 hh:X.A.handled=↑(.ref ea)
 ob:∃o,X.s₀.heap.get? ea=↑o/\Exo o C
 h0:X.H₀ ea=none
 nf:ea∉X.fs
 nx:ea∉X.ex
variable{X:Cx}{pins:k7}{σ:St}{H:Hp}
def Hd.at(h:Hd ea C X)(I:Inv X pins σ H s):∃o,s.heap.get? ea=↑o/\Exo o C/\H ea=none :=
 let ⟨o,e,c⟩:=h.ob;⟨o,I.base.keep ea o e h.h0 h.nf h.nx,c,I.base.free ea o e h.h0 h.nx⟩
def Hd.comp{N':h7}{sc:Scope}{cl:List (Str×Addr)}{D:Addr}{fp:ic}(h:Hd ea C X)(I:Inv X pins σ H s)(J:∀b∈fp,FpOk X pins H b):Hd ea C (jd X x N' sc cl D s H fp):=by
 obtain⟨S,R,_⟩:=h.ob;obtain⟨o,e,c,n⟩:=h.at I;have lt:=bu R;refine⟨h.hh,⟨o,e,c⟩,n,λz=>?_,λz=>?_⟩
 ·rcases ce.mp (I.stkSub ea z) with q |q
  ·exact absurd (bq lt (q ▸ I.ok.above)) (f9 _)
  ·exact h.nf q
 ·rcases(J ea z).2.2.2.1 with q |q
  ·exact h.nx q
  ·exact absurd (bq lt q) (f9 _)
variable{P:Program}
theorem zs9{tg:Expr}(it:Addr)(lo:Int)(n:Nat):xt (Hd ea C) P w K tg (Itr lo n) [it] it (λi h=>IsRangeIter h it (lo+(i:Nat)*1) ((n:Int)-(i:Nat)) 1) where
 mem:=by simp
 obj:=(zki (P:=P) (w:=w) (K:=K) (tg:=tg) it lo n).obj
 keep:=(zki (P:=P) (w:=w) (K:=K) (tg:=tg) it lo n).keep
 item:=by
  intro X hP j k V i pins s σ H E I S st U;obtain⟨Y,Z,f2,a,d,f⟩:=S it (by simp);have U:i<n:=U;refine wpAny_pyNext_range_item st ⋯ λh' D g=>?_;have l:Inv X pins σ H { s with heap:=h',toks:=s.toks+1 }:=I.turned (λb o J e=>g.extBut b o J e) Y Z a d f;have m:lo+((i+1:Nat):Int)*1=lo+(i:Int)*1+1:=by lia
  have p:(n:Int)-((i+1:Nat):Int)=(n:Int)-(i:Int)-1:=by lia
  have R:IsRangeIter h' it (lo+((i+1:Nat):Int)*1) ((n:Int)-((i+1:Nat):Int)) 1:=by rw[m,p];exact D
  refine⟨_,rfl,zzq (s:={ s with heap:=h',toks:=s.toks+1 }) (n:="range_iterator") R rfl rfl (by decide) ⟨.int (lo+i),H,l,⟨s.toks,?_⟩,⟨rfl,rfl⟩,R,λb J=>(S b J).1⟩⟩;rw[Int.mul_one]
 done:=by
  intro X hP j k V i pins s σ H E I S st U;obtain⟨Y,Z,f2,a,d,f⟩:=S it (by simp);obtain⟨o,e,⟨c,_⟩,_⟩:=V.at I;exact zs8 V.hh e c st (by have:n<=i:=U;lia) λh' q=>⟨rfl,I.turned (t':=s.toks) (λb o J e=>q b o J e) Y Z a d f⟩
 self:=(zki (P:=P) (w:=w) (K:=K) (tg:=tg) it lo n).self
variable{a e:Expr}
def fIsx(ea:Addr)(i:Nat)(b:Bool):FE:=λe=>match e[i]? with |some ↑(.sh (.exc a))=>if a=ea then ↑(.bl b,e) else none |_=>none
variable{b:Expr}
def z1a(hd:Hd ea C X)(J:ECls X.K C):qp X (.builtin "isinstance") (λxs H Q=>∃v u b,xs=[.ref ea,v]/\RelV v u/\(∀D,RelV v D->D=u)/\PySem.W.kitOne X.K (.ref C) u=↑b/\Q (.bl b) H):=by
 intro pins s σ H xs us Q I r h;obtain⟨v,u,b,rfl,_,R,e,q⟩:=h;obtain⟨S,D,rfl,U,rt⟩:=zzs r;cases (show S=Value.ref ea from U);cases R D rt;obtain⟨o,V,Y,_⟩:=hd.at I;exact e7 (z09 J) I.kIn ⟨o,Y.inst V⟩ e (λz=>nomatch z) λtk=>⟨.bl b,H,I.tok tk,rfl,q⟩
variable{b:Bool}{Nn Cn:h7}{i:Nat}{cn:Str}{G:Gd}{H0:Hp}{pos p' p1 p2:Pos}
def z2m{v:V}{u:Value}(hd:Hd ea C X)(Z:ECls X.K C)(c:PE X (.Name cn p2) (tC v))(e:RelV v u)(f:∀S,RelV v S->S=u)(h:PySem.W.kitOne X.K (.ref C) u=↑b)(an:Ats Nn Cn X)(U:Bn X "isinstance":=by walk_at "b")(D:Nn[i]?=↑x:=by rfl)(Y:starEach [.Name x p1,.Name cn p2] X.env=(false,eval (.Name x p1) X.env)::starEach [.Name cn p2] X.env:=by rfl)(I:starEach [.Name cn p2] X.env=(false,eval (.Name cn p2) X.env)::starEach [] X.env:=by rfl)(J:(backTo pos (starEach [.Name cn p2] X.env)).any (·.1)=false:=by rfl) :
  DEx X G H0 (.Call (.Name "isinstance" p') [.Name x p1,.Name cn p2] [] pos) (fIsx ea i b) :=
 ⟨(zo (z1a hd Z) U.g U.m zt7 (n4 ((an.a D).pe) (n4 c qu I) Y) (by decide) (by decide) Y J).imp λσ H Q j=>by
  obtain⟨W,env,d,env',ok,q,k⟩:=j;unfold fIsx at q;split at q
  ·rename_i o l
   split at q;case isFalse=>cases q
   rename_i R;subst R;cases q;obtain⟨p,n,r⟩:=ok.slot i _ l;obtain rfl:=Rep.exc_ r;exact⟨_,n,v,u,b,rfl,e,f,h,k W _ H Step.refl ok (.bl b)⟩
  ·cases q⟩
variable{g:FE}
def z8e{R:Addr}(hd:Hd ea C X)(U:ECls X.K C)(V:X.mg cn=↑(.ref R))(Y:PySem.W.kitOne X.K (.ref C) (.ref R)=↑b)(an:Ats Nn Cn X)(Z:Gl X cn:=by walk_at "g")(D:(cn==("__debug__" : Str))=false:=by decide)(a:Bn X "isinstance":=by walk_at "b")(I:Nn[i]?=↑x:=by rfl)(c:starEach [.Name x p1,.Name cn p2] X.env=(false,eval (.Name x p1) X.env)::starEach [.Name cn p2] X.env:=by rfl)(J:starEach [.Name cn p2] X.env=(false,eval (.Name cn p2) X.env)::starEach [] X.env:=by rfl)(S:(backTo pos (starEach [.Name cn p2] X.env)).any (·.1)=false:=by rfl) :
  DEx X G H0 (.Call (.Name "isinstance" p') [.Name x p1,.Name cn p2] [] pos) (fIsx ea i b):=z2m hd U (zwh (v:=.ref R) Z V rfl D) rfl (λ_ z=>z) Y an a I c J S
def z4o:bootBuiltins "ValueError" = ↑(.type "ValueError"):=by decide +kernel
def z4p(hd:Hd ea C X)(S:ECls X.K C)(U:PySem.W.kitOne X.K (.ref C) (.type "ValueError")=↑b)(an:Ats Nn Cn X)(R:Bn X "ValueError":=by walk_at "b")(V:Bn X "isinstance":=by walk_at "b")(D:Nn[i]?=↑x:=by rfl)(Y:starEach [.Name x p1,.Name "ValueError" p2] X.env=(false,eval (.Name x p1) X.env)::starEach [.Name "ValueError" p2] X.env:=by rfl)(I:starEach [.Name "ValueError" p2] X.env=(false,eval (.Name "ValueError" p2) X.env)::starEach [] X.env:=by rfl)(J:(backTo pos (starEach [.Name "ValueError" p2] X.env)).any (·.1)=false:=by rfl) :
  DEx X G H0 (.Call (.Name "isinstance" p') [.Name x p1,.Name "ValueError" p2] [] pos) (fIsx ea i b):=z2m hd S (zwi (v:=.ty "ValueError") R.g R.m z4o rfl) rfl (λ_ z=>z) U an V D Y I J
def bTup:la->ll | [.lst ds]=>↑(.tup ds) |_=>none
def z1b:bootBuiltins "tuple" = ↑(.type "tuple"):=by decide +kernel
def z8f:vg X G H0 (λxs H Q=>∃p ys,xs=[.ref p]/\((SqL X.K H p ys/\∀l,H l=none->Q (.ref l) (upd H l (.tup ys)))\/(SqT X.K H p ys/\Q (.ref p) H))) bTup:=by
 intro W env σ H vs ds d Q ok r e k;unfold bTup at e;split at e
 ·cases e
  obtain⟨v,rfl,D⟩:=ul r;obtain⟨a,us,rfl,h,r⟩:=D.lst_;refine⟨a,us,rfl,.inl ⟨h.sq,λl I=>?_⟩⟩;have sm:Same H (upd H l (.tup us)):=om I;exact k _ _ (Step.same sm) (ok.same sm) (.tup kx (ok.reps (Step.same sm) r))
 ·cases e
variable{b:Expr}{F:FA}
def z4q(I:DAx X G H0 [e] F)(D:Bn X "tuple":=by walk_at "b")(J:starEach [e] X.env=(false,eval e X.env)::starEach [] X.env:=by rfl):DEx X G H0 (.Call (.Name "tuple" p') [e] [] pos) (dy bTup F):=zt6 zpr z8f D.g D.m z1b I (by decide) (by decide) J rfl
abbrev Cx.hush(X:Cx)(A:Around)(p:k7):Cx:={ X with A:=A,calm:=false,pn:=p++X.pn }
variable{p:k7}
def Inv.hush(I:Inv X pins σ H s)(hA:A.frames=X.A.frames)(D:∀q∈p,s.heap.get? q.1=↑q.2/\H q.1=none/\q.1≠X.env.locals/\q.1∉X.fs/\∀v,q.2.data≠.cell v):Inv (X.hush A p) pins σ H s :=
 ⟨⟨I.ok.mod,I.ok.kind,I.ok.glob,I.ok.blt,I.ok.above,I.ok.inj,I.ok.has,I.ok.cab,(λz=>nomatch z),hA.trans I.ok.frames,I.ok.stk,I.ok.exf,I.ok.bs,I.ok.bsz,I.ok.noex,I.ok.exfs,I.ok.funs,I.ok.frf⟩,I.os,I.bare,I.base,I.loc,I.cell,I.free,I.freeC,λq hq=>by
  rw[d7] at hq;rcases dg.mp hq with hq |hq
  ·exact D q hq
  ·exact I.pin q hq,I.hok,I.len⟩
def Inv.unhush(ok:X.Ok)(J:Inv (X.hush A p) pins σ H s):Inv X pins σ H s :=
 ⟨ok,J.os,J.bare,J.base,J.loc,J.cell,J.free,J.freeC,λq D=>J.pin q (by rw[d7];exact cf _ D),J.hok,J.len⟩
structure KOk (P:Program) (w:World) (K:k6) (mg:Str->ia) (base:Heap) (k:Nat) (f:Addr) (fd:FuncData) (ps:h7) (kd:Str->ll):Prop where
 len:ps.length=1
 run:∀(A:Around) (outer:ka) (s:Shared) (H:Hp) (ea C:Addr) (c:Str) (o:Obj) (d:D) (O:Addr->Prop) (Q:VK) (args:Args),Room k { A with handled:=none }->A.handled=↑(.ref ea)->Env0 P w K mg base A outer s H->BindsTo s fd args (ps.zip [.ref ea]) ->
  s.heap.get? ea=↑o->Exo o C->Cl K c C->H ea=none->ea∉frs outer->kd c=↑d->(∀v H',Same H H'->Rep K H' (λa=>O a\/H a=none) d v->Q v H')->codeAny (model P w) A (.call (.ref f) args) (CR CX0 outer P w H s Q E0) s
abbrev cxH(P:Program)(w:World)(K:k6)(mg:Str->ia)(base:Heap)(N:h7)(qual:Str)(scope:Scope)(f:Addr)(cdv:Value)(A:Around)(outer:ka)(s:Shared)(H:Hp):Cx :=
 ((cxOf CX0 P w K mg base N qual scope f cdv { A with handled:=none } outer s H E0).nox).hush (A.deeper (envOfC qual scope s.heap.objs.size f cdv)) []
def runK(n:Nat)(g:Addr->Str->FS)(c:Str)(d:D):Prop:=∀ea,∃e',g ea c (jy n [.exc ea])=↑(.rt d,e')
variable{g:Addr->Str->FS}{st:Stmt}{ps:h7}{k:Nat}{kd:Str->ll}{mg:Str->ia}{base:Heap}
theorem fn_K{qual:Str}{f:Addr}{fd:FuncData}{N:h7}{n:Nat}(F:Fun K x qual st f fd)(S:tx N ps (gl st))(M:n=N.length)(E:ps.length=1)(j:∀c d,kd c=↑d->runK n g c d)(U:∀(cdv:Value) (A:Around) (outer:ka) (s:Shared) (H:Hp) (ea C:Addr) (c:Str) (G:Gd) (H0:Hp),(kd c).isSome=true->Cl K c C->Hd ea C (cxH P w K mg base N qual (gl st) f cdv A outer s H)->DBx (cxH P w K mg base N qual (gl st) f cdv A outer s H) G H0 (mh st) (g ea c)) :
  KOk P w K mg base (k+1) f fd ps kd:=by
 subst M;refine⟨E,λA outer s H ea C c o d O Q args T X D hb ho hx hc hH l hd hQ=>?_⟩;obtain⟨oc,od,kV,aa,pm,an,cdv,ct,osl,rfl,lk,m⟩:=F.ex;have hl:[V.ref ea].length=ps.length:=E.symm;have L:K.In s.heap:=D.mod.kin.keeps λb o e=>(D.bs b o e).1;have p:s.heap.NoLimit:=D.mod.nolimit.keeps λb o e=>(D.bs b o e).1;have Y:∀y∈ps.zip [Value.ref ea],(gl st).names.lookup y.1=some .local\/((gl st).names.lookup y.1=some .cell/\((cellsFrom (s.heap.objs.size+1) (gl st).names []).lookup y.1).isSome=true):=λ⟨n,v⟩ hy=>by
  rcases S.par n (ki hy).1 with q |q
  ·exact .inl q
  ·exact .inr ⟨q,mi _ _ _ (.inl q)⟩
 refine codeAny_call_function (A:=A) T.depth (L _ _ lk) rfl S.co S.gen rfl (PySem.W.codeRec_of L m) (hb _ _ _ _ ?_);refine wpAny_newFunctionEnv_cells S.kind Y λenv he r x=>?_;subst he;refine⟨p.keeps x.toInCall.keep,codeAny_func ?_⟩;have e1:Env0 P w K mg base { A with handled:=none } outer s H:=⟨D.frames,D.mod,D.bs,D.bsz,D.funs,D.frf,D.hok,D.bare⟩;have I0:Inv (cxOf CX0 P w K mg base N qual (gl st) f cdv { A with handled:=none } outer s H E0) [] (start N [.ref ea]) H r:=zrc S rfl e1 hl (.cons rfl .nil) x;have I:Inv (cxH P w K mg base N qual (gl st) f cdv A outer s H) [] (start N [.ref ea]) H r:=(I0.wish _).hush rfl λq hq=>absurd hq (by simp);have hD:Hd ea C (cxH P w K mg base N qual (gl st) f cdv A outer s H):=⟨X,⟨o,ho,hx⟩,hH,l,by simp[cxOf]⟩;obtain⟨e',hg⟩:=j c d hd ea;have t:=(U cdv A outer s H ea C c (gd λa=>O a\/H a=none) H (by rw[hd];rfl) hc hD).out [] r (start N [.ref ea]) H { nx:=λ_ H'=>Q .non H',rt:=Q } I
  ⟨NoW,_,_,e',vp (K:=K) (O:=O) (.cons (.exc ea) .nil),hg,λW' R v H' st z rp=>hQ v H' z.stay (rp.mono (λ_ _ h=>h) λa us o h=>⟨o.1,h⟩)⟩
 refine wpAny_mono t (λfl s' Z=>?_) λe s' Z=>False.elim Z;have i:∀ {R:St} {H':Hp} {v:V} {u:Value},Inv (cxH P w K mg base N qual (gl st) f cdv A outer s H) [] R H' s'->RelV v u->Q v H'->CE outer P w H s Q u s' :=
  λ{R H' v u} J B q=>⟨v,H',J.os,J.bare,J.base,J.hok,B,q⟩
 cases fl with
 |ret u =>
   obtain⟨v,R,H',J,B,q⟩:=Z;exact i J B q
 |next =>
   obtain⟨R,H',J,q⟩:=Z;exact i (v:=V.non) (u:=Value.none) J rfl q
 |brk =>
   obtain⟨_,_,_,q⟩:=Z;exact False.elim q
 |cont =>
   obtain⟨_,_,_,q⟩:=Z;exact False.elim q
def KCl(P:Program)(w:World)(K:k6)(mg:Str->ia)(base:Heap)(x:Str)(k:Nat)(kd:Str->ll):Prop :=
 ∃f fd ps,KOk P w K mg base k f fd ps kd/\mg x=↑(.ref f)/\PySem.W.keepIn K (.ref f)=true/\Binds K fd ps []/\(x==("__debug__" : Str))=false
def fKd(ea:Addr)(c:Str)(kd:Str->ll)(i:Nat):FE:=λe=>match e[i]? with |some ↑(.sh (.exc a))=>if a=ea then(kd c).map λd=>(d,e) else none |_=>none
variable{c:Str}
theorem z4r{y:Str}{p:Pos}(g:X.A.handled=↑(.ref ea))(j:(ea,o)∈X.pn)(l:Exo o C)(m:Cl X.K c C)(n:KCl X.prog X.w X.K X.mg X.base x k kd)(t:Room k { X.A with handled:=none })(an:Ats Nn Cn X)(B:Gl X x)(R:Nn[i]?=↑y)(Z:starEach [.Name y p1] X.env=(false,eval (.Name y p1) X.env)::starEach [] X.env)(S:(backTo pos (starEach [] X.env)).any (·.1)=false):DEx X G H0 (.Call (.Name x p) [.Name y p1] [] pos) (fKd ea c kd i):=⟨λpins s σ H Q I U=>by
 obtain⟨W,env,d,env',ok,q,k⟩:=U;obtain⟨f,fd,ps,F,E,L,M,Y⟩:=n;unfold fKd at q;split at q;case h_2=>cases q
 rename_i a N;split at q;case isFalse=>cases q
 rename_i O;subst O;cases e2:kd c with
 |none=>rw[e2] at q;cases q
 |some d' =>
   rw[e2] at q;cases q;obtain⟨v',P,T⟩:=ok.slot i _ N;obtain rfl:=Rep.exc_ T;refine wpAny_Call_Name_kw (ya I B E ?_ Y);refine jl (h₀:=X.base) I.ok.mod.kin L (thn ((n4 (an.a R).pe qu Z) pos pins s σ H (λvs H1=>vs=[V.ref a]/\H1=H) I ⟨_,P,rfl,rfl⟩) λus b U=>?_) Z S;obtain⟨vs,H1,D,r,q1,q2⟩:=U;refine⟨D.kIn,?_⟩;subst q1 q2;obtain⟨u,rfl,hu⟩:=xr r;cases (show u=Value.ref a from hu);obtain⟨g1,g2,g3,g4,_⟩:=D.pin (a,o) (d8 _ j);have hl:([Value.ref a]++[]).length=ps.length:=by rw[F.len];rfl
   have hz:=M b [Value.ref a] D.kIn hl;refine wpAny_call (codeAny_mono (F.run X.A X.stack b H1 a C c o _ (Ow G W) Q ⟨[.ref a],[]⟩ t g D.env0 hz g1 l m g2 (λz=>?_) e2 λv H2 sm r2=>?_) λr s' J=>?_)
   ·rcases ce.mp (D.stkSub a z) with z |z
    ·exact g3 z
    ·exact g4 z
   ·refine k W v H2 (Step.same sm) (ok.same sm) (r2.mono (λ_ _ h=>h) λa us o h=>⟨?_,h⟩)
    rcases o with o |o
    ·exact o
    ·exact⟨ok.good a (ok.stay.free o),λz=>by obtain⟨_,us,q⟩:=ok.wl a z;rw[o] at q;cases q⟩
   ·cases r with
    |error e=>exact False.elim J |ok fl =>
      cases fl with
      |ret u=>exact D.after J |next=>exact False.elim J |brk=>exact False.elim J |cont=>exact False.elim J⟩
variable{M:Model}
def zx9(I:Inv X pins σ H s)(l:X.N.Nodup)(hi:X.N[i]?=↑x)(r:X.env.kindOf x=some .local)(h:∀s',Inv X pins (σ.set i none) H s'->Q () s'):wpAny M A (do bindName X.env x .none;unbindBehindTheSuite X.env x pos) Q E s:=by
 obtain⟨m,t,u⟩:=id I.loc;have R:(X.env.scope.kind==.class || (X.env.scope.kind==.module && X.env.locals != X.env.globals))=false:=by rw[I.ok.kind];rfl
 have S:i<σ.length:=by rw[I.len];exact(ak.mp hi).1
 refine wpAny_nameGoes_keeps r t R λh' v Y D=>?_;refine h _ ⟨I.ok,I.os,I.bare,⟨λb o e n Z U=>?_,λb o e n Z U=>?_,I.base.free,λb o e U=>?_,I.base.tups,I.base.frzs,I.base.tbls⟩,⟨_,Y,λj y w J V B=>?_⟩,λy c e=>?_,I.free,I.freeC,λp C=>?_,λb F e=>?_,by simpa using I.len⟩
 ·exact(D.2 b (cj (bq (bu e) I.ok.above))).trans (I.base.keep b o e n Z U)
 ·obtain⟨sl,J⟩:=I.base.slot b o e n Z U
  exact⟨sl,(D.2 b (cj (bq (bu e) I.ok.above))).trans J⟩
 ·obtain⟨o',J⟩:=I.base.there b o e U
  exact⟨o',(D.2 b (cj (bq (bu e) I.ok.above))).trans J⟩
 ·by_cases a:j=i
  ·subst a
   rw[em S] at V;cases V
  ·rw[dh (Ne.symm a)] at V
   obtain⟨G,K,q⟩:=u j y w J V B;refine⟨G,K,?_⟩;rcases q with⟨k,e⟩ | ⟨k,c,e,z⟩
   ·refine .inl ⟨k,?_⟩
    have:y≠x:=λe=>a (zpm l J (e ▸ hi));simp[this,e]
   ·exact .inr ⟨k,c,e,z.sameBut D (I.cne y c e)⟩
 ·obtain⟨f,z⟩:=I.cell y c e
  exact⟨f,z.sameBut D (I.cne y c e)⟩
 ·obtain⟨e,n,g,L,d⟩:=I.pin p C
  exact⟨(D.2 p.1 g).trans e,n,g,L,d⟩
 ·refine(I.hok b F e).stay (λc f hc q=>(D.2 c ?_).trans q) (λ_ q=>q) λ_ _ q=>q
  rintro rfl;rcases hc with hc |hc
  ·rw[<-hc,I.free] at e;cases e
  ·rw[I.free] at hc;cases hc
def ObjOk.here{a:Addr}{o:HO}(x:ObjOk P w H h a o):∃u,h.get? a=↑u:=by
 induction o with
 |lst xs=>obtain⟨_,_,_,_,e⟩:=x;exact⟨_,e⟩ |tup xs=>obtain⟨_,_,_,o,e,_⟩:=x;exact⟨_,e⟩ |dK kvs=>obtain⟨_,_,_,_,o,_,_,e,_⟩:=x;exact⟨_,e⟩ |dT kvs=>obtain⟨_,_,_,_,o,_,_,e,_⟩:=x;exact⟨_,e⟩ |set S n=>obtain⟨o,_,_,_,e,_⟩:=x;exact⟨_,e⟩ |ins C dx fs=>exact⟨_,x.2.2.2.1⟩ |own _=>exact x |xd fs=>obtain⟨_,⟨_,_,_,e,_⟩,_⟩:=x;exact⟨_,e⟩ |met f y=>exact⟨_,x⟩ |rng lo hi=>obtain⟨_,_,_,e⟩:=x;exact⟨_,e⟩ |frz o u _=>exact⟨_,x.1⟩ |tbl ps=>exact⟨_,x⟩ |ext φ=>exact x.2.1
section
variable {X:Cx} {K:k6} {G:Gd} {H0 H:Hp} {W:Addr->Prop} {env:DE0} {σ:St}
def Ok.unset(ok:Ok K G H0 W env σ H)(i:Nat):Ok K G H0 W (env.set i none) (σ.set i none) H:=by
 have gt:∀ {α:Type} {l:List (Option α)} {j:Nat} {a:α},(l.set i none)[j]?=↑↑a->i≠j/\l[j]?=↑↑a:=λ{α l j a} e=>by
  by_cases h:i=j
  ·subst h
   rw[i7] at e;simp at e
  ·rw[dh h] at e
   exact⟨h,e⟩
 refine⟨ok.stay,ok.good,ok.wl,λj s e=>?_,λj I s s' v J a D R S U=>ok.uniq j I s s' v J a (gt D).2 (gt R).2 (gt S).2 (gt U).2,by rw[dz,dz];exact ok.len⟩;obtain⟨h,e⟩:=gt e;obtain⟨v,D,h1⟩:=ok.slot j s e;exact⟨v,by rw[dh h];exact D,h1⟩
abbrev Cx.tr(X:Cx)(E:Value->Shared->Prop)(D:k7):Cx:={ X with xe:=E,pn:=D++X.pn }
def Inv.tr{pins:k7}{s:Shared}{E:Value->Shared->Prop}(I:Inv X pins σ H s):Inv (X.tr E pins) [] σ H s :=
 ⟨⟨I.ok.mod,I.ok.kind,I.ok.glob,I.ok.blt,I.ok.above,I.ok.inj,I.ok.has,I.ok.cab,I.ok.hd,I.ok.frames,I.ok.stk,I.ok.exf,I.ok.bs,I.ok.bsz,I.ok.noex,I.ok.exfs,I.ok.funs,I.ok.frf⟩,I.os,I.bare,I.base,I.loc,I.cell,I.free,I.freeC,λq D=>I.pin q (by
  rw[di] at D;exact dg.mpr (dg.mp D).symm),I.hok,I.len⟩
def Inv.untr{pins D:k7}{s:Shared}{E:Value->Shared->Prop}(ok:X.Ok)(I:Inv (X.tr E pins) D σ H s):Inv X pins σ H s :=
 ⟨ok,I.os,I.bare,I.base,I.loc,I.cell,I.free,I.freeC,λq J=>I.pin q (d8 _ (dg.mpr (dg.mp J).symm)),I.hok,I.len⟩
def Ats.tr{N cs:h7}{E:Value->Shared->Prop}{D:k7}(h:Ats N cs X):Ats N cs (X.tr E D):=⟨h.n,λi x e=>let z:=h.get i x e;⟨z.n,z.v,z.d,z.c⟩,h.ck⟩
def Tos.tr{N:h7}{E:Value->Shared->Prop}{D:k7}(h:Tos N X):Tos N (X.tr E D):=⟨λi x e=>let z:=h.to i x e;⟨z.nd,z.n,z.l,z.f⟩⟩
def Ats.hush{N cs:h7}{A:Around}{D:k7}(h:Ats N cs X):Ats N cs (X.hush A D):=⟨h.n,λi x e=>let z:=h.get i x e;⟨z.n,z.v,z.d,z.c⟩,h.ck⟩
def Tos.hush{N:h7}{A:Around}{D:k7}(h:Tos N X):Tos N (X.hush A D):=⟨λi x e=>let z:=h.to i x e;⟨z.nd,z.n,z.l,z.f⟩⟩
end
def sTry(u:FS)(i j:Nat)(kd:Str->ll):FS:=λe=>(u e).bind λr=>match r.1 with | .xc c=>(kd c).map λd=>(.nx,((r.2.set i none).set j ↑(.sh d)).set i none) |_=>↑r
def set3{α:Type}(l:List (Option α))(i j:Nat)(a b:Option α):((l.set i a).set j b).set i none=((l.set i none).set j b).set i none:=by
 by_cases h:i=j
 ·subst h;simp[re]
 ·rw[List.set_comm _ _ h,re,List.set_comm _ _ h,re]
variable{e:Addr}{H':Hp}{s':Shared}
def Fly.obj(R:X.stack=X.env::X.outer)(S:X.env.frame=↑X.env.locals)(f:Fly X.prog X.w X.stack H s C e H' s'):∃o,s'.heap.get? e=↑o/\Exo o C/\H' e=none/\e≠X.env.locals/\e∉X.fs/\∀v,o.data≠.cell v:=by
 obtain⟨B,x,a,U,un,os,b⟩:=f;obtain⟨V,vs,T,c,ts,J,Y,gd,I,d,Z,_⟩:=x.tr;have D:e∉frs X.stack:=λz=>by
  obtain⟨_,g,y,n⟩:=x.fr.mem z;rw[J] at y;cases y;exact n vs I
 rw[R] at D;have D:e∉X.env.locals::X.fs:=by unfold frs at D;rw[km,S] at D;exact D
 refine⟨V,J,⟨⟨vs,Y,I,Z⟩,gd⟩,?_,λz=>D (z ▸ b6),λz=>D (bc _ z),λv z=>by rw[I] at z;cases z⟩;cases q:H' e with
 |none=>rfl |some o =>
   obtain⟨u,z⟩:=(U e o q).here;rw[x.new] at z;cases z
def Fly.flight(I:Inv X pins σ H s)(f:Fly X.prog X.w X.stack H s C e H' s')(h:∀h2,Fly X.prog X.w X.stack H s C e H' { s' with heap:=h2 }->Q () { s' with heap:=h2 }):wpAny M A (setFlight (.ref e) none) Q E s':=by
 obtain⟨B,x,S,V,un,os,Y⟩:=f;refine zsw x λh2 U Z a=>h h2 ⟨B,U,S,V,⟨λb o q n D _=>U.stay b o (S b o q n D),λb o q n D J=>?_,un.free,λb o q J=>?_,un.tups,un.frzs,un.tbls⟩,os,Y⟩
 ·obtain⟨sl,z⟩:=un.slot b o q n D J
  obtain⟨_,g,y,c⟩:=I.stack.mem D;rw[q] at y;cases y;obtain⟨R,d⟩:=Z b _ z c;exact⟨R,d⟩
 ·obtain⟨o',z⟩:=un.there b o q J
  exact a b o' z
def z4s{body:List Stmt}{u:FS}{j jr:Nat}{R y z:Str}{RA:Addr}{T h O p6 p7:Pos}(hR:X.mg R=↑(.ref RA))(m:∀c C,(kd c).isSome=true->Cl X.K c C->PySem.W.exmOne X.K (.ref C) (.ref RA)=↑true)(kc:KCl X.prog X.w X.K X.mg X.base x k kd)(rm:Room jr X.A)(an:Ats Nn Cn X)(U:Tos Nn X)(hb:∀E pp,Ats Nn Cn (X.tr E pp)->Tos Nn (X.tr E pp)->DBx (X.tr E pp) G H0 body u)(B:k<=jr:=by decide)(aa:Gl X R:=by walk_at "g")(ab:Gl X x:=by walk_at "g")(hi:Nn[i]?=↑y:=by rfl)(hj:Nn[j]?=↑z:=by rfl)(hl:X.env.kindOf y=some .local:=by kernel_rfl)(hX:X.stack=X.env::X.outer:=by rfl)(hf:X.env.frame=↑X.env.locals:=by rfl)(ag:(R==("__debug__" : Str))=false:=by decide)(he:starEach [.Name y h] X.env=(false,eval (.Name y h) X.env)::starEach [] X.env:=by rfl)(ai:(backTo O (starEach [] X.env)).any (·.1)=false:=by rfl)(al:swapsWith (.Call (.Name x T) [.Name y h] [] O) ↑(.Name z p2) p6.line X.env=pure false:=by rfl) :
  DSx X G H0 (.Try body [.ExceptHandler ↑(.Name R p1) ↑y [.Assign [.Name z p2] (.Call (.Name x T) [.Name y h] [] O) p6] p7] [] [] pos) (sTry u i j kd):=⟨λpins s σ H Dn I zq=>by
 obtain⟨W,env,fl,env',ok,q,k⟩:=zq;unfold sTry at q;cases e1:u env with
 |none=>rw[e1] at q;cases q
 |some r =>
   obtain⟨F,S⟩:=r;rw[e1,ac] at q;refine wpAny_Try_except ?_;refine wpAny_mono ((hb _ pins an.tr U.tr).out [] s σ H Dn I.tr ⟨W,env,F,S,ok,e1,?_⟩) (λf s1 h1=>?_) (λe s1 h1=>h1)
   ·cases F with
    |xc c=>?_ |nx=>cases q;exact k
    |bk=>cases q;exact k
    |ct=>cases q;exact k
    |rt d=>cases q;exact k
    |rf d=>cases q;exact k
    |r2 d=>cases q;exact k
    |ra d d'=>cases q;exact k
    cases e2:kd c with
    |none=>simp only[e2,ml] at q;cases q
    |some d =>
      simp only[e2,aj] at q;cases q;intro W' D H' C hc st L ap e s' xs;refine xs.come hX hf λh2 s1 H1 I1 f=>?_;have J:Inv X pins D H' { s' with heap:=h2 }:=(f.inv I1).untr I.ok;obtain⟨o,P,g2,_⟩:=Fly.obj (X:=X) hX hf f;refine wpAny_handleBy_cons (codeAny_handlers_test ?_) (λz=>nomatch z);refine ya (J.hush (A:=X.A.mark ↑(.ref e)) (p:=[]) rfl (by simp)) aa hR ?_ ag;refine(exm_one (M:=model X.prog X.w) J.kIn (g2.inst P).type (m c C (by rw[e2];rfl) hc)).here ?_;refine codeAny_handlers_suite_as ?_;refine f.flight I1 λh3 f3=>?_;have J3:Inv X pins D H' { s' with heap:=h3 }:=(f3.inv I1).untr I.ok;obtain⟨N,P,g2,g3,g4,g5,g6⟩:=Fly.obj (X:=X) hX hf f3;have ar:i<S.length:=by
       rw[L.len,J3.len];exact(ak.mp (U.t hi).n).1
      refine zno (X:=X.hush (X.A.mark ↑(.ref e)) []) (J3.hush rfl (by simp)) (U.t hi).nd (U.t hi).n (U.t hi).l (v:=.ref e) rfl (λs4 I4 zq=>?_) (U.t hi).f;obtain⟨a,sb,ha⟩:=zq;have ge:s4.heap.get? e=↑N:=(sb.2 e λz=>by
       rcases ha with ha |ha
       ·exact g4 (z.trans ha)
       ·obtain⟨v,oc,h1,h2⟩:=J3.cell _ _ ha
        rw[<-z] at h1;cases P.symm.trans h1;exact g6 v h2).trans P
      have I5:Inv ((X.hush (X.A.mark ↑(.ref e)) [(e,N)]).nox) pins (D.set i ↑(.ref e)) H' s4:=((I4.unhush I.ok).hush (A:=X.A.mark ↑(.ref e)) (p:=[(e,N)]) rfl (λq hq=>by cases de.mp hq;exact⟨ge,g3,g4,g5,g6⟩)).wish _;have hs:=(dm (f7 (X:=(X.hush (X.A.mark ↑(.ref e)) [(e,N)]).nox) (G:=G) (H0:=H0) (pos:=p6) (p':=p2) U.hush.nox (z4r (C:=C) (c:=c) (o:=N) (p:=T) (p1:=h) (pos:=O) rfl (d8 _ b6) g2 hc kc ⟨rfl,(rm.mono B).dp,(rm.mono B).un⟩ an.hush.nox ab hi he ai) hj al)).out pins s4 _ H' { nx:=λV Q=>∃b,Step W' H' b Q/\Ok X.K G H0 b ((S.set i ↑(.sh (.exc e))).set j ↑(.sh d)) V Q,rt:=λ_ _=>False } I5 ⟨W',S.set i ↑(.sh (.exc e)),.nx,_,L.set (.exc e),by
       unfold sSet fKd;rw[em ar];dsimp only;rw[if_pos rfl,e2];rfl,λb V Q Y Z=>⟨b,Y,Z⟩⟩
      refine wpAny_mono hs (λf5 s5 g=>?_) (λx s5 g=>False.elim g);cases f5 with
      |next =>
        obtain⟨V,Q,J5,b,Y,Z⟩:=g;refine zx9 (J5.unwish.unhush I.ok) (U.t hi).nd (U.t hi).n hl λs6 J7=>⟨_,_,J7,k b _ _ (st.trans Y) ?_⟩;rw[<-set3];exact Z.unset i
      |brk=>obtain⟨_,_,_,z⟩:=g;exact z.elim |cont=>obtain⟨_,_,_,z⟩:=g;exact z.elim |ret u=>obtain⟨_,_,_,_,_,z⟩:=g;exact z.elim
   ·cases f with
    |next =>
      obtain⟨D,H',J,q⟩:=h1;exact wpAny_execs_nil ⟨D,H',J.untr I.ok,q⟩
    |brk=>obtain⟨D,H',J,q⟩:=h1;exact⟨D,H',J.untr I.ok,q⟩ |cont=>obtain⟨D,H',J,q⟩:=h1;exact⟨D,H',J.untr I.ok,q⟩ |ret u=>obtain⟨v,D,H',J,r,q⟩:=h1;exact⟨v,D,H',J.untr I.ok,r,q⟩⟩
def md:h7:=["UnknownStack", "EmptyStack", "UnknownPlace", "BadHours", "BadLoss", "BadCount", "HouseFull", "DeedsFull", "NothingWaits", "NothingDone", "ShortOrder", "TooManyOrders", "NotGone"]
def sy:h7:=["unknown stack", "empty stack", "unknown place", "bad hours", "bad loss", "bad count", "house full", "deeds full", "nothing waits", "nothing done", "short order", "too many orders", "not gone"]
def y0(c:Str):kf:=(md.zip sy).lookup c
def kdT(c:Str):ll:=(y0 c).map λw=>.tup [.str "refused",.str w]
def z4t(K:k6)(C:Addr):Bool:=findIn K (.ref C) "__getattribute__"==↑↑(.builtin "BaseException.__getattribute__") && findIn K (.ref C) "__getattr__"==↑none && (match findObj K C none "__class__" with |some (.bind (.builtin g) (.builtin a))=>g=="getset_descriptor.__get__" && a=="object.__class__" |_=>false) && mroIn K C (.type "object")==↑true && mroIn K C (.type "BaseException")==↑true
def refB(K:k6)(n:Str)(p:Addr->Bool):Bool:=match nsIn K mainGlobals n with |some ↑(.ref R)=>p R |_=>false
def z8g(K:k6):Bool:=md.all λc=>refB K c λC=>z4t K C && kitOne K (.ref C) (.type "ValueError")==↑true && refB K "RotError" (λR=>exmOne K (.ref C) (.ref R)==↑true) && md.all λn=>refB K n λR=>kitOne K (.ref C) (.ref R)==↑(c==n)
def zqi{n:Str}{p:Addr->Bool}(h:refB K n p=true):∃R,nsIn K mainGlobals n=↑↑(.ref R)/\p R=true:=by
 unfold refB at h;split at h
 ·exact⟨_,by assumption,h⟩
 ·cases h
def z1c(h:z4t K C=true):ECls K C:=by
 unfold z4t at h;simp only[eh,beq_iff_eq] at h;obtain⟨⟨⟨⟨h1,h2⟩,D⟩,I⟩,J⟩:=h;refine⟨h1,h2,?_,I,J⟩;split at D
 ·rename_i g a e
  rw[eh,beq_iff_eq,beq_iff_eq] at D;rw[e,D.1,D.2]
 ·cases D
def zpe(h:(kdT c).isSome=true):c∈md:=by
 unfold kdT at h;rw[Option.isSome_map] at h;obtain⟨w,e⟩:=lu.mp h;exact(ki (fc e)).1
structure KFacts (K:k6) (mg:Str->ia):Prop where
 b:z8g K=true
 m:∀n∈("RotError" : Str)::md,∀R,nsIn K mainGlobals n=↑↑(.ref R)->mg n=↑(.ref R)
def kf_mk(X:K.In h)(G:h.Ns mainGlobals mg)(b:z8g K=true):KFacts K mg:=⟨b,λ_ _ _ e=>mg_of X G e⟩
def KFacts.all(k:KFacts K mg)(S:(kdT c).isSome=true)(cl:Cl K c C):ECls K C/\kitOne K (.ref C) (.type "ValueError")=↑true/\(∃R,mg "RotError" = ↑(.ref R)/\exmOne K (.ref C) (.ref R)=↑true)/\∀n∈md,∃R,mg n=↑(.ref R)/\kitOne K (.ref C) (.ref R)=↑(c==n):=by
 have h:=ib.mp k.b c (zpe S);obtain⟨Y,e,h⟩:=zqi h;cases e.symm.trans cl;simp only[eh,beq_iff_eq] at h;obtain⟨⟨⟨h1,h2⟩,D⟩,I⟩:=h;obtain⟨R,U,D⟩:=zqi D;refine⟨z1c h1,h2,⟨R,k.m _ b6 R U,beq_iff_eq.mp D⟩,λn J=>?_⟩;obtain⟨R,V,I⟩:=zqi (ib.mp I n J);exact⟨R,k.m _ (bc _ J) R V,beq_iff_eq.mp I⟩
def KFacts.rot(k:KFacts K mg):∃R,mg "RotError" = ↑(.ref R)/\∀c C,(kdT c).isSome=true->Cl K c C->exmOne K (.ref C) (.ref R)=↑true:=by
 have h:=ib.mp k.b "UnknownStack" (by decide);obtain⟨S,e,_⟩:=zqi h;obtain⟨_,_,⟨R,D,_⟩,_⟩:=k.all (c:="UnknownStack") (by decide) e;refine⟨R,D,λc C I cl=>?_⟩;obtain⟨_,_,⟨U,J,z⟩,_⟩:=k.all I cl;cases D.symm.trans J;exact z
def rn(U:KFacts X.K X.mg)(V:(kdT c).isSome=true)(cl:Cl X.K c C)(hd:Hd ea C X)(an:Ats Nn Cn X)(Y:cn∈md:=by decide)(Z:Gl X cn:=by walk_at "g")(D:(cn==("__debug__" : Str))=false:=by decide)(a:Bn X "isinstance":=by walk_at "b")(I:Nn[i]?=↑x:=by rfl)(b:starEach [.Name x p1,.Name cn p2] X.env=(false,eval (.Name x p1) X.env)::starEach [.Name cn p2] X.env:=by rfl)(J:starEach [.Name cn p2] X.env=(false,eval (.Name cn p2) X.env)::starEach [] X.env:=by rfl)(S:(backTo pos (starEach [.Name cn p2] X.env)).any (·.1)=false:=by rfl) :
  DEx X G H0 (.Call (.Name "isinstance" p') [.Name x p1,.Name cn p2] [] pos) (fIsx ea i (c==cn)):=by
 obtain⟨d,_,_,h⟩:=U.all V cl;obtain⟨R,e,f⟩:=h cn Y;exact z8e hd d e f an Z D a I b J S
def z8h(R:KFacts X.K X.mg)(S:(kdT c).isSome=true)(cl:Cl X.K c C)(hd:Hd ea C X)(an:Ats Nn Cn X)(U:Bn X "ValueError":=by walk_at "b")(V:Bn X "isinstance":=by walk_at "b")(D:Nn[i]?=↑x:=by rfl)(Y:starEach [.Name x p1,.Name "ValueError" p2] X.env=(false,eval (.Name x p1) X.env)::starEach [.Name "ValueError" p2] X.env:=by rfl)(I:starEach [.Name "ValueError" p2] X.env=(false,eval (.Name "ValueError" p2) X.env)::starEach [] X.env:=by rfl)(J:(backTo pos (starEach [.Name "ValueError" p2] X.env)).any (·.1)=false:=by rfl) :
  DEx X G H0 (.Call (.Name "isinstance" p') [.Name x p1,.Name "ValueError" p2] [] pos) (fIsx ea i true):=z4p hd (R.all S cl).1 (R.all S cl).2.1 an U V D Y I J
theorem yaf(T:Def K mg st x ps)(N:h7)(D:∀c d,kd c=↑d->runK N.length g c d)(I:∀ {f:Addr} {cdv:Value} {A:Around} {outer:ka} {s:Shared} {H:Hp} {ea C:Addr} {c:Str} {G:Gd} {H0:Hp},(kd c).isSome=true->Cl K c C->Hd ea C (cxH P w K mg base N x (gl st) f cdv A outer s H)->Ats N (celN N (gl st)) (cxH P w K mg base N x (gl st) f cdv A outer s H)->Tos N (cxH P w K mg base N x (gl st) f cdv A outer s H) ->
   DBx (cxH P w K mg base N x (gl st) f cdv A outer s H) G H0 (mh st) (g ea c))(h:scB N ps (gl st)=true:=by decide +kernel)(J:okN x=true:=by decide +kernel)(R:ps.length=1:=by rfl):KCl P w K mg base x (k+1) kd:=by
 obtain⟨f,fd,F,b,m⟩:=T;exact⟨f,fd,ps,fn_K F (qr h).1 rfl R D λcdv A outer s H ea C c G H0 S U V=>I S U V (t9 h).nox.hush (t6 h).nox.hush,m,F.kp,b,(uo J).1⟩
def z4u(ea:Addr)(c:Str):FS:=sSeq (sSet 1 (fLst (gg (ax (fIsx ea 0 (c=="UnknownStack")) (ax (fIsx ea 0 (c=="EmptyStack")) fNil))))) (sSeq (sSet 1 (fLst (fCat (fVar 1) (fLst (gg (ax (fIsx ea 0 (c=="UnknownPlace")) (ax (fIsx ea 0 (c=="BadHours")) fNil))))))) (sSeq (sSet 1 (fLst (fCat (fVar 1) (fLst (gg (ax (fIsx ea 0 (c=="BadLoss")) (ax (fIsx ea 0 (c=="BadCount")) fNil))))))) (sSeq (sSet 1 (fLst (fCat (fVar 1) (fLst (gg (ax (fIsx ea 0 (c=="HouseFull")) (ax (fIsx ea 0 (c=="DeedsFull")) fNil))))))) (sSeq (sSet 1 (fLst (fCat (fVar 1) (fLst (gg (ax (fIsx ea 0 (c=="NothingWaits")) (ax (fIsx ea 0 (c=="NothingDone")) fNil))))))) (sSeq (sSet 1 (fLst (fCat (fVar 1) (fLst (gg (ax (fIsx ea 0 (c=="ShortOrder")) (ax (fIsx ea 0 (c=="TooManyOrders")) fNil))))))) (sSeq (sSet 1 (fLst (fCat (fVar 1) (fLst (gg (ax (fIsx ea 0 (c=="NotGone")) fNil)))))) (sSeq (sSet 2 (fLst (gg (ax (fC (.str "unknown stack")) (ax (fC (.str "empty stack")) (ax (fC (.str "unknown place")) (ax (fC (.str "bad hours")) (ax (fC (.str "bad loss")) (ax (fC (.str "bad count")) fNil))))))))) (sSeq (sSet 2 (fLst (fCat (fVar 2) (fLst (gg (ax (fC (.str "house full")) (ax (fC (.str "deeds full")) (ax (fC (.str "nothing waits")) (ax (fC (.str "nothing done")) (ax (fC (.str "short order")) fNil)))))))))) (sSeq (sSet 2 (fLst (fCat (fVar 2) (fLst (gg (ax (fC (.str "too many orders")) (ax (fC (.str "not gone")) fNil))))))) (sSeq (sSet 3 (fLst (ig (ij iR1 (ax (fC (.int 13)) fNil)) [2,1,0] (fAnd (fTst (fIxV 2 (fVar 0))) (fTst (fIsx ea 3 true))) (fIxV 1 (fVar 0))))) (sRet (dy bTup (ax (fLst (fCat (fLst (gg (ax (fC (.str "refused")) fNil))) (fVar 3))) fNil)))))))))))))
end L2
namespace LB
open PySem L2
def zn4:FS:=sRet (fBin dSub (fBin dMul (fIxV 0 (fC (.int 1))) (fIxV 1 (fC (.int 0)))) (fBin dMul (fIxV 1 (fC (.int 1))) (fIxV 0 (fC (.int 0)))))
def zz:la->ll:=runD 2 2 zn4
def zhq:FS:=sSeq (sSet 2 (dy zz (ax (fVar 0) (ax (fVar 1) (fNil))))) (sSeq (sIf (fTst (fBin dGt (fVar 2) (fC (.int 0)))) (sRet (fC (.int 1))) (sNil)) (sSeq (sIf (fTst (fBin dLt (fVar 2) (fC (.int 0)))) (sRet (fUn dNeg (fC (.int 1)))) (sNil)) (sRet (fC (.int 0)))))
def vz:la->ll:=runD 3 2 zhq
def zmy:FS:=sRet (xp (fIsi "int" (fVar 0)) (z3s (fIsi "bool" (fVar 0))))
def uf:la->ll:=runD 1 1 zmy
def zn5:FS:=sSeq (sIf (fTst (fBin dLt (fVar 1) (gq 0))) (sRet (fIxV 0 (fVar 1))) (sNil)) (sRet (fC (.int 0)))
def zjw:la->ll:=runD 2 2 zn5
def zfs:FS:=sSeq (sSet 5 (dy zjw (ax (fVar 0) (ax (fVar 4) (fNil))))) (sSeq (sIf (fTst (fBin dEq (fBin dMod (gq 0) (fC (.int 2))) (fC (.int 1)))) (sSeq (sSet 3 (fBin dMod (fBin gp (fBin gp (fBin gp (fBin dMul (fVar 3) (fC (.int 48271))) (fVar 5)) (fVar 4)) (fC (.int 1))) (fC (.int 2147483647)))) (sSet 5 (fBin dMod (fBin dMul (fBin gp (fVar 3) (fVar 4)) (fC (.int 69621))) (fC (.int 2147483647))))) (sNil)) (je (o7 2 (fVar 5))))
def zmz:FS:=sSeq (sOwn 2 (gg (fNil))) (sSeq (sSet 3 (fC (.int 7))) (sSeq (sFor 4 (ij iR1 (ax (fVar 1) (fNil))) (zfs)) (sRet (fVar 2))))
def zgc:la->ll:=runD 6 2 zmz
def zr4:FS:=sRet (fIxV 0 (fC (.int 1)))
def vy:la->ll:=runD 1 1 zr4
def zta:FS:=sRet (fIxV 0 (fC (.int 2)))
def xg:la->ll:=runD 1 1 zta
def zon:FS:=sRet (fTup (ax (fC (.int 1)) (ax (dy vy (ax (fVar 0) (fNil))) (ax (dy xg (ax (fVar 0) (fNil))) (fNil)))))
def zft:la->ll:=runD 1 1 zon
def zkx:FS:=sRet (fTup (ax (fBin gp (fIxV 0 (fC (.int 0))) (fIxV 1 (fC (.int 0)))) (ax (fBin gp (fIxV 0 (fC (.int 1))) (fIxV 1 (fC (.int 1)))) (ax (fBin gp (fIxV 0 (fC (.int 2))) (fIxV 1 (fC (.int 2)))) (fNil)))))
def zfu:la->ll:=runD 2 2 zkx
def zl1:FS:=sRet (fTup (ax (fIxV 0 (fC (.int 1))) (ax (fIxV 0 (fC (.int 2))) (fNil))))
def zeu:la->ll:=runD 1 1 zl1
def zc2:FS:=sRet (fBin dGt (dy vz (ax (dy zeu (ax (fVar 0) (fNil))) (ax (dy zeu (ax (fVar 1) (fNil))) (fNil)))) (fC (.int 0)))
def wf:la->ll:=runD 2 2 zc2
def zec:FS:=sSet 3 (dy zfu (ax (fPop 1) (ax (fVar 3) (fNil))))
def zed:FS:=sSeq (sSet 3 (dy zft (ax (fVar 2) (fNil)))) (sSeq (oh (fAnd (fTst (fBin dGt (gq 1) (fC (.int 0)))) (fNot (fTst (dy wf (ax (fIxV 1 (fUn dNeg (fC (.int 1)))) (ax (fVar 3) (fNil))))))) (zec) 10000) (je (o7 1 (fVar 3))))
def zh1:FS:=sSeq (sOwn 1 (gg (fNil))) (sSeq (sFor 2 (fiS (fVar 0)) (zed)) (sRet (fVar 1)))
def zh2:la->ll:=runD 4 1 zh1
def yl:FS:=sSeq (sIf (fAnd (fTst (fIsi "str" (fIxV 1 (fVar 2)))) (fNot (fTst (fIsi "str" (fIxV 0 (fVar 2)))))) (sRet (fC (.bl false))) (sNil)) (sSeq (sIf (fAnd (fNot (fTst (fIsi "str" (fIxV 1 (fVar 2))))) (fNot (fTst (dy uf (ax (fIxV 0 (fVar 2)) (fNil)))))) (sRet (fC (.bl false))) (sNil)) (sIf (fTst (fBin dNe (fIxV 0 (fVar 2)) (fIxV 1 (fVar 2)))) (sRet (fC (.bl false))) (sNil)))
def zdr:FS:=sSeq (sIf (fOr (fNot (fTst (fIsi "tuple" (fVar 0)))) (fTst (fBin dNe (gq 0) (gq 1)))) (sRet (fC (.bl false))) (sNil)) (sSeq (sFor 2 (ij iR1 (ax (gq 1) (fNil))) (yl)) (sRet (fC (.bl true))))
def we:la->ll:=runD 3 2 zdr
def zcg:FS:=sIf (fNot (fTst (dy we (ax (fIxV 0 (fVar 2)) (ax (fIxV 1 (fVar 2)) (fNil)))))) (sRet (fC (.bl false))) (sNil)
def zda:FS:=sSeq (sIf (fOr (fNot (fTst (fIsi "list" (fVar 0)))) (fTst (fBin dNe (gq 0) (gq 1)))) (sRet (fC (.bl false))) (sNil)) (sSeq (sFor 2 (ij iR1 (ax (gq 1) (fNil))) (zcg)) (sRet (fC (.bl true))))
def uh:la->ll:=runD 3 2 zda
def zm0:FS:=sRet (fTup (ax (fIxV 0 (fC (.int 2))) (ax (fIxV 0 (fC (.int 3))) (fNil))))
def u9:la->ll:=runD 1 1 zm0
def zcp:FS:=sSet 2 (fBin gp (fVar 2) (fC (.int 1)))
def zhb:FS:=sSeq (sSet 2 (fC (.int 0))) (sSeq (oh (fAnd (fTst (fBin dLt (fVar 2) (gq 0))) (fTst (fBin dGe (dy vz (ax (dy u9 (ax (fIxV 0 (fVar 2)) (fNil))) (ax (dy u9 (ax (fVar 1) (fNil))) (fNil)))) (fC (.int 0))))) (zcp) 10000) (sRet (fVar 2)))
def zhc:la->ll:=runD 3 2 zhb
def zds:FS:=sSeq (sSet 7 (fTup (ax (fVar 2) (ax (fVar 4) (ax (fVar 5) (ax (fVar 6) (fNil))))))) (je (zp4 1 (zrt zhc (z0u 1 (ax (fVar 7) (fNil)))) (fVar 7)))
def zev:FS:=qm [4,5,6] (fiS (dy zh2 (ax (fVar 3) (fNil)))) (zds)
def zio:FS:=sSeq (sOwn 1 (gg (fNil))) (sSeq (qm [2,3] (ij (iEn 1) (ax (fVar 0) (fNil))) (zev)) (sRet (fVar 1)))
def yk:la->ll:=runD 8 1 zio
def zd2:FS:=sIf (fNot (fTst (dy uh (ax (fIxV 0 (fVar 2)) (ax (fIxV 1 (fVar 2)) (fNil)))))) (sRet (fC (.bl false))) (sNil)
def zew:FS:=sSeq (sIf (fOr (fNot (fTst (fIsi "list" (fVar 0)))) (fTst (fBin dNe (gq 0) (gq 1)))) (sRet (fC (.bl false))) (sNil)) (sSeq (sFor 2 (ij iR1 (ax (gq 1) (fNil))) (zd2)) (sRet (fC (.bl true))))
def zdk:la->ll:=runD 3 2 zew
def zk7:FS:=z3z (ig (fiS (fVar 0)) [] fYes (fLst (ij pq (ax (fVar 0) (fNil)))))
def zk8:la->Option la:=runF 1 1 zk7
def zfv:FS:=je (zp6 1 (fRep (gg (ax (fVar 2) (fNil))) (fVar 3)))
def zjx:FS:=sSeq (sOwn 1 (gg (fNil))) (sSeq (qm [2,3,4,5] (fiS (dy yk (ax (fVar 0) (fNil)))) (zfv)) (zz9 1))
def xh:la->Option la:=runF 6 1 zjx
def zex:FS:=sSeq (sSet 2 (fBin gp (fVar 2) (fBin dIx (fIxV 0 (fVar 4)) (fC (.int 1))))) (sSeq (sSet 3 (fBin gp (fVar 3) (fBin dIx (fIxV 0 (fVar 4)) (fC (.int 2))))) (sIf (fTst (fBin dGe (fBin dMul (fVar 3) (fIxV 1 (fC (.int 1)))) (fBin dMul (fIxV 1 (fC (.int 2))) (fVar 2)))) (sSet 1 (fLst (gg (ax (fBin gp (fVar 4) (fC (.int 1))) (ax (fVar 2) (ax (fVar 3) (fNil))))))) (sNil)))
def ziq:FS:=sSeq (sSet 1 (fLst (gg (ax (fC (.int 0)) (ax (fC (.int 1)) (ax (fUn dNeg (fC (.int 1))) (fNil))))))) (sSeq (sSet 2 (fC (.int 0))) (sSeq (sSet 3 (fC (.int 0))) (sSeq (sFor 4 (ij iR1 (ax (gq 0) (fNil))) (zex)) (sRet (fVar 1)))))
def zhd:la->ll:=runD 5 1 ziq
def zdb:FS:=sIf (fTst (fBin dGt (fBin dMul (fBin dIx (fIxV 3 (fVar 5)) (fC (.int 2))) (fBin dIx (fIxV 3 (fVar 4)) (fC (.int 1)))) (fBin dMul (fBin dIx (fIxV 3 (fVar 4)) (fC (.int 2))) (fBin dIx (fIxV 3 (fVar 5)) (fC (.int 1)))))) (sSet 4 (fVar 5)) (sNil)
def zfw:FS:=sSeq (sSet 3 (fLst (ig (fiV 1) [] fYes (dy zhd (ax (fVar 0) (fNil)))))) (sSeq (sSet 4 (fC (.int 0))) (sSeq (sFor 5 (ij iR1 (ax (gq 3) (fNil))) (zdb)) (sSeq (je (o7 2 (fTup (ax (fBin gp (fVar 4) (fC (.int 1))) (ax (fBin dIx (fIxV 3 (fVar 4)) (fC (.int 0))) (ax (fBin dIx (fIxV 3 (fVar 4)) (fC (.int 1))) (ax (fBin dIx (fIxV 3 (fVar 4)) (fC (.int 2))) (fNil)))))))) (vh 1 (fVar 4) (fLst (fSl (fIxV 1 (fVar 4)) (fO1 (fBin dIx (fIxV 3 (fVar 4)) (fC (.int 0)))) (fO0)))))))
def zjy:FS:=sSeq (sOwn 1 (ig (fiS (fVar 0)) [] fYes (fLst (ij pq (ax (fVar 0) (fNil)))))) (sSeq (sOwn 2 (gg (fNil))) (sSeq (oh (fTst (fBin dGt (dy bSum (ax (fLst (ig (fiV 1) [] fYes (gq 0))) (fNil))) (fC (.int 0)))) (zfw) 10000) (sRet (fVar 2))))
def zem:la->ll:=runD 6 1 zjy
def zir:FS:=sOwn 1 (fCat (fVar 1) (fLst (fRep (gg (ax (fIxV 2 (fC (.int 0))) (fNil))) (fIxV 2 (fC (.int 1))))))
def zk9:FS:=sSeq (sOwn 1 (gg (fNil))) (sSeq (sFor 2 (fiS (dy zem (ax (fVar 0) (fNil)))) (zir)) (zz9 1))
def zla:la->Option la:=runF 3 1 zk9
def zdt:FS:=sIf (fOr (fNot (fTst (dy uf (ax (fIxV 0 (fVar 2)) (fNil))))) (fTst (fBin dNe (fIxV 0 (fVar 2)) (fIxV 1 (fVar 2))))) (sRet (fC (.bl false))) (sNil)
def zei:FS:=sSeq (sIf (fOr (fNot (fTst (fIsi "list" (fVar 0)))) (fTst (fBin dNe (gq 0) (gq 1)))) (sRet (fC (.bl false))) (sNil)) (sSeq (sFor 2 (ij iR1 (ax (gq 1) (fNil))) (zdt)) (sRet (fC (.bl true))))
def zcb:la->ll:=runD 3 2 zei
def zqj:FS:=sRet (fIxV 0 (fC (.int 0)))
def zgq:la->ll:=runD 1 1 zqj
def zis:FS:=sIf (fOr (fTst (fBin dLt (fVar 1) (fC (.int 1)))) (fTst (fBin dGt (fVar 1) (gq 0)))) (zt9) (sNil)
def zit:la->ll:=runD 2 2 zis
def zey:FS:=sSeq (sIf (fTst (fBin dEq (fIxV 2 (fBin dSub (fVar 3) (fC (.int 1)))) (fC (.int 0)))) (zt9) (sNil)) (wp 2 dSub (fBin dSub (fVar 3) (fC (.int 1))) (fC (.int 1)))
def ziu:FS:=sSeq (sOwn 2 (ig (fiS (fVar 0)) [] fYes (gq 0))) (sSeq (sFor 3 (fiS (fVar 1)) (zey)) (sIf (fTst (fBin dGt (z0t 2) (fC (.int 0)))) (zt9) (sNil)))
def ziv:la->ll:=runD 4 2 ziu
def zez:FS:=je (dy zit (ax (fVar 0) (ax (fVar 2) (fNil))))
def ziw:FS:=sSeq (sFor 2 (fiS (fVar 1)) (zez)) (je (dy ziv (ax (fVar 0) (ax (fVar 1) (fNil)))))
def zix:la->ll:=runD 3 2 ziw
def ze0:FS:=sSeq (je (o7 3 (fBin dIx (fIxV 0 (fBin dSub (fVar 4) (fC (.int 1)))) (fIxV 2 (fBin dSub (fVar 4) (fC (.int 1))))))) (wp 2 gp (fBin dSub (fVar 4) (fC (.int 1))) (fC (.int 1)))
def ziy:FS:=sSeq (je (dy zix (ax (fVar 0) (ax (fVar 1) (fNil))))) (sSeq (sOwn 2 (ig (fiS (fVar 0)) [] fYes (fC (.int 0)))) (sSeq (sOwn 3 (gg (fNil))) (sSeq (sFor 4 (fiS (fVar 1)) (ze0)) (sRet (fVar 3)))))
def zgr:la->ll:=runD 5 2 ziy
def zh3:FS:=sSeq (sSet 6 (fBin gp (fVar 3) (dy vy (ax (fVar 5) (fNil))))) (sSeq (je (o7 2 (fTup (ax (dy zgq (ax (fVar 5) (fNil))) (ax (fVar 4) (ax (fVar 3) (ax (fVar 6) (fNil)))))))) (sSet 3 (fVar 6)))
def zjz:FS:=sSeq (sOwn 2 (gg (fNil))) (sSeq (sSet 3 (fC (.int 0))) (sSeq (qm [4,5] (ij iZp (ax (fVar 1) (ax (dy zgr (ax (fVar 0) (ax (fVar 1) (fNil)))) (fNil)))) (zh3)) (sRet (fVar 2))))
def zhr:la->ll:=runD 7 2 zjz
def zhs:FS:=zuc (wq (fiS (fVar 0)) [] (ij pq (ax (fVar 0) (fNil))))
def zht:la->Option (List la):=yp 1 1 zhs
def zh4:FS:=sSeq (sSet 3 (fBin gp (fVar 3) (dy vy (ax (fVar 4) (fNil))))) (sSet 2 (fBin gp (fVar 2) (fBin dMul (dy xg (ax (fVar 4) (fNil))) (fVar 3))))
def zj0:FS:=sSeq (sSet 2 (fC (.int 0))) (sSeq (sSet 3 (fC (.int 0))) (sSeq (sFor 4 (fiS (dy zgr (ax (fVar 0) (ax (fVar 1) (fNil))))) (zh4)) (sRet (fVar 2))))
def zj1:la->ll:=runD 5 2 zj0
def zfx:FS:=sSeq (je (o7 3 (fBin dIx (fIxV 0 (fBin dSub (fVar 4) (fC (.int 1)))) (fIxV 2 (fBin dSub (fVar 4) (fC (.int 1))))))) (vh 2 (fBin dSub (fVar 4) (fC (.int 1))) (fBin gp (fIxV 2 (fBin dSub (fVar 4) (fC (.int 1)))) (fC (.int 1))))
def zj2:FS:=sSeq (sOwn 2 (ig (fiS (fVar 0)) [] fYes (fC (.int 0)))) (sSeq (sOwn 3 (gg (fNil))) (sSeq (sFor 4 (fiS (fVar 1)) (zfx)) (sRet (fVar 3))))
def zj3:la->ll:=runD 5 2 zj2
def zj4:FS:=sRet (dy zj1 (ax (fVar 0) (ax (fLst (ij xh (ax (fVar 0) (fNil)))) (fNil))))
def zhu:la->ll:=runD 1 1 zj4
def ziz:FS:=sSeq (sSet 1 (fBin gp (fVar 1) (fIxV 3 (fC (.int 1))))) (sSet 2 (fBin gp (fVar 2) (fBin dMul (fIxV 3 (fC (.int 2))) (fVar 1))))
def zlb:FS:=sSeq (sSet 1 (fC (.int 0))) (sSeq (sSet 2 (fC (.int 0))) (sSeq (sFor 3 (fiS (fVar 0)) (ziz)) (sRet (fVar 2))))
def zlc:la->ll:=runD 4 1 zlb
def zfy:FS:=sSeq (sSet 8 (fIxV 2 (fBin dSub (fVar 4) (fC (.int 1))))) (sSeq (vh 2 (fBin dSub (fVar 4) (fC (.int 1))) (fBin gp (fVar 8) (fVar 5))) (je (o7 3 (fLst (fSl (fIxV 0 (fBin dSub (fVar 4) (fC (.int 1)))) (fO1 (fVar 8)) (fO1 (fBin gp (fVar 8) (fVar 5))))))))
def zj5:FS:=sSeq (sOwn 2 (ig (fiS (fVar 0)) [] fYes (fC (.int 0)))) (sSeq (sOwn 3 (gg (fNil))) (sSeq (qm [4,5,6,7] (fiS (fVar 1)) (zfy)) (sRet (fVar 3))))
def zj6:la->ll:=runD 9 2 zj5
def zhe:FS:=sSeq (sSet 3 (fBin gp (fVar 3) (dy vy (ax (fVar 5) (fNil))))) (sSeq (sSet 4 (fBin gp (fVar 4) (dy xg (ax (fVar 5) (fNil))))) (je (o7 2 (dy zz (ax (fVar 0) (ax (fTup (ax (fVar 3) (ax (fVar 4) (fNil)))) (fNil)))))))
def zi0:FS:=sSeq (sOwn 2 (gg (fNil))) (sSeq (sSet 3 (fC (.int 0))) (sSeq (sSet 4 (fC (.int 0))) (sSeq (sFor 5 (fiS (fLst (fSl (fVar 1) (fO0) (fO1 (fUn dNeg (fC (.int 1))))))) (zhe)) (sRet (fVar 2)))))
def zi1:la->ll:=runD 6 2 zi0
def zhf:FS:=sSeq (sIf (fTst (fBin dEq (fBin gp (fVar 1) (fC (.int 1))) (gq 0))) (sRet (fC (.int 0))) (sNil)) (sRet (dy zz (ax (dy u9 (ax (fIxV 0 (fVar 1)) (fNil))) (ax (dy u9 (ax (fIxV 0 (fBin gp (fVar 1) (fC (.int 1)))) (fNil))) (fNil)))))
def zld:la->ll:=runD 2 2 zhf
def zi2:FS:=sSeq (sSet 5 (fIxV 1 (fVar 3))) (je (o7 2 (fBin zxy (fVar 5) (fTup (ax (dy zi1 (ax (dy u9 (ax (fVar 5) (fNil))) (ax (fVar 4) (fNil)))) (ax (dy zld (ax (fVar 1) (ax (fVar 3) (fNil)))) (fNil)))))))
def zle:FS:=sSeq (sSet 1 (dy yk (ax (fVar 0) (fNil)))) (sSeq (sOwn 2 (gg (fNil))) (sSeq (qm [3,4] (ij (iEn 0) (ax (dy zj6 (ax (fVar 0) (ax (fVar 1) (fNil)))) (fNil))) (zi2)) (sRet (fVar 2))))
def zi3:la->ll:=runD 6 1 zle
def zh5:FS:=sSeq (sSet 4 (fBin gp (fVar 4) (fIxV 6 (fC (.int 1))))) (sSeq (sSet 5 (fBin gp (fVar 5) (fIxV 6 (fC (.int 2))))) (je (o7 3 (fBin dSub (fBin dMul (fVar 2) (fVar 4)) (fBin dMul (fVar 1) (fVar 5))))))
def zj7:FS:=sSeq (sOwn 3 (gg (fNil))) (sSeq (sSet 4 (fC (.int 0))) (sSeq (sSet 5 (fC (.int 0))) (sSeq (sFor 6 (fiS (fLst (fSl (fVar 0) (fO0) (fO1 (fBin dSub (gq 0) (fC (.int 1))))))) (zh5)) (sRet (fVar 3)))))
def zj8:la->ll:=runD 7 3 zj7
def zfl:FS:=sSeq (sUnp [5,6,7,8] (fIxV 2 (fVar 4))) (sSeq (sSet 9 (fC (.int 0))) (sSeq (sIf (fTst (fBin dLt (fBin gp (fVar 4) (fC (.int 1))) (gq 2))) (sSet 9 (fBin dSub (fBin dMul (fVar 8) (fBin dIx (fIxV 2 (fBin gp (fVar 4) (fC (.int 1)))) (fC (.int 2)))) (fBin dMul (fBin dIx (fIxV 2 (fBin gp (fVar 4) (fC (.int 1)))) (fC (.int 3))) (fVar 7)))) (sNil)) (sSeq (sSet 10 (dy zj8 (ax (fLst (fSl (fIxV 3 (fBin dSub (fVar 5) (fC (.int 1)))) (fO0) (fO1 (fVar 6)))) (ax (fVar 7) (ax (fVar 8) (fNil)))))) (sSeq (vh 3 (fBin dSub (fVar 5) (fC (.int 1))) (fLst (fSl (fIxV 3 (fBin dSub (fVar 5) (fC (.int 1)))) (fO1 (fVar 6)) (fO0)))) (sSeq (sSet 11 (fIxV 0 (fVar 4))) (sSeq (sIf (fOr (fNot (fTst (fIsi "tuple" (fVar 11)))) (fOr (fTst (fBin dNe (gq 11) (fC (.int 6)))) (fNot (fTst (dy we (ax (fSlT (fVar 11) (fO0) (fO1 (fC (.int 4)))) (ax (fIxV 2 (fVar 4)) (fNil)))))))) (sRet (fC (.bl false))) (sNil)) (sIf (fOr (fNot (fTst (dy zcb (ax (fIxV 11 (fC (.int 4))) (ax (fVar 10) (fNil)))))) (fOr (fNot (fTst (dy uf (ax (fIxV 11 (fC (.int 5))) (fNil))))) (fTst (fBin dNe (fIxV 11 (fC (.int 5))) (fVar 9))))) (sRet (fC (.bl false))) (sNil))))))))
def zhg:FS:=sSeq (sSet 2 (dy zem (ax (fVar 1) (fNil)))) (sSeq (sOwn 3 (ij zk8 (ax (fVar 1) (fNil)))) (sSeq (sIf (fOr (fNot (fTst (fIsi "list" (fVar 0)))) (fTst (fBin dNe (gq 0) (gq 2)))) (sRet (fC (.bl false))) (sNil)) (sSeq (sFor 4 (ij iR1 (ax (gq 2) (fNil))) (zfl)) (sRet (fC (.bl true))))))
def zhh:la->ll:=runD 12 2 zhg
def zh6:FS:=sRet (dy bSum (ax (fLst (ig (fiS (fVar 0)) [] fYes (gq 0))) (fNil)))
def zfz:la->ll:=runD 1 1 zh6
def ze1:FS:=sSet 1 (fBin gp (fVar 1) (dy bSum (ax (fLst (ig (fiS (fVar 2)) [] fYes (dy xg (ax (fVar 0) (fNil))))) (fNil))))
def zi4:FS:=sSeq (sSet 1 (fC (.int 0))) (sSeq (sFor 2 (fiS (fVar 0)) (ze1)) (sRet (fVar 1)))
def zi5:la->ll:=runD 3 1 zi4
def zmk:FS:=sRet (fBin dIx (fIxV 0 (fBin dSub (fVar 1) (fC (.int 1)))) (fC (.int 0)))
def zko:la->ll:=runD 2 2 zmk
def zj9:FS:=sRet (fLst (fCat (fLst (fCat (fLst (fSl (fVar 0) (fO0) (fO1 (fBin dSub (fVar 1) (fC (.int 1)))))) (fLst (gg (ax (fVar 2) (fNil)))))) (fLst (fSl (fVar 0) (fO1 (fVar 1)) (fO0)))))
def z9:la->ll:=runD 3 3 zj9
def zi6:FS:=sRet (dy z9 (ax (fVar 0) (ax (fVar 1) (ax (fLst (fSl (fIxV 0 (fBin dSub (fVar 1) (fC (.int 1)))) (fO1 (fC (.int 1))) (fO0))) (fNil)))))
def zgs:la->ll:=runD 2 2 zi6
theorem yag(I:i0)(k:Nat):∃c,zjw [.lst (I.map D.int),.int k]=↑(.int c):=by
 by_cases h:(k:Int)<I.length
 ·obtain⟨x,h1,h2⟩:=z70 (xs:=I.map D.int) (i:=(k:Int)) ⋯ (by simpa using h)
  rw[bw] at h2;cases q:I[(k:Int).toNat]? with
  |none=>rw[q] at h2;cases h2
  |some c =>
    rw[q] at h2;cases h2;simp[zjw,runD,zn5,jy,h,h1]
 ·refine⟨0,?_⟩
  simp[zjw,runD,zn5,jy,h]
theorem z1d(I:i0)(n:Nat)(a:n<=1000):∃cs:i0,cs.length=n/\zgc [.lst (I.map D.int),.int n]=↑(.lst (cs.map D.int)):=by
 have loop:=ud (i:=4) (g:=zfs)
  (λk e=>∃(cs:i0) (st:Int) (S v5:lp),cs.length=k/\e=[↑(.sh (.lst (I.map D.int))),↑(.sh (.int n)),↑(.ow (cs.map D.int)),↑(.sh (.int st)),S,v5])
  (rngD 0 n) [↑(.sh (.lst (I.map D.int))),↑(.sh (.int n)),↑(.ow []),↑(.sh (.int 7)),none,none] ⟨[],7,none,none,rfl,rfl⟩ ?_
 ·obtain⟨e',h1,cs,st,S,v5,R,rfl⟩:=loop
  refine⟨cs,by rw[R,wc],?_⟩;have Y:=og n ⋯;simp[zgc,runD,zmz,jy,Y,h1]
 ·rintro k d e hd ⟨cs,st,S,v5,R,rfl⟩
  obtain⟨rfl,b⟩:=ub hd;obtain⟨c,U⟩:=yag I k;have J:Few (cs.length+1):=few ⋯;by_cases V:(I.length:Int) % 2=1
  ·refine⟨_,?_,cs++[((st*48271+c+k+1) % 2147483647+k)*69621 % 2147483647],(st*48271+c+k+1) % 2147483647,↑(.sh (.int (0+k))),↑(.sh (.int (((st*48271+c+k+1) % 2147483647+k)*69621 % 2147483647))),by simp[R],rfl⟩
   have Z:l9 48271:=tz (by decide);have s2:l9 69621:=tz (by decide);simp[zfs,U,V,dMod,dMul,Z,s2,J]
  ·refine⟨_,?_,cs++[c],st,↑(.sh (.int (0+k))),↑(.sh (.int c)),by simp[R],rfl⟩
   simp[zfs,U,V,dMod,J]
def zya(a b c d:Int)(D:l9 b)(hd:l9 d) :
  zz [.tup [.int a,.int b],.tup [.int c,.int d]]=↑(.int (b*c-d*a)):=by
 simp[zz,runD,zn4,jy,dMul,D,hd,atI,ixN]
theorem zuv(a b c d:Int)(R:l9 b)(hd:l9 d) :
  vz [.tup [.int a,.int b],.tup [.int c,.int d]]=↑(.int (if d*a<b*c then 1 else if b*c<d*a then -1 else 0)):=by
 have I:=zya a b c d R hd;by_cases h1:d*a<b*c
 ·have D:0<b*c-d*a:=by lia
  simp[vz,runD,zhq,jy,I,h1,D]
 ·have D:¬0<b*c-d*a:=by lia
  by_cases h2:b*c<d*a
  ·have J:b*c-d*a<0:=by lia
   simp[vz,runD,zhq,jy,I,h1,h2,D,J]
  ·have J:¬b*c-d*a<0:=by lia
   simp[vz,runD,zhq,jy,I,h1,h2,D,J]
def yc(i:Int):uf [.int i]=↑(.bl true):=by
 simp[uf,runD,zmy,jy]
abbrev Sk:=Int×Int×Int
abbrev mn:=List Sk
abbrev mu:=List (List Sk)
def sD(s:Sk):D:=.tup [.int s.1,.int s.2.1,.int s.2.2]
def jb(s:Sk):Prop:=1<=s.1/\s.1<=60/\1<=s.2.1/\s.2.1<=60/\0<=s.2.2/\s.2.2<=100
def b3:Bnd 1 1073741824 3:=⟨by decide,by decide⟩
variable{n i:Nat}
def tu{i:Int}(D:0<=i)(h1:i<n):ixN n i=↑i.toNat:=by unfold ixN;rw[if_pos D,if_pos h1]
def yay(s:mn):mn:=match s.getLast? with
 |none=>[] |some x=>s.dropLast++[(x.1,x.2.1,x.2.2+1)]
structure SInv (menu:Int) (many k:Nat) (sss:mu) (pool:i0):Prop where
 len:sss.length=many
 tot:sss.flatten.length=k
 good:∀x∈sss.flatten,jb x/\(menu=3->x.2.2<=60)
 perm:(pool++sss.flatten.map (·.1)).Perm (rngL 1 61)
structure Stk (most:Nat) (ss:mu):Prop where
 many:ss.length<=5
 tot:ss.flatten.length<=most
 good:∀x∈ss.flatten,jb x
 nd:(ss.flatten.map (·.1)).Nodup
def iT(xs:i0):D:=.tup (xs.map D.int)
variable{α:Type}{k:Nat}
theorem kh(f:α->D){xs:List α}{x:α}(h:xs[k]?=↑x):atI (xs.map f) (k:Int)=↑(f x):=by
 have I:=(ak.mp h).1;unfold atI;rw[tu ⋯ (by rw[af];lia)];simp[h]
theorem zn6(xs:i0)(S:xs.length<=1000):we [iT xs,iT xs]=↑(.bl true):=by
 obtain⟨e',h1,v2,rfl⟩:=ud (i:=2) (g:=yl) (λk e=>∃v2,e=[↑(.sh (iT xs)),↑(.sh (iT xs)),v2]) (rngD 0 xs.length) [↑(.sh (iT xs)),↑(.sh (iT xs)),none] ⟨none,rfl⟩ (by
  rintro k d e hd ⟨v2,rfl⟩;obtain⟨rfl,J⟩:=ub hd;have R:atI (xs.map D.int) (k:Int)=↑(.int xs[k]):=kh D.int (by simp[J]);exact⟨[↑(.sh (iT xs)),↑(.sh (iT xs)),↑(.sh (.int (0+k)))],by simp[yl,iT,R,yc],_,rfl⟩)
 have hi:=og xs.length ⋯;refine jw (e':=?w) rfl ?h;show zdr [↑(.sh (iT xs)),↑(.sh (iT xs)),none]=_;have I:forL 2 yl (rngD 0 xs.length) [↑(.sh (.tup (xs.map D.int))),↑(.sh (.tup (xs.map D.int))),none]=↑(.nx,[↑(.sh (.tup (xs.map D.int))),↑(.sh (.tup (xs.map D.int))),v2]):=h1;simp[zdr,iT,hi,I];rfl
theorem zka(f:α->i0)(xs:List α)(S:xs.length<=1000)(I:∀x∈xs,(f x).length<=1000):uh [.lst (xs.map λx=>iT (f x)),.lst (xs.map λx=>iT (f x))]=↑(.bl true):=by
 obtain⟨e',h1,v2,rfl⟩:=ud (i:=2) (g:=zcg) (λk e=>∃v2,e=[↑(.sh (.lst (xs.map λx=>iT (f x)))),↑(.sh (.lst (xs.map λx=>iT (f x)))),v2]) (rngD 0 xs.length) [↑(.sh (.lst (xs.map λx=>iT (f x)))),↑(.sh (.lst (xs.map λx=>iT (f x)))),none] ⟨none,rfl⟩ (by
  rintro k d e hd ⟨v2,rfl⟩;obtain⟨rfl,D⟩:=ub hd;have J:atI (xs.map λx=>iT (f x)) (k:Int)=↑(iT (f xs[k])):=kh _ (by simp[D]);have R:=zn6 (f xs[k]) (I _ (eg D));exact⟨[↑(.sh (.lst (xs.map λx=>iT (f x)))),↑(.sh (.lst (xs.map λx=>iT (f x)))),↑(.sh (.int (0+k)))],by simp[zcg,J,R],_,rfl⟩)
 have hi:=og xs.length ⋯;refine jw (e':=?w) rfl ?h;show zda [↑(.sh (.lst (xs.map λx=>iT (f x)))),↑(.sh (.lst (xs.map λx=>iT (f x)))),none]=_;simp[zda,hi,h1];rfl
abbrev Bk:=Int×Int×Int
def hrs(r:mn):Int:=(r.map (·.2.1)).sum
def lss(r:mn):Int:=(r.map (·.2.2)).sum
def blk(r:mn):Bk:=(r.length,hrs r,lss r)
def jn(u b:Bk):Bk:=(u.1+b.1,u.2.1+b.2.1,u.2.2+b.2.2)
def gt(u b:Bk):Prop:=b.2.2*u.2.1<u.2.2*b.2.1
instance (u b:Bk):Decidable (gt u b):=inferInstanceAs (Decidable (_<_))
def SmB(b:Bk):Prop:=l9 b.2.1/\l9 b.2.2
def zyb(s:Sk):zft [sD s]=↑(sD (1,s.2.1,s.2.2)):=by
 rfl
def zyc(u b:Bk):zfu [sD u,sD b]=↑(sD (jn u b)):=by
 simp[zfu,runD,zkx,jy,sD,z71,xo,xn,jn]
def zv3(u b:Bk)(U:SmB u)(V:SmB b):wf [sD u,sD b]=↑(.bl (decide (gt u b))):=by
 obtain⟨Y,I,J⟩:=u;obtain⟨Z,R,b3⟩:=b;have S:∀x y z:Int,zeu [sD (x,y,z)]=↑(.tup [.int y,.int z]):=λx y z=>by simp[zeu,runD,zl1,jy,sD,xo,xn]
 have D:=zuv I J R b3 U.2 V.2;by_cases h1:b3*I<J*R
 ·rw[if_pos h1] at D
  simp[wf,runD,zc2,jy,S,D,gt,h1]
 ·rw[if_neg h1] at D
  by_cases h2:J*R<b3*I
  ·rw[if_pos h2] at D
   simp[wf,runD,zc2,jy,S,D,gt,h1]
  ·rw[if_neg h2] at D
   simp[wf,runD,zc2,jy,S,D,gt,h1]
def zyd(bs:la)(x:D):atI (bs++[x]) (-1)=↑x:=zzw bs x
def pz(a b:mn):hrs (a++b)=hrs a+hrs b:=by simp[hrs]
def tq(a b:mn):lss (a++b)=lss a+lss b:=by simp[lss]
def z8i(a b:mn):jn (blk a) (blk b)=blk (a++b):=by
 simp only[jn,blk,pz,tq,au];simp
theorem yz(r:mn)(h:∀x∈r,jb x):(r.length:Int)<=hrs r/\hrs r<=60*r.length/\0<=lss r/\lss r<=100*r.length:=by
 induction r with
 |nil=>simp[hrs,lss] |cons x r ih =>
   obtain⟨h1,h2,D,I⟩:=ih λy J=>h y (bc _ J);obtain⟨_,_,R,S,U,V⟩:=h x b6;simp[hrs,lss,gy] at h1 h2 D I ⊢
   lia
theorem smB(r:mn)(h:∀x∈r,jb x)(D:r.length<=1000):SmB (blk r):=by
 obtain⟨h1,h2,I,J⟩:=yz r h;exact⟨tz (by show -1000000000000<hrs r/\hrs r<1000000000000;lia),tz (by show -1000000000000<lss r/\lss r<1000000000000;lia)⟩
def my:mu->mn->mu×mn
 | [],b=>([],b) |u::r,b=>if gt (blk u) (blk b) then(u::r,b) else my r (u++b)
def bD(r:mn):D:=sD (blk r)
def ztb(I v2:lp)(bs:la)(u b:mn):zec [I,↑(.ow (bs++[bD u])),v2,↑(.sh (bD b))]=↑(.nx,[I,↑(.ow bs),v2,↑(.sh (bD (u++b)))]):=by
 have e:=zyc (blk u) (blk b);rw[z8i] at e;simp[zec,bD,e]
theorem zuw(D v2:lp):∀(n:Nat) (I:mu) (b:mn),I.length<n->(∀r∈I,∀x∈r,jb x)->(∀x∈b,jb x)->(I.flatten.length+b.length<=1000) ->
  oh (fAnd (fTst (fBin dGt (gq 1) (fC (.int 0)))) (fNot (fTst (dy wf (ax (fIxV 1 (fUn dNeg (fC (.int 1)))) (ax (fVar 3) (fNil))))))) zec n
   [D,↑(.ow (I.reverse.map bD)),v2,↑(.sh (bD b))]=↑(.nx,[D,↑(.ow ((my I b).1.reverse.map bD)),v2,↑(.sh (bD (my I b).2))])
 |n+1,[],b,_,_,_,_=>by simp[oh,my] |n+1,u::r,b,h,hs,hb,hl=>by
   rw[df,au] at hl;have R:wf [bD u,bD b]=↑(.bl (decide (gt (blk u) (blk b)))):=zv3 (blk u) (blk b) (smB u (hs u (by simp)) ⋯) (smB b hb ⋯);have S:(0:Int)<(r.length:Int)+1:=by lia
   have J:=ztb D v2 (r.reverse.map bD) u b;unfold oh;rw[List.reverse_cons,b8,bi,cq];by_cases h1:gt (blk u) (blk b)
   ·simp[my,h1,R,S,zyd]
   ·have U:=zuw D v2 n r (u++b) (by simpa using h) (λt V=>hs t (by simp[V])) (λx hx=>by
     rcases dg.mp hx with hx |hx
     ·exact hs u (by simp) x hx
     ·exact hb x hx) (by rw[au];lia)
    have Y:my (u::r) b=my r (u++b):=by simp[my,h1]
    rw[Y];have Z:(fAnd (fTst (fBin dGt (gq 1) (fC (.int 0)))) (fNot (fTst (dy wf (ax (fIxV 1 (fUn dNeg (fC (.int 1)))) (ax (fVar 3) (fNil)))))))
      [D,↑(.ow (r.reverse.map bD++[bD u])),v2,↑(.sh (bD b))]=↑(true,[D,↑(.ow (r.reverse.map bD++[bD u])),v2,↑(.sh (bD b))]):=by
     simp[h1,R,S,zyd]
    rw[Z,ac];rw[if_pos rfl,J,ac];exact U
structure Good (r:mn):Prop where
 ne:r≠[]
 beg:∀p,p <+: r->lss p*hrs r<=lss r*hrs p
theorem z2n(r:mn)(h:∀x∈r,jb x):0<=hrs r:=by have:=yz r h;lia
theorem ur(r:mn)(h:∀x∈r,jb x)(D:r≠[]):0<hrs r:=by
 have h1:=yz r h;have:0<r.length:=fo.mpr D
 lia
def ztc{α:Type}:∀ {u b p:List α},p <+: u++b->p <+: u\/∃t,p=u++t/\t <+: b
 | [],b,p,h=>.inr ⟨p,rfl,h⟩ |a::u,b,[],h=>.inl List.nil_prefix |a::u,b,c::p,h=>by
   rw[j9,List.cons_prefix_cons] at h;obtain⟨rfl,h⟩:=h;rcases ztc h with h | ⟨t,rfl,ht⟩
   ·exact .inl (by rw[List.cons_prefix_cons];exact⟨rfl,h⟩)
   ·exact .inr ⟨t,rfl,ht⟩
variable{b:Bk}
theorem Good.join{u b:mn}(I:Good u)(R:Good b)(S:∀x∈u,jb x)(U:∀x∈b,jb x)(h:¬gt (blk u) (blk b)):Good (u++b):=by
 have h':lss u*hrs b<=lss b*hrs u:=Int.not_lt.mp h;have c:=ur u S I.ne;have V:=ur b U R.ne;refine⟨by simp[I.ne],λp D=>?_⟩;rw[pz,tq];rcases ztc D with D | ⟨t,rfl,ht⟩
 ·-- within u
  have h1:=I.beg p D;have d:0<=hrs p:=z2n p λx J=>S x (D.subset J);have l:lss p*hrs u*(hrs u+hrs b)<=lss u*hrs p*(hrs u+hrs b):=ie h1 ⋯;have m:hrs p*(lss u*hrs b)<=hrs p*(lss b*hrs u):=ui h' d;have e:lss p*(hrs u+hrs b)*hrs u<=(lss u+lss b)*hrs p*hrs u:=by
   have Y:lss p*(hrs u+hrs b)*hrs u=lss p*hrs u*(hrs u+hrs b):=by rw[iz,ju (hrs u+hrs b),<-iz]
   have Z:lss u*hrs p*(hrs u+hrs b)=lss u*hrs p*hrs u+hrs p*(lss u*hrs b):=by rw[jp,ju (lss u) (hrs p),iz (hrs p) (lss u) (hrs b)]
   have f:(lss u+lss b)*hrs p*hrs u=lss u*hrs p*hrs u+hrs p*(lss b*hrs u):=by rw[ja,ja,ju (lss b) (hrs p),iz (hrs p) (lss b) (hrs u)]
   lia
  exact xm e c
 ·-- u and a beginning of b
  rw[pz,tq];have h1:=R.beg t ht;obtain⟨q,rfl⟩:=ht;rw[pz,tq] at h1 h' ⊢;rw[pz] at V;have g:0<=hrs q:=z2n q λx J=>U x (cf _ J);have i:lss t*hrs q<=lss q*hrs t:=by
   have Y:lss t*(hrs t+hrs q)=lss t*hrs t+lss t*hrs q:=jp _ _ _;have Z:(lss t+lss q)*hrs t=lss t*hrs t+lss q*hrs t:=ja _ _ _
   lia
  have n:lss u*(hrs t+hrs q)*hrs q<=(lss t+lss q)*hrs u*hrs q:=ie h' g;have j:0<=hrs u:=by lia
  have b3:hrs u*(lss t*hrs q)<=hrs u*(lss q*hrs t):=ui i j;have k:lss u*hrs q*(hrs t+hrs q)<=lss q*hrs u*(hrs t+hrs q):=by
   have Y:lss u*hrs q*(hrs t+hrs q)=lss u*(hrs t+hrs q)*hrs q:=by rw[iz,ju (hrs q),<-iz]
   have Z:(lss t+lss q)*hrs u*hrs q=hrs u*(lss t*hrs q)+lss q*hrs u*hrs q:=by rw[ja,ja,ju (lss t) (hrs u),iz (hrs u) (lss t) (hrs q)]
   have f:lss q*hrs u*(hrs t+hrs q)=hrs u*(lss q*hrs t)+lss q*hrs u*hrs q:=by rw[jp,ju (lss q) (hrs u),iz (hrs u) (lss q) (hrs t)]
   lia
  have o:lss u*hrs q<=lss q*hrs u:=xm k V;simp only[jp,ja]
  lia
def Desc:mu->Prop
 | []=>True | [_]=>True |b::u::r=>gt (blk u) (blk b)/\Desc (u::r)
structure Runs (rs:mu) (s:mn):Prop where
 flat:rs.reverse.flatten=s
 good:∀r∈rs,Good r
 desc:Desc rs
def zux:∀(R:mu) (b:mn) (s:mn),Runs R s->Good b->(∀x∈s++b,jb x)->Runs ((my R b).2::(my R b).1) (s++b)
 | [],b,s,h,gb,_=>by
   have:s=[]:=by have:=h.flat;simpa using this.symm
   subst this;exact⟨by simp[my],λr I=>by simp[my] at I;rw[I];exact gb,trivial⟩
 |u::r,b,s,h,gb,hx=>by
   have J:s=r.reverse.flatten++u:=by rw[<-h.flat];simp
   by_cases h1:gt (blk u) (blk b)
   ·have e:my (u::r) b=(u::r,b):=by simp[my,h1]
    rw[e];refine⟨by simp[J],λt ht=>?_,h1,h.desc⟩;rcases ce.mp ht with rfl |ht
    ·exact gb
    ·exact h.good t ht
   ·have e:my (u::r) b=my r (u++b):=by simp[my,h1]
    rw[e];have I:Runs r r.reverse.flatten:=⟨rfl,λt ht=>h.good t (bc _ ht),by
     have:=h.desc;cases r with
     |nil=>trivial |cons v r=>exact this.2⟩
    have S:Good (u++b):=(h.good u (by simp)).join gb (λx D=>hx x (by rw[J];simp[D])) (λx D=>hx x (by simp[D])) h1;have:=zux r (u++b) r.reverse.flatten I S (λx D=>hx x (by rw[J];simpa[or_assoc] using D));rw[J,d7];exact this
def z1e(x:Sk)(h:jb x):Good [x]:=⟨by simp,λp I=>by
 have:p=[]\/p=[x]:=by
  obtain⟨t,D⟩:=I;cases p with
  |nil=>exact .inl rfl |cons y q=>simp at D;simp[D]
 rcases this with rfl |rfl
 ·simp[lss,hrs]
 ·exact Int.le_refl _⟩
def zye(x:Sk):zft [sD x]=↑(bD [x]):=by
 rw[zyb];simp[bD,blk,hrs,lss]
theorem ztd(S:D)(I:mu)(s:mn)(x:Sk)(v2 f:lp)(h:Runs I s)(Y:∀y∈s++[x],jb y)(n:s.length<900) :
  ∃R b,Runs R (s++[x])/\zed [↑(.sh S),↑(.ow (I.reverse.map bD)),↑(.sh (sD x)),f]=↑(.nx,[↑(.sh S),↑(.ow (R.reverse.map bD)),↑(.sh (sD x)),b]):=by
 have U:I.flatten.length=s.length:=by
  rw[<-h.flat,jf,jf,List.map_reverse,List.sum_reverse]
 have g:I.length<=s.length:=by
  rw[<-U];have:∀(l:mu),(∀r∈l,r≠[])->l.length<=l.flatten.length:=λl=>by
   induction l with
   |nil=>intro _;simp
   |cons a l ih =>
     intro V;have:=ih λr J=>V r (bc _ J);have i:0<a.length:=fo.mpr (V a b6);rw[am,df,au]
     lia
  exact this I λr J=>(h.good r J).ne
 have j:=zuw ↑(.sh S) ↑(.sh (sD x)) 10000 I [x] ⋯ (λr J y Z=>Y y (by
  rw[<-h.flat];exact d8 _ (gn.mpr ⟨r,by simpa using J,Z⟩))) (λy Z=>Y y (by simp at Z;simp[Z])) (by rw[U];simp;lia)
 have J:=zux I [x] s h (z1e x (Y x (by simp))) Y;refine⟨_,↑(.sh (bD (my I [x]).2)),J,?_⟩;have d:(my I [x]).1.length<=s.length:=by
  have e:=J.flat;have:∀(l:mu),(∀r∈l,r≠[])->l.length<=l.flatten.length:=λl=>by
   induction l with
   |nil=>intro _;simp
   |cons a l ih =>
     intro V;have:=ih λr J=>V r (bc _ J);have i:0<a.length:=fo.mpr (V a b6);rw[am,df,au]
     lia
  have h2:=this _ λr c=>(J.good r c).ne;have k:(((my I [x]).2::(my I [x]).1).flatten).length=(s++[x]).length:=by
   rw[<-e,jf,jf,List.map_reverse,List.sum_reverse]
  rw[k] at h2;simp at h2;exact h2
 have m:Few ((my I [x]).1.length+1):=few ⋯;unfold zed;simp only[sSeq,sSet,dy,ax,fVar,fNil,ae,ah,ac,aj,zye,ao,aq,j,je,o7,yr,af,List.length_reverse,m,if_true];simp
theorem zkb(s:mn)(V:∀y∈s,jb y)(a:s.length<=14):∃D,Runs D s/\zh2 [.lst (s.map sD)]=↑(.lst (D.reverse.map bD)):=by
 obtain⟨e',h1,D,v2,I,J,rfl⟩:=sd (i:=2) (g:=zed) sD (λp e=>∃D v2 I,Runs D p/\e=[↑(.sh (.lst (s.map sD))),↑(.ow (D.reverse.map bD)),v2,I]) s
  [↑(.sh (.lst (s.map sD))),↑(.ow []),none,none] ⟨[],none,none,⟨rfl,λr J=>by simp at J,trivial⟩,rfl⟩ (by
   rintro p x q e R ⟨D,v2,I,J,rfl⟩;obtain⟨S,Y,U,Z⟩:=ztd (.lst (s.map sD)) D p x v2 I J (λy hy=>V y (by
    rw[R];rcases dg.mp hy with hy |hy
    ·simp[hy]
    ·simp at hy;simp[hy])) (by
    have:s.length=p.length+(q.length+1):=by rw[R];simp
    lia)
   exact⟨_,Z,S,_,_,U,rfl⟩)
 refine⟨D,J,?_⟩;refine jw (e':=[↑(.sh (.lst (s.map sD))),↑(.sh (.lst (D.reverse.map bD))),v2,I]) rfl ?_;show zh1 [↑(.sh (.lst (s.map sD))),none,none,none]=_;simp[zh1,h1]
theorem z4v(a b c:la):cutD (a++(b++c)) ↑((a.length:Int)) ↑((a.length:Int)+(b.length:Int))=b:=by
 unfold cutD;rw[HT.sIx_nat,show(a.length:Int)+(b.length:Int)=((a.length+b.length:Nat):Int) by lia,HT.sIx_nat];simp
def xz(f:α->Int)(r:List α):bSum [.lst (r.map λx=>.int (f x))]=↑(.int (r.map f).sum):=by
 have:(r.map λx=>D.int (f x))=(r.map f).map D.int:=by rw[ip];rfl
 rw[this];show(ints? ((r.map f).map D.int)).map _=_;rw[zxf];rfl
def zr5{α:Type}{ix:ik}{g:FS}(I:α->la)(P:List α->DE0->Prop)(all:List α)(R:∀x∈all,(I x).length=ix.length)(S:∀(p:List α) (x:α) (q:List α) (e:DE0),all=p++x::q->P p e->∃e',g (qt ix (I x) e)=↑(.nx,e')/\P (p++[x]) e') :
  ∀(xs J:List α) (e:DE0),all=J++xs->P J e->∃e',forU ix g (xs.map λx=>D.tup (I x)) e=↑(.nx,e')/\P all e'
 | [],J,e,h,hp=>⟨e,rfl,by rw[h,di];exact hp⟩ |x::xs,J,e,h,hp=>by
   obtain⟨U,h1,p1⟩:=S J x xs e h hp;obtain⟨V,h2,p2⟩:=zr5 I P all R S xs (J++[x]) U (by rw[h];simp) p1;have Y:=R x (by rw[h];simp);exact⟨V,by simp[forU,unp,Y,h1,h2],p2⟩
variable{g:FS}
def wz{ix:ik}(I:α->la)(P:List α->DE0->Prop)(all:List α)(e:DE0)(J:P [] e)(R:∀x∈all,(I x).length=ix.length)(S:∀(p:List α) (x:α) (q:List α) (e:DE0),all=p++x::q->P p e->∃e',g (qt ix (I x) e)=↑(.nx,e')/\P (p++[x]) e') :
  ∃e',forU ix g (all.map λx=>D.tup (I x)) e=↑(.nx,e')/\P all e':=zr5 I P all R S all [] e rfl J
def zn8{α:Type}(f:α->D):∀(xs:List α) (c:Nat),rh c (xs.map f)=(xs.zipIdx c).map λp=>D.tup [.int (p.2:Nat),f p.1]
 | [],c=>rfl |x::xs,c=>by simp[rh,List.zipIdx_cons,zn8 f xs (c+1)]
def zuy{α β:Type}(f:α->D)(g:β->D):∀(xs:List α) (ys:List β),zipD (xs.map f) (ys.map g)=(xs.zip ys).map λp=>D.tup [f p.1,g p.2]
 | [],ys=>by simp[zipD] |x::xs,[]=>by simp[zipD] |x::xs,y::ys=>by simp[zipD,zuy f g xs ys]
theorem wv{u:Bk}(h:gt u b):¬gt b u:=λz=>by
 unfold gt at h z
 lia
variable{c:Bk}
theorem z1f{n:Bk}(J:0<n.2.1)(R:0<c.2.1)(D:0<b.2.1)(h1:gt n c)(h2:¬gt b c):gt n b:=by
 have h2:b.2.2*c.2.1<=c.2.2*b.2.1:=Int.not_lt.mp h2;have S:b.2.2*c.2.1*n.2.1<=c.2.2*b.2.1*n.2.1:=ie h2 ⋯;have U:c.2.2*n.2.1*b.2.1<n.2.2*c.2.1*b.2.1:=wg h1 D;have I:b.2.2*n.2.1*c.2.1<n.2.2*b.2.1*c.2.1:=by
  have V:b.2.2*n.2.1*c.2.1=b.2.2*c.2.1*n.2.1:=iq ..;have Y:n.2.2*b.2.1*c.2.1=n.2.2*c.2.1*b.2.1:=iq ..;have Z:c.2.2*b.2.1*n.2.1=c.2.2*n.2.1*b.2.1:=iq ..
  lia
 exact xl I ⋯
theorem yah{n:Bk}(D:0<n.2.1)(J:0<c.2.1)(R:0<b.2.1)(h1:¬gt c n)(h2:gt c b):gt n b:=by
 have h1:c.2.2*n.2.1<=n.2.2*c.2.1:=Int.not_lt.mp h1;have S:c.2.2*n.2.1*b.2.1<=n.2.2*c.2.1*b.2.1:=ie h1 ⋯;have U:b.2.2*c.2.1*n.2.1<c.2.2*b.2.1*n.2.1:=wg h2 D;have I:b.2.2*n.2.1*c.2.1<n.2.2*b.2.1*c.2.1:=by
  have V:b.2.2*n.2.1*c.2.1=b.2.2*c.2.1*n.2.1:=iq ..;have Y:n.2.2*b.2.1*c.2.1=n.2.2*c.2.1*b.2.1:=iq ..;have Z:c.2.2*b.2.1*n.2.1=c.2.2*n.2.1*b.2.1:=iq ..
  lia
 exact xl I ⋯
def z8j{n:Bk}(D:0<n.2.1)(I:0<c.2.1)(J:0<b.2.1)(h1:¬gt c n)(h2:¬gt b c):¬gt b n:=λz=>by
 have:=z1f (n:=b) (c:=n) (b:=c) J D I z h1;exact h2 this
abbrev Tn:=Nat×mn
abbrev mv:=List Tn
def tnD(t:Tn):D:=.tup [.int (t.1:Int),.int (t.2.length:Int),.int (hrs t.2),.int (lss t.2)]
def zn9(t:Tn):u9 [tnD t]=↑(.tup [.int (hrs t.2),.int (lss t.2)]):=by
 simp[u9,runD,zm0,jy,tnD,z99,yaa]
def geT(a b:Tn):Bool:=!decide (gt (blk b.2) (blk a.2))
variable{b:Int}{a:Nat}
def z4w{a b:Tn}:geT a b=true↔¬gt (blk b.2) (blk a.2):=by simp[geT]
theorem z4x(t n:Tn)(D:SmB (blk t.2))(I:SmB (blk n.2)):∃z:Int,vz [.tup [.int (hrs t.2),.int (lss t.2)],.tup [.int (hrs n.2),.int (lss n.2)]]=↑(.int z)/\decide (0<=z)=geT t n:=by
 refine⟨_,zuv _ _ _ _ D.2 I.2,?_⟩;show decide ((0:Int)<=if lss n.2*hrs t.2<lss t.2*hrs n.2 then 1 else if lss t.2*hrs n.2<lss n.2*hrs t.2 then -1 else 0)=!decide (lss t.2*hrs n.2<lss n.2*hrs t.2);by_cases h1:lss n.2*hrs t.2<lss t.2*hrs n.2
 ·rw[if_pos h1]
  have h2:¬lss t.2*hrs n.2<lss n.2*hrs t.2:=by lia
  simp[h2]
 ·rw[if_neg h1]
  by_cases h2:lss t.2*hrs n.2<lss n.2*hrs t.2
  ·simp[h2]
  ·simp[h2]
def plc(ts:mv)(n:Tn):Nat:=(ts.takeWhile λt=>geT t n).length
noncomputable def zpg:FT:=fAnd (fTst (fBin dLt (fVar 2) (gq 0))) (fTst (fBin dGe (dy vz (ax (dy u9 (ax (fIxV 0 (fVar 2)) (fNil))) (ax (dy u9 (ax (fVar 1) (fNil))) (fNil)))) (fC (.int 0))))
theorem zoa(n:Tn)(V:SmB (blk n.2)):∀(I D:mv) (J:Nat),I.length<J->(∀t∈I,SmB (blk t.2)) ->
  oh zpg zcp J [↑(.sh (.lst ((D++I).map tnD))),↑(.sh (tnD n)),↑(.sh (.int (D.length:Int)))]=↑(.nx,[↑(.sh (.lst ((D++I).map tnD))),↑(.sh (tnD n)),↑(.sh (.int ((D.length+plc I n:Nat):Int)))])
 | [],D,f+1,h,_=>by
   unfold oh zpg;simp[plc]
 |t::r,D,f+1,h,hs=>by
   obtain⟨z,Z,hd⟩:=z4x t n (hs t (by simp)) V;have R:atI ((D++t::r).map tnD) (D.length:Int)=↑(tnD t):=kh tnD (by simp);have S:(D.length:Int)<((D++t::r).map tnD).length:=by simp;lia
   have a:zpg [↑(.sh (.lst ((D++t::r).map tnD))),↑(.sh (tnD n)),↑(.sh (.int (D.length:Int)))]=↑(geT t n,[↑(.sh (.lst ((D++t::r).map tnD))),↑(.sh (tnD n)),↑(.sh (.int (D.length:Int)))]):=by
    unfold zpg;generalize (D++t::r).map tnD=L at R S;simp[S,R,zn9,Z,hd]
   unfold oh;rw[a,ac];cases hg:geT t n with
   |false =>
     simp[plc,hg]
   |true =>
     rw[if_pos rfl];have b:zcp [↑(.sh (.lst ((D++t::r).map tnD))),↑(.sh (tnD n)),↑(.sh (.int (D.length:Int)))]=↑(.nx,[↑(.sh (.lst ((D++t::r).map tnD))),↑(.sh (tnD n)),↑(.sh (.int ((D++[t]).length:Int)))]):=by
      simp[zcp]
     rw[b,ac];have Y:=zoa n V r (D++[t]) f (by simpa using h) λt' U=>hs t' (by simp[U]);rw[d7,j2] at Y;rw[Y];have:(D++[t]).length+plc r n=D.length+plc (t::r) n:=by simp[plc,hg];lia
     rw[this]
theorem z1g(ts:mv)(n:Tn)(D:SmB (blk n.2))(I:∀t∈ts,SmB (blk t.2))(J:ts.length<9000):zhc [.lst (ts.map tnD),tnD n]=↑(.int (plc ts n:Int)):=by
 have h:=zoa n D ts [] 10000 ⋯ I;refine jw (e':=[↑(.sh (.lst (ts.map tnD))),↑(.sh (tnD n)),↑(.sh (.int (plc ts n:Int)))]) rfl ?_;show zhb [↑(.sh (.lst (ts.map tnD))),↑(.sh (tnD n)),none]=_;have h':oh zpg zcp 10000 [↑(.sh (.lst (ts.map tnD))),↑(.sh (tnD n)),↑(.sh (.int 0))]=_:=h;unfold zpg at h';simp[zhb,h']
def ins(ts:mv)(n:Tn):mv:=(ts.takeWhile λt=>geT t n)++n::ts.dropWhile λt=>geT t n
def z8k(ts:mv)(n:Tn):(ts.map tnD).take (plc ts n)++tnD n::(ts.map tnD).drop (plc ts n)=(ins ts n).map tnD:=by
 have e:=j0 (p:=λt=>geT t n) (l:=ts);have D:plc ts n=(ts.takeWhile λt=>geT t n).length:=rfl;have h1:ts.take (plc ts n)=ts.takeWhile λt=>geT t n:=by
  rw[D];generalize (ts.takeWhile λt=>geT t n)=A at e;rw[<-e];exact nr
 have h2:ts.drop (plc ts n)=ts.dropWhile λt=>geT t n:=by
  rw[D];generalize (ts.takeWhile λt=>geT t n)=A at e
  conv=>lhs;rw[<-e]
  exact List.drop_left
 rw[<-o9,<-List.map_drop,h1,h2];simp[ins]
def z8l(ts:mv)(n:Tn):plc ts n<=ts.length:=(List.takeWhile_sublist _).length_le
theorem zv4(J R V:lp)(ts:mv)(I:Nat)(r:mn)(Y:SmB (blk r))(Z:∀t∈ts,SmB (blk t.2))(a:ts.length<9000) :
  zds [J,↑(.ow (ts.map tnD)),↑(.sh (.int (I:Int))),R,↑(.sh (.int (r.length:Int))),↑(.sh (.int (hrs r))),↑(.sh (.int (lss r))),V] =
   ↑(.nx,[J,↑(.ow ((ins ts (I,r)).map tnD)),↑(.sh (.int (I:Int))),R,↑(.sh (.int (r.length:Int))),↑(.sh (.int (hrs r))),↑(.sh (.int (lss r))),↑(.sh (tnD (I,r)))]):=by
 have S:=z1g ts (I,r) Y Z a;have U:=z8k ts (I,r);have h1:(plc ts (I,r):Int)<=((ts.map tnD).length:Nat):=by rw[af];have:=z8l ts (I,r);lia
 have h2:Few ((ts.map tnD).length+1):=few (by rw[af];lia);have b:D.tup [.int (I:Int),.int (r.length:Int),.int (hrs r),.int (lss r)]=tnD (I,r):=rfl;have c:(0:Int)<=(plc ts (I,r):Int):=by lia
 generalize ts.map tnD=L at S U h1 h2;simp[zds,zp4,zrt,z0u,b,S,z4d,z36,c,h1,h2,f6,U]
def bef(a b:Tn):Prop:=gt (blk a.2) (blk b.2)\/(¬gt (blk b.2) (blk a.2)/\a.1<b.1)
def ofS(ts:mv)(j:Nat):mu:=(ts.filter λt=>t.1==j+1).map (·.2)
structure TurnsOk (ss:mu) (ts:mv):Prop where
 lo:∀t∈ts,1<=t.1/\t.1<=ss.length
 good:∀t∈ts,Good t.2
 part:∀(j:Nat) (s:mn),ss[j]?=↑s->(ofS ts j).flatten=s
 srt:ts.Pairwise bef
 perm:(ts.map (·.2)).flatten.Perm ss.flatten
variable{ss:mu}{ts:mv}
def TurnsOk.sk(h:TurnsOk ss ts)(D:∀x∈ss.flatten,jb x):∀t∈ts,∀x∈t.2,jb x:=λt I x J =>
 D x (h.perm.mem_iff.mp (gn.mpr ⟨t.2,gc.mpr ⟨t,I,rfl⟩,J⟩))
def TurnsOk.len1(h:TurnsOk ss ts):∀t∈ts,t.2.length<=ss.flatten.length:=λt D=>by
 rw[<-h.perm.length_eq];exact(dw (gc.mpr ⟨t,D,rfl⟩)).length_le
theorem zyf{α:Type}:∀(l:List (List α)),(∀r∈l,r≠[])->l.length<=l.flatten.length
 | [],_=>by simp |a::l,h=>by
   have:=zyf l λr D=>h r (bc _ D);have I:0<a.length:=fo.mpr (h a b6);rw[am,df,au]
   lia
def TurnsOk.len(h:TurnsOk ss ts):ts.length<=ss.flatten.length:=by
 have:=zyf (ts.map (·.2)) λr D=>by
  obtain⟨t,I,rfl⟩:=gc.mp D;exact(h.good t I).ne
 rw[af,h.perm.length_eq] at this;exact this
protected def TurnsOk.pos(h:TurnsOk ss ts)(I:∀x∈ss.flatten,jb x):∀t∈ts,0<hrs t.2:=λt D=>ur t.2 (h.sk I t D) (h.good t D).ne
def TurnsOk.sm(h:TurnsOk ss ts)(I:∀x∈ss.flatten,jb x)(J:ss.flatten.length<=1000):∀t∈ts,SmB (blk t.2):=λt D=>smB t.2 (h.sk I t D) (cr (h.len1 t D) J)
theorem TurnsOk.more(h:TurnsOk ss ts):TurnsOk (ss++[[]]) ts/\ofS ts ss.length=[]:=by
 have e:ofS ts ss.length=[]:=by
  unfold ofS;rw[List.filter_eq_nil_iff.mpr λt I=>by have:=(h.lo t I).2;simp;lia];rfl
 refine⟨⟨λt I=>⟨(h.lo t I).1,by have:=(h.lo t I).2;simp;lia⟩,h.good,λj s D=>?_,h.srt,by simpa using h.perm⟩,e⟩;by_cases J:j<ss.length
 ·rw[ay J] at D
  exact h.part j s D
 ·have:j=ss.length:=by
   have:=(ak.mp D).1;simp at this
   lia
  subst this;simp at D;subst D;rw[e];rfl
def z4y{ts:mv}{n t:Tn}:t∈ins ts n↔t∈ts\/t=n:=by
 unfold ins;have e:=j0 (p:=λt=>geT t n) (l:=ts);have D:t∈ts↔t∈(ts.takeWhile λt=>geT t n)\/t∈ts.dropWhile λt=>geT t n:=by
  conv=>lhs;rw[<-e]
  exact dg
 rw[D];simp[dg];constructor
 ·rintro(h |h |h)
  ·exact .inl (.inl h)
  ·exact .inr h
  ·exact .inl (.inr h)
 ·rintro((h |h) |h)
  ·exact .inl h
  ·exact .inr (.inr h)
  ·exact .inr (.inl h)
theorem TurnsOk.ins{ss:mu}{ts:mv}{D r:mn}{p:mu}(h:TurnsOk (ss++[D]) ts)(V:ofS ts ss.length=p)(m:Good r)(g:∀x∈r,jb x)(v:∀x∈(ss++[D]).flatten,jb x)(hd:∀u∈p,gt (blk u) (blk r)):TurnsOk (ss++[D++r]) (LB.ins ts (ss.length+1,r))/\ofS (LB.ins ts (ss.length+1,r)) ss.length=p++[r]:=by
 have e:=j0 (p:=λt=>geT t (ss.length+1,r)) (l:=ts);have hA:∀t∈(ts.takeWhile λt=>geT t (ss.length+1,r)),geT t (ss.length+1,r)=true:=λt R=>by
  have:=List.all_takeWhile (p:=λt=>geT t (ss.length+1,r)) (l:=ts);exact ib.mp this t R
 have w:0<hrs r:=ur r g m.ne;have I:=@z4y ts (ss.length+1,r);have i:∀S c,ts.dropWhile (λt=>geT t (ss.length+1,r))=S::c->gt (blk r) (blk S.2):=λS c hb=>by
  have:geT S (ss.length+1,r)=false:=by
   have:=List.head?_dropWhile_not (p:=λt=>geT t (ss.length+1,r)) ts;rw[hb] at this;simpa using this
  unfold geT at this;simpa using this
 unfold LB.ins at I ⊢;have srt:=h.srt;have pos:=h.pos v;have U:∀t∈ts,t.1=ss.length+1->gt (blk t.2) (blk r):=λt R Y=>hd t.2 (by
  rw[<-V];exact gc.mpr ⟨t,iw.mpr ⟨R,by simp[Y]⟩,rfl⟩)
 have lo:=h.lo;have part:=h.part;have J:=h.perm;rw[<-e] at srt pos U lo part J V;generalize (ts.takeWhile λt=>geT t (ss.length+1,r))=A at *;generalize (ts.dropWhile λt=>geT t (ss.length+1,r))=B at *;have n:∀b∈B,gt (blk r) (blk b.2):=λb hb=>by
  cases B with
  |nil=>simp at hb |cons S c =>
    have o:=i S c rfl;rcases ce.mp hb with rfl |hb'
    ·exact o
    ·have y:=(i9.mp srt).2.1
     have:=(ft.mp y).1 b hb';have C:¬gt (blk b.2) (blk S.2):=by
      rcases this with z |z
      ·exact wv z
      ·exact z.1
     exact z1f w (pos S (by simp)) (pos b (by simp[hb'])) o C
 have q:(B.filter λt=>t.1==ss.length+1)=[]:=List.filter_eq_nil_iff.mpr λt R=>by
  intro z;exact wv (n t R) (U t (by simp[R]) (by simpa using z))
 have of:ofS (A++(ss.length+1,r)::B) ss.length=p++[r]:=by
  unfold ofS at V ⊢;rw[jm,q,di] at V;rw[jm,l7 (by simp),q,b8,V];rfl
 refine⟨⟨λt R=>?_,λt R=>?_,λj s d=>?_,?_,?_⟩,of⟩
 ·rcases(I.mp R) with z |z
  ·have:=h.lo t z;simp at this ⊢;lia
  ·subst z;simp
 ·rcases(I.mp R) with z |z
  ·exact h.good t z
  ·subst z;exact m
 ·by_cases Z:j<ss.length
  ·rw[ay Z] at d
   have:=part j s (by rw[ay Z];exact d);rw[<-this];unfold ofS;rw[jm,jm,l8 (by simp;lia)]
  ·have:j=ss.length:=by
    have:=(ak.mp d).1;simp at this
    lia
   subst this;have E:D++r=s:=by simpa using d
   rw[of,<-E];have:=part ss.length D (by simp);rw[show ofS (A++B) ss.length=p from V] at this;simp[this]
 ·have k:=i9.mp srt
  refine i9.mpr ⟨k.1,ft.mpr ⟨λb hb=>.inl (n b hb),k.2.1⟩,λa f b hb=>?_⟩;rcases ce.mp hb with rfl |hb
  ·have F:=hA a f
   by_cases Y:a.1=ss.length+1
   ·exact .inl (U a (by simp[f]) Y)
   ·have:=(lo a (by simp[f])).2
    exact .inr ⟨z4w.mp F,by simp at this ⊢;lia⟩
  ·exact k.2.2 a f b hb
 ·have Y:((A++(ss.length+1,r)::B).map (·.2)).flatten=(A.map (·.2)).flatten++(r++(B.map (·.2)).flatten):=by simp
  have G:(ss++[D++r]).flatten=(ss++[D]).flatten++r:=by simp
  rw[Y,G];have H:((A++B).map (·.2)).flatten=(A.map (·.2)).flatten++(B.map (·.2)).flatten:=by simp
  rw[H] at J;refine List.Perm.trans ?_ (J.append_right r);rw[d7];exact List.Perm.append_left _ List.perm_append_comm
def zte:∀(D:mu),Desc D->(∀r∈D,0<hrs r)->D.Pairwise (λb u=>gt (blk u) (blk b))
 | [],_,_=>.nil | [b],_,_=>by simp |b::u::r,h,hp=>by
   have J:=zte (u::r) h.2 λx I=>hp x (bc _ I);refine ft.mpr ⟨λx I=>?_,J⟩;rcases ce.mp I with rfl |hx'
   ·exact h.1
   ·have:=(ft.mp J).1 x hx'
    exact z1f (hp x (by simp[hx'])) (hp u (by simp)) (hp b (by simp)) this (wv h.1)
theorem ztf(S:D)(ss:mu)(s:mn)(ts:mv)(l v5 v6 m:lp)(h:TurnsOk ss ts)(z:∀x∈(ss++[s]).flatten,jb x)(o:(ss++[s]).flatten.length<=14) :
  ∃I f i j Z,TurnsOk (ss++[s]) I/\zev [↑(.sh S),↑(.ow (ts.map tnD)),↑(.sh (.int ((ss.length+1:Nat):Int))),↑(.sh (.lst (s.map sD))),l,v5,v6,m] =
   ↑(.nx,[↑(.sh S),↑(.ow (I.map tnD)),↑(.sh (.int ((ss.length+1:Nat):Int))),↑(.sh (.lst (s.map sD))),f,i,j,Z]):=by
 have a:∀x∈s,jb x:=λx hx=>z x (by simp[hx]);have t:s.length<=14:=by simp at o;lia
 obtain⟨V,n,B⟩:=zkb s a t;have J:=n.flat;have c:∀r∈V.reverse,Good r:=λr h=>n.good r (List.mem_reverse.mp h);have d:∀r∈V.reverse,∀x∈r,jb x:=λr h x hx=>a x (by rw[<-J];exact gn.mpr ⟨r,h,hx⟩);have k:V.reverse.Pairwise (λu b=>gt (blk u) (blk b)):=by
  rw[List.pairwise_reverse];exact zte V n.desc λr h=>ur r (d r (List.mem_reverse.mpr h)) (n.good r h).ne
 have A:=h.more;obtain⟨e',h1,I,f,i,j,Z,v,C,rfl⟩:=wz (ix:=[4,5,6]) (g:=zds) (λr:mn=>[D.int (r.length:Int),.int (hrs r),.int (lss r)])
  (λp e=>∃I f i j Z,TurnsOk (ss++[p.flatten]) I/\ofS I ss.length=p/\e=[↑(.sh S),↑(.ow (I.map tnD)),↑(.sh (.int ((ss.length+1:Nat):Int))),↑(.sh (.lst (s.map sD))),f,i,j,Z]) V.reverse
  [↑(.sh S),↑(.ow (ts.map tnD)),↑(.sh (.int ((ss.length+1:Nat):Int))),↑(.sh (.lst (s.map sD))),l,v5,v6,m] ⟨ts,l,v5,v6,m,A.1,A.2,rfl⟩ (λ_ _=>rfl) (by
   rintro p r q e R ⟨I,f,i,j,Z,ok,of,rfl⟩;have U:r∈V.reverse:=by rw[R];simp
   have Y:∀x∈(ss++[p.flatten]).flatten,jb x:=λx hx=>by
    rw[fq,dg] at hx;rcases hx with hx |hx
    ·exact z x (by rw[fq];exact d8 _ hx)
    ·refine a x ?_
     rw[<-J,R,fq];exact d8 _ (by simpa using hx)
   have E:(ss++[p.flatten]).flatten.length<=14:=by
    have:p.flatten.length<=s.length:=by rw[<-J,R,fq,au];lia
    rw[fq,au] at o ⊢;simp only[df,t4,di] at o ⊢
    lia
   have w:∀u∈p,gt (blk u) (blk r):=λu F=>by
    rw[R] at k;exact(i9.mp k).2.2 u F r (by simp)
   obtain⟨G,H⟩:=ok.ins of (c r U) (d r U) Y w;have K:r.length<=14:=by
    have:r.length<=V.reverse.flatten.length:=(dw U).length_le;rw[J] at this;lia
   have body:=zv4 ↑(.sh S) ↑(.sh (.lst (s.map sD))) Z I (ss.length+1) r (smB r (d r U) ⋯) (ok.sm Y ⋯) (by have:=ok.len;lia);exact⟨_,body,_,_,_,_,_,by simpa using G,H,rfl⟩)
 refine⟨I,f,i,j,Z,by rw[<-J];exact v,?_⟩;have y:forU [4,5,6] zds (V.reverse.map bD) [↑(.sh S),↑(.ow (ts.map tnD)),↑(.sh (.int ((ss.length+1:Nat):Int))),↑(.sh (.lst (s.map sD))),l,v5,v6,m]=_:=h1;simp only[zev,qm,fiS,dy,ax,fVar,fNil,ae,ah,ac,aj,B,y]
def ssL(ss:mu):D:=.lst (ss.map λs=>D.lst (s.map sD))
theorem zh8(ss:mu)(c:∀x∈ss.flatten,jb x)(d:ss.flatten.length<=14):∃ts,TurnsOk ss ts/\yk [ssL ss]=↑(.lst (ts.map tnD)):=by
 obtain⟨e',h1,ts,v2,U,I,v5,v6,J,ok,rfl⟩:=wz (ix:=[2,3]) (g:=zev) (λp:mn×Nat=>[D.int (p.2:Int),D.lst (p.1.map sD)])
  (λp e=>∃ts v2 U I v5 v6 J,TurnsOk (p.map (·.1)) ts/\e=[↑(.sh (ssL ss)),↑(.ow (ts.map tnD)),v2,U,I,v5,v6,J]) (ss.zipIdx 1)
  [↑(.sh (ssL ss)),↑(.ow []),none,none,none,none,none,none] ⟨[],none,none,none,none,none,none,⟨by simp,by simp,by simp,.nil,by simp⟩,rfl⟩ (λ_ _=>rfl) (by
   rintro p x q e R ⟨ts,v2,U,I,v5,v6,J,ok,rfl⟩;have Y:ss=p.map (·.1)++x.1::q.map (·.1):=by
    have:=congrArg (List.map (·.1)) R;simpa using this
   have Z:x.2=(p.map (·.1)).length+1:=by
    have:(ss.zipIdx 1)[p.length]?=↑x:=by rw[R];simp
    rw[nt] at this;cases hs:ss[p.length]? with
    |none=>rw[hs] at this;cases this
    |some s =>
      rw[hs] at this;cases this;simp;lia
   have S:ss.flatten=(p.map (·.1)++[x.1]).flatten++(q.map (·.1)).flatten:=by rw[Y];simp
   obtain⟨a,h,i,j,k,b,V⟩:=ztf (ssL ss) (p.map (·.1)) x.1 ts I v5 v6 J ok (λy f=>c y (by rw[S];exact d8 _ f)) (by rw[S,au] at d;lia);rw[<-Z] at V;exact⟨_,V,a,_,_,_,_,_,_,by simpa using b,rfl⟩)
 refine⟨ts,by simpa using ok,?_⟩;refine jw (e':=[↑(.sh (ssL ss)),↑(.sh (.lst (ts.map tnD))),v2,U,I,v5,v6,J]) rfl ?_;show zio [↑(.sh (ssL ss)),none,none,none,none,none,none,none]=_;have V:iEn 1 [ssL ss]=↑((ss.zipIdx 1).map λp=>D.tup [D.int (p.2:Int),D.lst (p.1.map sD)]):=by
  show ↑(rh 1 (ss.map λs=>D.lst (s.map sD)))=_;rw[zn8]
 simp only[zio,sSeq,sOwn,gg,fNil,ac,aj,bj,fg,if_true,ao,aq,qm,ij,ax,fVar,ae,ah,V,h1,sRet]
def iy(n:Nat)(ts:mv):mu:=(List.range n).map λj=>(ofS ts j).flatten
def nk(n:Nat)(ts:mv):(iy n ts).length=n:=by simp[iy]
variable{j:Nat}
def sj(h:j<n):(iy n ts)[j]?=↑((ofS ts j).flatten):=by simp[iy,h]
protected theorem TurnsOk.left(h:TurnsOk ss ts):iy ss.length ts=ss:=by
 apply ek;intro j;by_cases D:j<ss.length
 ·rw[sj D,h.part j ss[j] (by simp[D])]
  simp[D]
 ·rw[cg (by rw[nk];lia),cg ⋯]
def zy(t:Tn)(ts:mv)(j:Nat)(h:t.1=j+1):ofS (t::ts) j=t.2::ofS ts j:=by
 unfold ofS;rw[l7 (by simp[h])];rfl
def zhi(t:Tn)(ts:mv)(j:Nat)(h:t.1≠j+1):ofS (t::ts) j=ofS ts j:=by
 unfold ofS;rw[l8 (by simp[h])]
variable{t:Tn}
theorem zml(h1:1<=t.1)(h2:t.1<=n):(iy n (t::ts))[t.1-1]?=↑(t.2++(ofS ts (t.1-1)).flatten):=by
 rw[sj ⋯,zy t ts (t.1-1) ⋯];simp
theorem zob(h1:1<=t.1)(h2:t.1<=n):iy n ts=(iy n (t::ts)).set (t.1-1) ((ofS ts (t.1-1)).flatten):=by
 apply ek;intro j;by_cases D:j<n
 ·rw[i7,sj D,sj D,nk]
  by_cases e:t.1-1=j
  ·subst e
   simp[D]
  ·rw[if_neg e,zhi t ts j ⋯]
 ·rw[cg (by rw[nk];lia),cg (by rw[dz,nk];lia)]
theorem zr6(h1:1<=t.1)(h2:t.1<=n):iy n (t::ts)=(iy n ts).set (t.1-1) (t.2++(ofS ts (t.1-1)).flatten):=by
 apply ek;intro j;by_cases D:j<n
 ·rw[i7,sj D,sj D,nk]
  by_cases e:t.1-1=j
  ·subst e
   rw[zy t ts (t.1-1) ⋯];simp[D]
  ·rw[if_neg e,zhi t ts j ⋯]
 ·rw[cg (by rw[nk];lia),cg (by rw[dz,nk];lia)]
def zl2{α:Type}:∀ {l:List (List α)} {j:Nat} {s x:List α},l[j]?=↑s->(l.set j (x++s)).flatten.Perm (x++l.flatten)
 |a::l,0,s,x,h=>by
   simp at h;subst h;simp
 |a::l,j+1,s,x,h=>by
   have D:=zl2 (l:=l) (j:=j) (s:=s) (x:=x) (by simpa using h);simp;refine(D.append_left a).trans ?_;rw[<-d7,<-d7];exact List.perm_append_comm.append_right _
theorem zlf{n:Nat}:∀ {ts:mv},(∀t∈ts,1<=t.1/\t.1<=n)->(ts.map (·.2)).flatten.Perm (iy n ts).flatten
 | [],_=>by
   have:(iy n []).flatten=[]:=by simp[iy,ofS]
   rw[this];exact .nil
 |t::ts,h=>by
   have D:=zlf (n:=n) (ts:=ts) λt' I=>h t' (bc _ I);obtain⟨h1,h2⟩:=h t b6;rw[zr6 h1 h2,bi,df];exact(D.append_left t.2).trans (zl2 (sj ⋯)).symm
def TurnsOk.tail(h:TurnsOk (iy n (t::ts)) (t::ts)):TurnsOk (iy n ts) ts:=by
 have lo:∀t'∈ts,1<=t'.1/\t'.1<=n:=λt' D=>by
  have:=h.lo t' (bc _ D);rw[nk] at this;exact this
 refine⟨λt' D=>by rw[nk];exact lo t' D,λt' D=>h.good t' (bc _ D),λj s I=>?_,(ft.mp h.srt).2,zlf lo⟩;have J:=(ak.mp I).1;rw[nk] at J;rw[sj J] at I;exact bz I
def zyg(a b:la):cutD (a++b) none ↑(a.length:Int)=a:=by
 unfold cutD;rw[HT.sIx_none,HT.sIx_nat];simp
def ztg(a b:la):cutD (a++b) ↑(a.length:Int) none=b:=by
 unfold cutD;rw[HT.sIx_none,HT.sIx_nat];simp
variable{ar:Nat}{ds:la}{e':DE0}
def zth{I:la}(h:ds.length=ar)(J:g (jy n ds)=↑(.rf I,e')):runF n ar g ds=↑I:=by
 unfold runF;rw[if_pos h,J]
theorem z4z(ss:mu)(J:ss.length<=1000):zk8 [ssL ss]=↑(ss.map λs=>D.lst (s.map sD)):=by
 have c:=qi (te:=fLst (ij pq (ax (fVar 0) (fNil)))) (base:=[]) (λs:mn=>D.lst (s.map sD)) (λs:mn=>D.lst (s.map sD)) ss λs _=>⟨_,by simp;rfl⟩;have I:Few ss.length:=few ⋯;refine zth (e':=[↑(.sh (ssL ss))]) rfl ?_;show zk7 [↑(.sh (.lst (ss.map λs:mn=>D.lst (s.map sD))))]=_;simp[zk7,ig,I,c];rfl
theorem zoo(ss:mu)(V:ss.length<=1000)(R:∀s∈ss,s.length<=1000):zdk [ssL ss,ssL ss]=↑(.bl true):=by
 obtain⟨e',h1,v2,rfl⟩:=ud (i:=2) (g:=zd2) (λk e=>∃v2,e=[↑(.sh (ssL ss)),↑(.sh (ssL ss)),v2]) (rngD 0 ss.length) [↑(.sh (ssL ss)),↑(.sh (ssL ss)),none] ⟨none,rfl⟩ (by
  rintro k d e hd ⟨v2,rfl⟩;obtain⟨rfl,J⟩:=ub hd;have S:atI (ss.map λs=>D.lst (s.map sD)) (k:Int)=↑(.lst (ss[k].map sD)):=kh (λs:mn=>D.lst (s.map sD)) (by simp[J]);have U:=zka (λs:Sk=>[s.1,s.2.1,s.2.2]) ss[k] (R _ (eg J)) (λ_ _=>by simp);have I:uh [.lst (ss[k].map sD),.lst (ss[k].map sD)]=↑(.bl true):=U;exact⟨[↑(.sh (ssL ss)),↑(.sh (ssL ss)),↑(.sh (.int (0+k)))],by simp[zd2,ssL,S,I],_,rfl⟩)
 have hi:=og ss.length ⋯;refine jw (e':=[↑(.sh (ssL ss)),↑(.sh (ssL ss)),v2]) rfl ?_;show zew [↑(.sh (ssL ss)),↑(.sh (ssL ss)),none]=_;unfold ssL at h1 ⊢;simp[zew,hi,h1]
theorem zkd(xs:i0)(R:xs.length<=1000):zcb [.lst (xs.map D.int),.lst (xs.map D.int)]=↑(.bl true):=by
 obtain⟨e',h1,v2,rfl⟩:=ud (i:=2) (g:=zdt) (λk e=>∃v2,e=[↑(.sh (.lst (xs.map D.int))),↑(.sh (.lst (xs.map D.int))),v2]) (rngD 0 xs.length) [↑(.sh (.lst (xs.map D.int))),↑(.sh (.lst (xs.map D.int))),none] ⟨none,rfl⟩ (by
  rintro k d e hd ⟨v2,rfl⟩;obtain⟨rfl,I⟩:=ub hd;have J:atI (xs.map D.int) (k:Int)=↑(.int xs[k]):=kh D.int (by simp[I]);exact⟨[↑(.sh (.lst (xs.map D.int))),↑(.sh (.lst (xs.map D.int))),↑(.sh (.int (0+k)))],by simp[zdt,J,yc],_,rfl⟩)
 have hi:=og xs.length ⋯;refine jw (e':=[↑(.sh (.lst (xs.map D.int))),↑(.sh (.lst (xs.map D.int))),v2]) rfl ?_;show zei [↑(.sh (.lst (xs.map D.int))),↑(.sh (.lst (xs.map D.int))),none]=_;simp[zei,hi,h1]
def hT:mu->Bk
 | []=>(0,1,-1) |r::_=>blk r
def kD(b:Bk):D:=.lst [.int b.1,.int b.2.1,.int b.2.2]
variable{r:mn}{q:ik}
theorem z8m{b q:mn}(h1:gt (blk r) (blk b))(h2:gt (blk r) (blk q)):gt (blk r) (blk (b++q)):=by
 have h1:lss b*hrs r<lss r*hrs b:=h1;have h2:lss q*hrs r<lss r*hrs q:=h2;show lss (b++q)*hrs r<lss r*hrs (b++q);rw[tq,pz,ja,jp]
 lia
theorem z2o{r:mn}(I:0<hrs r):∀(rest:mu) (q:mn),(∀b∈rest,gt (blk r) (blk b))->(∀b∈rest,Good b)->(∀b∈rest,∀x∈b,jb x)->q <+: rest.flatten->q≠[]->gt (blk r) (blk q)
 | [],q,_,_,_,hq,ne=>by simp at hq;exact absurd hq ne |b::rest,q,hd,hg,hs,hq,ne=>by
   have J:=hg b (by simp);have R:=hs b (by simp);rcases ztc hq with hq | ⟨q',rfl,hq'⟩
   ·have sq:∀x∈q,jb x:=λx U=>R x (hq.subset U)
    refine z1f I (ur b R J.ne) (ur q sq ne) (hd b (by simp)) ?_;have:=J.beg q hq;show ¬(lss b*hrs q<lss q*hrs b)
    lia
   ·by_cases S:q'=[]
    ·subst S
     rw[di];exact hd b (by simp)
    ·exact z8m (hd b (by simp)) (z2o I rest q' (λc D=>hd c (by simp[D])) (λc D=>hg c (by simp[D])) (λc D=>hs c (by simp[D])) hq' S)
variable{s:mn}
def zqk(D:k<s.length):hrs (s.take (k+1))=hrs (s.take k)+s[k].2.1/\lss (s.take (k+1))=lss (s.take k)+s[k].2.2:=by
 rw[List.take_succ_eq_append_getElem D,pz,tq];simp[hrs,lss]
theorem z40(D:∀x∈s,jb x)(J:s.length<=14)(k:Nat):0<=hrs (s.take k)/\hrs (s.take k)<=840/\0<=lss (s.take k)/\lss (s.take k)<=1400:=by
 have:=yz (s.take k) λx I=>D x (List.mem_of_mem_take I);have h2:(s.take k).length<=14:=by rw[du];lia
 lia
theorem z41(J:mu)(hd:J.Pairwise λu b=>gt (blk u) (blk b))(G:∀r∈J,Good r)(c:∀x∈J.flatten,jb x)(H:J.flatten.length<=14):zhd [.lst (J.flatten.map sD)]=↑(kD (hT J)):=by
 cases J with
 |nil=>simp[zhd,runD,ziq,jy,hT,kD,og 0 ⋯,rngD,forL,show iR1 [.int 0]=↑(rngD 0 0) from og 0 ⋯] |cons r rest =>
   have n:(r::rest).flatten=r++rest.flatten:=df ..;rw[n] at c H ⊢;have o:=G r (by simp);have K:∀x∈r,jb x:=λx p=>c x (by simp[p]);have O:=ur r K o.ne;have T:=yz r K;have t:=(ft.mp hd).1;generalize Y:r++rest.flatten=s at *;have v:r.length<=s.length:=by rw[<-Y];simp
   have tk:∀k,k<=r.length->s.take k <+: r:=λk f=>by
    rw[<-Y,gh f];exact List.take_prefix _ _
   obtain⟨e',h1,W,j,rfl,R,S⟩:=ud (i:=4) (g:=zex) (λk e=>∃(b:Bk) (j:lp),e=[↑(.sh (.lst (s.map sD))),↑(.sh (kD b)),↑(.sh (.int (hrs (s.take k)))),↑(.sh (.int (lss (s.take k)))),j] /\
     (k<r.length->b=(0,1,-1)\/∃q,q <+: r/\b=blk q)/\(r.length<=k->b=blk r)) (rngD 0 s.length)
    [↑(.sh (.lst (s.map sD))),↑(.sh (kD (0,1,-1))),↑(.sh (.int 0)),↑(.sh (.int 0)),none] ⟨(0,1,-1),none,by simp[hrs,lss],λ_=>.inl rfl,λh=>absurd (jo.mp (Nat.le_zero.mp h)) o.ne⟩ (by
     rintro k d e w ⟨b,j,rfl,R,S⟩;obtain⟨rfl,f⟩:=ub w;obtain⟨l,m⟩:=zqk f;have X:=z40 c H (k+1);have L:atI (s.map sD) (0+(k:Int))=↑(sD s[k]):=by rw[gm];exact kh sD (by simp[f])
     have D:l9 (hrs (s.take (k+1))):=tz ⋯;have I:l9 (lss (s.take (k+1))):=tz ⋯;have M:dIx (sD s[k]) (.int 1)=↑(.int s[k].2.1):=rfl;have N:dIx (sD s[k]) (.int 2)=↑(.int s[k].2.2):=rfl;have y:zex [↑(.sh (.lst (s.map sD))),↑(.sh (kD b)),↑(.sh (.int (hrs (s.take k)))),↑(.sh (.int (lss (s.take k)))),↑(.sh (.int (0+(k:Int))))] =
       ↑(.nx,[↑(.sh (.lst (s.map sD))),↑(.sh (kD (if b.2.2*hrs (s.take (k+1))<=lss (s.take (k+1))*b.2.1 then blk (s.take (k+1)) else b))),↑(.sh (.int (hrs (s.take (k+1))))),↑(.sh (.int (lss (s.take (k+1))))),↑(.sh (.int (0+(k:Int))))]):=by
      have a:((s.take (k+1)).length:Int)=0+(k:Int)+1:=by rw[du];lia
      by_cases Z:b.2.2*hrs (s.take (k+1))<=lss (s.take (k+1))*b.2.1
      ·rw[if_pos Z,show blk (s.take (k+1))=(0+(k:Int)+1,hrs (s.take (k+1)),lss (s.take (k+1))) by unfold blk;rw[a]]
       rw[l] at D;rw[m] at I;rw[l,m] at Z ⊢;simp only[zex,kD,sSeq,sSet,sIf,sNil,fBin,fVar,fIxV,ixSl,fC,fTst,fLst,gg,ax,fNil,ae,ah,ac,aj,ao,aq,L,M,N,gp,xo,xn,tj I,zui D,dGe,decide_eq_true Z,if_true,am,bj,show(0+1+1+1<=64)=True by simp]
      ·rw[if_neg Z]
       rw[l] at D;rw[m] at I;rw[l,m] at Z ⊢;simp only[zex,kD,sSeq,sSet,sIf,sNil,fBin,fVar,fIxV,ixSl,fC,fTst,fLst,gg,ax,fNil,ae,ah,ac,aj,ao,aq,L,M,N,gp,xo,xn,tj I,zui D,dGe,decide_eq_false Z,bf,if_false]
     refine⟨_,y,_,_,rfl,λU=>?_,λP=>?_⟩
     ·split
      ·exact .inr ⟨_,tk (k+1) ⋯,rfl⟩
      ·exact R ⋯
     ·by_cases A:r.length<=k
      ·have V:=S A
       subst V;rw[if_neg];have B:s.take (k+1)=r++rest.flatten.take (k+1-r.length):=by
        rw[<-Y,List.take_append,io ⋯]
       have C:(rest.flatten.take (k+1-r.length))≠[]:=by
        intro z;have:=congrArg List.length z;rw[du] at this;have Q:s.length=r.length+rest.flatten.length:=by rw[<-Y,au]
        simp only[bj] at this
        lia
       have U:=z2o O rest _ t (λb V=>G b (by simp[V])) (λb V x p=>c x (by rw[<-Y];exact cf _ (gn.mpr ⟨b,V,p⟩))) (List.take_prefix (k+1-r.length) rest.flatten) C;rw[B,pz,tq];have U:lss (rest.flatten.take (k+1-r.length))*hrs r<lss r*hrs (rest.flatten.take (k+1-r.length)):=U;show ¬(lss r*(hrs r+hrs _)<=(lss r+lss _)*hrs r);rw[jp,ja]
       lia
      ·have E:k+1=r.length:=by lia
       have B:s.take (k+1)=r:=by rw[E,<-Y];exact nr
       rw[B,if_pos];rcases R ⋯ with rfl | ⟨q,C,rfl⟩
       ·show -1*hrs r<=lss r*1
        lia
       ·exact o.beg q C)
   rw[wc,List.take_length] at h1;have V:=S (by rw[wc];exact v);subst V;have hi:iR1 [.int (s.length:Int)]=↑(rngD 0 s.length):=og s.length ⋯;refine jw (e':=[↑(.sh (.lst (s.map sD))),↑(.sh (kD (blk r))),↑(.sh (.int (hrs s))),↑(.sh (.int (lss s))),j]) rfl ?_;show ziq [↑(.sh (.lst (s.map sD))),none,none,none,none]=_;have F:kD (0,1,-1)=.lst [.int 0,.int 1,.int (-1)]:=rfl;rw[F] at h1;simp[ziq,hi,h1];rfl
def zti(h:r∈ofS ts j):(j+1,r)∈ts:=by
 obtain⟨t,D,rfl⟩:=gc.mp h;obtain⟨h1,h2⟩:=iw.mp D;have:t.1=j+1:=by simpa using h2
 rw[<-this];exact h1
theorem z8n(h:ts.Pairwise bef):(ofS ts j).Pairwise λu b=>gt (blk u) (blk b):=by
 unfold ofS;rw[List.pairwise_map,List.pairwise_filter];refine h.imp λ{a b} hab ha hb=>?_;rcases hab with z |z
 ·exact z
 ·have h1:a.1=j+1:=by simpa using ha
  have h2:b.1=j+1:=by simpa using hb
  lia
def qv(n:Nat)(ts:mv):List Bk:=(List.range n).map λj=>hT (ofS ts j)
def zoc(h:j<n):(qv n ts)[j]?=↑(hT (ofS ts j)):=by simp[qv,h]
theorem zni(ok:TurnsOk (iy n (t::ts)) (t::ts)):hT (ofS (t::ts) (t.1-1))=blk t.2:=by
 have h1:=(ok.lo t (by simp)).1;rw[zy t ts (t.1-1) ⋯];rfl
theorem z2p(ok:TurnsOk (iy n (t::ts)) (t::ts))(D:∀x∈(iy n (t::ts)).flatten,jb x)(j:Nat) :
  ¬gt (hT (ofS (t::ts) j)) (blk t.2)/\(j<t.1-1->gt (blk t.2) (hT (ofS (t::ts) j))):=by
 have pt:=ok.pos D t (by simp);have st:=yz t.2 (ok.sk D t (by simp));cases h:ofS (t::ts) j with
 |nil =>
   have g:gt (blk t.2) (0,1,-1):=by
    show -1*hrs t.2<lss t.2*1
    lia
   exact⟨wv g,λ_=>g⟩
 |cons r rest =>
   have hm:(j+1,r)∈t::ts:=zti (by rw[h];simp);rcases ce.mp hm with e |hm
   ·subst e
    exact⟨λz=>wv z z,λz=>by simp at z⟩
   ·have I:=(ft.mp ok.srt).1 _ hm
    rcases I with z | ⟨z,z'⟩
    ·exact⟨wv z,λ_=>z⟩
    ·exact⟨z,λw=>by simp at z';lia⟩
def zv5(n:Nat)(ts:mv):(iy n ts).map (λs=>D.lst (s.map sD))=(List.range n).map λj=>D.lst ((ofS ts j).flatten.map sD):=by
 unfold iy;rw[ip];rfl
def zv6(h:j<n):∀x∈(ofS ts j).flatten,x∈(iy n ts).flatten:=λx D =>
 gn.mpr ⟨_,az (sj (ts:=ts) h),D⟩
def zyh(h:j<n):(ofS ts j).flatten.length<=(iy n ts).flatten.length :=
 (dw (az (sj (ts:=ts) h))).length_le
theorem z8o(ok:TurnsOk (iy n ts) ts)(D:∀x∈(iy n ts).flatten,jb x)(I:(iy n ts).flatten.length<=14)(j:Nat):SmB (hT (ofS ts j)):=by
 cases h:ofS ts j with
 |nil=>exact⟨tz (by decide),tz (by decide)⟩ |cons r rest=>exact ok.sm D ⋯ (j+1,r) (zti (by rw[h];simp))
def zyi(H:List Bk)(R v1 v2:lp)(k p:Nat)(bk D:Bk)(Z:H[k]?=↑bk)(a:H[p]?=↑D)(sk:SmB bk)(sp:SmB D) :
  zdb [R,v1,v2,↑(.sh (.lst (H.map kD))),↑(.sh (.int (p:Int))),↑(.sh (.int (0+(k:Int))))] =
   ↑(.nx,[R,v1,v2,↑(.sh (.lst (H.map kD))),↑(.sh (.int ((if gt bk D then k else p:Nat):Int))),↑(.sh (.int (0+(k:Int))))]):=by
 rw[gm];have S:atI (H.map kD) (k:Int)=↑(kD bk):=kh kD Z;have U:atI (H.map kD) (p:Int)=↑(kD D):=kh kD a;have V:∀b:Bk,dIx (kD b) (.int 1)=↑(.int b.2.1):=λ_=>rfl;have Y:∀b:Bk,dIx (kD b) (.int 2)=↑(.int b.2.2):=λ_=>rfl;by_cases J:gt bk D
 ·have I:D.2.2*bk.2.1<bk.2.2*D.2.1:=J
  rw[if_pos J];simp only[zdb,sIf,sSet,sNil,fTst,fBin,fIxV,ixSl,fVar,fC,ae,ah,ac,aj,ao,aq,S,U,V,Y,tj sk.2,tj sp.2,dGt,decide_eq_true I,if_true]
 ·have I:¬D.2.2*bk.2.1<bk.2.2*D.2.1:=J
  rw[if_neg J];simp only[zdb,sIf,sSet,sNil,fTst,fBin,fIxV,ixSl,fVar,fC,ae,ah,ac,aj,ao,aq,S,U,V,Y,tj sk.2,tj sp.2,dGt,decide_eq_false I,bf,if_false]
theorem z42(ok:TurnsOk (iy n (t::ts)) (t::ts))(S:∀x∈(iy n (t::ts)).flatten,jb x)(b:(iy n (t::ts)).flatten.length<=14)(R v1 v2 v5:lp) :
  ∃I,forL 5 zdb (rngD 0 n) [R,v1,v2,↑(.sh (.lst ((qv n (t::ts)).map kD))),↑(.sh (.int 0)),v5] =
   ↑(.nx,[R,v1,v2,↑(.sh (.lst ((qv n (t::ts)).map kD))),↑(.sh (.int ((t.1-1:Nat):Int))),I]):=by
 have lo:=ok.lo t (by simp);rw[nk] at lo;have U:t.1-1<n:=by lia
 obtain⟨e',h1,p,I,rfl,_,J,D⟩:=ud (i:=5) (g:=zdb) (λk e=>∃(p:Nat) (v5:lp),e=[R,v1,v2,↑(.sh (.lst ((qv n (t::ts)).map kD))),↑(.sh (.int (p:Int))),v5]/\p<n/\(k<=t.1-1->p<=t.1-1/\(p<k\/p=0))/\(t.1-1<k->p=t.1-1))
  (rngD 0 n) [R,v1,v2,↑(.sh (.lst ((qv n (t::ts)).map kD))),↑(.sh (.int 0)),v5] ⟨0,v5,rfl,by lia,λ_=>⟨fg _,.inr rfl⟩,λh=>absurd h (Nat.not_lt_zero _)⟩ (by
    rintro k d e V ⟨p,v5,rfl,hpn,J,D⟩;obtain⟨rfl,c⟩:=ub V;have body:=zyi (qv n (t::ts)) R v1 v2 k p _ _ (zoc c) (zoc hpn) (z8o ok S b k) (z8o ok S b p);refine⟨_,body,_,_,rfl,?_,λf=>?_,λY=>?_⟩
    ·split <;> lia
    ·have:=J ⋯
     split
     ·exact⟨by lia,.inl ⋯⟩
     ·exact⟨this.1,by lia⟩
    ·rcases Nat.lt_or_eq_of_le (Nat.le_of_lt_succ Y) with hlt' |heq
     ·have Z:=D hlt'
      subst Z;rw[zni ok,if_neg (z2p ok S k).1]
     ·have:=J ⋯
      subst heq;rw[zni ok];by_cases a:p=t.1-1
      ·subst a
       rw[zni ok,if_neg (λz=>wv z z)]
      ·rw[if_pos ((z2p ok S p).2 ⋯)])
 rw[wc] at D;have Z:=D U;subst Z;exact⟨I,h1⟩
noncomputable def zuz:FT:=fTst (fBin dGt (dy bSum (ax (fLst (ig (fiV 1) [] fYes (gq 0))) (fNil))) (fC (.int 0)))
theorem zv7(ok:TurnsOk (iy n (t::ts)) (t::ts))(f:∀x∈(iy n (t::ts)).flatten,jb x)(g:(iy n (t::ts)).flatten.length<=14)(C:n<=1000)(V h i v5:lp)(M:la)(E:M.length<=1000) :
  ∃k l Y,zfw [V,↑(.ow ((iy n (t::ts)).map λs=>D.lst (s.map sD))),↑(.ow M),h,i,v5]=↑(.nx,[V,↑(.ow ((iy n ts).map λs=>D.lst (s.map sD))),↑(.ow (M++[tnD t])),k,l,Y]):=by
 have lo:=ok.lo t (by simp);rw[nk] at lo;have c:=qi (te:=dy zhd (ax (fVar 0) (fNil))) (base:=[]) (λj:Nat=>D.lst ((ofS (t::ts) j).flatten.map sD)) (λj:Nat=>kD (hT (ofS (t::ts) j))) (List.range n) (λj U=>by
  have U:j<n:=gi.mp U;have m:=z41 (ofS (t::ts) j) (z8n ok.srt) (λr o=>ok.good _ (zti o)) (λx p=>f x (zv6 U x p)) (cr (zyh U) g);refine⟨[↑(.sh (.lst ((ofS (t::ts) j).flatten.map sD)))],?_⟩;simp only[dy,ax,fVar,fNil,ae,ac,m,aj])
 have q:(List.range n).map (λj:Nat=>kD (hT (ofS (t::ts) j)))=(qv n (t::ts)).map kD:=by unfold qv;rw[ip];rfl
 rw[q,<-zv5] at c;obtain⟨Y,u⟩:=z42 ok f g V ↑(.ow ((iy n (t::ts)).map λs=>D.lst (s.map sD))) ↑(.ow M) v5;have Z:atI ((qv n (t::ts)).map kD) ((t.1-1:Nat):Int)=↑(kD (blk t.2)):=by
  rw[<-zni ok];exact kh kD (zoc ⋯)
 have R:=zml (ts:=ts) lo.1 lo.2;have S:=zob (ts:=ts) lo.1 lo.2;have a:atI ((iy n (t::ts)).map λs=>D.lst (s.map sD)) ((t.1-1:Nat):Int)=↑(.lst ((t.2++(ofS ts (t.1-1)).flatten).map sD)):=kh (λs:mn=>D.lst (s.map sD)) R;have I:=ztg (t.2.map sD) ((ofS ts (t.1-1)).flatten.map sD);rw[<-b8,af] at I;have b:ixN ((iy n (t::ts)).map λs=>D.lst (s.map sD)).length ((t.1-1:Nat):Int)=↑(t.1-1):=by
  rw[tu ⋯ (by rw[af,nk];lia)];congr 1
 have J:((iy n (t::ts)).map λs=>D.lst (s.map sD)).set (t.1-1) (.lst ((ofS ts (t.1-1)).flatten.map sD))=(iy n ts).map λs=>D.lst (s.map sD):=by
  rw[S,gw]
 have v:Few ((iy n (t::ts)).map λs=>D.lst (s.map sD)).length:=few (by rw[af,nk];lia);have d:Few (M.length+1):=few ⋯;have hi:iR1 [.int (((qv n (t::ts)).map kD).length:Int)]=↑(rngD 0 n):=by
  rw[af,show(qv n (t::ts)).length=n by simp[qv]];exact og n ⋯
 have w:((t.1-1:Nat):Int)+1=(t.1:Int):=by lia
 generalize ((qv n (t::ts)).map kD)=HL at *;generalize y:((t.1-1:Nat):Int)=pp at *;have z:dIx (kD (blk t.2)) (.int 0)=↑(.int (t.2.length:Int)):=rfl;have A:dIx (kD (blk t.2)) (.int 1)=↑(.int (hrs t.2)):=rfl;have B:dIx (kD (blk t.2)) (.int 2)=↑(.int (lss t.2)):=rfl;have e:D.tup [.int (t.1:Int),.int (t.2.length:Int),.int (hrs t.2),.int (lss t.2)]=tnD t:=rfl;refine⟨↑(.sh (.lst HL)),↑(.sh (.int pp)),Y,?_⟩;simp only[zfw,sSeq,sSet,sFor,je,vh,zxk,fLst,ig,fiV,ij,ax,fNil,gq,fC,o7,yr,fTup,fBin,gp,fIxV,ixSl,fVar,fSl,fO0,fO1,ae,ah,ac,aj,ao,aq,cq,v,d,if_true,c,hi,u,Z,z,A,B,w,e,a,I,b,J,am,bj,show(0+1+1+1+1<=64)=True by simp]
theorem zod{n:Nat}(q:n<=1000)(S:lp):∀(ts:mv) (I:Nat) (U V v5:lp) (M:la),ts.length<I->M.length+ts.length<=1000->TurnsOk (iy n ts) ts->(∀x∈(iy n ts).flatten,jb x)->(iy n ts).flatten.length<=14 ->
  ∃Z b d g,oh zuz zfw I [S,↑(.ow ((iy n ts).map λs=>D.lst (s.map sD))),↑(.ow M),U,V,v5]=↑(.nx,[S,Z,↑(.ow (M++ts.map tnD)),b,d,g])
 |_,0,_,_,_,_,h,_,_,_,_=>by lia |ts,f+1,U,V,v5,M,h,hM,ok,hg,hl=>by
   have c:=qi (te:=gq 0) (base:=[]) (λs:mn=>D.lst (s.map sD)) (λs:mn=>D.int (s.length:Int)) (iy n ts) λs _=>⟨_,by simp;rfl⟩;have r:=xz (λs:mn=>(s.length:Int)) (iy n ts);have v:Few ((iy n ts).map λs=>D.lst (s.map sD)).length:=few (by rw[af,nk];lia);have Y:((iy n ts).map λs:mn=>(s.length:Int)).sum=((ts.map (·.2)).flatten.length:Int):=by
    have e:∀l:mu,(l.map λs:mn=>(s.length:Int)).sum=(l.flatten.length:Int):=λl=>by
     induction l with
     |nil=>rfl |cons a l i=>rw[bi,gy,i,df,au];lia
    rw[e,ok.perm.length_eq]
   rw[Y] at r;have w:zuz [S,↑(.ow ((iy n ts).map λs=>D.lst (s.map sD))),↑(.ow M),U,V,v5]=↑(decide (0<((ts.map (·.2)).flatten.length:Int)),[S,↑(.ow ((iy n ts).map λs=>D.lst (s.map sD))),↑(.ow M),U,V,v5]):=by
    unfold zuz;generalize ((iy n ts).map λs=>D.lst (s.map sD))=L at *;simp[ig,fiV,v,c,r]
   unfold oh;rw[w,ac];dsimp only;cases ts with
   |nil =>
     rw[if_neg (by simp)];exact⟨↑(.ow ((iy n []).map λs=>D.lst (s.map sD))),U,V,v5,by rw[cq,di]⟩
   |cons t ts =>
     have u:0<t.2.length:=fo.mpr (ok.good t (by simp)).ne;rw[if_pos (by simp[decide_eq_true_eq];lia)];obtain⟨b,d,g,R⟩:=zv7 ok hg hl q S U V v5 M (by simp at hM;lia);rw[R,ac];dsimp only;have j:=ok.tail;have lo:=ok.lo t (by simp);rw[nk] at lo;have J:(t.2++(iy n ts).flatten).Perm (iy n (t::ts)).flatten:=by
      rw[zr6 lo.1 lo.2];exact(zl2 (sj ⋯)).symm
     have k:=J.length_eq;rw[au] at k;obtain⟨Z,m,o,p,i⟩:=zod q S ts f b d g (M++[tnD t]) (by simp at h;lia) (by simp at hM ⊢;lia) j (λx y=>hg x (J.mem_iff.mp (cf _ y))) ⋯;exact⟨Z,m,o,p,by rw[i];simp⟩
theorem znj(ok:TurnsOk ss ts)(J:∀x∈ss.flatten,jb x)(R:ss.flatten.length<=14)(b:ss.length<=900):zem [ssL ss]=↑(.lst (ts.map tnD)):=by
 have S:=ok.len;have I:=ok.left;have c:=qi (te:=fLst (ij pq (ax (fVar 0) (fNil)))) (base:=[]) (λs:mn=>D.lst (s.map sD)) (λs:mn=>D.lst (s.map sD)) ss λs _=>⟨_,by simp;rfl⟩;have U:Few (ss.map λs=>D.lst (s.map sD)).length:=few (by rw[af];lia);obtain⟨V,Y,Z,a,h⟩:=zod (n:=ss.length) ⋯ ↑(.sh (ssL ss)) ts 10000 none none none [] ⋯ (by simp;lia) (by rw[I];exact ok) (by rw[I];exact J) (by rw[I];exact R);rw[I,mr] at h;refine jw (e':=[↑(.sh (ssL ss)),V,↑(.sh (.lst (ts.map tnD))),Y,Z,a]) rfl ?_;show zjy [↑(.sh (.lst (ss.map λs=>D.lst (s.map sD)))),none,none,none,none,none]=_;unfold zuz ssL at h;unfold ssL;generalize (ss.map λs=>D.lst (s.map sD))=L at *;simp[zjy,ig,U,c,h]
def jv(ts:mv):ik:=(ts.map λt=>List.replicate t.2.length t.1).flatten
def iD(I:ik):la:=I.map λn:Nat=>D.int (n:Int)
def vq(a b:mv):jv (a++b)=jv a++jv b:=by simp[jv]
def zp(t:Tn):jv [t]=List.replicate t.2.length t.1:=by simp[jv]
def zr7(ts:mv):(jv ts).length=(ts.map (·.2)).flatten.length:=by
 induction ts with
 |nil=>rfl |cons t ts ih =>
   rw[show t::ts=[t]++ts from rfl,vq,zp,au,ff,ih];simp
def ztj(d:D)(k:Nat):(List.replicate k [d]).flatten=List.replicate k d:=by simp_all
def z2q(a b:ik):iD (a++b)=iD a++iD b:=by simp[iD]
def z2r(k a:Nat):iD (List.replicate k a)=List.replicate k (.int (a:Int)):=by simp[iD]
def z2s(a:ik):(iD a).length=a.length:=by simp[iD]
theorem bndN(k:Nat)(h:k<=1000000):Bnd (-(2 ^ 62)) (2 ^ 62) (k:Int):=⟨by lia,by lia⟩
theorem ztk(ok:TurnsOk ss ts)(S:∀x∈ss.flatten,jb x)(R:ss.flatten.length<=14)(U:ss.length<=900):zla [ssL ss]=↑(iD (jv ts)):=by
 have V:=znj ok S R U;have I:(jv ts).length<=14:=by rw[zr7,ok.perm.length_eq];exact R
 obtain⟨e',h1,v2,rfl⟩:=sd (i:=2) (g:=zir) tnD (λp e=>∃v2,e=[↑(.sh (ssL ss)),↑(.ow (iD (jv p))),v2]) ts
  [↑(.sh (ssL ss)),↑(.ow []),none] ⟨none,rfl⟩ (by
   rintro p t q e J ⟨v2,rfl⟩;have Y:(jv p).length+t.2.length<=14:=by
    rw[J,vq,show t::q=[t]++q from rfl,vq,zp] at I;simp at I
    lia
   have Z:Few (1*t.2.length):=few ⋯;have f2:Few ((iD (jv p)).length+(List.replicate t.2.length (D.int (t.1:Int))).length):=few (by rw[z2s,ff];lia);have a:=bndN t.2.length ⋯;have b:iD (jv p)++List.replicate t.2.length (D.int (t.1:Int))=iD (jv (p++[t])):=by rw[vq,zp,z2q,z2r]
   refine⟨[↑(.sh (ssL ss)),↑(.ow (iD (jv (p++[t])))),↑(.sh (tnD t))],?_,_,rfl⟩;rw[<-b];unfold tnD;simp only[zir,sOwn,fCat,fVar,fLst,fRep,gg,ax,fIxV,ixSl,fC,fNil,ae,ah,ac,aj,ao,aq,z97,z98,am,bj,show(0+1<=64)=True by simp,if_true,f6,ko,Z,a,and_self,ztj,f2])
 refine zth (e':=[↑(.sh (ssL ss)),↑(.ow (iD (jv ts))),v2]) rfl ?_;show zk9 [↑(.sh (ssL ss)),none,none]=_;simp[zk9,V,h1]
theorem zi8(ok:TurnsOk ss ts)(S:yk [ssL ss]=↑(.lst (ts.map tnD)))(Y:ss.flatten.length<=14):xh [ssL ss]=↑(iD (jv ts)):=by
 have I:(jv ts).length<=14:=by rw[zr7,ok.perm.length_eq];exact Y
 obtain⟨e',h1,v2,J,R,v5,rfl⟩:=wz (ix:=[2,3,4,5]) (g:=zfv) (λt:Tn=>[D.int (t.1:Int),.int (t.2.length:Int),.int (hrs t.2),.int (lss t.2)]) (λp e=>∃v2 J R v5,e=[↑(.sh (ssL ss)),↑(.ow (iD (jv p))),v2,J,R,v5]) ts
  [↑(.sh (ssL ss)),↑(.ow []),none,none,none,none] ⟨none,none,none,none,rfl⟩ (λ_ _=>rfl) (by
   rintro p t q e U ⟨v2,J,R,v5,rfl⟩;have Z:(jv p).length+t.2.length<=14:=by
    rw[U,vq,show t::q=[t]++q from rfl,vq,zp] at I;simp at I
    lia
   have a:Few (1*t.2.length):=few ⋯;have f2:Few ((iD (jv p)).length+(List.replicate t.2.length (D.int (t.1:Int))).length):=few (by rw[z2s,ff];lia);have b:=bndN t.2.length ⋯;have c:iD (jv p)++List.replicate t.2.length (D.int (t.1:Int))=iD (jv (p++[t])):=by rw[vq,zp,z2q,z2r]
   refine⟨[↑(.sh (ssL ss)),↑(.ow (iD (jv (p++[t])))),↑(.sh (.int (t.1:Int))),↑(.sh (.int (t.2.length:Int))),↑(.sh (.int (hrs t.2))),↑(.sh (.int (lss t.2)))],?_,_,_,_,_,rfl⟩;rw[<-c];simp only[qt,zfv,je,zp6,z4a,fRep,gg,ax,fVar,fNil,ae,ah,ac,aj,ao,aq,am,bj,show(0+1<=64)=True by simp,if_true,f6,ko,a,b,and_self,ztj,f2])
 refine zth (e':=[↑(.sh (ssL ss)),↑(.ow (iD (jv ts))),v2,J,R,v5]) rfl ?_;show zjx [↑(.sh (ssL ss)),none,none,none,none,none]=_;have V:forU [2,3,4,5] zfv (ts.map tnD) [↑(.sh (ssL ss)),↑(.ow []),none,none,none,none]=_:=h1;simp[zjx,S,V]
def z43(I:ik):iD I=(I.map λn:Nat=>(n:Int)).map D.int:=by unfold iD;rw[ip];rfl
def ztl(D:ik)(I:D.length<=1000):zcb [.lst (iD D),.lst (iD D)]=↑(.bl true):=by
 rw[z43];exact zkd _ (by rw[af];exact I)
structure Whole (ss:mu) (os:ik):Prop where
 lo:∀a∈os,1<=a/\a<=ss.length
 cnt:∀(j:Nat) (s:mn),ss[j]?=↑s->os.count (j+1)=s.length
theorem zyj(m:Nat):∀n:Nat,((List.range n).map λj=>if j=m then 1 else 0).sum=if m<n then 1 else 0
 |0=>by simp |n+1=>by
   rw[mq,b8,vb,zyj m n];simp only[bi,cq,gy,List.sum_nil];by_cases h1:m<n
   ·rw[if_pos h1,if_neg ⋯,if_pos ⋯];rfl
   ·rw[if_neg h1]
    by_cases h2:n=m
    ·rw[if_pos h2,if_pos ⋯];rfl
    ·rw[if_neg h2,if_neg ⋯];rfl
theorem zyk{α:Type}(f g:α->Nat):∀l:List α,(l.map λx=>f x+g x).sum=(l.map f).sum+(l.map g).sum
 | []=>rfl |x::l=>by
   simp[gy,zyk f g l]
   lia
theorem zyl(n:Nat):∀(p:ik),(∀a∈p,1<=a/\a<=n)->((List.range n).map λj=>p.count (j+1)).sum=p.length
 | [],_=>by
   have:∀l:ik,(l.map λj=>([]:ik).count (j+1)).sum=0:=λl=>by
    induction l with
    |nil=>rfl |cons a l D=>rw[bi,gy,D];rfl
   rw[this];rfl
 |a::p,h=>by
   have D:=zyl n p λb J=>h b (bc _ J);have R:=h a b6;have e:(λj=>(a::p).count (j+1))=λj=>p.count (j+1)+if j=a-1 then 1 else 0:=by
    funext j;rw[List.count_cons];by_cases I:j=a-1
    ·rw[if_pos I,if_pos (by simp;lia)]
    ·rw[if_neg I,if_neg (by simp;lia)]
   rw[e,zyk,D,zyj,if_pos ⋯,am]
def z1h(ss:mu):((List.range ss.length).map λj=>(ss.getD j []).length).sum=ss.flatten.length:=by
 have:(List.range ss.length).map (λj=>(ss.getD j []).length)=ss.map List.length:=by
  apply ek;intro i;by_cases h:i<ss.length
  ·simp[h]
  ·simp[h]
 rw[this,jf]
variable{os:ik}
def Whole.len(h:Whole ss os):os.length=ss.flatten.length:=by
 rw[<-zyl ss.length os h.lo,<-z1h];congr 1;apply kj;intro j D;have D:j<ss.length:=gi.mp D;rw[h.cnt j ss[j] (by simp[D])];simp[D]
def z44{P:List α->Prop}(D:P [])(I:∀p a,P p->P (p++[a]))(p:List α):P p:=by
 have:∀l:List α,P l.reverse:=λl=>by
  induction l with
  |nil=>exact D |cons a l ih=>rw[List.reverse_cons];exact I _ _ ih
 rw[<-List.reverse_reverse p];exact this _
def oa(ss:mu)(a c:Nat):Sk:=(ss.getD (a-1) []).getD c (0,0,0)
def tk(ss:mu)(os:ik):mn:=(List.range os.length).map λi=>oa ss (os.getD i 0) ((os.take i).count (os.getD i 0))
theorem zoe(ss:mu)(p:ik)(a:Nat):tk ss (p++[a])=tk ss p++[oa ss a (p.count a)]:=by
 unfold tk;rw[au,i5,mq,b8];congr 1
 ·apply kj
  intro i hi;have hi:i<p.length:=gi.mp hi;have D:(p++[a]).getD i 0=p.getD i 0:=by
   rw[bx,bx,ay hi]
  rw[D,gh ⋯]
 ·have D:(p++[a]).getD p.length 0=a:=by simp
  simp only[bi,cq];rw[D,nr]
def yy(ss:mu)(os:ik):(tk ss os).length=os.length:=by simp[tk]
theorem Whole.at{ss:mu}{p q:ik}{a:Nat}(h:Whole ss (p++a::q)):∃s,ss[a-1]?=↑s/\p.count a<s.length/\s[p.count a]?=↑(oa ss a (p.count a))/\1<=a/\a<=ss.length:=by
 obtain⟨h1,h2⟩:=h.lo a (by simp);have D:a-1<ss.length:=by lia
 have J:=h.cnt (a-1) ss[a-1] (by simp[D]);rw[show a-1+1=a by lia,List.count_append,List.count_cons_self] at J;have I:p.count a<ss[a-1].length:=by lia
 refine⟨ss[a-1],by simp[D],I,?_,h1,h2⟩;unfold oa;simp[D,I]
def Whole.mem(h:Whole ss os):∀(p:ik),∀(q:ik),os=p++q->∀x∈tk ss p,x∈ss.flatten:=by
 apply z44
 ·intro q _ x hx
  simp[tk] at hx
 ·intro p a J q I x hx
  rw[zoe] at hx;rcases dg.mp hx with hx |hx
  ·exact J (a::q) (by rw[I];simp) x hx
  ·rw[I,d7,j2] at h
   obtain⟨s,R,S,D,_⟩:=h.at;have e:x=oa ss a (p.count a):=by simpa using hx
   subst e;exact gn.mpr ⟨s,az R,az D⟩
def Whole.sk(h:Whole ss os):∀x∈tk ss os,x∈ss.flatten:=h.mem os [] (by simp)
theorem z1i(ts:mv)(j:Nat):(jv ts).count (j+1)=(ofS ts j).flatten.length:=by
 induction ts with
 |nil=>simp[jv,ofS] |cons t ts ih =>
   rw[show t::ts=[t]++ts from rfl,vq,zp,List.count_append,ih];by_cases e:t.1=j+1
   ·rw[j2,zy t ts j e,df,au,e,List.count_replicate_self]
   ·rw[j2,zhi t ts j e,List.count_replicate,if_neg (by simpa using e)]
    lia
def TurnsOk.whole(ok:TurnsOk ss ts):Whole ss (jv ts):=by
 refine⟨λa I=>?_,λj s J=>?_⟩
 ·obtain⟨l,R,D⟩:=gn.mp I
  obtain⟨t,S,rfl⟩:=gc.mp R;rw[List.eq_of_mem_replicate D];exact ok.lo t S
 ·rw[z1i,ok.part j s J]
def cntD(n:Nat)(f:Nat->Int):la:=(List.range n).map λj=>D.int (f j)
def znk(n:Nat)(f:Nat->Int):(cntD n f).length=n:=by simp[cntD]
def ztm(n:Nat)(f:Nat->Int)(j:Nat)(h:j<n):atI (cntD n f) (j:Int)=↑(.int (f j)):=kh (λj:Nat=>D.int (f j)) (by simp[h])
def zql(n:Nat)(f g:Nat->Int)(j:Nat)(h:∀i,i<n->i≠j->g i=f i):(cntD n f).set j (.int (g j))=cntD n g:=by
 apply ek;intro i;unfold cntD;rw[i7];by_cases hi:i<n
 ·by_cases e:j=i
  ·subst e;simp[hi]
  ·rw[if_neg e]
   simp[hi,h i hi (Ne.symm e)]
 ·by_cases e:j=i
  ·subst e;simp[hi]
  ·rw[if_neg e];simp[hi]
def zu0(n:Nat)(f:Nat->Int)(j:Nat)(h:j<n):(cntD n f)[j]?=↑(.int (f j)):=by simp[cntD,h]
def ztn(h:ds.length=ar)(D:g (jy n ds)=↑(.nx,e')):runD n ar g ds=some .non:=by
 unfold runD;rw[if_pos h,D]
theorem zop(J:1<=a)(R:a<=ss.length):zit [ssL ss,.int (a:Int)]=some .non:=by
 have I:decide ((a:Int)<1)=false:=by simp;lia
 have n2:decide (((ss.map λs=>D.lst (s.map sD)).length:Int)<(a:Int))=false:=by rw[af];simp;lia
 refine ztn (e':=[↑(.sh (ssL ss)),↑(.sh (.int (a:Int)))]) rfl ?_;show zis [↑(.sh (ssL ss)),↑(.sh (.int (a:Int)))]=_;unfold ssL;generalize (ss.map λs=>D.lst (s.map sD))=L at *;simp only[zis,sIf,sNil,fOr,fTst,fBin,fVar,fC,gq,dLt,dGt,ae,ah,ac,aj,ao,aq,I,n2,bf,if_false]
def lenF(ss:mu)(p:ik)(j:Nat):Int:=((ss.getD j []).length:Int)-(p.count (j+1):Int)
def z1j(ss:mu):(ss.map λs=>D.int (s.length:Int))=cntD ss.length (lenF ss []):=by
 apply ek;intro i;unfold cntD lenF;by_cases h:i<ss.length
 ·simp[h]
 ·simp[h]
def zym(ss:mu):n9 fYes (gq 0) [] (ss.map λs=>D.lst (s.map sD))=↑(cntD ss.length (lenF ss [])):=by
 rw[<-z1j];exact qi (te:=gq 0) (base:=[]) (λs:mn=>D.lst (s.map sD)) (λs:mn=>D.int (s.length:Int)) ss λs _=>⟨_,by simp;rfl⟩
def zu(p:ik)(a b:Nat):(p++[a]).count b=p.count b+if a=b then 1 else 0:=by
 by_cases h:a=b
 ·simp[h]
 ·simp[h]
theorem zyn(ss:mu)(p:ik)(a:Nat)(h1:1<=a):lenF ss (p++[a]) (a-1)=lenF ss p (a-1)-1/\∀i,i≠a-1->lenF ss (p++[a]) i=lenF ss p i:=by
 unfold lenF;refine⟨?_,λi hi=>?_⟩
 ·rw[zu,if_pos ⋯];lia
 ·rw[zu,if_neg ⋯];lia
def zv8(h:Whole ss os)(j:Nat)(D:j<ss.length):lenF ss os j=0:=by
 unfold lenF;rw[h.cnt j ss[j] (by simp[D])];simp[D]
variable{p:ik}
theorem z1k(h:Whole ss (p++a::q)):0<lenF ss p (a-1):=by
 obtain⟨s,D,I,_,h1,h2⟩:=h.at;unfold lenF;rw[show a-1+1=a by lia,bx,D];simp
 lia
def zyo(n:Nat)(f:Nat->Int):ints? (cntD n f)=↑((List.range n).map f):=by
 have:cntD n f=((List.range n).map f).map D.int:=by unfold cntD;rw[ip];rfl
 rw[this,zxf]
theorem zu1(f:Nat->Int):∀n:Nat,(∀j,j<n->f j=0)->((List.range n).map f).sum=0
 |0,_=>rfl |n+1,h=>by
   rw[mq,b8,vb,zu1 f n λj D=>h j ⋯];simp[h n ⋯]
theorem zoq(h:Whole ss os)(t:ss.length<=1000):ziv [ssL ss,.lst (iD os)]=some .non:=by
 obtain⟨e',h1,U,rfl⟩:=sd (i:=3) (g:=zey) (λa:Nat=>D.int (a:Int)) (λp e=>∃U,e=[↑(.sh (ssL ss)),↑(.sh (.lst (iD os))),↑(.ow (cntD ss.length (lenF ss p))),U]) os
  [↑(.sh (ssL ss)),↑(.sh (.lst (iD os))),↑(.ow (cntD ss.length (lenF ss []))),none] ⟨none,rfl⟩ (by
   rintro p a q e V ⟨U,rfl⟩;have c:Whole ss (p++a::q):=by rw[<-V];exact h
   obtain⟨s,u,d,_,f,v⟩:=c.at;have w:=z1k c;obtain⟨k,l⟩:=zyn ss p a f;have Y:(a:Int)-1=((a-1:Nat):Int):=by lia
   have Z:=ztm ss.length (lenF ss p) (a-1) ⋯;have R:=zu0 ss.length (lenF ss p) (a-1) ⋯;have I:=zql ss.length (lenF ss p) (lenF ss (p++[a])) (a-1) (λi _ hi=>l i hi);rw[k] at I;have m:decide (lenF ss p (a-1)=0)=false:=by simp;lia
   have b:a-1<(cntD ss.length (lenF ss p)).length:=by rw[znk];lia
   have n:(0:Int)<=((a-1:Nat):Int):=by lia
   refine⟨[↑(.sh (ssL ss)),↑(.sh (.lst (iD os))),↑(.ow (cntD ss.length (lenF ss (p++[a])))),↑(.sh (.int (a:Int)))],?_,_,rfl⟩;rw[<-I];generalize cntD ss.length (lenF ss p)=L at *;simp only[zey,sSeq,sIf,sNil,wp,z0o,fTst,fBin,fIxV,ixSl,fVar,fC,dSub,dEq,ae,ah,ac,aj,ao,aq,Y,Z,m,bf,if_false,n,if_true,f6,R,b])
 have Y:((List.range ss.length).map (lenF ss os)).sum=0:=zu1 _ _ λj o=>zv8 h j o;have J:=zyo ss.length (lenF ss os);have d:=zym ss;have r:Few (ss.map λs=>D.lst (s.map sD)).length:=few (by rw[af];lia);refine ztn (e':=[↑(.sh (ssL ss)),↑(.sh (.lst (iD os))),↑(.ow (cntD ss.length (lenF ss os))),U]) rfl ?_;show ziu [↑(.sh (ssL ss)),↑(.sh (.lst (iD os))),none,none]=_;have S:forL 3 zey (iD os) [↑(.sh (ssL ss)),↑(.sh (.lst (iD os))),↑(.ow (cntD ss.length (lenF ss []))),none]=_:=h1;unfold ssL at S ⊢;generalize iD os=O at *;generalize (ss.map λs=>D.lst (s.map sD))=L at *;simp[ziu,ig,z0t,r,d,S,J,Y,Int.lt_irrefl]
def zor(h:Whole ss os)(R:ss.length<=1000):zix [ssL ss,.lst (iD os)]=some .non:=by
 obtain⟨e',h1,v2,rfl⟩:=sd (i:=2) (g:=zez) (λa:Nat=>D.int (a:Int)) (λp e=>∃v2,e=[↑(.sh (ssL ss)),↑(.sh (.lst (iD os))),v2]) os
  [↑(.sh (ssL ss)),↑(.sh (.lst (iD os))),none] ⟨none,rfl⟩ (by
   rintro p a q e I ⟨v2,rfl⟩;obtain⟨S,U⟩:=h.lo a (by rw[I];simp);have V:=zop (ss:=ss) S U;simp[zez,V])
 have h2:=zoq h R;refine ztn (e':=[↑(.sh (ssL ss)),↑(.sh (.lst (iD os))),v2]) rfl ?_;show ziw [↑(.sh (ssL ss)),↑(.sh (.lst (iD os))),none]=_;have J:forL 2 zez (iD os) [↑(.sh (ssL ss)),↑(.sh (.lst (iD os))),none]=_:=h1;generalize iD os=O at *;simp[ziw,J,h2]
def cntF(p:ik)(j:Nat):Int:=(p.count (j+1):Int)
theorem zyp(p:ik)(a:Nat)(h1:1<=a):cntF (p++[a]) (a-1)=cntF p (a-1)+1/\∀i,i≠a-1->cntF (p++[a]) i=cntF p i:=by
 unfold cntF;refine⟨?_,λi hi=>?_⟩
 ·rw[zu,if_pos ⋯];lia
 ·rw[zu,if_neg ⋯];lia
def zmm(ss:mu):n9 fYes (fC (.int 0)) [] (ss.map λs=>D.lst (s.map sD))=↑(cntD ss.length (cntF [])):=by
 rw[qi (te:=fC (.int 0)) (base:=[]) (λs:mn=>D.lst (s.map sD)) (λs:mn=>D.int 0) ss λs _=>⟨_,by simp;rfl⟩];congr 1;apply ek;intro i;unfold cntD cntF;by_cases h:i<ss.length
 ·simp[h]
 ·simp[h]
theorem z2t(R:Whole ss (p++a::q)) :
  (a:Int)-1=((a-1:Nat):Int)/\atI (cntD ss.length (cntF p)) ((a-1:Nat):Int)=↑(.int (p.count a:Int))/\(cntD ss.length (cntF p))[a-1]?=↑(.int (p.count a:Int)) /\
    (cntD ss.length (cntF p)).set (a-1) (.int ((p.count a:Int)+1))=cntD ss.length (cntF (p++[a]))/\a-1<(cntD ss.length (cntF p)).length/\ixN (cntD ss.length (cntF p)).length ((a-1:Nat):Int)=↑(a-1) /\
    ∃s:mn,atI (ss.map λs=>D.lst (s.map sD)) ((a-1:Nat):Int)=↑(.lst (s.map sD))/\atI (s.map sD) (p.count a:Int)=↑(sD (oa ss a (p.count a))):=by
 obtain⟨s,S,b,U,V,c⟩:=R.at;obtain⟨Y,Z⟩:=zyp p a V;have J:cntF p (a-1)=(p.count a:Int):=by unfold cntF;rw[show a-1+1=a by lia]
 have I:=zql ss.length (cntF p) (cntF (p++[a])) (a-1) (λi _ hi=>Z i hi);rw[Y,J] at I;refine⟨by lia,?_,?_,I,by rw[znk];lia,?_,s,kh (λs:mn=>D.lst (s.map sD)) S,kh sD U⟩
 ·rw[ztm _ _ _ ⋯,J]
 ·rw[zu0 _ _ _ ⋯,J]
 ·rw[tu ⋯ (by rw[znk];lia)]
  congr 1
theorem zky(h:Whole ss os)(k:ss.length<=1000)(j:os.length<=1000):zgr [ssL ss,.lst (iD os)]=↑(.lst ((tk ss os).map sD)):=by
 obtain⟨e',h1,Y,rfl⟩:=sd (i:=4) (g:=ze0) (λa:Nat=>D.int (a:Int)) (λp e=>∃Y,e=[↑(.sh (ssL ss)),↑(.sh (.lst (iD os))),↑(.ow (cntD ss.length (cntF p))),↑(.ow ((tk ss p).map sD)),Y]) os
  [↑(.sh (ssL ss)),↑(.sh (.lst (iD os))),↑(.ow (cntD ss.length (cntF []))),↑(.ow []),none] ⟨none,rfl⟩ (by
   rintro p a q e I ⟨Y,rfl⟩;have l:Whole ss (p++a::q):=by rw[<-I];exact h
   obtain⟨m,Z,J,R,b,n,s,c,d⟩:=z2t l;have f:Few (((tk ss p).map sD).length+1):=few (by rw[af,yy];rw[I] at j;simp at j;lia);have o:(0:Int)<=((a-1:Nat):Int):=by lia
   have r:dIx (.lst (s.map sD)) (.int (p.count a:Int))=↑(sD (oa ss a (p.count a))):=d;refine⟨[↑(.sh (ssL ss)),↑(.sh (.lst (iD os))),↑(.ow (cntD ss.length (cntF (p++[a])))),↑(.ow ((tk ss (p++[a])).map sD)),↑(.sh (.int (a:Int)))],?_,_,rfl⟩;rw[<-R,zoe,b8,bi,cq];unfold ssL;generalize (tk ss p).map sD=M at *;generalize s.map sD=S at *;simp only[ze0,sSeq,je,wp,z0o,o7,yr,fBin,fIxV,ixSl,fVar,fC,dSub,gp,ae,ah,ac,aj,ao,aq,m,Z,c,r,f,o,if_true,f6,J,b])
 have U:=zor h k;have t:=zmm ss;have f:Few (ss.map λs=>D.lst (s.map sD)).length:=few (by rw[af];lia);refine jw (e':=[↑(.sh (ssL ss)),↑(.sh (.lst (iD os))),↑(.ow (cntD ss.length (cntF os))),↑(.sh (.lst ((tk ss os).map sD))),Y]) rfl ?_;show ziy [↑(.sh (ssL ss)),↑(.sh (.lst (iD os))),none,none,none]=_;have V:forL 4 ze0 (iD os) [↑(.sh (ssL ss)),↑(.sh (.lst (iD os))),↑(.ow (cntD ss.length (cntF []))),↑(.ow []),none]=_:=h1;unfold ssL at V U ⊢;generalize (ss.map λs=>D.lst (s.map sD))=L at *;simp[ziy,ig,U,f,t,V]
theorem zr8(h:Whole ss os)(n:ss.length<=1000)(c:os.length<=1000):zj3 [ssL ss,.lst (iD os)]=↑(.lst ((tk ss os).map sD)):=by
 obtain⟨e',h1,S,rfl⟩:=sd (i:=4) (g:=zfx) (λa:Nat=>D.int (a:Int)) (λp e=>∃S,e=[↑(.sh (ssL ss)),↑(.sh (.lst (iD os))),↑(.ow (cntD ss.length (cntF p))),↑(.ow ((tk ss p).map sD)),S]) os
  [↑(.sh (ssL ss)),↑(.sh (.lst (iD os))),↑(.ow (cntD ss.length (cntF []))),↑(.ow []),none] ⟨none,rfl⟩ (by
   rintro p a q e I ⟨S,rfl⟩;have f:Whole ss (p++a::q):=by rw[<-I];exact h
   obtain⟨j,U,d,J,k,V,s,Y,Z⟩:=z2t f;have b:Few (((tk ss p).map sD).length+1):=few (by rw[af,yy];rw[I] at c;simp at c;lia);have l:dIx (.lst (s.map sD)) (.int (p.count a:Int))=↑(sD (oa ss a (p.count a))):=Z;refine⟨[↑(.sh (ssL ss)),↑(.sh (.lst (iD os))),↑(.ow (cntD ss.length (cntF (p++[a])))),↑(.ow ((tk ss (p++[a])).map sD)),↑(.sh (.int (a:Int)))],?_,_,rfl⟩;rw[<-J,zoe,b8,bi,cq];unfold ssL;generalize (ss.map λs=>D.lst (s.map sD))=L at *;generalize (tk ss p).map sD=M at *;simp only[zfx,sSeq,je,vh,zxk,o7,yr,fBin,fIxV,ixSl,fVar,fC,dSub,gp,ae,ah,ac,aj,ao,aq,j,U,Y,l,b,if_true,V])
 have m:=zmm ss;have b:Few (ss.map λs=>D.lst (s.map sD)).length:=few (by rw[af];lia);refine jw (e':=[↑(.sh (ssL ss)),↑(.sh (.lst (iD os))),↑(.ow (cntD ss.length (cntF os))),↑(.sh (.lst ((tk ss os).map sD))),S]) rfl ?_;show zj2 [↑(.sh (ssL ss)),↑(.sh (.lst (iD os))),none,none,none]=_;have R:forL 4 zfx (iD os) [↑(.sh (ssL ss)),↑(.sh (.lst (iD os))),↑(.ow (cntD ss.length (cntF []))),↑(.ow []),none]=_:=h1;unfold ssL at R ⊢;generalize (ss.map λs=>D.lst (s.map sD))=L at *;simp[zj2,ig,b,m,R]
def ly(h:Int):List (Nat×Sk)->List i0
 | []=>[] |x::r=>[x.2.1,(x.1:Int),h,h+x.2.2.1]::ly (h+x.2.2.1) r
def zu2(x:Sk)(r:mn):hrs (x::r)=x.2.1+hrs r:=rfl
def zmn(x:Nat×Sk):∀(p:List (Nat×Sk)) (h:Int),ly h (p++[x])=ly h p++[[x.2.1,(x.1:Int),h+hrs (p.map (·.2)),h+hrs (p.map (·.2))+x.2.2.1]]
 | [],h=>by simp[ly,hrs] |y::p,h=>by
   rw[j9,ly,ly,zmn x p,bi,zu2];rw[<-Int.add_assoc];rfl
def n8(h:Int):mn->Int
 | []=>0 |x::r=>x.2.2*(h+x.2.1)+n8 (h+x.2.1) r
theorem zmo(x:Sk):∀(p:mn) (h:Int),n8 h (p++[x])=n8 h p+x.2.2*(h+hrs p+x.2.1)
 | [],h=>by simp[n8,hrs] |y::p,h=>by
   rw[j9,n8,n8,zmo x p,zu2,<-Int.add_assoc h]
   lia
def znl(x:Sk):vy [sD x]=↑(.int x.2.1):=rfl
def zqm(x:Sk):xg [sD x]=↑(.int x.2.2):=rfl
def zyq(x:Sk):zgq [sD x]=↑(.int x.1):=rfl
def zl3:∀(p:List (Nat×Sk)) (h:Int),(ly h p).length=p.length
 | [],_=>rfl |x::p,h=>by rw[ly,am,am,zl3 p]
theorem zqn(h:Whole ss os)(S:ss.length<=1000)(b:os.length<=900):zhr [ssL ss,.lst (iD os)]=↑(.lst ((ly 0 (os.zip (tk ss os))).map iT)):=by
 have U:=zky h S ⋯;obtain⟨e',h1,I,J,v5,v6,rfl,rfl⟩:=wz (ix:=[4,5]) (g:=zh3) (λx:Nat×Sk=>[D.int (x.1:Int),sD x.2])
  (λp e=>∃I J v5 v6,e=[↑(.sh (ssL ss)),↑(.sh (.lst (iD os))),↑(.ow ((ly 0 p).map iT)),I,J,v5,v6]/\I=↑(.sh (.int (hrs (p.map (·.2)))))) (os.zip (tk ss os))
  [↑(.sh (ssL ss)),↑(.sh (.lst (iD os))),↑(.ow []),↑(.sh (.int 0)),none,none,none] ⟨_,none,none,none,rfl,rfl⟩ (λ_ _=>rfl) (by
   rintro p x q e R ⟨I,J,v5,v6,rfl,rfl⟩;have V:Few (((ly 0 p).map iT).length+1):=few (by
    rw[af,zl3];have:=congrArg List.length R;simp[mw] at this
    lia)
   have Y:iT [x.2.1,(x.1:Int),0+hrs (p.map (·.2)),0+hrs (p.map (·.2))+x.2.2.1]=.tup [.int x.2.1,.int (x.1:Int),.int (hrs (p.map (·.2))),.int (hrs (p.map (·.2))+x.2.2.1)]:=by simp[iT]
   have Z:hrs ((p++[x]).map (·.2))=hrs (p.map (·.2))+x.2.2.1:=by rw[b8,pz];simp[hrs]
   rw[zmn,b8,bi,cq,Y,Z];generalize (ly 0 p).map iT=M at *;simp[qt,zh3,znl,zyq,V])
 refine jw (e':=[↑(.sh (ssL ss)),↑(.sh (.lst (iD os))),↑(.sh (.lst ((ly 0 (os.zip (tk ss os))).map iT))),↑(.sh (.int (hrs ((os.zip (tk ss os)).map (·.2))))),J,v5,v6]) rfl ?_;show zjz [↑(.sh (ssL ss)),↑(.sh (.lst (iD os))),none,none,none,none,none]=_;have a:iZp [.lst (iD os),.lst ((tk ss os).map sD)]=↑((os.zip (tk ss os)).map λx=>D.tup [D.int (x.1:Int),sD x.2]):=by
  show ↑(zipD (iD os) ((tk ss os).map sD))=_;unfold iD;rw[zuy]
 simp only[zjz,sSeq,sOwn,sSet,qm,sRet,gg,fNil,fC,ij,dy,ax,fVar,ae,ah,ac,aj,ao,aq,bj,fg,if_true,U,a,h1]
theorem zqo(h:Whole ss os)(J:∀x∈ss.flatten,jb x)(R:ss.length<=1000)(Y:os.length<=900):zj1 [ssL ss,.lst (iD os)]=↑(.int (n8 0 (tk ss os))):=by
 have S:=zky h R ⋯;obtain⟨e',h1,D,rfl⟩:=sd (i:=4) (g:=zh4) sD (λp e=>∃D,e=[↑(.sh (ssL ss)),↑(.sh (.lst (iD os))),↑(.sh (.int (n8 0 p))),↑(.sh (.int (hrs p))),D]) (tk ss os)
  [↑(.sh (ssL ss)),↑(.sh (.lst (iD os))),↑(.sh (.int 0)),↑(.sh (.int 0)),none] ⟨none,rfl⟩ (by
   rintro p x q e I ⟨D,rfl⟩;obtain⟨_,_,_,_,Z,a⟩:=J x (h.sk x (by rw[I];simp));have sm:l9 x.2.2:=tz ⋯;have U:hrs (p++[x])=hrs p+x.2.1:=by rw[pz];simp[hrs]
   have V:n8 0 (p++[x])=n8 0 p+x.2.2*(hrs p+x.2.1):=by rw[zmo,gm]
   rw[U,V];simp[zh4,znl,zqm,tj sm])
 refine jw (e':=[↑(.sh (ssL ss)),↑(.sh (.lst (iD os))),↑(.sh (.int (n8 0 (tk ss os)))),↑(.sh (.int (hrs (tk ss os)))),D]) rfl ?_;show zj0 [↑(.sh (ssL ss)),↑(.sh (.lst (iD os))),none,none,none]=_;simp[zj0,S,h1]
theorem zto(T:mn)(J:∀x∈T,jb x):zlc [.lst (T.map sD)]=↑(.int (n8 0 T)):=by
 obtain⟨e',h1,D,rfl⟩:=sd (i:=3) (g:=ziz) sD (λp e=>∃D,e=[↑(.sh (.lst (T.map sD))),↑(.sh (.int (hrs p))),↑(.sh (.int (n8 0 p))),D]) T
  [↑(.sh (.lst (T.map sD))),↑(.sh (.int 0)),↑(.sh (.int 0)),none] ⟨none,rfl⟩ (by
   rintro p x q e I ⟨D,rfl⟩;obtain⟨_,_,_,_,U,V⟩:=J x (by rw[I];simp);have sm:l9 x.2.2:=tz ⋯;have R:hrs (p++[x])=hrs p+x.2.1:=by rw[pz];simp[hrs]
   have S:n8 0 (p++[x])=n8 0 p+x.2.2*(hrs p+x.2.1):=by rw[zmo,gm]
   rw[R,S];generalize T.map sD=TT at *;unfold sD;simp[ziz,xo,xn,tj sm])
 refine jw (e':=[↑(.sh (.lst (T.map sD))),↑(.sh (.int (hrs T))),↑(.sh (.int (n8 0 T))),D]) rfl ?_;show zlb [↑(.sh (.lst (T.map sD))),none,none,none]=_;simp[zlb,h1]
theorem zqp(ok:TurnsOk ss ts)(I:yk [ssL ss]=↑(.lst (ts.map tnD)))(S:∀x∈ss.flatten,jb x)(U:ss.length<=1000)(V:ss.flatten.length<=14):zhu [ssL ss]=↑(.int (n8 0 (tk ss (jv ts)))):=by
 have D:=zi8 ok I V;have R:=ok.whole;have J:=zqo R S U (by rw[R.len];lia);refine jw (e':=[↑(.sh (ssL ss))]) rfl ?_;show zj4 [↑(.sh (ssL ss))]=_;simp[zj4,D,J]
def zqq(p q:mv)(j:Nat):ofS (p++q) j=ofS p j++ofS q j:=by unfold ofS;rw[jm,b8]
def begF(p:mv)(j:Nat):Int:=((ofS p j).flatten.length:Int)
theorem zyr(p:mv)(t:Tn)(h1:1<=t.1):begF (p++[t]) (t.1-1)=begF p (t.1-1)+(t.2.length:Int)/\∀i,i≠t.1-1->begF (p++[t]) i=begF p i:=by
 unfold begF;refine⟨?_,λi hi=>?_⟩
 ·rw[zqq,zy t [] (t.1-1) ⋯]
  simp[ofS]
 ·rw[zqq,zhi t [] i ⋯]
  simp[ofS]
def slD(r:mn):D:=.lst (r.map sD)
theorem zqr(ok:TurnsOk ss ts)(v:ss.length<=1000)(w:ss.flatten.length<=14):zj6 [ssL ss,.lst (ts.map tnD)]=↑(.lst (ts.map λt=>slD t.2)):=by
 have j:=ok.len;obtain⟨e',h1,V,v5,v6,Y,Z,rfl⟩:=wz (ix:=[4,5,6,7]) (g:=zfy) (λt:Tn=>[D.int (t.1:Int),.int (t.2.length:Int),.int (hrs t.2),.int (lss t.2)])
  (λp e=>∃V v5 v6 Y Z,e=[↑(.sh (ssL ss)),↑(.sh (.lst (ts.map tnD))),↑(.ow (cntD ss.length (begF p))),↑(.ow (p.map λt=>slD t.2)),V,v5,v6,Y,Z]) ts
  [↑(.sh (ssL ss)),↑(.sh (.lst (ts.map tnD))),↑(.ow (cntD ss.length (begF []))),↑(.ow []),none,none,none,none,none] ⟨none,none,none,none,none,rfl⟩ (λ_ _=>rfl) (by
   rintro p t q e R ⟨V,v5,v6,Y,Z,rfl⟩;obtain⟨k,x⟩:=ok.lo t (by rw[R];simp);obtain⟨l,m⟩:=zyr p t k;have n:(t.1:Int)-1=((t.1-1:Nat):Int):=by lia
   have a:=ztm ss.length (begF p) (t.1-1) ⋯;have b:ixN (cntD ss.length (begF p)).length ((t.1-1:Nat):Int)=↑(t.1-1):=by
    rw[tu ⋯ (by rw[znk];lia)];congr 1
   have J:=zql ss.length (begF p) (begF (p++[t])) (t.1-1) (λi _ hi=>m i hi);rw[l] at J;have S:t.1-1<ss.length:=by lia
   have h:=ok.part (t.1-1) ss[t.1-1] (by simp[S]);rw[R,zqq,zy t q (t.1-1) ⋯,fq,df] at h;have c:atI (ss.map λs=>D.lst (s.map sD)) ((t.1-1:Nat):Int)=↑(.lst (ss[t.1-1].map sD)):=kh (λs:mn=>D.lst (s.map sD)) (by simp[S]);have I:=z4v ((ofS p (t.1-1)).flatten.map sD) (t.2.map sD) ((ofS q (t.1-1)).flatten.map sD);rw[<-b8,<-b8,h,af,af] at I;have o:begF p (t.1-1)=((ofS p (t.1-1)).flatten.length:Int):=rfl;rw[<-o] at I;have r:p.length<=ts.length:=by rw[R];simp
   have d:Few ((p.map λt=>slD t.2).length+1):=few (by rw[af];lia);rw[<-J,b8,bi,cq];unfold ssL;generalize (p.map λt=>slD t.2)=M at *;have f:D.lst (t.2.map sD)=slD t.2:=rfl;simp[qt,zfy,n,a,b,c,I,f,d])
 have u:n9 fYes (fC (.int 0)) [] (ss.map λs=>D.lst (s.map sD))=↑(cntD ss.length (begF [])):=by
  rw[zmm];congr 1
 have d:Few (ss.map λs=>D.lst (s.map sD)).length:=few (by rw[af];lia);refine jw (e':=[↑(.sh (ssL ss)),↑(.sh (.lst (ts.map tnD))),↑(.ow (cntD ss.length (begF ts))),↑(.sh (.lst (ts.map λt=>slD t.2))),V,v5,v6,Y,Z]) rfl ?_;show zj5 [↑(.sh (ssL ss)),↑(.sh (.lst (ts.map tnD))),none,none,none,none,none,none,none]=_;have U:forU [4,5,6,7] zfy (ts.map tnD) [↑(.sh (ssL ss)),↑(.sh (.lst (ts.map tnD))),↑(.ow (cntD ss.length (begF []))),↑(.ow []),none,none,none,none,none]=_:=h1;unfold ssL at U ⊢;generalize (ss.map λs=>D.lst (s.map sD))=L at *;simp[zj5,ig,d,u,U]
def sx(r p:mn):i0:=(List.range p.length).map λi=>lss r*hrs (p.take (i+1))-lss (p.take (i+1))*hrs r
theorem zpi(r p:mn)(x:Sk):sx r (p++[x])=sx r p++[lss r*hrs (p++[x])-lss (p++[x])*hrs r]:=by
 unfold sx;rw[au,i5,mq,b8];congr 1
 ·apply kj
  intro i hi;have hi:i<p.length:=gi.mp hi;rw[gh ⋯]
 ·simp
  rw[io (by simp)]
def zof(r p:mn):(sx r p).length=p.length:=by simp[sx]
def debts(r:mn):i0:=sx r r.dropLast
theorem z1l(a:la):cutD a none ↑(-1)=a.dropLast:=by
 unfold cutD;rw[HT.sIx_none];have:HT.sIx a.length a.length ↑(-1)=a.length-1:=by
  unfold HT.sIx;dsimp only;rw[if_pos ⋯]
  lia
 rw[this,j3];simp
def zys(a:la):cutD a none ↑((a.length:Int)-1)=a.dropLast:=by
 unfold cutD;rw[HT.sIx_none,j3];cases a with
 |nil=>simp |cons x a =>
   rw[show(((x::a).length:Nat):Int)-1=((a.length:Nat):Int) by simp,HT.sIx_nat];simp
theorem zos(r:mn)(V:∀x∈r,jb x)(f:r.length<=14):zi1 [.tup [.int (hrs r),.int (lss r)],slD r]=↑(.lst ((debts r).map D.int)):=by
 have Y:=smB r V ⋯;obtain⟨e',h1,v5,rfl⟩:=sd (i:=5) (g:=zhe) sD (λp e=>∃v5,e=[↑(.sh (.tup [.int (hrs r),.int (lss r)])),↑(.sh (slD r)),↑(.ow ((sx r p).map D.int)),↑(.sh (.int (hrs p))),↑(.sh (.int (lss p))),v5]) r.dropLast
  [↑(.sh (.tup [.int (hrs r),.int (lss r)])),↑(.sh (slD r)),↑(.ow []),↑(.sh (.int 0)),↑(.sh (.int 0)),none] ⟨none,rfl⟩ (by
   rintro p x q e R ⟨v5,rfl⟩;have Z:hrs (p++[x])=hrs p+x.2.1:=by rw[pz];simp[hrs]
   have a:lss (p++[x])=lss p+x.2.2:=by rw[tq];simp[lss]
   have b:p.length+1<=r.length:=by
    have:=congrArg List.length R;simp at this
    lia
   have S:∀y∈p++[x],jb y:=λy c=>V y (List.dropLast_subset r (by rw[R];rw[show p++x::q=(p++[x])++q by simp];exact d8 _ c));have U:=smB (p++[x]) S (by simp;lia);have I:=zya (hrs r) (lss r) (hrs (p++[x])) (lss (p++[x])) Y.2 U.2;have d:Few (((sx r p).map D.int).length+1):=few (by rw[af,zof];lia);rw[zpi,b8,bi,cq];rw[Z,a] at I ⊢;generalize (sx r p).map D.int=M at *;simp[zhe,znl,zqm,I,d])
 refine jw (e':=[↑(.sh (.tup [.int (hrs r),.int (lss r)])),↑(.sh (slD r)),↑(.sh (.lst ((debts r).map D.int))),↑(.sh (.int (hrs r.dropLast))),↑(.sh (.int (lss r.dropLast))),v5]) rfl ?_;show zi0 [↑(.sh (.tup [.int (hrs r),.int (lss r)])),↑(.sh (slD r)),none,none,none,none]=_;have J:=z1l (r.map sD);rw[<-List.map_dropLast] at J;unfold slD at h1 ⊢;unfold debts;simp only[zi0,sSeq,sSet,sOwn,sFor,sRet,gg,fNil,fC,fiS,fLst,fSl,fO0,fO1,fUn,dNeg,fVar,ae,ah,ac,aj,ao,aq,bj,fg,if_true,J,h1]
theorem zr9(r:mn)(S:∀x∈r,jb x)(b:r.length<=14):zj8 [slD r,.int (hrs r),.int (lss r)]=↑(.lst ((debts r).map D.int)):=by
 have R:=smB r S ⋯;have U:l9 (hrs r):=R.1;have s2:l9 (lss r):=R.2;obtain⟨e',h1,v6,rfl⟩:=sd (i:=6) (g:=zh5) sD (λp e=>∃v6,e=[↑(.sh (slD r)),↑(.sh (.int (hrs r))),↑(.sh (.int (lss r))),↑(.ow ((sx r p).map D.int)),↑(.sh (.int (hrs p))),↑(.sh (.int (lss p))),v6]) r.dropLast
  [↑(.sh (slD r)),↑(.sh (.int (hrs r))),↑(.sh (.int (lss r))),↑(.ow []),↑(.sh (.int 0)),↑(.sh (.int 0)),none] ⟨none,rfl⟩ (by
   rintro p x q e J ⟨v6,rfl⟩;have V:hrs (p++[x])=hrs p+x.2.1:=by rw[pz];simp[hrs]
   have Y:lss (p++[x])=lss p+x.2.2:=by rw[tq];simp[lss]
   have Z:p.length+1<=r.length:=by
    have:=congrArg List.length J;simp at this
    lia
   have a:Few (((sx r p).map D.int).length+1):=few (by rw[af,zof];lia);rw[zpi,b8,bi,cq,V,Y,ju (lss p+x.2.2) (hrs r)];generalize (sx r p).map D.int=M at *;unfold sD;simp[zh5,xo,xn,tj U,tj s2,a])
 refine jw (e':=[↑(.sh (slD r)),↑(.sh (.int (hrs r))),↑(.sh (.int (lss r))),↑(.sh (.lst ((debts r).map D.int))),↑(.sh (.int (hrs r.dropLast))),↑(.sh (.int (lss r.dropLast))),v6]) rfl ?_;show zj7 [↑(.sh (slD r)),↑(.sh (.int (hrs r))),↑(.sh (.int (lss r))),none,none,none,none]=_;have I:=zys (r.map sD);rw[<-List.map_dropLast] at I;unfold slD at h1 ⊢;unfold debts;simp only[zj7,sSeq,sSet,sOwn,sFor,sRet,gg,fNil,fC,fiS,fLst,fSl,fO0,fO1,fBin,dSub,gq,fVar,ae,ah,ac,aj,ao,aq,bj,fg,if_true,I,h1]
def pd(ts:mv)(k:Nat):Int:=match ts[k]?,ts[k+1]? with
 |some t,↑n=>lss t.2*hrs n.2-lss n.2*hrs t.2 |_,_=>0
theorem zsa(ts:mv)(k:Nat)(J:k<ts.length)(S:∀t∈ts,SmB (blk t.2)):zld [.lst (ts.map tnD),.int (k:Int)]=↑(.int (pd ts k)):=by
 by_cases Y:k+1=ts.length
 ·have R:pd ts k=0:=by
   unfold pd;rw[cg (i:=k+1) ⋯];cases ts[k]? <;> rfl
  rw[R];have hd:decide ((k:Int)+1=((ts.map tnD).length:Int))=true:=by simp;lia
  refine jw (e':=[↑(.sh (.lst (ts.map tnD))),↑(.sh (.int (k:Int)))]) rfl ?_;show zhf [↑(.sh (.lst (ts.map tnD))),↑(.sh (.int (k:Int)))]=_;generalize ts.map tnD=T at *;simp[zhf,hd]
 ·have D:k+1<ts.length:=by lia
  have R:pd ts k=lss ts[k].2*hrs ts[k+1].2-lss ts[k+1].2*hrs ts[k].2:=by
   unfold pd;rw[av J,av D]
  rw[R];have hd:decide ((k:Int)+1=((ts.map tnD).length:Int))=false:=by simp;lia
  have U:atI (ts.map tnD) (k:Int)=↑(tnD ts[k]):=kh tnD (by simp[J]);have V:atI (ts.map tnD) ((k:Int)+1)=↑(tnD ts[k+1]):=by
   exact kh tnD (by simp[D])
  have I:=zya (hrs ts[k].2) (lss ts[k].2) (hrs ts[k+1].2) (lss ts[k+1].2) (S _ (eg J)).2 (S _ (eg D)).2;refine jw (e':=[↑(.sh (.lst (ts.map tnD))),↑(.sh (.int (k:Int)))]) rfl ?_;show zhf [↑(.sh (.lst (ts.map tnD))),↑(.sh (.int (k:Int)))]=_;generalize ts.map tnD=T at *;simp[zhf,hd,U,V,zn9,I]
def rowW(ts:mv)(x:Tn×Nat):D:=.tup [.int (x.1.1:Int),.int (x.1.2.length:Int),.int (hrs x.1.2),.int (lss x.1.2),.lst ((debts x.1.2).map D.int),.int (pd ts x.2)]
theorem zsb(ok:TurnsOk ss ts)(Y:yk [ssL ss]=↑(.lst (ts.map tnD)))(f:∀x∈ss.flatten,jb x)(j:ss.length<=1000)(h:ss.flatten.length<=14) :
  zi3 [ssL ss]=↑(.lst ((ts.zipIdx).map (rowW ts))):=by
 have Z:=zqr ok j h;have l:=ok.len;have a:=ok.sm f ⋯;obtain⟨e',h1,U,V,v5,rfl⟩:=wz (ix:=[3,4]) (g:=zi2) (λx:Tn×Nat=>[D.int (x.2:Int),slD x.1.2])
  (λp e=>∃U V v5,e=[↑(.sh (ssL ss)),↑(.sh (.lst (ts.map tnD))),↑(.ow (p.map (rowW ts))),U,V,v5]) ts.zipIdx
  [↑(.sh (ssL ss)),↑(.sh (.lst (ts.map tnD))),↑(.ow []),none,none,none] ⟨none,none,none,rfl⟩ (λ_ _=>rfl) (by
   rintro p x q e J ⟨U,V,v5,rfl⟩;have R:ts.zipIdx[p.length]?=↑x:=by rw[J];simp
   have I:ts[x.2]?=↑x.1:=by
    rw[nt] at R;cases hs:ts[p.length]? with
    |none=>rw[hs] at R;cases R
    |some t=>rw[hs] at R;cases R;simpa using hs
   obtain⟨t,k⟩:=x;have m:=(ak.mp I).1;have i:t∈ts:=az I;have b:atI (ts.map tnD) (k:Int)=↑(tnD t):=kh tnD I;have c:=zos t.2 (ok.sk f t i) (cr (ok.len1 t i) h);have d:=zsa ts k m a;have n:Few ((p.map (rowW ts)).length+1):=few (by
    rw[af];have:=congrArg List.length J;simp at this
    lia)
   have S:zxy (tnD t) (.tup [.lst ((debts t.2).map D.int),.int (pd ts k)])=↑(rowW ts (t,k)):=by
    rfl
   rw[b8,bi,cq];generalize p.map (rowW ts)=M at *;simp[qt,zi2,b,zn9,c,d,S,n])
 refine jw (e':=[↑(.sh (ssL ss)),↑(.sh (.lst (ts.map tnD))),↑(.sh (.lst ((ts.zipIdx).map (rowW ts)))),U,V,v5]) rfl ?_;show zle [↑(.sh (ssL ss)),none,none,none,none,none]=_;have o:iEn 0 [.lst (ts.map λt=>slD t.2)]=↑(ts.zipIdx.map λx=>D.tup [D.int (x.2:Int),slD x.1.2]):=by
  show ↑(rh 0 (ts.map λt=>slD t.2))=_;rw[zn8]
 simp only[zle,sSeq,sSet,sOwn,qm,sRet,gg,fNil,ij,dy,ax,fVar,ae,ah,ac,aj,ao,aq,bj,fg,if_true,Y,Z,o,h1]
def z1m(ts:mv)(t:Tn)(k:Nat):¬(HT.sIx 6 0 none=0/\HT.sIx 6 6 ↑4=6)/\cutD [.int (t.1:Int),.int (t.2.length:Int),.int (hrs t.2),.int (lss t.2),.lst ((debts t.2).map D.int),.int (pd ts k)] none ↑4=[.int (t.1:Int),.int (t.2.length:Int),.int (hrs t.2),.int (lss t.2)]:=by
 refine⟨by decide,rfl⟩
theorem ztp(ok:TurnsOk ss ts)(E:∀x∈ss.flatten,jb x)(hn:ss.length<=900)(hl:ss.flatten.length<=14) :
  zhh [.lst ((ts.zipIdx).map (rowW ts)),ssL ss]=↑(.bl true):=by
 have F:=znj ok E hl hn;have G:=z4z ss ⋯;have ap:=ok.len;have r:=ok.sm E ⋯;have j:=ok.left;obtain⟨e',h1,A,v5,v6,B,C,v9,V,Y,rfl⟩:=ud (i:=4) (g:=zfl) (λk e=>∃A v5 v6 B C v9 V Y,e=[↑(.sh (.lst ((ts.zipIdx).map (rowW ts)))),↑(.sh (ssL ss)),↑(.sh (.lst (ts.map tnD))),↑(.ow ((iy ss.length (ts.drop k)).map λs=>D.lst (s.map sD))),A,v5,v6,B,C,v9,V,Y])
  (rngD 0 ts.length) [↑(.sh (.lst ((ts.zipIdx).map (rowW ts)))),↑(.sh (ssL ss)),↑(.sh (.lst (ts.map tnD))),↑(.ow (ss.map λs=>D.lst (s.map sD))),none,none,none,none,none,none,none,none] ⟨none,none,none,none,none,none,none,none,by rw[List.drop_zero,j]⟩ (by
    rintro k d e H ⟨A,v5,v6,B,C,v9,V,Y,rfl⟩;obtain⟨rfl,u⟩:=ub H;rw[gm];have v:ts[k]∈ts:=eg u;have w:=fm u;rw[w];obtain⟨l1,l2⟩:=ok.lo _ v;have l:atI (ts.map tnD) (k:Int)=↑(tnD ts[k]):=kh tnD (by simp[u]);have J:atI ((ts.zipIdx).map (rowW ts)) (k:Int)=↑(rowW ts (ts[k],k)):=kh (rowW ts) (by simp[u]);have Z:=zml (ts:=ts.drop (k+1)) l1 l2;have h:=zob (ts:=ts.drop (k+1)) l1 l2;have K:=zr9 ts[k].2 (ok.sk E _ v) (cr (ok.len1 _ v) hl);have L:=zkd (debts ts[k].2) (by unfold debts;rw[zof,List.length_dropLast];have:=ok.len1 _ v;lia);have M:=yc (pd ts k);have N:we [.tup [.int (ts[k].1:Int),.int (ts[k].2.length:Int),.int (hrs ts[k].2),.int (lss ts[k].2)],.tup [.int (ts[k].1:Int),.int (ts[k].2.length:Int),.int (hrs ts[k].2),.int (lss ts[k].2)]]=↑(.bl true):=zn6 [(ts[k].1:Int),(ts[k].2.length:Int),hrs ts[k].2,lss ts[k].2] (by simp);obtain⟨O,P⟩:=z1m ts ts[k] k;have I:∃(Q:FS),Q=sIf (fTst (fBin dLt (fBin gp (fVar 4) (fC (.int 1))) (gq 2))) (sSet 9 (fBin dSub (fBin dMul (fVar 8) (fBin dIx (fIxV 2 (fBin gp (fVar 4) (fC (.int 1)))) (fC (.int 2)))) (fBin dMul (fBin dIx (fIxV 2 (fBin gp (fVar 4) (fC (.int 1)))) (fC (.int 3))) (fVar 7)))) (sNil) /\
      ∀(W X w3 w5 w6 m n:lp),Q [W,X,↑(.sh (.lst (ts.map tnD))),w3,↑(.sh (.int (k:Int))),w5,w6,↑(.sh (.int (hrs ts[k].2))),↑(.sh (.int (lss ts[k].2))),↑(.sh (.int 0)),m,n] =
       ↑(.nx,[W,X,↑(.sh (.lst (ts.map tnD))),w3,↑(.sh (.int (k:Int))),w5,w6,↑(.sh (.int (hrs ts[k].2))),↑(.sh (.int (lss ts[k].2))),↑(.sh (.int (pd ts k))),m,n]):=by
     refine⟨_,rfl,λW X w3 w5 w6 m n=>?_⟩;by_cases he:k+1<ts.length
     ·have y:pd ts k=lss ts[k].2*hrs ts[k+1].2-lss ts[k+1].2*hrs ts[k].2:=by
       unfold pd;rw[av u,av he]
      have hd:decide ((k:Int)+1<((ts.map tnD).length:Int))=true:=by simp;lia
      have a2:atI (ts.map tnD) ((k:Int)+1)=↑(tnD ts[k+1]):=by
       exact kh tnD (by simp[he])
      have i2:dIx (tnD ts[k+1]) (.int 2)=↑(.int (hrs ts[k+1].2)):=rfl;have i3:dIx (tnD ts[k+1]) (.int 3)=↑(.int (lss ts[k+1].2)):=rfl;have m1:=(r _ v).2;have m2:=(r _ (eg he)).2;have aa:l9 (lss ts[k].2):=m1;have ab:l9 (lss ts[k+1].2):=m2;rw[y];simp only[sIf,sSet,fTst,fBin,fVar,fC,gq,fIxV,ixSl,gp,dLt,dSub,ae,ah,ac,aj,ao,aq,hd,if_true,a2,i2,i3,tj aa,tj ab]
     ·have y:pd ts k=0:=by
       unfold pd;rw[cg (i:=k+1) ⋯];cases ts[k]? <;> rfl
      have hd:decide ((k:Int)+1<((ts.map tnD).length:Int))=false:=by simp;lia
      rw[y];generalize ts.map tnD=T at *;simp[hd]
    obtain⟨Q,ag,I⟩:=I;have J:atI ((ts.zipIdx).map (rowW ts)) (k:Int)=↑(.tup [.int (ts[k].1:Int),.int (ts[k].2.length:Int),.int (hrs ts[k].2),.int (lss ts[k].2),.lst ((debts ts[k].2).map D.int),.int (pd ts k)]):=J;have l:atI (ts.map tnD) (k:Int)=↑(.tup [.int (ts[k].1:Int),.int (ts[k].2.length:Int),.int (hrs ts[k].2),.int (lss ts[k].2)]):=l;generalize ts.drop (k+1)=ts' at Z h w ⊢;generalize pd ts k=fl at *;generalize ts[k]=t at *;have y:(t.1:Int)-1=((t.1-1:Nat):Int):=by lia
    have ai:atI ((iy ss.length (t::ts')).map λs=>D.lst (s.map sD)) ((t.1-1:Nat):Int)=↑(.lst ((t.2++(ofS ts' (t.1-1)).flatten).map sD)):=kh (λs:mn=>D.lst (s.map sD)) Z;have S:=zyg (t.2.map sD) ((ofS ts' (t.1-1)).flatten.map sD);have U:=ztg (t.2.map sD) ((ofS ts' (t.1-1)).flatten.map sD);rw[<-b8,af] at S U;have al:ixN ((iy ss.length (t::ts')).map λs=>D.lst (s.map sD)).length ((t.1-1:Nat):Int)=↑(t.1-1):=by
     rw[tu ⋯ (by rw[af,nk];lia)];congr 1
    have o:((iy ss.length (t::ts')).map λs=>D.lst (s.map sD)).set (t.1-1) (.lst ((ofS ts' (t.1-1)).flatten.map sD))=(iy ss.length ts').map λs=>D.lst (s.map sD):=by
     rw[h,gw]
    have an:D.lst (t.2.map sD)=slD t.2:=rfl;generalize ts.map tnD=T at *;generalize (ts.zipIdx).map (rowW ts)=R at *;generalize (debts t.2).map D.int=DB at *;have z6:decide (((6:Nat):Int)=6)=true:=by decide
    refine⟨[↑(.sh (.lst R)),↑(.sh (ssL ss)),↑(.sh (.lst T)),↑(.ow ((iy ss.length ts').map λs=>D.lst (s.map sD))),↑(.sh (.int (k:Int))),↑(.sh (.int (t.1:Int))),↑(.sh (.int (t.2.length:Int))),↑(.sh (.int (hrs t.2))),↑(.sh (.int (lss t.2))),↑(.sh (.int fl)),↑(.sh (.lst DB)),↑(.sh (.tup [.int (t.1:Int),.int (t.2.length:Int),.int (hrs t.2),.int (lss t.2),.lst DB,.int fl]))],?_,_,_,_,_,_,_,_,_,rfl⟩;unfold zfl;rw[<-ag];have p:∀a b c d e f:D,atI [a,b,c,d,e,f] 4=↑e:=λ_ _ _ _ _ _=>rfl;have q:∀a b c d e f:D,atI [a,b,c,d,e,f] 5=↑f:=λ_ _ _ _ _ _=>rfl;simp only[sSeq,sUnp,qt,sSet,vh,zxk,sIf,sRet,sNil,fIxV,ixSl,fVar,fC,dy,ax,fNil,fLst,fSl,fSlT,fO0,fO1,fOr,fNot,fTst,fIsi,tyD,isiT,fBin,dSub,dNe,gq,ae,ah,ac,aj,ao,aq,l,I,y,ai,S,an,K,U,al,o,J,O,P,N,L,M,p,q,z6,am,bj,Nat.reduceAdd,if_true,if_false,i4,bf,beq_self_eq_true,Bool.true_or,decide_true])
 rw[wc,j8] at h1;have hi:iR1 [.int ((ts.map tnD).length:Int)]=↑(rngD 0 ts.length):=by rw[af];exact og _ ⋯
 have z:decide ((((ts.zipIdx).map (rowW ts)).length:Int)=((ts.map tnD).length:Int))=true:=by simp
 refine jw (e':=[↑(.sh (.lst ((ts.zipIdx).map (rowW ts)))),↑(.sh (ssL ss)),↑(.sh (.lst (ts.map tnD))),↑(.ow ((iy ss.length []).map λs=>D.lst (s.map sD))),A,v5,v6,B,C,v9,V,Y]) rfl ?_;show zhg [↑(.sh (.lst ((ts.zipIdx).map (rowW ts)))),↑(.sh (ssL ss)),none,none,none,none,none,none,none,none,none,none]=_;generalize ts.map tnD=T at *;generalize (ts.zipIdx).map (rowW ts)=R at *;simp[zhg,F,G,z,hi,h1,beq_self_eq_true,Bool.true_or]
def r3(r:i0):Int:=r.getD 2 0
def srt(r:i0):i0:=[if r.getD 0 0<=r.getD 1 0 then r.getD 0 0 else r.getD 1 0,if r.getD 0 0<=r.getD 1 0 then r.getD 1 0 else r.getD 0 0]
def PS(w C:Sk->Int)(P:Int):mn->Int
 |x::y::r=>-(P+w x)*(C y-C x-y.2.1)+PS w C (P+w x) (y::r) |_=>0
theorem zyt(l:mu):(l.map λs:mn=>(s.length:Int)).sum=(l.flatten.length:Int):=by
 induction l with
 |nil=>rfl |cons a l ih=>rw[bi,gy,ih,df,au];lia
theorem zsc(ss:mu)(R:ss.length<=1000):zfz [ssL ss]=↑(.int (ss.flatten.length:Int)):=by
 have c:=qi (te:=gq 0) (base:=[]) (λs:mn=>D.lst (s.map sD)) (λs:mn=>D.int (s.length:Int)) ss λs _=>⟨_,by simp;rfl⟩;have I:=xz (λs:mn=>(s.length:Int)) ss;have J:Few (ss.map λs=>D.lst (s.map sD)).length:=few (by rw[af];lia);rw[zyt] at I;refine jw (e':=[↑(.sh (ssL ss))]) rfl ?_;show zh6 [↑(.sh (ssL ss))]=_;unfold ssL;generalize (ss.map λs=>D.lst (s.map sD))=L at *;simp[zh6,ig,J,c,I]
theorem ztq(ss:mu)(R:∀s∈ss,s.length<=1000):zi5 [ssL ss]=↑(.int (lss ss.flatten)):=by
 obtain⟨e',h1,v2,rfl⟩:=sd (i:=2) (g:=ze1) (λs:mn=>D.lst (s.map sD)) (λp e=>∃v2,e=[↑(.sh (ssL ss)),↑(.sh (.int (lss p.flatten))),v2]) ss
  [↑(.sh (ssL ss)),↑(.sh (.int 0)),none] ⟨none,rfl⟩ (by
   rintro p s q e I ⟨v2,rfl⟩;have c:=qi (te:=dy xg (ax (fVar 0) fNil)) (base:=[]) sD (λx:Sk=>D.int x.2.2) s λx _=>⟨_,by simp[zqm];rfl⟩;have S:=xz (λx:Sk=>x.2.2) s;have U:Few (s.map sD).length:=few (by rw[af];have:=R s (by rw[I];simp);lia);have V:lss (p++[s]).flatten=lss p.flatten+(s.map λx:Sk=>x.2.2).sum:=by rw[fq,tq];simp[lss]
   rw[V];generalize s.map sD=L at *;simp[ze1,ig,U,c,S])
 refine jw (e':=[↑(.sh (ssL ss)),↑(.sh (.int (lss ss.flatten))),v2]) rfl ?_;show zi4 [↑(.sh (ssL ss)),none,none]=_;have J:forL 2 ze1 (ss.map λs=>D.lst (s.map sD)) [↑(.sh (ssL ss)),↑(.sh (.int 0)),none]=_:=h1;unfold ssL at *;simp[zi4,J]
theorem vd(h:ss[a-1]?=↑s)(I:1<=a):atI (ss.map λs=>D.lst (s.map sD)) ((a:Int)-1)=↑(.lst (s.map sD)):=by
 rw[show((a:Int)-1)=((a-1:Nat):Int) by lia];exact kh _ h
variable{x:Sk}
def z2u(h:ss[a-1]?=↑(x::r))(D:1<=a):zko [ssL ss,.int (a:Int)]=↑(sD x):=by
 have h1:=vd h D;have h2:atI ((x::r).map sD) (0:Int)=↑(sD x):=kh sD (k:=0) rfl;refine jw (e':=[↑(.sh (ssL ss)),↑(.sh (.int (a:Int)))]) rfl ?_;show zmk [↑(.sh (ssL ss)),↑(.sh (.int (a:Int)))]=_;unfold ssL;generalize (x::r).map sD=M at *;simp[zmk,h1,h2]
def zyu(l:List α)(k:Nat)(x:α)(h:k<l.length):l.take k++[x]++l.drop (k+1)=l.set k x:=by
 rw[List.set_eq_take_append_cons_drop,if_pos h];simp
def zqt(l:la)(k:Nat)(h:k<=l.length):cutD l none ↑(k:Int)=l.take k:=by
 have:=zyg (l.take k) (l.drop k);rwa [List.take_append_drop,du,Nat.min_eq_left h] at this
def znm(l:la)(k:Nat)(h:k<=l.length):cutD l ↑(k:Int) none=l.drop k:=by
 have:=ztg (l.take k) (l.drop k);rwa [List.take_append_drop,du,Nat.min_eq_left h] at this
theorem zi9(s:mn)(Y:1<=a)(Z:a<=ss.length)(b:ss.length<=1000):z9 [ssL ss,.int (a:Int),.lst (s.map sD)]=↑(ssL (ss.set (a-1) s)):=by
 have c:(ss.map λs=>D.lst (s.map sD)).length=ss.length:=af ..;have J:=zqt (ss.map λs=>D.lst (s.map sD)) (a-1) ⋯;have R:=znm (ss.map λs=>D.lst (s.map sD)) a ⋯;have S:((a:Int)-1)=((a-1:Nat):Int):=by lia
 have I:=zyu (ss.map λs=>D.lst (s.map sD)) (a-1) (D.lst (s.map sD)) ⋯;rw[show a-1+1=a by lia] at I;have U:Few ((((ss.map λs=>D.lst (s.map sD)).take (a-1)).length)+(0+1)):=few (by simp only[du];lia);have f2:Few (((ss.map λs=>D.lst (s.map sD)).take (a-1)++[D.lst (s.map sD)]).length+((ss.map λs=>D.lst (s.map sD)).drop a).length):=few (by simp[du,fb];lia);have V:ssL (ss.set (a-1) s)=.lst ((ss.map λs=>D.lst (s.map sD)).set (a-1) (D.lst (s.map sD))):=by unfold ssL;rw[gw]
 refine jw (e':=[↑(.sh (ssL ss)),↑(.sh (.int (a:Int))),↑(.sh (.lst (s.map sD)))]) rfl ?_;show zj9 [↑(.sh (ssL ss)),↑(.sh (.int (a:Int))),↑(.sh (.lst (s.map sD)))]=_;rw[V,<-I];unfold ssL;generalize s.map sD=M at *;simp only[zj9,sRet,fLst,fCat,fSl,fO0,fO1,gg,ax,fNil,fVar,fBin,fC,dSub,S,ae,ah,ac,aj,J,R,U,f2,if_true,am,bj,show(0+1<=64)=True by simp]
theorem zpj(h:ss[a-1]?=↑(x::r))(D:1<=a)(I:ss.length<=1000):zgs [ssL ss,.int (a:Int)]=↑(ssL (ss.set (a-1) r)):=by
 have h1:=vd h D;have R:=(ak.mp h).1;have c:cutD ((x::r).map sD) ↑((1:Nat):Int) none=((x::r).map sD).drop 1:=znm _ 1 (by simp);have J:=zi9 (ss:=ss) r D ⋯ I;refine jw (e':=[↑(.sh (ssL ss)),↑(.sh (.int (a:Int)))]) rfl ?_;show zi6 [↑(.sh (ssL ss)),↑(.sh (.int (a:Int)))]=_;have c:cutD ((x::r).map sD) ↑(1:Int) none=r.map sD:=c;unfold ssL at *;generalize (x::r).map sD=M at *;simp[zi6,h1,c,J]
variable{p:List Hs}
theorem z8p{p b:mn}{B:mn}(h:B=p++b)(g:Good B):¬gt (blk B) (blk b):=by
 have h1:=g.beg p ⟨b,h.symm⟩;have D:hrs B=hrs p+hrs b:=by rw[h,pz]
 have I:lss B=lss p+lss b:=by rw[h,tq]
 show ¬lss b*hrs B<lss B*hrs b;rw[D,I] at h1 ⊢;simp only[ja,jp] at h1 ⊢
 lia
def z1n(a:Nat)(D:mu)(j:Nat):ofS (D.map λb=>(a,b)) j=if a=j+1 then D else[]:=by
 unfold ofS;induction D with
 |nil=>simp |cons b r ih =>
   rw[bi];by_cases h:a=j+1
   ·rw[l7 (by simp[h]),bi,ih,if_pos h,if_pos h]
   ·rw[l8 (by simp[h]),ih,if_neg h,if_neg h]
def zv9(a:Nat)(D:mu):jv (D.map λb=>(a,b))=List.replicate D.flatten.length a:=by
 unfold jv;induction D with
 |nil=>simp |cons b r ih =>
   rw[bi,bi,df,ih,df,au,List.replicate_append_replicate]
theorem zse(ok:TurnsOk ss ((a,x::r)::ts))(v:∀y∈ss.flatten,jb y)(g:ss.flatten.length<=14) :
  ∃tl U,ss[a-1]?=↑(x::tl)/\1<=a/\a<=ss.length/\TurnsOk (ss.set (a-1) tl) U/\jv U=List.replicate r.length a++jv ts/\(U.map (·.2)).flatten=r++(ts.map (·.2)).flatten:=by
 have lo:=ok.lo (a,x::r) (by simp);have F:=ok.good (a,x::r) (by simp);have V:=ok.sk v (a,x::r) (by simp);have i:=ok.len1 (a,x::r) (by simp);have k:=ok.left;have J:=zml (n:=ss.length) (t:=(a,x::r)) (ts:=ts) lo.1 lo.2;rw[k] at J;obtain⟨I,R,_⟩:=zkb r (λy l=>V y (by simp[l])) (by rw[am] at i;lia);have pos:∀b∈I,0<hrs b:=λb D=>ur b (λy l=>V y (bc _ (by rw[<-R.flat];exact gn.mpr ⟨b,by simpa using D,l⟩))) (R.good b D).ne;have m:0<hrs (x::r):=ur _ V (by simp);have w:=zte I R.desc pos;have A:∀b∈I,¬gt (blk (x::r)) (blk b):=by
  cases I with
  |nil=>intro b D;cases D
  |cons bl rs' =>
    have o:x::r=(x::rs'.reverse.flatten)++bl:=by rw[<-R.flat];simp
    have B:=z8p o F;intro b D;rcases ce.mp D with rfl |hb'
    ·exact B
    ·exact z8j (pos b D) (pos bl (by simp)) m (λz=>wv ((ft.mp w).1 b hb') z) B
 have d:=ok.srt;obtain⟨p,q⟩:=ft.mp d;have f:∀t∈I.reverse.map (λb=>(a,b))++ts,1<=t.1/\t.1<=ss.length:=λt Y=>by
  rcases dg.mp Y with h |h
  ·obtain⟨b,_,rfl⟩:=gc.mp h;exact lo
  ·exact ok.lo t (by simp[h])
 have Z:iy ss.length (I.reverse.map (λb=>(a,b))++ts)=ss.set (a-1) (r++(ofS ts (a-1)).flatten):=by
  apply ek;intro j;by_cases S:j<ss.length
  ·rw[sj S,i7,zqq,z1n]
   by_cases e:a-1=j
   ·subst e
    rw[if_pos ⋯,if_pos rfl,if_pos S,fq,R.flat]
   ·rw[if_neg ⋯,if_neg e]
    have:=ok.part j ss[j] (by simp[S]);rw[zhi _ _ _ (by simp;lia)] at this;simp[this,S]
  ·rw[cg (by rw[nk];lia),cg (by rw[dz];lia)]
 refine⟨r++(ofS ts (a-1)).flatten,I.reverse.map (λb=>(a,b))++ts,J,lo.1,lo.2,?_,?_,?_⟩
 ·rw[<-Z]
  refine⟨λt Y=>by rw[nk];exact f t Y,λt Y=>?_,λj s S=>?_,?_,zlf f⟩
  ·rcases dg.mp Y with h |h
   ·obtain⟨b,D,rfl⟩:=gc.mp h;exact R.good b (by simpa using D)
   ·exact ok.good t (by simp[h])
  ·have g:=(ak.mp S).1
   rw[nk] at g;rw[sj g] at S;exact bz S
  ·rw[i9]
   refine⟨?_,q,λt Y u C=>?_⟩
   ·rw[List.pairwise_map,List.pairwise_reverse]
    exact w.imp λh=>.inl h
   ·obtain⟨b,D,rfl⟩:=gc.mp Y
    have D:b∈I:=by simpa using D
    have E:0<hrs u.2:=ok.pos v u (by simp[C]);rcases p u C with z | ⟨z1,z2⟩
    ·exact .inl (yah (n:=blk b) (c:=blk (x::r)) (b:=blk u.2) (pos b D) m E (A b D) z)
    ·exact .inr ⟨z8j (n:=blk b) (c:=blk (x::r)) (b:=blk u.2) (pos b D) m E (A b D) z1,z2⟩
 ·rw[vq,zv9,R.flat]
 ·rw[b8,fq,ip]
  show((I.reverse.map λb=>b).flatten)++_=_;rw[List.map_id',R.flat]
def zd5:FS:=sIf (fOr (fTst (fBin dLt (fVar 1) (fC (.int 1)))) (fTst (fBin dGt (fVar 1) (gq 0)))) (lz "UnknownStack" (some)) (sNil)
def zdc:lx->la->ll:=runQ 2 0 2 zd5
def xi:lx->la->kf:=xQ 2 0 2 zd5
def zke:FS:=sSeq (sIf (fTst (fBin dEq (gq 0) (fC (.int 0)))) (sRet (fC (.int 0))) (sNil)) (sRet (fBin dIx (fIxV 0 (fUn dNeg (fC (.int 1)))) (fC (.int 1))))
def zge:la->ll:=runD 1 1 zke
def zh9:FS:=sIf (fOr (fTst (fBin dLt (fVar 0) (fC (.int 0)))) (fTst (fBin dGt (fVar 0) (fC (.int 5))))) (lz "BadCount" ((λz=>(↑z).bind ((λz=>((vInt (fC (.int 5))) z).bind ((λz=>(↑z).bind (some)))))))) (sNil)
def zf0:lx->la->ll:=runQ 1 0 1 zh9
def zf1:lx->la->kf:=xQ 1 0 1 zh9
def zd6:FS:=sIf (fOr (fTst (fBin dLt (fVar 0) (fC (.int 1)))) (fTst (fBin dGt (fVar 0) (fC (.int 60))))) (lz "BadHours" ((λz=>(↑z).bind ((λz=>((vInt (fC (.int 60))) z).bind ((λz=>(↑z).bind (some)))))))) (sNil)
def zf2:lx->la->ll:=runQ 1 0 1 zd6
def zdd:lx->la->kf:=xQ 1 0 1 zd6
def ze4:FS:=sIf (fOr (fTst (fBin dLt (fVar 0) (fC (.int 0)))) (fTst (fBin dGt (fVar 0) (fC (.int 100))))) (lz "BadLoss" ((λz=>(↑z).bind ((λz=>((vInt (fC (.int 100))) z).bind (some)))))) (sNil)
def ze5:lx->la->ll:=runQ 1 0 1 ze4
def yj:lx->la->kf:=xQ 1 0 1 ze4
def zgt:FS:=sIf (fTst (fBin dGe (dy zfz (ax (fVar 0) (fNil))) (fC (.int 14)))) (lz "HouseFull" ((λz=>((vInt (fC (.int 14))) z).bind ((λz=>(↑z).bind (some)))))) (sNil)
def zgu:lx->la->ll:=runQ 1 0 1 zgt
def zdv:lx->la->kf:=xQ 1 0 1 zgt
def zf3:FS:=sIf (fTst (fBin dGe (gq 0) (fC (.int 60)))) (lz "DeedsFull" ((λz=>((vInt (fC (.int 60))) z).bind ((λz=>(↑z).bind (some)))))) (sNil)
def yg:lx->la->ll:=runQ 1 0 1 zf3
def wd:lx->la->kf:=xQ 1 0 1 zf3
def zl4:FS:=sRet (fBin gp (fC (.int 1)) (dy bLen (ax (fLst (ig (fiS (fVar 0)) [] (fTst (fBin dEq (fIxV 0 (fC (.int 0))) (fC (.str "put")))) (fVar 0))) (fNil))))
def zgv:la->ll:=runD 1 1 zl4
def zdw:FS:=sSeq (sXp (ma zf1 [] (ax (fVar 1) (fNil))) (je (iu zf0 [] (ax (fVar 1) (fNil))))) (sSeq (zx6 0 "House" "kept" (gg (fNil))) (zx6 0 "House" "states" (gg (ax (fTup (ax (fLst (ig (ij iR1 (ax (fVar 1) (fNil))) [] fYes (fLst (gg (fNil))))) (ax (fLst (gg (fNil))) (fNil)))) (fNil)))))
def zcq:lx->la->l0:=runL 2 1 1 zdw
def zfn:lx->la->Option (Str×lx):=xL 2 1 1 zdw
def zia:FS:=sRet (fBin dIx (pIx (.at (.ins false "House" ir)) 0 1 (-1)) (fC (.int 0)))
def ph:lx->la->ll:=runQ 1 1 0 zia
def zot:lx->la->kf:=xQ 1 1 0 zia
def zib:FS:=sRet (fBin dIx (pIx (.at (.ins false "House" ir)) 0 1 (-1)) (fC (.int 1)))
def qj:lx->la->ll:=runQ 1 1 0 zib
def zou:lx->la->kf:=xQ 1 1 0 zib
def zja:FS:=sSeq (je (ut (.at (.ins false "House" ir)) 0 0 (fVar 1))) (je (ut (.at (.ins false "House" ir)) 0 1 (fTup (ax (fVar 2) (ax (fVar 3) (fNil))))))
def ug:lx->la->l0:=runL 4 1 3 zja
def zqu:lx->la->Option (Str×lx):=xL 4 1 3 zja
def vw:FS:=sSeq (sSet 4 (fK (.ins false "House" ir) 0 (iu ph [0] (fNil)))) (sSeq (sXp (ma xi [] (ax (fVar 4) (ax (fVar 1) (fNil)))) (je (iu zdc [] (ax (fVar 4) (ax (fVar 1) (fNil)))))) (sSeq (sXp (ma zdd [] (ax (fVar 2) (fNil))) (je (iu zf2 [] (ax (fVar 2) (fNil))))) (sSeq (sXp (ma yj [] (ax (fVar 3) (fNil))) (je (iu ze5 [] (ax (fVar 3) (fNil))))) (sSeq (sXp (ma zdv [] (ax (fVar 4) (fNil))) (je (iu zgu [] (ax (fVar 4) (fNil))))) (sSeq (sXp (xFrz true (ma wd [] (ax (rg (.ins false "House" ir) 0 0) (fNil)))) (je (fFrz true (iu yg [] (ax (rg (.ins false "House" ir) 0 0) (fNil)))))) (sSeq (sSet 5 (fFrz true (dy zgv (ax (rg (.ins false "House" ir) 0 0) (fNil))))) (sSeq (sSet 6 (fLst (fCat (fLst (gg (ax (fTup (ax (fVar 5) (ax (fVar 2) (ax (fVar 3) (fNil))))) (fNil)))) (fIxV 4 (fBin dSub (fVar 1) (fC (.int 1))))))) (sSeq (je (fK (.ins false "House" ir) 0 (lf ug [0] (ax (fTup (ax (fC (.str "put")) (ax (fVar 1) (ax (fVar 2) (ax (fVar 3) (fNil)))))) (ax (dy z9 (ax (fVar 4) (ax (fVar 1) (ax (fVar 6) (fNil))))) (ax (fK (.ins false "House" ir) 0 (iu qj [0] (fNil))) (fNil))))))) (sRet (fVar 5))))))))))
def zgf:lx->la->l0:=runL 7 1 3 vw
def z8:lx->la->Option (Str×lx):=xL 7 1 3 vw
def zic:FS:=sRet (fLst (z00 (.at (.ins false "House" ir)) 0 0))
def zf4:lx->la->ll:=runQ 1 1 0 zic
def zov:lx->la->kf:=xQ 1 1 0 zic
def zhj:FS:=sRet (fLst (ig (fiS (fK (.ins false "House" ir) 0 (iu ph [0] (fNil)))) [] fYes (fLst (ij pq (ax (fVar 0) (fNil))))))
def ze6:lx->la->ll:=runQ 1 1 0 zhj
def zog:lx->la->kf:=xQ 1 1 0 zhj
def zjb:FS:=sRet (dy zge (ax (fK (.ins false "House" ir) 0 (iu qj [0] (fNil))) (fNil)))
def ze7:lx->la->ll:=runQ 1 1 0 zjb
def zqv:lx->la->kf:=xQ 1 1 0 zjb
def zgg:FS:=sIf (fTst (fBin dLt (fVar 3) (fVar 1))) (sSet 2 (fBin gp (fVar 2) (fBin dMul (fVar 5) (fBin dSub (dy bMin (ax (fVar 1) (ax (fVar 4) (fNil)))) (fVar 3))))) (sNil)
def zkp:FS:=sSeq (sIf (fOr (fTst (fBin dLt (fVar 1) (fC (.int 0)))) (fTst (fBin dGt (fVar 1) (dy zge (ax (fVar 0) (fNil)))))) (lz "NotGone" (some)) (sNil)) (sSeq (sSet 2 (fC (.int 0))) (sSeq (qm [3,4,5] (fiS (fVar 0)) (zgg)) (sRet (fVar 2))))
def zkq:lx->la->ll:=runQ 6 0 2 zkp
def zkr:lx->la->kf:=xQ 6 0 2 zkp
def zf5:FS:=sIf (fTst (fBin dEq (dy zfz (ax (fVar 0) (fNil))) (fC (.int 0)))) (lz "NothingWaits" (some)) (sNil)
def zf6:lx->la->ll:=runQ 1 0 1 zf5
def zde:lx->la->kf:=xQ 1 0 1 zf5
def z7:FS:=sSeq (sSet 1 (fK (.ins false "House" ir) 0 (iu ph [0] (fNil)))) (sSeq (sXp (ma zde [] (ax (fVar 1) (fNil))) (je (iu zf6 [] (ax (fVar 1) (fNil))))) (sSeq (sXp (xFrz true (ma wd [] (ax (rg (.ins false "House" ir) 0 0) (fNil)))) (je (fFrz true (iu yg [] (ax (rg (.ins false "House" ir) 0 0) (fNil)))))) (sSeq (sSet 2 (fBin dIx (fLst (ij xh (ax (fVar 1) (fNil)))) (fC (.int 0)))) (sSeq (sSet 3 (dy zko (ax (fVar 1) (ax (fVar 2) (fNil))))) (sSeq (sSet 4 (fK (.ins false "House" ir) 0 (iu ze7 [0] (fNil)))) (sSeq (sSet 5 (fTup (ax (fVar 4) (ax (fBin gp (fVar 4) (dy vy (ax (fVar 3) (fNil)))) (ax (dy zi5 (ax (fVar 1) (fNil))) (fNil)))))) (sSeq (je (fK (.ins false "House" ir) 0 (lf ug [0] (ax (fTup (ax (fC (.str "dry")) (fNil))) (ax (dy zgs (ax (fVar 1) (ax (fVar 2) (fNil)))) (ax (fLst (fCat (fK (.ins false "House" ir) 0 (iu qj [0] (fNil))) (fLst (gg (ax (fVar 5) (fNil)))))) (fNil))))))) (sRet (fVar 3)))))))))
def zgh:lx->la->l0:=runL 6 1 0 z7
def z0:lx->la->Option (Str×lx):=xL 6 1 0 z7
def zid:FS:=sRet (fLst (ij xh (ax (fK (.ins false "House" ir) 0 (iu ph [0] (fNil))) (fNil))))
def zd7:lx->la->ll:=runQ 1 1 0 zid
def zow:lx->la->kf:=xQ 1 1 0 zid
def ze8:FS:=sRet (fLst (ij pq (ax (fK (.ins false "House" ir) 0 (iu qj [0] (fNil))) (fNil))))
def zdl:lx->la->ll:=runQ 1 1 0 ze8
def zl5:lx->la->kf:=xQ 1 1 0 ze8
def zgw:FS:=sXp (ma zkr [] (ax (fK (.ins false "House" ir) 0 (iu qj [0] (fNil))) (ax (fVar 1) (fNil)))) (sRet (iu zkq [] (ax (fK (.ins false "House" ir) 0 (iu qj [0] (fNil))) (ax (fVar 1) (fNil)))))
def zgx:lx->la->ll:=runQ 2 1 1 zgw
def zgy:lx->la->kf:=xQ 2 1 1 zgw
def zlg:FS:=sRet (dy bSum (ax (fLst (ig (fiS (fVar 0)) [] fYes (dy bSum (ax (fLst (ig (fiS (fVar 0)) [] fYes (fIxV 0 (fC (.int 2))))) (fNil))))) (fNil)))
def zjc:la->ll:=runD 1 1 zlg
def zf7:FS:=sSet 1 (fLst (fCat (fVar 1) (fLst (fRep (gg (ax (fVar 4) (fNil))) (fBin dSub (fVar 3) (fVar 2))))))
def zkf:FS:=sSeq (sSet 1 (fLst (gg (fNil)))) (sSeq (qm [2,3,4] (fiS (fVar 0)) (zf7)) (sRet (fVar 1)))
def zhw:la->ll:=runD 5 1 zkf
def zc5:FS:=sSeq (sXp (xK (.ins false "House" ir) 0 (ma zgy [0] (ax (fVar 4) (fNil)))) (sSet 5 (fK (.ins false "House" ir) 0 (iu zgx [0] (ax (fVar 4) (fNil)))))) (sIf (fOr (fNot (fTst (dy uf (ax (fVar 5) (fNil))))) (fTst (fBin dNe (fVar 5) (dy bSum (ax (fLst (fSl (fVar 2) (fO0) (fO1 (fVar 4)))) (fNil)))))) (sRet (fC (.bl false))) (sNil))
def zdx:FS:=sSeq (sSet 2 (dy zhw (ax (fVar 1) (fNil)))) (sSeq (sSet 3 (fK (.ins false "House" ir) 0 (iu ze7 [0] (fNil)))) (sSeq (sIf (fOr (fNot (fTst (dy uf (ax (fVar 3) (fNil))))) (fTst (fBin dNe (fVar 3) (gq 2)))) (sRet (fC (.bl false))) (sNil)) (sSeq (sFor 4 (fiS (fLst (gg (ax (fC (.int 0)) (ax (fBin dDiv (fVar 3) (fC (.int 3))) (ax (dy bMax (ax (fC (.int 0)) (ax (fBin dSub (fVar 3) (fC (.int 1))) (fNil)))) (ax (fVar 3) (fNil)))))))) (zc5)) (sRet (dy uh (ax (fK (.ins false "House" ir) 0 (iu zdl [0] (fNil))) (ax (fVar 1) (fNil))))))))
def zdy:lx->la->ll:=runQ 6 1 1 zdx
def zmp:lx->la->kf:=xQ 6 1 1 zdx
def zjd:FS:=sRet (dy zhr (ax (fK (.ins false "House" ir) 0 (iu ph [0] (fNil))) (ax (fK (.ins false "House" ir) 0 (iu zd7 [0] (fNil))) (fNil))))
def zgz:lx->la->ll:=runQ 1 1 0 zjd
def zqw:lx->la->kf:=xQ 1 1 0 zjd
def zje:FS:=sRet (dy zhu (ax (fK (.ins false "House" ir) 0 (iu ph [0] (fNil))) (fNil)))
def zg0:lx->la->ll:=runQ 1 1 0 zje
def zqx:lx->la->kf:=xQ 1 1 0 zje
def zkg:FS:=sRet (dy zi3 (ax (fK (.ins false "House" ir) 0 (iu ph [0] (fNil))) (fNil)))
def zhx:lx->la->ll:=runQ 1 1 0 zkg
def zsf:lx->la->kf:=xQ 1 1 0 zkg
def zkz:FS:=sSeq (sSet 3 (fIxV 2 (fC (.int 0)))) (sSeq (sIf (fTst (fBin dEq (fVar 3) (fC (.str "back")))) (sRet (fBin dIx (fLst (gg (ax (fC (.str "")) (ax (fC (.str "nothing done")) (fNil))))) (dy bInt (ax (fBin dEq (fVar 1) (fC (.int 0))) (fNil))))) (sNil)) (sSeq (sIf (fTst (fBin dEq (fVar 3) (fC (.str "dry")))) (sIf (fTst (fBin dEq (dy bSum (ax (fLst (ig (fiS (fVar 0)) [] fYes (gq 0))) (fNil))) (fC (.int 0)))) (sRet (fC (.str "nothing waits"))) (sNil)) (sIf (fOr (fTst (fBin dLt (fIxV 2 (fC (.int 1))) (fC (.int 1)))) (fTst (fBin dGt (fIxV 2 (fC (.int 1))) (gq 0)))) (sRet (fC (.str "unknown stack"))) (sIf (fAnd (fTst (fBin dNe (fVar 3) (fC (.str "put")))) (fTst (fBin dEq (dy bLen (ax (fIxV 0 (fBin dSub (fIxV 2 (fC (.int 1))) (fC (.int 1)))) (fNil))) (fC (.int 0))))) (sRet (fC (.str "empty stack"))) (sNil)))) (sSeq (sIf (fAnd (fTst (fBin dEq (fVar 3) (fC (.str "tell")))) (fOr (fTst (fBin dLt (fIxV 2 (fC (.int 2))) (fC (.int 1)))) (fTst (fBin dGt (fIxV 2 (fC (.int 2))) (dy bLen (ax (fIxV 0 (fBin dSub (fIxV 2 (fC (.int 1))) (fC (.int 1)))) (fNil))))))) (sRet (fC (.str "unknown place"))) (sNil)) (sSeq (sIf (fAnd (fTst (fBin dEq (fVar 3) (fC (.str "put")))) (fOr (fTst (fBin dLt (fIxV 2 (fC (.int 2))) (fC (.int 1)))) (fTst (fBin dGt (fIxV 2 (fC (.int 2))) (fC (.int 60)))))) (sRet (fC (.str "bad hours"))) (sNil)) (sSeq (sIf (fAnd (fOr (fTst (fBin dEq (fVar 3) (fC (.str "put")))) (fTst (fBin dEq (fVar 3) (fC (.str "tell"))))) (fOr (fTst (fBin dLt (fIxV 2 (fC (.int 3))) (fC (.int 0)))) (fTst (fBin dGt (fIxV 2 (fC (.int 3))) (fC (.int 100)))))) (sRet (fC (.str "bad loss"))) (sNil)) (sSeq (sIf (fAnd (fTst (fBin dEq (fVar 3) (fC (.str "put")))) (fTst (fBin dGe (dy bSum (ax (fLst (ig (fiS (fVar 0)) [] fYes (gq 0))) (fNil))) (fC (.int 14))))) (sRet (fC (.str "house full"))) (sNil)) (sSeq (sIf (fTst (fBin dGe (fVar 1) (fC (.int 60)))) (sRet (fC (.str "deeds full"))) (sNil)) (sRet (fC (.str ""))))))))))
def zd8:la->ll:=runD 4 3 zkz
def wb:FS:=sSeq (yq 3 (wq (fiS (fVar 0)) [] (ij pq (ax (fVar 0) (fNil))))) (sSeq (sSet 4 (fC (.int 0))) (sSeq (sIf (fTst (fBin dGt (gq 1) (fC (.int 1)))) (sSet 4 (fBin dSub (fIxV 1 (fC (.int 1))) (fC (.int 1)))) (sNil)) (sSeq (sIf (fTst (fBin dEq (fIxV 1 (fC (.int 0))) (fC (.str "put")))) (sSeq (wn 3 (fVar 4) (qk false (fCat (fLst (gg (ax (fTup (ax (fVar 2) (ax (fIxV 1 (fC (.int 2))) (ax (fIxV 1 (fC (.int 3))) (fNil))))) (fNil)))) (fIxV 3 (fVar 4))))) (sRet (fLst (gg (ax (fVar 3) (ax (fVar 2) (fNil))))))) (sNil)) (sSeq (sIf (fTst (fBin dEq (fIxV 1 (fC (.int 0))) (fC (.str "tell")))) (sSeq (sSet 5 (fFrz false (fBin dIx (fIxV 3 (fVar 4)) (fBin dSub (fIxV 1 (fC (.int 2))) (fC (.int 1)))))) (sSeq (zut 3 (fVar 4) (fBin dSub (fIxV 1 (fC (.int 2))) (fC (.int 1))) (fTup (ax (fIxV 5 (fC (.int 0))) (ax (fIxV 5 (fC (.int 1))) (ax (fIxV 1 (fC (.int 3))) (fNil)))))) (sRet (fLst (gg (ax (fVar 3) (ax (fIxV 5 (fC (.int 2))) (fNil)))))))) (sNil)) (sSeq (sIf (fTst (fBin dEq (fIxV 1 (fC (.int 0))) (fC (.str "dry")))) (sSet 4 (fBin dSub (fBin dIx (fBin dIx (dy zem (ax (fVar 0) (fNil))) (fC (.int 0))) (fC (.int 0))) (fC (.int 1)))) (sNil)) (sSeq (sSet 5 (fFrz false (fBin dIx (fIxV 3 (fVar 4)) (fC (.int 0))))) (sSeq (wn 3 (fVar 4) (qk false (fSl (fIxV 3 (fVar 4)) (fO1 (fC (.int 1))) (fO0)))) (sRet (fLst (gg (ax (fVar 3) (ax (fVar 5) (fNil)))))))))))))
def uw:la->ll:=runD 6 3 wb
def ze9:FS:=sSeq (sIf (fTst (fIsi "tuple" (fVar 1))) (sRet (dy we (ax (fVar 0) (ax (fVar 1) (fNil))))) (sNil)) (sRet (xp (dy uf (ax (fVar 0) (fNil))) (fBin dEq (fVar 0) (fVar 1))))
def zbz:la->ll:=runD 2 2 ze9
def zlh:FS:=z02 (fAgL (pCd (fLst (ig (ij iR1 (ax (fVar 0) (fNil))) [] fYes (fLst (gg (fNil))))) (pCo (gg (fNil)) (pCo (gg (fNil)) (pCd (fLst (gg (fNil))) (pNil))))))
def zjf:la->Option Ag:=runG 1 1 zlh
def ztr:la->kf:=xG 1 1 zlh
def zg1:FS:=sSeq (sSet 6 (zsx 4 (fBin dSub (fVar 5) (fC (.int 1))) (fC (.int 0)))) (sSeq (je (o7 2 (fTup (ax (fIxV 6 (fC (.int 0))) (ax (fVar 5) (ax (fVar 3) (ax (fBin gp (fVar 3) (fIxV 6 (fC (.int 1)))) (fNil)))))))) (sSet 3 (fBin gp (fVar 3) (fIxV 6 (fC (.int 1))))))
def zli:FS:=sSeq (sOwn 2 (gg (fNil))) (sSeq (sSet 3 (fC (.int 0))) (sSeq (yq 4 (zn1 zht (ax (fVar 0) (fNil)))) (sSeq (sFor 5 (fiS (fVar 1)) (zg1)) (sRet (fVar 2)))))
def zlj:la->ll:=runD 7 2 zli
def zf8:FS:=sSeq (sSet 2 (fIxV 1 (fC (.int 0)))) (sSeq (sIf (fOr (fNot (fTst (dy zdk (ax (fK (.ins false "House" ir) 0 (iu ze6 [0] (fNil))) (ax (fVar 2) (fNil)))))) (fNot (fTst (dy uh (ax (fK (.ins false "House" ir) 0 (iu zf4 [0] (fNil))) (ax (fIxV 1 (fC (.int 1))) (fNil))))))) (sRet (fC (.bl false))) (sNil)) (sSeq (sSet 3 (fLst (ij zla (ax (fVar 2) (fNil))))) (sSeq (sIf (fNot (fTst (dy zcb (ax (fK (.ins false "House" ir) 0 (iu zd7 [0] (fNil))) (ax (fVar 3) (fNil)))))) (sRet (fC (.bl false))) (sNil)) (sSeq (sSet 4 (fK (.ins false "House" ir) 0 (iu zg0 [0] (fNil)))) (sSeq (sIf (fOr (fNot (fTst (dy uf (ax (fVar 4) (fNil))))) (fTst (fBin dNe (fVar 4) (dy zlc (ax (dy zj3 (ax (fVar 2) (ax (fVar 3) (fNil)))) (fNil)))))) (sRet (fC (.bl false))) (sNil)) (sSeq (sIf (fNot (fTst (dy uh (ax (fK (.ins false "House" ir) 0 (iu zgz [0] (fNil))) (ax (dy zlj (ax (fVar 2) (ax (fVar 3) (fNil)))) (fNil)))))) (sRet (fC (.bl false))) (sNil)) (sRet (xp (iu zdy [0] (ax (fIxV 1 (fC (.int 3))) (fNil))) (dy zhh (ax (fK (.ins false "House" ir) 0 (iu zhx [0] (fNil))) (ax (fVar 2) (fNil))))))))))))
def zd9:lx->la->ll:=runQ 5 1 1 zf8
def zox:lx->la->kf:=xQ 5 1 1 zf8
def zg2:FS:=sIf (fTst (fBin dEq (dy bLen (ax (fIxV 0 (fBin dSub (fVar 1) (fC (.int 1)))) (fNil))) (fC (.int 0)))) (lz "EmptyStack" ((λz=>(↑z).bind ((λz=>((vInt (fVar 1)) z).bind (some)))))) (sNil)
def zfa:lx->la->ll:=runQ 2 0 2 zg2
def yi:lx->la->kf:=xQ 2 0 2 zg2
def yf:FS:=sSeq (sSet 2 (fK (.ins false "House" ir) 0 (iu ph [0] (fNil)))) (sSeq (sXp (ma xi [] (ax (fVar 2) (ax (fVar 1) (fNil)))) (je (iu zdc [] (ax (fVar 2) (ax (fVar 1) (fNil)))))) (sSeq (sXp (ma yi [] (ax (fVar 2) (ax (fVar 1) (fNil)))) (je (iu zfa [] (ax (fVar 2) (ax (fVar 1) (fNil)))))) (sSeq (sXp (xFrz true (ma wd [] (ax (rg (.ins false "House" ir) 0 0) (fNil)))) (je (fFrz true (iu yg [] (ax (rg (.ins false "House" ir) 0 0) (fNil)))))) (sSeq (je (fK (.ins false "House" ir) 0 (lf ug [0] (ax (fTup (ax (fC (.str "go")) (ax (fVar 1) (fNil)))) (ax (dy zgs (ax (fVar 2) (ax (fVar 1) (fNil)))) (ax (fK (.ins false "House" ir) 0 (iu qj [0] (fNil))) (fNil))))))) (sRet (dy zko (ax (fVar 2) (ax (fVar 1) (fNil)))))))))
def zhk:lx->la->l0:=runL 3 1 1 yf
def zx:lx->la->Option (Str×lx):=xL 3 1 1 yf
def zea:FS:=sIf (fOr (fTst (fBin dLt (fVar 1) (fC (.int 1)))) (fTst (fBin dGt (fVar 1) (gq 0)))) (lz "UnknownPlace" (some)) (sNil)
def zf9:lx->la->ll:=runQ 2 0 2 zea
def zdf:lx->la->kf:=xQ 2 0 2 zea
def zts:FS:=sRet (fTup (ax (dy zgq (ax (fVar 0) (fNil))) (ax (dy vy (ax (fVar 0) (fNil))) (ax (fVar 1) (fNil)))))
def zlk:la->ll:=runD 2 2 zts
def uz:FS:=sSeq (sSet 4 (fK (.ins false "House" ir) 0 (iu ph [0] (fNil)))) (sSeq (sXp (ma xi [] (ax (fVar 4) (ax (fVar 1) (fNil)))) (je (iu zdc [] (ax (fVar 4) (ax (fVar 1) (fNil)))))) (sSeq (sXp (ma yi [] (ax (fVar 4) (ax (fVar 1) (fNil)))) (je (iu zfa [] (ax (fVar 4) (ax (fVar 1) (fNil)))))) (sSeq (sSet 5 (fIxV 4 (fBin dSub (fVar 1) (fC (.int 1))))) (sSeq (sXp (ma zdf [] (ax (fVar 5) (ax (fVar 2) (fNil)))) (je (iu zf9 [] (ax (fVar 5) (ax (fVar 2) (fNil)))))) (sSeq (sXp (ma yj [] (ax (fVar 3) (fNil))) (je (iu ze5 [] (ax (fVar 3) (fNil))))) (sSeq (sXp (xFrz true (ma wd [] (ax (rg (.ins false "House" ir) 0 0) (fNil)))) (je (fFrz true (iu yg [] (ax (rg (.ins false "House" ir) 0 0) (fNil)))))) (sSeq (sSet 6 (fIxV 5 (fBin dSub (fVar 2) (fC (.int 1))))) (sSeq (sSet 7 (fLst (fCat (fLst (fCat (fLst (fSl (fVar 5) (fO0) (fO1 (fBin dSub (fVar 2) (fC (.int 1)))))) (fLst (gg (ax (dy zlk (ax (fVar 6) (ax (fVar 3) (fNil)))) (fNil)))))) (fLst (fSl (fVar 5) (fO1 (fVar 2)) (fO0)))))) (sSeq (je (fK (.ins false "House" ir) 0 (lf ug [0] (ax (fTup (ax (fC (.str "tell")) (ax (fVar 1) (ax (fVar 2) (ax (fVar 3) (fNil)))))) (ax (dy z9 (ax (fVar 4) (ax (fVar 1) (ax (fVar 7) (fNil))))) (ax (fK (.ins false "House" ir) 0 (iu qj [0] (fNil))) (fNil))))))) (sRet (dy xg (ax (fVar 6) (fNil)))))))))))))
def zfb:lx->la->l0:=runL 8 1 3 uz
def zdz:lx->la->Option (Str×lx):=xL 8 1 3 uz
inductive Deed where
 |put (a h l:Int) |tell (a p l:Int) |go (a:Int) |dry
abbrev m3:=List Deed
def dD:Deed->D
 | .put a h l=>.tup [.str "put",.int a,.int h,.int l]
 | .tell a p l=>.tup [.str "tell",.int a,.int p,.int l]
 | .go a=>.tup [.str "go",.int a] | .dry=>.tup [.str "dry"]
def Deed.isPut:Deed->Bool | .put ..=>true |_=>false
abbrev Spn:=Int×Int×Int
abbrev nb:=List Spn
abbrev Hs:=mu×nb
abbrev np:=List Hs
def spL(sp:nb):D:=.lst (sp.map sD)
def stD(s:Hs):D:=.tup [ssL s.1,spL s.2]
abbrev kH:AK:=.ins false "House" ir
def hP(k:m3)(s:np):ln:=[.o (k.map dD),.o (s.map stD)]
abbrev hA(k:m3)(s:np):Ag:=(kH,hP k s)
variable{e:DE0}{κ:AK}{l:Option Nat}{ps:ln}
def zqy(h:e[i]?=↑↑(.ag κ l ps))(D:ps[j]?=↑(.o ds)):lv (.at κ) i j e=↑ds:=by
 unfold lv agAt;rw[if_pos (show Acc.ok (.at κ) e i j from(show isK κ e i from .inl ⟨_,_,h⟩)),h];dsimp;rw[D]
def zqz(h:e[i]?=↑↑(.ro κ ps))(D:ps[j]?=↑(.o ds)):lv (.at κ) i j e=↑ds:=by
 unfold lv agAt;rw[if_pos (show Acc.ok (.at κ) e i j from(show isK κ e i from .inr ⟨_,h⟩)),h];dsimp;rw[D]
variable{f:FE}
def z8q(h:e[i]?=↑↑(.ag κ l ps)):fK κ i f e=f e:=if_pos (.inl ⟨_,_,h⟩)
def zyv(h:e[i]?=↑↑(.ro κ ps)):fK κ i f e=f e:=if_pos (.inr ⟨_,h⟩)
def z8r{f:XF}(h:e[i]?=↑↑(.ag κ l ps)):xK κ i f e=f e:=if_pos (.inl ⟨_,_,h⟩)
def yai{f:XF}(h:e[i]?=↑↑(.ro κ ps)):xK κ i f e=f e:=if_pos (.inr ⟨_,h⟩)
variable{r:la×DE0}{m:lx->la->ll}{F:FA}
def zl6(h:e[i]?=↑↑(.ro κ ps))(D:F e=↑r)(h2:r.2[i]?=↑↑(.ro κ ps)):iu m [i] F e=(m [(κ,ps)] r.1).map λd=>(d,r.2):=by
 unfold iu;rw[if_pos (show aggs e [i] from λk I=>by rw[de.mp I];exact⟨_,h⟩),D];simp[getR,h2]
def nj:iu m [] F e=(F e).bind λr=>(m [] r.1).map λd=>(d,r.2):=by
 unfold iu;rw[if_pos (show aggs e [] from λk D=>nomatch D)];rfl
variable{x:lx->la->Option (Str×lx)}
def m9{x:lx->la->kf}:ma x [] F e=(F e).bind λr=>(x [] r.1).map λd=>(d,r.2):=by
 unfold ma;rw[if_pos (show aggs e [] from λk I=>nomatch I)];rfl
variable{d:D}{ps':ln}
def z1o{m:lx->la->l0}(h:e[i]?=↑↑(.ag κ l ps))(I:F e=↑r)(h2:r.2[i]?=↑↑(.ag κ l ps))(J:m [(κ,ps)] r.1=↑(d,[(κ,ps')])):lf m [i] F e=↑(d,r.2.set i ↑(.ag κ l ps')):=by
 unfold lf;rw[if_pos (show aggs e [i] from λk R=>by rw[de.mp R];exact⟨_,h⟩),I];simp[getA,h2,J,putA]
def zyw(h:e[i]?=↑↑(.ag κ l ps))(D:F e=↑r)(h2:r.2[i]?=↑↑(.ag κ l ps)){d:Str}(I:x [(κ,ps)] r.1=↑(d,[(κ,ps')])):ny x [i] F e=↑(d,r.2.set i ↑(.ag κ l ps')):=by
 unfold ny;rw[if_pos (show aggs e [i] from λk J=>by rw[de.mp J];exact⟨_,h⟩),D];simp[getA,h2,I,putA]
def zyx(h:e[i]?=↑↑(.ag κ l ps))(D:F e=↑r)(h2:r.2[i]?=↑↑(.ag κ l ps))(I:x [(κ,ps)] r.1=none):ny x [i] F e=none:=by
 unfold ny;rw[if_pos (show aggs e [i] from λk J=>by rw[de.mp J];exact⟨_,h⟩),D];simp only[getA,h2,aj,ac,I];rfl
theorem ztt(xs:la)(x:D):atI (xs++[x]) (-1)=↑x:=by
 unfold atI ixN;rw[if_neg (by decide),if_pos (by simp;lia),show(-1+((xs++[x]).length:Int)).toNat=xs.length by simp;lia];simp
variable{k:m3}{s:Hs}
def se:ph [hA k (p++[s])] []=↑(ssL s.1):=by
 unfold ph runQ;have h:lv (.at kH) 0 1 (jx 1 [hA k (p++[s])] [])=↑((p++[s]).map stD):=zqz (ps:=hP k (p++[s])) rfl rfl;simp[zia,pIx,h,ztt,stD];rfl
def yb:qj [hA k (p++[s])] []=↑(spL s.2):=by
 unfold qj runQ;have h:lv (.at kH) 0 1 (jx 1 [hA k (p++[s])] [])=↑((p++[s]).map stD):=zqz (ps:=hP k (p++[s])) rfl rfl;simp[zib,pIx,h,ztt,stD];rfl
def z1p:zf4 [hA k p] []=↑(.lst (k.map dD)):=by
 unfold zf4 runQ;have h:lv (.at kH) 0 0 (jx 1 [hA k p] [])=↑(k.map dD):=zqz (ps:=hP k p) rfl rfl;simp[zic,z00,h]
theorem zwa(R:s.1.length<=1000):ze6 [hA k (p++[s])] []=↑(ssL s.1):=by
 unfold ze6 runQ;have c:=qi (te:=fLst (ij pq (ax (fVar 0) (fNil)))) (base:=[]) (λs:mn=>D.lst (s.map sD)) (λs:mn=>D.lst (s.map sD)) s.1 λs _=>⟨_,by simp;rfl⟩;have J:Few (s.1.map λs=>D.lst (s.map sD)).length:=few (by rw[af];lia);have I:(jx 1 [hA k (p++[s])] [])[0]?=↑↑(.ro kH (hP k (p++[s]))):=rfl;have h1:=zl6 (m:=ph) (F:=fNil) I (r:=([],jx 1 [hA k (p++[s])] [])) rfl I;have h2:=zyv (f:=iu ph [0] fNil) I;simp[se] at h1;simp only[zhj,sRet,fLst,ig,fiS,h2,h1,ac,ssL] at c ⊢;generalize (s.1.map λs=>D.lst (s.map sD))=L at *;simp[J,c]
def hrOf(sp:nb):Int:=match sp.getLast? with |none=>0 |some x=>x.2.1
theorem zl7(sp:nb):zge [spL sp]=↑(.int (hrOf sp)):=by
 unfold zge runD spL hrOf;cases h:sp.getLast? with
 |none =>
   rw[yn.mp h];simp[zke,jy]
 |some x =>
   obtain⟨q,rfl⟩:=ym.mp h;have I:jy 1 [D.lst ((q++[x]).map sD)]=[↑(.sh (.lst (q.map sD++[sD x])))]:=by simp[jy]
   have h1:atI (q.map sD++[sD x]) (-1)=↑(sD x):=ztt _ _;have h2:((q.map sD++[sD x]).length:Int)≠0:=by simp;lia
   rw[I];generalize q.map sD++[sD x]=L at *;have J:decide ((L.length:Int)=0)=false:=decide_eq_false h2;simp only[zke,sSeq,sIf,fTst,fBin,gq,ae,ac,fC,dEq,aj,J,bf,if_false,sNil,sRet,fIxV,fUn,dNeg,ixSl,h1,sD,dIx];rfl
def zyy:ze7 [hA k (p++[s])] []=↑(.int (hrOf s.2)):=by
 unfold ze7 runQ;have D:(jx 1 [hA k (p++[s])] [])[0]?=↑↑(.ro kH (hP k (p++[s]))):=rfl;have h1:=zl6 (m:=qj) (F:=fNil) D (r:=([],jx 1 [hA k (p++[s])] [])) rfl D;have h2:=zyv (f:=iu qj [0] fNil) D;simp[yb] at h1;simp[zjb,h2,h1,zl7]
theorem zl{a:Int}(h1:1<=a)(h2:a<=ss.length):xi [] [ssL ss,.int a]=none/\zdc [] [ssL ss,.int a]=some .non:=by
 have e:jx 2 [] [ssL ss,.int a]=[↑(.sh (ssL ss)),↑(.sh (.int a))]:=rfl;have l:((ss.map λs=>D.lst (s.map sD)).length:Int)=ss.length:=by rw[af]
 unfold xi zdc xQ runQ;rw[if_pos ⟨rfl,rfl⟩,if_pos ⟨rfl,rfl⟩,e];unfold ssL at *;generalize (ss.map λs=>D.lst (s.map sD))=L at *;simp[zd5,show ¬a<1 by lia,show ¬((L.length:Int)<a) by lia]
theorem ztu{a:Int}(h:a<1\/ss.length<a):xi [] [ssL ss,.int a]=↑("UnknownStack" : Str):=by
 have e:jx 2 [] [ssL ss,.int a]=[↑(.sh (ssL ss)),↑(.sh (.int a))]:=rfl;have l:((ss.map λs=>D.lst (s.map sD)).length:Int)=ss.length:=by rw[af]
 unfold xi xQ;rw[if_pos ⟨rfl,rfl⟩,e];unfold ssL at *;generalize (ss.map λs=>D.lst (s.map sD))=L at *;by_cases h1:a<1
 ·simp[zd5,h1,lz]
 ·simp[zd5,h1,show((L.length:Int)<a) by lia,lz]
variable{h:Int}
theorem zu3(h1:1<=h)(h2:h<=60):zdd [] [.int h]=none/\zf2 [] [.int h]=some .non:=by
 unfold zdd zf2 xQ runQ;rw[if_pos ⟨rfl,rfl⟩,if_pos ⟨rfl,rfl⟩,show jx 1 [] [.int h]=[↑(.sh (.int h))] from rfl];simp[zd6,show ¬h<1 by lia,show ¬60<h by lia]
theorem z45(D:h<1\/60<h):zdd [] [.int h]=↑("BadHours" : Str):=by
 unfold zdd xQ;rw[if_pos ⟨rfl,rfl⟩,show jx 1 [] [.int h]=[↑(.sh (.int h))] from rfl];by_cases h1:h<1
 ·simp[zd6,h1,lz,vInt]
 ·simp[zd6,h1,show 60<h by lia,lz,vInt]
theorem zq0(h1:0<=h)(h2:h<=100):yj [] [.int h]=none/\ze5 [] [.int h]=some .non:=by
 unfold yj ze5 xQ runQ;rw[if_pos ⟨rfl,rfl⟩,if_pos ⟨rfl,rfl⟩,show jx 1 [] [.int h]=[↑(.sh (.int h))] from rfl];simp[ze4,show ¬h<0 by lia,show ¬100<h by lia]
theorem z2v(D:h<0\/100<h):yj [] [.int h]=↑("BadLoss" : Str):=by
 unfold yj xQ;rw[if_pos ⟨rfl,rfl⟩,show jx 1 [] [.int h]=[↑(.sh (.int h))] from rfl];by_cases h1:h<0
 ·simp[ze4,h1,lz,vInt]
 ·simp[ze4,h1,show 100<h by lia,lz,vInt]
theorem z1q(h1:0<=h)(h2:h<=5):zf1 [] [.int h]=none/\zf0 [] [.int h]=some .non:=by
 unfold zf1 zf0 xQ runQ;rw[if_pos ⟨rfl,rfl⟩,if_pos ⟨rfl,rfl⟩,show jx 1 [] [.int h]=[↑(.sh (.int h))] from rfl];simp[zh9,show ¬h<0 by lia,show ¬5<h by lia]
theorem zyz(ss:mu)(D:ss.length<=1000):(if ss.flatten.length<14 then zdv [] [ssL ss]=none/\zgu [] [ssL ss]=some .non else zdv [] [ssL ss]=↑("HouseFull" : Str)):=by
 have h:=zsc ss D;generalize ss.flatten.length=n at *;split <;> rename_i I
 ·unfold zdv zgu xQ runQ
  rw[if_pos ⟨rfl,rfl⟩,if_pos ⟨rfl,rfl⟩,show jx 1 [] [ssL ss]=[↑(.sh (ssL ss))] from rfl];simp[zgt,h,show ¬(14:Int)<=(n:Int) by lia]
 ·unfold zdv xQ
  rw[if_pos ⟨rfl,rfl⟩,show jx 1 [] [ssL ss]=[↑(.sh (ssL ss))] from rfl];simp[zgt,h,show(14:Int)<=(n:Int) by lia,lz,vInt]
theorem wy(ds:la):(if ds.length<60 then wd [] [.lst ds]=none/\yg [] [.lst ds]=some .non else wd [] [.lst ds]=↑("DeedsFull" : Str)):=by
 split <;> rename_i I
 ·unfold wd yg xQ runQ
  rw[if_pos ⟨rfl,rfl⟩,if_pos ⟨rfl,rfl⟩,show jx 1 [] [.lst ds]=[↑(.sh (.lst ds))] from rfl];simp[zf3,show ¬(60:Int)<=(ds.length:Int) by lia]
 ·unfold wd xQ
  rw[if_pos ⟨rfl,rfl⟩,show jx 1 [] [.lst ds]=[↑(.sh (.lst ds))] from rfl];simp[zf3,show(60:Int)<=(ds.length:Int) by lia,lz,vInt]
def j4(k:m3):Int:=1+(k.filter Deed.isPut).length
theorem z46(k:m3)(J:k.length<=1000):zgv [.lst (k.map dD)]=↑(.int (j4 k)):=by
 have c:=zlv (tt:=fTst (fBin dEq (fIxV 0 (fC (.int 0))) (fC (.str "put")))) (te:=fVar 0) (base:=[]) dD dD Deed.isPut k λx _=>by
  cases x with
  |put a h l=>exact⟨_,rfl,λ_=>⟨_,rfl⟩⟩
  |tell a p l=>exact⟨_,rfl,λz=>nomatch z⟩
  |go a=>exact⟨_,rfl,λz=>nomatch z⟩ |dry=>exact⟨_,rfl,λz=>nomatch z⟩
 have I:Few (k.map dD).length:=few (by rw[af];lia);unfold zgv runD;rw[if_pos (show[D.lst (k.map dD)].length=1 from rfl),show jy 1 [D.lst (k.map dD)]=[↑(.sh (.lst (k.map dD)))] from rfl];unfold j4;generalize k.map dD=L at *;simp[zl4,ig,I,c]
def fK0:fK κ 0 f (↑(.ag κ l ps)::e)=f (↑(.ag κ l ps)::e):=z8q rfl
def fK0r:fK κ 0 f (↑(.ro κ ps)::e)=f (↑(.ro κ ps)::e):=zyv rfl
variable{sl:Sl}
def cQ0:iu m [0] F (↑sl::e)=(F (↑sl::e)).bind λr=>(getR r.2 [0]).bind λags=>(m ags r.1).map λd=>(d,r.2):=if_pos λk D=>by rw[de.mp D];exact⟨_,rfl⟩
variable{m:lx->la->l0}
def cL0:lf m [0] F (↑sl::e)=(F (↑sl::e)).bind λr=>(getA r.2 [0]).bind λags=>(m ags r.1).bind λq=>if q.2.map (·.1)=ags.map (·.1) then ↑(q.1,putA r.2 [0] q.2) else none:=if_pos λk D=>by rw[de.mp D];exact⟨_,rfl⟩
def z1r:getA (↑(.ag κ l ps)::e) [0]=↑[(κ,ps)]:=rfl
variable{κ':AK}
def z1s:putA (↑(.ag κ l ps)::e) [0] [(κ',ps')]=↑(.ag κ' l ps')::e:=rfl
def nv:getR (↑(.ag κ l ps)::e) [0]=↑[(κ,ps)]:=rfl
def xv:getR (↑(.ro κ ps)::e) [0]=↑[(κ,ps)]:=rfl
def wj:rg kH 0 0 (frz true (↑(.ag kH l (hP k p))::e))=↑(.lst (k.map dD),frz true (↑(.ag kH l (hP k p))::e)):=by
 unfold rg;rw[if_pos (show isK kH (frz true (↑(.ag kH l (hP k p))::e)) 0 from .inr ⟨[.d (.lst (k.map dD)),.d (.lst (p.map stD))],rfl⟩)];rfl
variable{r:Nat}
def zpk(h:e[i]?=↑↑(.ag κ ↑r ps))(I:∀c fs,κ≠.ins true c fs)(D:ps[j]?=↑(.o ds))(J:f e=↑(d,e))(R:Few (ds.length+1)) :
  ut (.at κ) i j f e=↑(.non,e.set i ↑(.ag κ ↑r (ps.set j (.o (ds++[d]))))):=by
 unfold ut;rw[h];dsimp only;rw[if_pos (show labO κ ↑r from⟨rfl,I⟩),zqy h D,ac,J,ac];unfold appP;rw[h];dsimp only;rw[D];dsimp only;rw[if_pos ⟨rfl,rfl,rfl,R⟩];unfold setP;rw[h]
variable{sp:nb}
theorem zq1{d:Deed}(D:k.length<=1000)(I:p.length<=1000):ug [hA k p] [dD d,ssL ss,spL sp]=↑(.non,[hA (k++[d]) (p++[(ss,sp)])]):=by
 have h1:=zpk (e:=[↑(.ag kH ↑0 (hP k p)),↑(.sh (dD d)),↑(.sh (ssL ss)),↑(.sh (spL sp))]) (i:=0) (j:=0) (f:=fVar 1) rfl (λc fs z=>nomatch z) rfl rfl (few (by rw[af];lia));have h2:=zpk (e:=[↑(.ag kH ↑0 ((hP k p).set 0 (.o (k.map dD++[dD d])))),↑(.sh (dD d)),↑(.sh (ssL ss)),↑(.sh (spL sp))]) (i:=0) (j:=1) (f:=fTup (ax (fVar 2) (ax (fVar 3) fNil))) (ds:=p.map stD) rfl (λc fs z=>nomatch z) rfl rfl (few (by rw[af];lia));unfold ug runL;rw[if_pos ⟨rfl,rfl⟩,show kn 4 [hA k p] [dD d,ssL ss,spL sp]=[↑(.ag kH ↑0 (hP k p)),↑(.sh (dD d)),↑(.sh (ssL ss)),↑(.sh (spL sp))] from rfl];simp[zja,h1,h2];unfold hA hP;rw[b8,b8];rfl
def putX(ss:mu)(n:Nat)(a h l:Int):kf:=if a<1\/(ss.length:Int)<a then some "UnknownStack" else if h<1\/60<h then some "BadHours" else if l<0\/100<l then some "BadLoss" else if ss.flatten.length<14 then(if n<60 then none else some "DeedsFull") else some "HouseFull"
def putS(ss:mu)(a:Nat)(x:Sk):mu:=ss.set (a-1) (x::ss.getD (a-1) [])
theorem z8s{l:Int}(I:putX s.1 k.length a h l=none)(n:s.1.length<=5)(o:p.length<=100) :
  z8 [hA k (p++[s])] [.int a,.int h,.int l]=none/\zgf [hA k (p++[s])] [.int a,.int h,.int l]=↑(.int (j4 k),[hA (k++[.put a h l]) (p++[s]++[(putS s.1 a (j4 k,h,l),s.2)])]):=by
 unfold putX at I;split at I
 ·cases I
 split at I
 ·cases I
 split at I
 ·cases I
 split at I;case isFalse=>cases I
 rename_i Y;split at I;case isFalse=>cases I
 rename_i Z;have k1:=zl (ss:=s.1) (a:=a) ⋯ ⋯;have k2:=zu3 (h:=h) ⋯ ⋯;have k3:=zq0 (h:=l) ⋯ ⋯;have V:=zyz s.1 ⋯;rw[if_pos Y] at V;have k5:=wy (k.map dD);rw[if_pos (by rw[af];exact Z)] at k5;have b:=z46 k ⋯;have J:(a-1:Nat)<s.1.length:=by lia
 have c:atI (s.1.map λs=>D.lst (s.map sD)) ((a:Int)-1)=↑(.lst ((s.1.getD (a-1) []).map sD)):=by
  rw[show(a:Int)-1=((a-1:Nat):Int) by lia,kh (λs:mn=>D.lst (s.map sD)) (av J),bx,av J];rfl
 have e:=zi9 (ss:=s.1) (a:=a) ((j4 k,h,l)::s.1.getD (a-1) []) ⋯ ⋯ ⋯;have f:=zq1 (k:=k) (p:=p++[s]) (d:=.put a h l) (ss:=putS s.1 a (j4 k,h,l)) (sp:=s.2) ⋯ (by simp;lia);have g:=se (k:=k) (p:=p) (s:=s);have i:=yb (k:=k) (p:=p) (s:=s);have j:Few (0+1+((s.1.getD (a-1) []).map sD).length):=few (by
  have:(s.1.getD (a-1) []).length<=s.1.flatten.length:=by
   rw[bx,av J];exact(dw (eg J)).length_le
  rw[af];lia)
 have m:kn 7 [hA k (p++[s])] [.int a,.int h,.int l]=[↑(.ag kH ↑0 (hP k (p++[s]))),↑(.sh (.int a)),↑(.sh (.int h)),↑(.sh (.int l)),none,none,none]:=rfl;have S:ug [(kH,hP k (p++[s]))] [.tup [.str "put",.int a,.int h,.int l],ssL (putS s.1 a (j4 k,h,l)),spL s.2]=↑(.non,[hA (k++[.put a h l]) (p++[s]++[(putS s.1 a (j4 k,h,l),s.2)])]):=f;have U:z9 [ssL s.1,.int a,.lst (.tup [.int (j4 k),.int h,.int l]::(s.1.getD (a-1) []).map sD)]=↑(ssL (putS s.1 a (j4 k,h,l))):=e;have R:vw (kn 7 [hA k (p++[s])] [.int a,.int h,.int l])=↑(.rt (.int (j4 k)),[↑(.ag kH ↑0 (hP (k++[.put a h l]) (p++[s]++[(putS s.1 a (j4 k,h,l),s.2)]))),↑(.sh (.int a)),↑(.sh (.int h)),↑(.sh (.int l)),↑(.sh (ssL s.1)),↑(.sh (.int (j4 k))),↑(.sh (.lst (.tup [.int (j4 k),.int h,.int l]::(s.1.getD (a-1) []).map sD)))]):=by
  rw[m];generalize (s.1.getD (a-1) []).map sD=TL at *;unfold ssL at *;simp[vw,fK0,cQ0,nv,g,m9,nj,k1,k2,k3,V,xFrz,fFrz,wj,k5,noL,b,c,j,cL0,z1r,U,i,S,z1s]
 exact⟨by unfold z8 xL;rw[if_pos ⟨rfl,rfl⟩,R],by unfold zgf runL;rw[if_pos ⟨rfl,rfl⟩,R];rfl⟩
def newS(n:Nat):Hs:=(List.replicate n [],[])
theorem z47(Y:n<=5):zfn [(.ins true "House" [],[])] [.int n]=none/\zcq [(.ins true "House" [],[])] [.int n]=↑(.non,[(.ins true "House" ir,hP [] [newS n])]):=by
 have k1:=z1q (h:=n) ⋯ ⋯;have J:Few (rngD 0 n).length:=few (by rw[wc];lia);have c:=qi (te:=fLst (gg fNil)) (base:=[]) (λi:Nat=>D.int (0+(i:Int))) (λ_:Nat=>D.lst []) (List.range n) λi _=>⟨_,rfl⟩;have R:=og n ⋯;have S:kn 2 [(AK.ins true "House" [],[])] [.int n]=[↑(.ag (.ins true "House" []) ↑0 []),↑(.sh (.int n))]:=rfl;have U:(List.range n).map (λ_=>D.lst [])=(List.replicate n ([]:mn)).map λs=>D.lst (s.map sD):=by
  rw[List.map_const',jt,pj,cq]
 have I:zdw (kn 2 [(AK.ins true "House" [],[])] [.int n])=↑(.nx,[↑(.ag (.ins true "House" ir) ↑0 (hP [] [newS n])),↑(.sh (.int n))]):=by
  rw[S];unfold rngD at R J;rw[U] at c;have V:(True/\(Str.ofString "kept")∉([]:h7)/\0<900):=⟨trivial,by simp,by decide⟩;simp only[zdw,sSeq,sXp,m9,nj,ax,fVar,fNil,ah,ae,ac,k1,ml,aj,je,zx6,gg,bj,fg,if_true,ao,mr,fTup,fLst,ig,ij,R,J,c,cq,am,show 0+1+1<=64 by decide,show 0+1<=64 by decide];rw[if_pos V];simp only[ac,ah,ae,R,J,c,if_true,aj,am,bj,show 0+1+1<=64 by decide,show 0+1<=64 by decide];rfl
 exact⟨by unfold zfn xL;rw[if_pos ⟨rfl,rfl⟩,I],by unfold zcq runL;rw[if_pos ⟨rfl,rfl⟩,I];rfl⟩
def z48(D:n<=5)(I:F e=↑([.int n],e')):zx3 "House" zcq F e=↑((kH,hP [] [newS n]),e'):=by
 unfold zx3;rw[I,ac,(z47 D).2];rfl
def z2w(h:e[i]?=↑↑(.ag kH l (hP k p))):(frz false e)[i]?=↑↑(.ro kH (hP k p)):=by
 unfold frz;rw[bw,h];rfl
def zf(h:e[i]?=↑↑(.ag κ l ps))(D:F e=↑(ds,e))(I:m [(κ,ps)] ds=↑(d,[(κ,ps')])):lf m [i] F e=↑(d,e.set i ↑(.ag κ l ps')):=z1o h (r:=(ds,e)) D h I
variable{m:lx->la->Option (Str×lx)}
def zu4{d:Str}(h:e[i]?=↑↑(.ag κ l ps))(D:F e=↑(ds,e))(I:m [(κ,ps)] ds=↑(d,[(κ,ps')])):ny m [i] F e=↑(d,e.set i ↑(.ag κ l ps')):=zyw h (r:=(ds,e)) D h I
def zu5(h:e[i]?=↑↑(.ag κ l ps))(D:F e=↑(ds,e))(I:m [(κ,ps)] ds=none):ny m [i] F e=none:=zyx h (r:=(ds,e)) D h I
def plD:D->Prop | .int _=>True | .str _=>True |_=>False
theorem zji(xs:la)(R:∀x∈xs,plD x)(U:xs.length<=1000):we [.tup xs,.tup xs]=↑(.bl true):=by
 obtain⟨e',h1,v2,rfl⟩:=ud (i:=2) (g:=yl) (λk e=>∃v2,e=[↑(.sh (.tup xs)),↑(.sh (.tup xs)),v2]) (rngD 0 xs.length) [↑(.sh (.tup xs)),↑(.sh (.tup xs)),none] ⟨none,rfl⟩ (by
  rintro k d e hd ⟨v2,rfl⟩;obtain⟨rfl,I⟩:=ub hd;have J:atI xs (k:Int)=↑xs[k]:=by
   unfold atI;rw[tu ⋯ ⋯];simp[I]
  have S:=R _ (eg I);generalize xs[k]=x at *;cases x with
  |int i=>simp[yl,J,yc]
  |str i=>simp[yl,J]
  |_=>exact S.elim)
 have hi:=og xs.length ⋯;refine jw (e':=?w) rfl ?h;show zdr [↑(.sh (.tup xs)),↑(.sh (.tup xs)),none]=_;simp[zdr,hi,h1];rfl
theorem zsh(I:List la)(V:I.length<=1000)(R:∀x∈I,(∀y∈x,plD y)/\x.length<=1000):uh [.lst (I.map D.tup),.lst (I.map D.tup)]=↑(.bl true):=by
 obtain⟨e',h1,v2,rfl⟩:=ud (i:=2) (g:=zcg) (λk e=>∃v2,e=[↑(.sh (.lst (I.map D.tup))),↑(.sh (.lst (I.map D.tup))),v2]) (rngD 0 I.length) [↑(.sh (.lst (I.map D.tup))),↑(.sh (.lst (I.map D.tup))),none] ⟨none,rfl⟩ (by
  rintro k d e hd ⟨v2,rfl⟩;obtain⟨rfl,J⟩:=ub hd;have S:atI (I.map D.tup) (k:Int)=↑(.tup I[k]):=kh D.tup (by simp[J]);have U:=zji I[k] (R _ (eg J)).1 (R _ (eg J)).2;exact⟨[↑(.sh (.lst (I.map D.tup))),↑(.sh (.lst (I.map D.tup))),↑(.sh (.int (0+k)))],by simp[zcg,S,U],_,rfl⟩)
 have hi:=og I.length ⋯;refine jw (e':=?w) rfl ?h;show zda [↑(.sh (.lst (I.map D.tup))),↑(.sh (.lst (I.map D.tup))),none]=_;simp[zda,hi,h1];rfl
def dR:Deed->la
 | .put a h l=>[.str "put",.int a,.int h,.int l]
 | .tell a p l=>[.str "tell",.int a,.int p,.int l]
 | .go a=>[.str "go",.int a] | .dry=>[.str "dry"]
def dD_R(d:Deed):dD d=.tup (dR d):=by cases d <;> rfl
def yaj(d:Deed):(∀y∈dR d,plD y)/\(dR d).length<=1000:=by
 cases d <;> simp[dR,plD]
def zwb(k:m3)(I:k.length<=1000):uh [.lst (k.map dD),.lst (k.map dD)]=↑(.bl true):=by
 have:=zsh (k.map dR) (by rw[af];exact I) λx J=>by
  obtain⟨d,_,rfl⟩:=gc.mp J;exact yaj d
 rw[ip] at this;rwa [show k.map dD=k.map (D.tup ∘ dR) from kj λd _=>dD_R d]
variable{x:Sk}
def zy0(h:a-1<ss.length):(putS ss a x).flatten.Perm (x::ss.flatten):=by
 exact zl2 (x:=[x]) (by simp[h])
def zy1(h:a-1<ss.length):(putS ss a x).flatten.length=ss.flatten.length+1:=(zy0 h).length_eq
def z49{x:mn}(h:x∈ss):x.length<=ss.flatten.length:=(dw h).length_le
def zu6(h:xh [ssL s.1]=↑(iD os)):zd7 [hA k (p++[s])] []=↑(.lst (iD os)):=by
 unfold zd7 runQ;have D:(jx 1 [hA k (p++[s])] [])[0]?=↑↑(.ro kH (hP k (p++[s]))):=rfl;have h1:=zl6 (m:=ph) (F:=fNil) D (r:=([],jx 1 [hA k (p++[s])] [])) rfl D;have h2:=zyv (f:=iu ph [0] fNil) D;simp[se] at h1;simp[zid,h2,h1,h]
def zsi:zdl [hA k (p++[s])] []=↑(spL s.2):=by
 unfold zdl runQ;rw[if_pos ⟨rfl,rfl⟩];have D:(jx 1 [hA k (p++[s])] [])[0]?=↑↑(.ro kH (hP k (p++[s]))):=rfl;have h1:=zl6 (m:=qj) (F:=fNil) D (r:=([],jx 1 [hA k (p++[s])] [])) rfl D;have h2:=zyv (f:=iu qj [0] fNil) D;simp[yb] at h1;simp[ze8,h2,h1,spL]
theorem zu7(ss:mu)(D:ss.length<=1000):(if 0<ss.flatten.length then zde [] [ssL ss]=none/\zf6 [] [ssL ss]=some .non else zde [] [ssL ss]=↑("NothingWaits" : Str)):=by
 have h:=zsc ss D;generalize ss.flatten.length=n at *;split <;> rename_i I
 ·unfold zde zf6 xQ runQ
  rw[if_pos ⟨rfl,rfl⟩,if_pos ⟨rfl,rfl⟩,show jx 1 [] [ssL ss]=[↑(.sh (ssL ss))] from rfl];simp[zf5,h,show ¬n=0 by lia]
 ·unfold zde xQ
  rw[if_pos ⟨rfl,rfl⟩,show jx 1 [] [ssL ss]=[↑(.sh (ssL ss))] from rfl];simp[zf5,h,show n=0 by lia,lz]
def dryS(s:Hs)(a:Nat)(x:Sk)(tl:mn):Hs:=(s.1.set (a-1) tl,s.2++[(hrOf s.2,hrOf s.2+x.2.1,lss s.1.flatten)])
variable{tl:mn}
theorem z8t(V:xh [ssL s.1]=↑(iD (a::os)))(R:s.1[a-1]?=↑(x::tl))(S:1<=a)(Y:k.length<60)(o:s.1.length<=5)(q:p.length<=100)(Z:∀y∈s.1,y.length<=1000)(b:s.2.length<=1000)(c:0<s.1.flatten.length) :
  z0 [hA k (p++[s])] []=none/\zgh [hA k (p++[s])] []=↑(sD x,[hA (k++[.dry]) (p++[s]++[dryS s a x tl])]):=by
 have k1:=zu7 s.1 ⋯;rw[if_pos c] at k1;have k5:=wy (k.map dD);rw[if_pos (by rw[af];exact Y)] at k5;have e:=z2u R S;have f:=zpj R S ⋯;have g:=ztq s.1 Z;have h:ug [(kH,hP k (p++[s]))] [.tup [.str "dry"],ssL (s.1.set (a-1) tl),.lst (s.2.map sD++[.tup [.int (hrOf s.2),.int (hrOf s.2+x.2.1),.int (lss s.1.flatten)]])]=↑(.non,[hA (k++[.dry]) (p++[s]++[dryS s a x tl])]):=by
  have:=zq1 (k:=k) (p:=p++[s]) (d:=.dry) (ss:=s.1.set (a-1) tl) (sp:=s.2++[(hrOf s.2,hrOf s.2+x.2.1,lss s.1.flatten)]) ⋯ (by simp;lia);unfold spL at this;rw[b8] at this;exact this
 have i:=se (k:=k) (p:=p) (s:=s);have U:=yb (k:=k) (p:=p) (s:=s);have j:=zyy (k:=k) (p:=p) (s:=s);have kd:vy [sD x]=↑(.int x.2.1):=znl x;have l:Few ((s.2.map sD).length+(0+1)):=few (by rw[af];lia);have J:atI (iD (a::os)) 0=↑(.int (a:Int)):=by unfold iD;exact kh (k:=0) (λn:Nat=>D.int (n:Int)) rfl
 have m:kn 6 [hA k (p++[s])] []=[↑(.ag kH ↑0 (hP k (p++[s]))),none,none,none,none,none]:=rfl;have I:∃e',z7 (kn 6 [hA k (p++[s])] [])=↑(.rt (sD x),↑(.ag kH ↑0 (hP (k++[.dry]) (p++[s]++[dryS s a x tl])))::e'):=by
  rw[m];unfold spL at U;generalize s.2.map sD=SP at *;simp[z7,fK0,cQ0,nv,i,m9,nj,k1,xFrz,fFrz,wj,k5,noL,e,V,J,j,kd,g,f,U,l,cL0,z1r,h,z1s]
 obtain⟨e',I⟩:=I;exact⟨by unfold z0 xL;rw[if_pos ⟨rfl,rfl⟩,I],by unfold zgh runL;rw[if_pos ⟨rfl,rfl⟩,I];rfl⟩
def sw:Int->nb->Prop
 |_,[]=>True |b,x::r=>x.1=b/\x.1<=x.2.1/\sw x.2.1 r
def sv:Int->nb->Int
 |b,[]=>b |_,x::r=>sv x.2.1 r
def zoi:∀(sp:nb) (b:Int) (x:Spn),sv b (sp++[x])=x.2.1
 | [],_,_=>rfl |y::r,_,x=>zoi r y.2.1 x
def yx(sp:nb):hrOf sp=sv 0 sp:=by
 unfold hrOf;cases h:sp.getLast? with
 |none=>rw[yn.mp h];rfl |some x=>obtain⟨q,rfl⟩:=ym.mp h;rw[zoi]
def zsj:∀(sp:nb) (b:Int) (x:Spn),sw b sp->x.1=sv b sp->x.1<=x.2.1->sw b (sp++[x])
 | [],_,_,_,h,h2=>⟨h,h2,trivial⟩ |y::r,_,x,hc,h,h2=>⟨hc.1,hc.2.1,zsj r _ x hc.2.2 h h2⟩
theorem zu8:∀(sp:nb) (b:Int),sw b sp->b<=sv b sp
 | [],b,_=>Int.le_refl b |y::r,b,hc=>by have:=zu8 r _ hc.2.2;have:=hc.1;have:=hc.2.1;show b<=sv y.2.1 r;lia
def rts(sp:nb):i0:=(sp.map λx=>List.replicate (x.2.1-x.1).toNat x.2.2).flatten
def oy(h:Int)(sp:nb):Int:=(sp.map λx=>if x.1<h then x.2.2*((if x.2.1<h then x.2.1 else h)-x.1) else 0).sum
theorem zq2:∀(sp:nb) (b:Int),sw b sp->((rts sp).length:Int)=sv b sp-b
 | [],b,_=>by show(0:Int)=b-b;lia |x::r,b,hc=>by
   have D:=zq2 r _ hc.2.2;have e:rts (x::r)=List.replicate (x.2.1-x.1).toNat x.2.2++rts r:=rfl;rw[e,au,ff];have:=hc.1;have:=hc.2.1;show _=sv x.2.1 r-b
   lia
theorem zsk:∀(sp:nb) (b h:Int),sw b sp->h<=b->oy h sp=0
 | [],_,_,_,_=>rfl |x::r,b,h,hc,hb=>by
   have:=hc.1;have:=hc.2.1;have D:=zsk r x.2.1 h hc.2.2 ⋯;unfold oy at D ⊢;rw[bi,gy,D,if_neg ⋯];rfl
theorem z5a(n:Nat)(c:Int):(List.replicate n c).sum=c*n:=by
 induction n with
 |zero=>simp |succ n ih=>rw[h9,gy,ih,Int.natCast_add,jp];lia
theorem zu9:∀(sp:nb) (b h:Int),sw b sp->b<=h->oy h sp=((rts sp).take (h-b).toNat).sum
 | [],b,h,_,_=>by simp[oy,rts] |x::r,b,h,hc,hb=>by
   have h1:=hc.1;have h2:=hc.2.1;have e:rts (x::r)=List.replicate (x.2.1-x.1).toNat x.2.2++rts r:=rfl;have I:oy h (x::r)=(if x.1<h then x.2.2*((if x.2.1<h then x.2.1 else h)-x.1) else 0)+oy h r:=rfl;rw[e,I,List.take_append,vb,List.take_replicate,ff,z5a];by_cases c:x.2.1<h
   ·rw[zu9 r x.2.1 h hc.2.2 ⋯,if_pos ⋯,if_pos c,show(h-b).toNat-(x.2.1-x.1).toNat=(h-x.2.1).toNat by lia,show min (h-b).toNat (x.2.1-x.1).toNat=(x.2.1-x.1).toNat by lia,show(((x.2.1-x.1).toNat:Nat):Int)=x.2.1-x.1 by lia]
   ·rw[zsk r x.2.1 h hc.2.2 ⋯,show(h-b).toNat-(x.2.1-x.1).toNat=0 by lia,show min (h-b).toNat (x.2.1-x.1).toNat=(h-b).toNat by lia]
    by_cases D:x.1<h
    ·rw[if_pos D,if_neg c,show(((h-b).toNat:Nat):Int)=h-x.1 by lia];simp
    ·rw[if_neg D,show(h-b).toNat=0 by lia];simp
theorem zwc(f:0<=h)(h1:h<=hrOf sp)(V:∀x∈sp,0<=x.2.2/\x.2.2<=100000):zkr [] [spL sp,.int h]=none/\zkq [] [spL sp,.int h]=↑(.int (oy h sp)):=by
 obtain⟨e',S,J,R,v5,rfl⟩:=wz (ix:=[3,4,5]) (g:=zgg) (λx:Spn=>[D.int x.1,.int x.2.1,.int x.2.2]) (λp e=>∃J R v5,e=[↑(.sh (spL sp)),↑(.sh (.int h)),↑(.sh (.int (oy h p))),J,R,v5]) sp
  [↑(.sh (spL sp)),↑(.sh (.int h)),↑(.sh (.int 0)),none,none,none] ⟨none,none,none,rfl⟩ (λ_ _=>rfl) (by
   rintro p x q e U ⟨J,R,v5,rfl⟩;have i:=V x (by rw[U];simp);have sm:l9 x.2.2:=⟨by lia,by lia⟩;have Y:∀z:Int,dMul (.int x.2.2) (.int z)=↑(.int (x.2.2*z)):=λz=>by unfold dMul;exact if_pos (.inl sm)
   have Z:oy h (p++[x])=oy h p+(if x.1<h then x.2.2*((if x.2.1<h then x.2.1 else h)-x.1) else 0):=by unfold oy;simp
   rw[Z];by_cases c:x.1<h
   ·simp[qt,zgg,c,Y]
   ·simp[qt,zgg,c])
 have S:forU [3,4,5] zgg (sp.map sD) [↑(.sh (spL sp)),↑(.sh (.int h)),↑(.sh (.int 0)),none,none,none]=_:=S;have a:=zl7 sp;have b:decide (h<0)=false:=decide_eq_false ⋯;have d:decide (hrOf sp<h)=false:=decide_eq_false ⋯;have I:zkp (jx 6 [] [spL sp,.int h])=↑(.rt (.int (oy h sp)),[↑(.sh (spL sp)),↑(.sh (.int h)),↑(.sh (.int (oy h sp))),J,R,v5]):=by
  rw[show jx 6 [] [spL sp,.int h]=[↑(.sh (spL sp)),↑(.sh (.int h)),none,none,none,none] from rfl];unfold spL at *;simp[zkp,a,b,d,S]
 exact⟨by unfold zkr xQ;rw[if_pos ⟨rfl,rfl⟩,I],by unfold zkq runQ;rw[if_pos ⟨rfl,rfl⟩,I]⟩
def z5b(I:0<=h)(h1:h<=hrOf s.2)(J:∀x∈s.2,0<=x.2.2/\x.2.2<=100000):zgy [hA k (p++[s])] [.int h]=none/\zgx [hA k (p++[s])] [.int h]=↑(.int (oy h s.2)):=by
 have l:=zwc I h1 J;have D:zgw (jx 2 [hA k (p++[s])] [.int h])=↑(.rt (.int (oy h s.2)),[↑(.ro kH (hP k (p++[s]))),↑(.sh (.int h))]):=by
  rw[show jx 2 [hA k (p++[s])] [.int h]=[↑(.ro kH (hP k (p++[s]))),↑(.sh (.int h))] from rfl];simp[zgw,m9,nj,fK0r,cQ0,xv,yb,l]
 exact⟨by unfold zgy xQ;rw[if_pos ⟨rfl,rfl⟩,D],by unfold zgx runQ;rw[if_pos ⟨rfl,rfl⟩,D]⟩
theorem z5c(ss:mu)(S:ss.length<=1000)(R:∀s∈ss,s.length<=1000):zjc [ssL ss]=↑(.int (lss ss.flatten)):=by
 have c:=qi (te:=dy bSum (ax (fLst (ig (fiS (fVar 0)) [] fYes (fIxV 0 (fC (.int 2))))) (fNil))) (base:=[]) (λs:mn=>D.lst (s.map sD)) (λs:mn=>D.int (s.map λx:Sk=>x.2.2).sum) ss λs U=>by
  have V:=qi (te:=fIxV 0 (fC (.int 2))) (base:=[]) sD (λx:Sk=>D.int x.2.2) s λx _=>⟨_,by simp[sD,xn];rfl⟩;have I:=xz (λx:Sk=>x.2.2) s;have J:Few (s.map sD).length:=few (by rw[af];have:=R s U;lia);generalize s.map sD=L at *;exact⟨_,by simp[ig,J,V,I];rfl⟩
 have I:=xz (λs:mn=>(s.map λx:Sk=>x.2.2).sum) ss;have J:Few (ss.map λs=>D.lst (s.map sD)).length:=few (by rw[af];lia);have Y:(ss.map λs:mn=>(s.map λx:Sk=>x.2.2).sum).sum=lss ss.flatten:=by
  clear c I J S R;induction ss with
  |nil=>rfl |cons a l ih=>rw[bi,gy,ih,df,tq];rfl
 rw[Y] at I;refine jw (e':=[↑(.sh (ssL ss))]) rfl ?_;show zlg [↑(.sh (ssL ss))]=_;unfold ssL;generalize (ss.map λs=>D.lst (s.map sD))=L at *;simp[zlg,ig,J] at c ⊢;simp[c,I]
def zy2(a b:nb):rts (a++b)=rts a++rts b:=by simp[rts]
theorem zva(sp:nb)(I:sw b sp)(f:sv b sp-b<=100000):zhw [spL sp]=↑(.lst ((rts sp).map D.int)):=by
 have Y:=zq2 sp b I;obtain⟨e',U,v2,R,S,rfl⟩:=wz (ix:=[2,3,4]) (g:=zf7) (λx:Spn=>[D.int x.1,.int x.2.1,.int x.2.2]) (λp e=>∃v2 R S,e=[↑(.sh (spL sp)),↑(.sh (.lst ((rts p).map D.int))),v2,R,S]) sp
  [↑(.sh (spL sp)),↑(.sh (.lst [])),none,none,none] ⟨none,none,none,rfl⟩ (λ_ _=>rfl) (by
   rintro p x q e J ⟨v2,R,S,rfl⟩;have Z:(rts p).length+(x.2.1-x.1).toNat<=100000:=by
    have:(rts sp).length=(rts p).length+((x.2.1-x.1).toNat+(rts q).length):=by rw[J,zy2,au];congr 1;show(List.replicate _ _++rts q).length=_;simp
    lia
   have V:Bnd (-(2 ^ 62)) (2 ^ 62) (x.2.1-x.1):=by
    have:-100000<=x.2.1-x.1:=by
     have a:∀(l:nb) (b:Int),sw b l->x∈l->x.1<=x.2.1:=by
      intro l;induction l with
      |nil=>intro b _ h;cases h
      |cons y r ih=>intro b I h;rcases ce.mp h with rfl |h;exact I.2.1;exact ih _ I.2.2 h
     have:=a sp b I (by rw[J];simp)
     lia
    exact⟨by lia,by lia⟩
   have c:Few ((0+1)*(x.2.1-x.1).toNat):=by show _<=_;lia
   have f2:Few (((rts p).map D.int).length+(List.replicate (x.2.1-x.1).toNat (D.int x.2.2)).length):=by show _<=_;rw[af,ff];lia
   have d:(rts (p++[x])).map D.int=(rts p).map D.int++List.replicate (x.2.1-x.1).toNat (D.int x.2.2):=by rw[zy2,b8,show rts [x]=List.replicate (x.2.1-x.1).toNat x.2.2 by simp[rts],pj]
   refine⟨[↑(.sh (spL sp)),↑(.sh (.lst ((rts (p++[x])).map D.int))),↑(.sh (.int x.1)),↑(.sh (.int x.2.1)),↑(.sh (.int x.2.2))],?_,_,_,_,rfl⟩;rw[d];simp only[qt,zf7,sSet,fLst,fCat,fRep,gg,ax,fNil,fVar,fBin,dSub,ae,ah,ac,aj,ao,aq,am,bj,show 0+1<=64 by decide,if_true,c,V,and_self,ztj,f2])
 have U:forU [2,3,4] zf7 (sp.map sD) [↑(.sh (spL sp)),↑(.sh (.lst [])),none,none,none]=_:=U;refine jw (e':=[↑(.sh (spL sp)),↑(.sh (.lst ((rts sp).map D.int))),v2,R,S]) rfl ?_;show zkf [↑(.sh (spL sp)),none,none,none,none]=_;unfold spL at *;simp[zkf,U]
def xK0r{f:XF}:xK κ 0 f (↑(.ro κ ps)::e)=f (↑(.ro κ ps)::e):=yai rfl
def xcQ0{m:lx->la->kf}:ma m [0] F (↑sl::e)=(F (↑sl::e)).bind λr=>(getR r.2 [0]).bind λags=>(m ags r.1).map λd=>(d,r.2):=if_pos λk I=>by rw[de.mp I];exact⟨_,rfl⟩
theorem zsl(V:sw 0 s.2)(t:∀x∈s.2,0<=x.2.2/\x.2.2<=100000)(w:hrOf s.2<=100000)(u:s.2.length<=1000):zdy [hA k (p++[s])] [spL s.2]=↑(.bl true):=by
 have I:=zq2 s.2 0 V;rw[<-yx] at I;have Y:=zva s.2 V (by rw[<-yx];lia);have Z:=zyy (k:=k) (p:=p) (s:=s);have a:=zsi (k:=k) (p:=p) (s:=s);have b:uh [spL s.2,spL s.2]=↑(.bl true):=zka (λx:Spn=>[x.1,x.2.1,x.2.2]) s.2 u λx _=>by simp
 have J:(((rts s.2).map D.int).length:Int)=hrOf s.2:=by rw[af];lia
 have R:∀h:Int,0<=h->h<=hrOf s.2->bSum [.lst (cutD ((rts s.2).map D.int) none ↑h)]=↑(.int (oy h s.2)):=λh h1 h2=>by
  have c:=zqt ((rts s.2).map D.int) h.toNat (by rw[af];lia);rw[show((h.toNat:Nat):Int)=h by lia] at c;rw[c,<-o9,zu9 s.2 0 h V h1,Int.sub_zero];have:=xz (λx:Int=>x) ((rts s.2).take h.toNat);rw[List.map_id'] at this;exact this
 obtain⟨e',d,S,v5,rfl⟩:=sd (i:=4) (g:=zc5) D.int (λq e=>∃S v5,e=[↑(.ro kH (hP k (p++[s]))),↑(.sh (spL s.2)),↑(.sh (.lst ((rts s.2).map D.int))),↑(.sh (.int (hrOf s.2))),S,v5]) [0,hrOf s.2 / 3,(if hrOf s.2-1 > 0 then hrOf s.2-1 else 0),hrOf s.2]
  [↑(.ro kH (hP k (p++[s]))),↑(.sh (spL s.2)),↑(.sh (.lst ((rts s.2).map D.int))),↑(.sh (.int (hrOf s.2))),none,none] ⟨none,none,rfl⟩ (by
   rintro q h r e f ⟨S,v5,rfl⟩;have o:h∈[0,hrOf s.2 / 3,(if hrOf s.2-1 > 0 then hrOf s.2-1 else 0),hrOf s.2]:=by rw[f];simp
   have U:0<=h/\h<=hrOf s.2:=by
    simp at o;rcases o with rfl |rfl |rfl |rfl
    ·lia
    ·lia
    ·split <;> lia
    ·lia
   have l:=z5b (k:=k) (p:=p) (s:=s) U.1 U.2 t;have sm:=R h U.1 U.2;have j:=yc (oy h s.2);simp[zc5,xK0r,xcQ0,fK0r,cQ0,xv,l,j,sm])
 have d:forL 4 zc5 [.int 0,.int (hrOf s.2 / 3),.int (if hrOf s.2-1 > 0 then hrOf s.2-1 else 0),.int (hrOf s.2)] [↑(.ro kH (hP k (p++[s]))),↑(.sh (spL s.2)),↑(.sh (.lst ((rts s.2).map D.int))),↑(.sh (.int (hrOf s.2))),none,none]=_:=d;have v:dDiv (.int (hrOf s.2)) (.int 3)=↑(.int (hrOf s.2 / 3)):=by unfold dDiv;exact if_pos b3
 have j:=yc (hrOf s.2);have m:zdx (jx 6 [hA k (p++[s])] [spL s.2])=↑(.rt (.bl true),[↑(.ro kH (hP k (p++[s]))),↑(.sh (spL s.2)),↑(.sh (.lst ((rts s.2).map D.int))),↑(.sh (.int (hrOf s.2))),S,v5]):=by
  rw[show jx 6 [hA k (p++[s])] [spL s.2]=[↑(.ro kH (hP k (p++[s]))),↑(.sh (spL s.2)),none,none,none,none] from rfl];generalize (rts s.2).map D.int=L at *;have n:(!decide (hrOf s.2=(L.length:Int)))=false:=by rw[J];simp
  simp only[zdx,sSeq,sSet,dy,ax,fNil,fVar,ae,ah,ac,aj,ao,aq,Y,fK0r,cQ0,xv,Z,sIf,fOr,fNot,fTst,j,i4,bf,if_false,fBin,gq,dNe,n,sNil,sFor,fiS,fLst,gg,fC,v,bMax,dSub,am,bj,show 0+1+1+1+1<=64 by decide,if_true,d,sRet,a,b]
 unfold zdy runQ;rw[if_pos ⟨rfl,rfl⟩,m]
def drP(ss:mu)(p:ik):List la:=(List.range ss.length).map λj=>((ss.getD j []).drop (p.count (j+1))).map sD
def z5d(ss:mu):ss.map (λs=>s.map sD)=drP ss []:=by
 unfold drP;apply ek;intro i;by_cases h:i<ss.length
 ·simp[h]
 ·simp[h]
theorem z1t(ss:mu)(J:ss.length<=1000):zht [ssL ss]=↑(drP ss []):=by
 rw[<-z5d];have c:=zmd (te:=ij pq (ax (fVar 0) (fNil))) (base:=[]) (λs:mn=>D.lst (s.map sD)) (λs:mn=>s.map sD) ss λs _=>⟨_,by simp;rfl⟩;have I:Few (ss.map λs=>D.lst (s.map sD)).length:=few (by rw[af];lia);unfold zht yp;rw[if_pos (show[ssL ss].length=1 from rfl)];have:zhs (jy 1 [ssL ss])=↑(.r2 (ss.map λs=>s.map sD),[↑(.sh (ssL ss))]):=by
  show zhs [↑(.sh (.lst (ss.map λs:mn=>D.lst (s.map sD))))]=_;unfold ssL;generalize (ss.map λs=>D.lst (s.map sD))=L at *;simp[zhs,zuc,wq,I,c]
 rw[this]
theorem zy3{p:ik}(S:Whole ss (p++a::q)) :
  ∃r:la,(drP ss p)[a-1]?=↑(sD (oa ss a (p.count a))::r)/\(drP ss p).set (a-1) r=drP ss (p++[a])/\ixN (drP ss p).length ((a:Int)-1)=↑(a-1):=by
 obtain⟨s,U,J,R,V,Y⟩:=S.at;have hd:s.drop (p.count a)=oa ss a (p.count a)::s.drop (p.count a+1):=by
  rw[fm J];rw[av J] at R;rw[bz R]
 have I:ss.getD (a-1) []=s:=by rw[bx,U];rfl
 refine⟨(s.drop (p.count a+1)).map sD,?_,?_,?_⟩
 ·unfold drP
  rw[bw,jh ⋯,aj,I,show a-1+1=a by lia,hd,bi]
 ·apply ek
  intro i;unfold drP;rw[i7];by_cases hi:i<ss.length
  ·by_cases e:a-1=i
   ·subst e
    simp only[af,jt,hi,if_true];rw[bw,jh hi,aj,I,zu,if_pos ⋯,show a-1+1=a by lia]
   ·rw[if_neg e,bw,bw,jh hi,aj,aj,zu,if_neg ⋯];rfl
  ·by_cases e:a-1=i
   ·subst e;lia
   ·rw[if_neg e,cg (by simp;lia),cg (by simp;lia)]
 ·rw[tu ⋯ (by simp[drP];lia)]
  congr 1
  lia
def zy4:∀(p:List (Nat×Sk)) (h:Int),∀r∈ly h p,r.length<=1000:=λp=>by
 induction p with
 |nil=>intro h r hr;simp[ly] at hr
 |cons x p ih =>
   intro h r hr;rw[ly] at hr;rcases ce.mp hr with rfl |hr
   ·simp
   ·exact ih _ r hr
theorem ztv(t:Whole ss os)(C:ss.length<=900)(u:ss.flatten.length<=14):zlj [ssL ss,.lst (iD os)]=↑(.lst ((ly 0 (os.zip (tk ss os))).map iT)):=by
 have I:=z1t ss ⋯;have J:os.length<=14:=by rw[t.len];exact u
 have V:∀s∈ss,s.length<=14:=λs h=>cr (dw h).length_le u;have Z:∀(p:ik) (a:Nat),(p++[a]).zip (tk ss (p++[a]))=p.zip (tk ss p)++[(a,oa ss a (p.count a))]:=λp a=>by
  rw[zoe,List.zip_append (by rw[yy])];rfl
 have b:∀p:ik,(p.zip (tk ss p)).map (·.2)=tk ss p:=λp=>by
  rw[t3];rw[yy];exact b7 _
 obtain⟨e',h1,v5,v6,rfl⟩:=sd (i:=5) (g:=zg1) (λa:Nat=>D.int (a:Int)) (λp e=>∃v5 v6,e=[↑(.sh (ssL ss)),↑(.sh (.lst (iD os))),↑(.ow ((ly 0 (p.zip (tk ss p))).map iT)),↑(.sh (.int (hrs (tk ss p)))),↑(.o2 (drP ss p)),v5,v6]) os
  [↑(.sh (ssL ss)),↑(.sh (.lst (iD os))),↑(.ow []),↑(.sh (.int 0)),↑(.o2 (drP ss [])),none,none] ⟨none,none,rfl⟩ (by
   rintro p a q e R ⟨v5,v6,rfl⟩;have c:Whole ss (p++a::q):=by rw[<-R];exact t
   obtain⟨r,v,S,d⟩:=zy3 c;have w:p.length<=14:=by rw[R] at J;simp at J;lia
   have y:Few (((ly 0 (p.zip (tk ss p))).map iT).length+1):=few (by rw[af,zl3,mw,yy];lia);have z:(sD (oa ss a (p.count a))::r).length<=100:=by
    have:∀ds∈drP ss p,ds.length<=14:=λds f=>by
     obtain⟨j,U,rfl⟩:=gc.mp f;have U:j<ss.length:=gi.mp U;rw[af,fb];have:=V ss[j] (eg U);simp[U]
     lia
    have:=this _ (az v)
    lia
   have k:Few (sD (oa ss a (p.count a))::r).length:=few ⋯;have l:ixN (sD (oa ss a (p.count a))::r).length 0=↑0:=by rw[tu ⋯ (by simp)];rfl
   have A:hrs (tk ss (p++[a]))=hrs (tk ss p)+(oa ss a (p.count a)).2.1:=by rw[zoe,pz];simp[hrs]
   have B:(ly 0 ((p++[a]).zip (tk ss (p++[a])))).map iT=(ly 0 (p.zip (tk ss p))).map iT++[.tup [.int (oa ss a (p.count a)).1,.int (a:Int),.int (hrs (tk ss p)),.int (hrs (tk ss p)+(oa ss a (p.count a)).2.1)]]:=by
    rw[Z,zmn,b8,b];simp[iT]
   generalize oa ss a (p.count a)=x at *;rw[B,A,<-S];generalize (ly 0 (p.zip (tk ss p))).map iT=M at *;have m:(sD x::r).eraseIdx 0=r:=rfl;have n:(sD x::r)[0]?=↑(sD x):=rfl;generalize sD x::r=Y at *;simp[zg1,d,v,k,l,m,n,sD,z71,xo,y])
 refine jw (e':=[↑(.sh (ssL ss)),↑(.sh (.lst (iD os))),↑(.sh (.lst ((ly 0 (os.zip (tk ss os))).map iT))),↑(.sh (.int (hrs (tk ss os)))),↑(.o2 (drP ss os)),v5,v6]) rfl ?_;show zli [↑(.sh (ssL ss)),↑(.sh (.lst (iD os))),none,none,none,none,none]=_;have o:forL 5 zg1 (iD os) [↑(.sh (ssL ss)),↑(.sh (.lst (iD os))),↑(.ow []),↑(.sh (.int 0)),↑(.o2 (drP ss [])),none,none]=_:=h1;generalize iD os=O at *;simp[zli,zn1,I,o]
def z5e(h:zhu [ssL s.1]=↑d):zg0 [hA k (p++[s])] []=↑d:=by
 unfold zg0 runQ;rw[if_pos ⟨rfl,rfl⟩,show jx 1 [hA k (p++[s])] []=[↑(.ro kH (hP k (p++[s])))] from rfl];simp[zje,fK0r,cQ0,xv,se,h]
def z8u(h:zi3 [ssL s.1]=↑d):zhx [hA k (p++[s])] []=↑d:=by
 unfold zhx runQ;rw[if_pos ⟨rfl,rfl⟩,show jx 1 [hA k (p++[s])] []=[↑(.ro kH (hP k (p++[s])))] from rfl];simp[zkg,fK0r,cQ0,xv,se,h]
def z5f(D:xh [ssL s.1]=↑(iD os))(h:zhr [ssL s.1,.lst (iD os)]=↑d):zgz [hA k (p++[s])] []=↑d:=by
 unfold zgz runQ;rw[if_pos ⟨rfl,rfl⟩,show jx 1 [hA k (p++[s])] []=[↑(.ro kH (hP k (p++[s])))] from rfl];simp[zjd,fK0r,cQ0,xv,se,zu6 D,h]
theorem zy5{X:D}(S:∀x∈s.1.flatten,jb x)(I:s.1.flatten.length<=14)(H:s.1.length<=5)(b:k.length<=1000)(c:sw 0 s.2)(d:∀x∈s.2,0<=x.2.2/\x.2.2<=100000)(e:hrOf s.2<=100000)(Y:s.2.length<=1000) :
  zd9 [hA k (p++[s])] [.lst [ssL s.1,.lst (k.map dD),X,spL s.2]]=↑(.bl true):=by
 have Z:∀x∈s.1,x.length<=1000:=λx h=>by have:=z49 h;lia
 obtain⟨ts,ok,J⟩:=zh8 s.1 S I;have U:=zi8 ok J I;have a:=ztk ok S I ⋯;have V:=ok.whole;have f:(jv ts).length<=14:=by rw[V.len];exact I
 have g:=zwa (k:=k) (p:=p) (s:=s) ⋯;have i:zdk [ssL s.1,ssL s.1]=↑(.bl true):=zoo s.1 ⋯ Z;have j:=z1p (k:=k) (p:=p++[s]);have l:=zwb k b;have m:=zu6 (k:=k) (p:=p) U;have n:=ztl (jv ts) ⋯;have o:=z5e (k:=k) (p:=p) (zqp ok J S ⋯ I);have q:=yc (n8 0 (tk s.1 (jv ts)));have t:=zr8 V ⋯ ⋯;have u:=zto (tk s.1 (jv ts)) λx v=>S x (V.sk x v);have w:=z5f (k:=k) (p:=p) U (zqn V ⋯ ⋯);have y:=ztv V ⋯ I;have z:uh [.lst ((ly 0 ((jv ts).zip (tk s.1 (jv ts)))).map iT),.lst ((ly 0 ((jv ts).zip (tk s.1 (jv ts)))).map iT)]=↑(.bl true):=zka (λr:i0=>r) (ly 0 ((jv ts).zip (tk s.1 (jv ts)))) (by rw[zl3,mw,yy];lia) (zy4 _ _);have A:=zsl (k:=k) (p:=p) c d e Y;have B:=z8u (k:=k) (p:=p) (zsb ok J S ⋯ I);have C:=ztp ok S ⋯ I;have E:atI [ssL s.1,.lst (k.map dD),X,spL s.2] 0=↑(ssL s.1):=rfl;have F:atI [ssL s.1,.lst (k.map dD),X,spL s.2] 1=↑(.lst (k.map dD)):=rfl;have G:atI [ssL s.1,.lst (k.map dD),X,spL s.2] 3=↑(spL s.2):=rfl;have R:∃e',zf8 (jx 5 [hA k (p++[s])] [.lst [ssL s.1,.lst (k.map dD),X,spL s.2]])=↑(.rt (.bl true),e'):=by
  rw[show jx 5 [hA k (p++[s])] [.lst [ssL s.1,.lst (k.map dD),X,spL s.2]]=[↑(.ro kH (hP k (p++[s]))),↑(.sh (.lst [ssL s.1,.lst (k.map dD),X,spL s.2])),none,none,none] from rfl];simp[zf8,E,F,G,fK0r,cQ0,xv,g,i,j,l,a,m,n,o,q,t,u,w,y,z,A,B,C]
 obtain⟨e',R⟩:=R;unfold zd9 runQ;rw[if_pos ⟨rfl,rfl⟩,R]
variable{t:mn}
theorem zq3(h:ss[a-1]?=↑t)(I:1<=a)(J:ss.length<=1000):(if t.length=0 then yi [] [ssL ss,.int (a:Int)]=↑("EmptyStack" : Str) else yi [] [ssL ss,.int (a:Int)]=none/\zfa [] [ssL ss,.int (a:Int)]=some .non):=by
 have h1:=vd h I;have R:=(ak.mp h).1;have e:jx 2 [] [ssL ss,.int (a:Int)]=[↑(.sh (ssL ss)),↑(.sh (.int (a:Int)))]:=rfl;have D:((t.map sD).length:Int)=t.length:=by rw[af]
 generalize t.map sD=T at *;split <;> rename_i S
 ·unfold yi xQ
  rw[if_pos ⟨rfl,rfl⟩,e];unfold ssL;have c:decide ((T.length:Int)=0)=true:=decide_eq_true ⋯;simp only[zg2,sIf,fTst,fBin,dy,ax,fIxV,ixSl,fVar,fC,fNil,dSub,ae,ah,ac,aj,h1,bLen,dEq,c,if_true,lz,vInt,show((a:Int)).natAbs<1000000 by lia]
 ·unfold yi zfa xQ runQ
  rw[if_pos ⟨rfl,rfl⟩,if_pos ⟨rfl,rfl⟩,e];unfold ssL;have c:decide ((T.length:Int)=0)=false:=decide_eq_false ⋯;simp only[zg2,sIf,fTst,fBin,dy,ax,fIxV,ixSl,fVar,fC,fNil,dSub,ae,ah,ac,aj,h1,bLen,dEq,c,bf,if_false,sNil,and_self]
def goS(s:Hs)(a:Nat)(tl:mn):Hs:=(s.1.set (a-1) tl,s.2)
theorem yak(I:s.1[a-1]?=↑(x::tl))(J:1<=a)(R:k.length<60)(c:s.1.length<=5)(e:p.length<=100) :
  zx [hA k (p++[s])] [.int (a:Int)]=none/\zhk [hA k (p++[s])] [.int (a:Int)]=↑(sD x,[hA (k++[.go a]) (p++[s]++[goS s a tl])]):=by
 have f:=(ak.mp I).1;have k1:=zl (ss:=s.1) (a:=a) ⋯ ⋯;have k2:=zq3 I J ⋯;rw[if_neg (by simp)] at k2;have k5:=wy (k.map dD);rw[if_pos (by rw[af];exact R)] at k5;have S:=z2u I J;have U:=zpj I J ⋯;have V:ug [(kH,hP k (p++[s]))] [.tup [.str "go",.int (a:Int)],ssL (s.1.set (a-1) tl),spL s.2]=↑(.non,[hA (k++[.go a]) (p++[s]++[goS s a tl])]):=zq1 (k:=k) (p:=p++[s]) (d:=.go a) (ss:=s.1.set (a-1) tl) (sp:=s.2) ⋯ (by simp;lia);have Y:=se (k:=k) (p:=p) (s:=s);have Z:=yb (k:=k) (p:=p) (s:=s);have b:kn 3 [hA k (p++[s])] [.int (a:Int)]=[↑(.ag kH ↑0 (hP k (p++[s]))),↑(.sh (.int (a:Int))),none]:=rfl;have D:yf (kn 3 [hA k (p++[s])] [.int (a:Int)])=↑(.rt (sD x),[↑(.ag kH ↑0 (hP (k++[.go a]) (p++[s]++[goS s a tl]))),↑(.sh (.int (a:Int))),↑(.sh (ssL s.1))]):=by
  rw[b];generalize spL s.2=SP at *;simp[yf,fK0,cQ0,nv,Y,m9,nj,k1,k2,xFrz,fFrz,wj,k5,noL,S,U,Z,cL0,z1r,V,z1s]
 exact⟨by unfold zx xL;rw[if_pos ⟨rfl,rfl⟩,D],by unfold zhk runL;rw[if_pos ⟨rfl,rfl⟩,D];rfl⟩
theorem zvb{m:Int}:(if m<1\/(t.length:Int)<m then zdf [] [.lst (t.map sD),.int m]=↑("UnknownPlace" : Str) else zdf [] [.lst (t.map sD),.int m]=none/\zf9 [] [.lst (t.map sD),.int m]=some .non):=by
 have e:jx 2 [] [.lst (t.map sD),.int m]=[↑(.sh (.lst (t.map sD))),↑(.sh (.int m))]:=rfl;have D:((t.map sD).length:Int)=t.length:=by rw[af]
 generalize t.map sD=T at *;split <;> rename_i I
 ·unfold zdf xQ
  rw[if_pos ⟨rfl,rfl⟩,e];by_cases h1:m<1
  ·simp[zea,h1,lz]
  ·simp[zea,h1,show(T.length:Int)<m by lia,lz]
 ·unfold zdf zf9 xQ runQ
  rw[if_pos ⟨rfl,rfl⟩,if_pos ⟨rfl,rfl⟩,e];simp[zea,show ¬m<1 by lia,show ¬(T.length:Int)<m by lia]
def zsm(x:Sk)(l:Int):zlk [sD x,.int l]=↑(sD (x.1,x.2.1,l)):=by
 rfl
theorem z5g{m:Nat}{l:Int}(J:s.1[a-1]?=↑t)(S:t[m-1]?=↑x)(R:1<=a)(z:1<=m)(c:0<=l)(h1:l<=100)(e:k.length<60)(A:s.1.length<=5)(f:t.length<=1000)(B:p.length<=100) :
  zdz [hA k (p++[s])] [.int (a:Int),.int (m:Int),.int l]=none/\zfb [hA k (p++[s])] [.int (a:Int),.int (m:Int),.int l]=↑(.int x.2.2,[hA (k++[.tell a m l]) (p++[s]++[(s.1.set (a-1) (t.set (m-1) (x.1,x.2.1,l)),s.2)])]):=by
 have C:=(ak.mp J).1;have E:=(ak.mp S).1;have k1:=zl (ss:=s.1) (a:=a) ⋯ ⋯;have k2:=zq3 J R ⋯;rw[if_neg ⋯] at k2;have k3:=zvb (t:=t) (m:=m);rw[if_neg ⋯] at k3;have g:=zq0 (h:=l) c h1;have k5:=wy (k.map dD);rw[if_pos (by rw[af];exact e)] at k5;have i:=vd J R;have j:atI (t.map sD) ((m:Int)-1)=↑(sD x):=by
  rw[show(m:Int)-1=((m-1:Nat):Int) by lia];exact kh sD S
 have U:=zi9 (ss:=s.1) (a:=a) (t.set (m-1) (x.1,x.2.1,l)) R ⋯ ⋯;have F:(t.map sD).length=t.length:=af ..;have V:=zqt (t.map sD) (m-1) ⋯;rw[show((m-1:Nat):Int)=(m:Int)-1 by lia] at V;have n:=znm (t.map sD) m ⋯;have b:=zyu (t.map sD) (m-1) (sD (x.1,x.2.1,l)) ⋯;rw[show m-1+1=m by lia] at b;have o:Few (((t.map sD).take (m-1)).length+(0+1)):=few (by simp only[du];lia);have f2:Few (((t.map sD).take (m-1)++[sD (x.1,x.2.1,l)]).length+((t.map sD).drop m).length):=few (by simp[du,fb];lia);have q:(t.set (m-1) (x.1,x.2.1,l)).map sD=(t.map sD).set (m-1) (sD (x.1,x.2.1,l)):=gw ..;rw[q,<-b] at U;have r:ug [(kH,hP k (p++[s]))] [.tup [.str "tell",.int (a:Int),.int (m:Int),.int l],ssL (s.1.set (a-1) (t.set (m-1) (x.1,x.2.1,l))),spL s.2]=↑(.non,[hA (k++[.tell a m l]) (p++[s]++[(s.1.set (a-1) (t.set (m-1) (x.1,x.2.1,l)),s.2)])]):=zq1 (k:=k) (p:=p++[s]) (d:=.tell a m l) (ss:=s.1.set (a-1) (t.set (m-1) (x.1,x.2.1,l))) (sp:=s.2) ⋯ (by simp;lia);have u:=se (k:=k) (p:=p) (s:=s);have v:=yb (k:=k) (p:=p) (s:=s);have w:=zsm x l;have kd:=zqm x;have y:kn 8 [hA k (p++[s])] [.int (a:Int),.int (m:Int),.int l]=[↑(.ag kH ↑0 (hP k (p++[s]))),↑(.sh (.int (a:Int))),↑(.sh (.int (m:Int))),↑(.sh (.int l)),none,none,none,none]:=rfl;have I:∃e',uz (kn 8 [hA k (p++[s])] [.int (a:Int),.int (m:Int),.int l])=↑(.rt (.int x.2.2),↑(.ag kH ↑0 (hP (k++[.tell a m l]) (p++[s]++[(s.1.set (a-1) (t.set (m-1) (x.1,x.2.1,l)),s.2)])))::e'):=by
  rw[y];unfold ssL at *;generalize (s.1.map λs=>D.lst (s.map sD))=SL at *;generalize (t.map sD).take (m-1)=TA at *;generalize (t.map sD).drop m=TB at *;generalize t.map sD=T at *;generalize sD (x.1,x.2.1,l)=Y at *;generalize sD x=Z at *;refine⟨[↑(.sh (.int (a:Int))),↑(.sh (.int (m:Int))),↑(.sh (.int l)),↑(.sh (.lst SL)),↑(.sh (.lst T)),↑(.sh Z),↑(.sh (.lst (TA++[Y]++TB)))],?_⟩;simp only[uz,sSeq,sSet,sXp,je,fK0,cQ0,fNil,ac,nv,u,aj,aq,ao,m9,nj,ax,fVar,ah,ae,k1,k2,k3,g,ml,xFrz,fFrz,wj,k5,noL,if_true,dy,fIxV,ixSl,fBin,fC,dSub,i,j,fLst,fCat,fSl,fO0,fO1,V,n,gg,w,o,f2,fTup,am,bj,show 0+1<=64 by decide,show 0+1+1+1+1<=64 by decide,U,v,cL0,z1r,r,bi,cq,z1s,sRet,kd]
 obtain⟨e',I⟩:=I;exact⟨by unfold zdz xL;rw[if_pos ⟨rfl,rfl⟩,I],by unfold zfb runL;rw[if_pos ⟨rfl,rfl⟩,I];rfl⟩
abbrev dsO(ss:mu):List la:=ss.map λs=>s.map sD
def z2x(h:e[j]?=↑↑(.sh d)):(frz false e)[j]?=↑↑(.sh d):=by
 unfold frz;rw[bw,h];rfl
def z2y(h:e[j]?=↑↑(.o2 (dsO ss))):(frz false e)[j]?=↑↑(.sh (ssL ss)):=by
 unfold frz;rw[bw,h];show ↑↑(Sl.sh (.lst ((dsO ss).map D.lst)))=_;unfold dsO ssL;rw[ip];rfl
def z2z(r:mn):noLs (r.map sD)=true:=by
 induction r with
 |nil=>rfl |cons x r ih=>rw[bi];unfold noLs;rw[ih];rfl
variable{c w:Str}
def zy6(h:y0 c=↑w):((List.range 13).filter λk=>c==md.getD k "").map (λk=>D.str (sy.getD k ""))=[D.str w]:=by
 have I:c∈md:=zpe (by unfold kdT;rw[h];rfl);simp[md] at I;rcases I with rfl |rfl |rfl |rfl |rfl |rfl |rfl |rfl |rfl |rfl |rfl |rfl |rfl <;> cases h <;> rfl
theorem z1u(c:Str)(d:D)(h:kdT c=↑d):runK 4 z4u c d:=by
 obtain⟨w,R,rfl⟩:=im.mp h;intro ea;have S:iR1 [.int 13]=↑(rngD 0 13):=og 13 (by decide);have U:∀n,n<=100->Few n=True:=λn a=>eq_true (few ⋯);have I:=zlv (tt:=fAnd (fTst (fIxV 2 (fVar 0))) (fTst (fIsx ea 3 true))) (te:=fIxV 1 (fVar 0)) (base:=[↑(.sh (.lst (sy.map D.str))),↑(.sh (.lst (md.map λn=>D.bl (c==n)))),↑(.sh (.exc ea))]) (λj:Nat=>D.int (0+(j:Int))) (λk=>D.str (sy.getD k "")) (λk=>c==md.getD k "") (List.range 13) (λk J=>by
  have J:=gi.mp J;have V:atI (md.map λn=>D.bl (c==n)) (0+(k:Int))=↑(.bl (c==md.getD k "")):=by
   rw[gm,kh (λn:Str=>D.bl (c==n)) (av (show k<md.length from J)),bx,av (show k<md.length from J)];rfl
  have Y:atI (sy.map D.str) (0+(k:Int))=↑(.str (sy.getD k "")):=by
   rw[gm,kh D.str (av (show k<sy.length from J)),bx,av (show k<sy.length from J)];rfl
  generalize (md.map λn=>D.bl (c==n))=KL at *;generalize sy.map D.str=WL at *;refine⟨[↑(.sh (.int (0+(k:Int)))),↑(.sh (.lst WL)),↑(.sh (.lst KL)),↑(.sh (.exc ea))],?_,λ_=>⟨_,by simp only[fIxV,fVar,ixSl,ae,ah,ac,aj,Y];rfl⟩⟩;generalize (c==md.getD k "")=bb at *;cases bb <;> simp only[fAnd,fTst,fIxV,fVar,ixSl,fIsx,V,ae,ah,ac,aj,bf,if_false,if_true])
 rw[zy6 R] at I;have I:n9 (fAnd (fTst (fIxV 2 (fVar 0))) (fTst (fIsx ea 3 true))) (fIxV 1 (fVar 0)) [↑(.sh (.lst (sy.map D.str))),↑(.sh (.lst (md.map λn=>D.bl (c==n)))),↑(.sh (.exc ea))] (rngD 0 13)=↑[D.str w]:=I;have Z:(rngD 0 13).length=13:=rfl;refine⟨[↑(.sh (.exc ea)),↑(.sh (.lst (md.map λn=>D.bl (c==n)))),↑(.sh (.lst (sy.map D.str))),↑(.sh (.lst [.str w]))],?_⟩;show z4u ea c [↑(.sh (.exc ea)),none,none,none]=_;simp[md,sy] at I ⊢;simp[z4u,fIsx,U,ig,S,Z,capt,I,bTup]
def zfc:FS:=sSeq (sIf (fTst (fBin dEq (pLen (.at (.ins false "House" ir)) 0 0) (fC (.int 0)))) (lz "NothingDone" (some)) (sNil)) (sSeq (je (pPop (.at (.ins false "House" ir)) 0 1)) (sRet (pPop (.at (.ins false "House" ir)) 0 0)))
def zfd:lx->la->l0:=runL 1 1 0 zfc
def zd1:lx->la->Option (Str×lx):=xL 1 1 0 zfc
def t0:FS:=sSeq (sIf (fTst (fBin dEq (fIxV 1 (fC (.int 0))) (fC (.str "put")))) (sXp (xK (.ins false "House" ir) 0 (ny z8 [0] (ax (fIxV 1 (fC (.int 1))) (ax (fIxV 1 (fC (.int 2))) (ax (fIxV 1 (fC (.int 3))) (fNil)))))) (sRet (fK (.ins false "House" ir) 0 (lf zgf [0] (ax (fIxV 1 (fC (.int 1))) (ax (fIxV 1 (fC (.int 2))) (ax (fIxV 1 (fC (.int 3))) (fNil)))))))) (sNil)) (sSeq (sIf (fTst (fBin dEq (fIxV 1 (fC (.int 0))) (fC (.str "tell")))) (sXp (xK (.ins false "House" ir) 0 (ny zdz [0] (ax (fIxV 1 (fC (.int 1))) (ax (fIxV 1 (fC (.int 2))) (ax (fIxV 1 (fC (.int 3))) (fNil)))))) (sRet (fK (.ins false "House" ir) 0 (lf zfb [0] (ax (fIxV 1 (fC (.int 1))) (ax (fIxV 1 (fC (.int 2))) (ax (fIxV 1 (fC (.int 3))) (fNil)))))))) (sNil)) (sSeq (sIf (fTst (fBin dEq (fIxV 1 (fC (.int 0))) (fC (.str "go")))) (sXp (xK (.ins false "House" ir) 0 (ny zx [0] (ax (fIxV 1 (fC (.int 1))) (fNil)))) (sRet (fK (.ins false "House" ir) 0 (lf zhk [0] (ax (fIxV 1 (fC (.int 1))) (fNil)))))) (sNil)) (sSeq (sIf (fTst (fBin dEq (fIxV 1 (fC (.int 0))) (fC (.str "dry")))) (sXp (xK (.ins false "House" ir) 0 (ny z0 [0] (fNil))) (sRet (fK (.ins false "House" ir) 0 (lf zgh [0] (fNil))))) (sNil)) (sXp (xK (.ins false "House" ir) 0 (ny zd1 [0] (fNil))) (sRet (fK (.ins false "House" ir) 0 (lf zfd [0] (fNil))))))))
def zjj:lx->la->l0:=runL 2 1 1 t0
def zw:lx->la->Option (Str×lx):=xL 2 1 1 t0
def zhz:FS:=sSeq (sSet 2 (fTup (ax (fC (.str "refused")) (ax (fC (.str "")) (fNil))))) (sSeq (sTry (sXp (ny zw [0] (ax (fVar 1) (fNil))) (sRet (lf zjj [0] (ax (fVar 1) (fNil))))) 3 2 kdT) (sRet (fVar 2)))
def u4:lx->la->l0:=runL 4 1 1 zhz
def zso:lx->la->Option (Str×lx):=xL 4 1 1 zhz
def zt:FS:=sSeq (xu 1 [3,4,5,6]) (sSeq (sSet 7 (dy zd8 (ax (fVar 3) (ax (pLen (.al 4) 1 1) (ax (fVar 2) (fNil)))))) (sSeq (sSet 8 (lf u4 [0] (ax (fVar 2) (fNil)))) (sSeq (sIf (fTst (fBin dNe (fVar 7) (fC (.str "")))) (sRet (dy we (ax (fVar 8) (ax (fTup (ax (fC (.str "refused")) (ax (fVar 7) (fNil)))) (fNil))))) (sNil)) (sSeq (sIf (fTst (fBin dEq (fIxV 2 (fC (.int 0))) (fC (.str "back")))) (sSeq (sSet 9 (pPop (.al 5) 1 2)) (sSeq (uk 1 0 (fIxV 9 (fC (.int 0)))) (sSeq (uk 1 3 (fIxV 9 (fC (.int 1)))) (sRet (dy we (ax (fVar 8) (ax (pPop (.al 4) 1 1) (fNil)))))))) (sNil)) (sSeq (sSet 10 (dy uw (ax (fVar 3) (ax (fVar 2) (ax (fFrz false (fBin gp (fC (.int 1)) (dy bLen (ax (fLst (ig (fiS (fVar 4)) [] (fTst (fBin dEq (fIxV 0 (fC (.int 0))) (fC (.str "put")))) (fVar 0))) (fNil))))) (fNil)))))) (sSeq (je (ut (.al 5) 1 2 (fTup (ax (fVar 3) (ax (fVar 6) (fNil)))))) (sSeq (je (ut (.al 4) 1 1 (fVar 2))) (sSeq (uk 1 0 (fIxV 10 (fC (.int 0)))) (sSeq (sIf (fTst (fBin dEq (fIxV 2 (fC (.int 0))) (fC (.str "dry")))) (sSeq (sSet 11 (dy bLen (ax (dy zhw (ax (fVar 6) (fNil))) (fNil)))) (uk 1 3 (fLst (fCat (fVar 6) (fLst (gg (ax (fTup (ax (fVar 11) (ax (fBin gp (fVar 11) (fBin dIx (fIxV 10 (fC (.int 1))) (fC (.int 1)))) (ax (dy zjc (ax (fVar 3) (fNil))) (fNil))))) (fNil)))))))) (sNil)) (sRet (dy zbz (ax (fVar 8) (ax (fIxV 10 (fC (.int 1))) (fNil))))))))))))))
def qx:lx->la->l0:=runL 12 2 1 zt
def zwd:lx->la->Option (Str×lx):=xL 12 2 1 zt
variable{ags:lx}
def yo{p:Nat}{t:lx}(h1:ags.length=p)(h2:ds.length=ar)(D:g (kn n ags ds)=↑(.xc c,e))(I:outA e 0 (List.range p)=↑t):xL n p ar g ags ds=↑(c,t):=by
 unfold xL;rw[if_pos ⟨h1,h2⟩,D];dsimp only;rw[I];rfl
variable{a:Int}
theorem yal{l:Int}(D:putX s.1 k.length a h l=↑c)(b:s.1.length<=5):z8 [hA k (p++[s])] [.int a,.int h,.int l]=↑(c,[hA k (p++[s])]):=by
 have I:=se (k:=k) (p:=p) (s:=s);have S:kn 7 [hA k (p++[s])] [.int a,.int h,.int l]=[↑(.ag kH ↑0 (hP k (p++[s]))),↑(.sh (.int a)),↑(.sh (.int h)),↑(.sh (.int l)),none,none,none]:=rfl;have k5:=wy (k.map dD);rw[af] at k5;refine yo (e:=[↑(.ag kH ↑0 (hP k (p++[s]))),↑(.sh (.int a)),↑(.sh (.int h)),↑(.sh (.int l)),↑(.sh (ssL s.1)),none,none]) rfl rfl ?_ rfl;rw[S];unfold putX at D;have J:=zyz s.1 ⋯;split at D
 ·cases D
  rename_i U;have k1:=ztu (ss:=s.1) (a:=a) U;simp[vw,fK0,cQ0,nv,I,m9,k1]
 have k1:=zl (ss:=s.1) (a:=a) ⋯ ⋯;split at D
 ·cases D
  rename_i V;have k2:=z45 (h:=h) V;simp[vw,fK0,cQ0,nv,I,m9,nj,k1,k2]
 have k2:=zu3 (h:=h) ⋯ ⋯;split at D
 ·cases D
  rename_i Y;have k3:=z2v (h:=l) Y;simp[vw,fK0,cQ0,nv,I,m9,nj,k1,k2,k3]
 have k3:=zq0 (h:=l) ⋯ ⋯;split at D
 ·rename_i R
  rw[if_pos R] at J;split at D
  ·cases D
  ·cases D
   rename_i Z;rw[if_neg Z] at k5;simp[vw,fK0,cQ0,nv,I,m9,nj,k1,k2,k3,J,xFrz,wj,k5]
 ·cases D
  rename_i R;rw[if_neg R] at J;simp[vw,fK0,cQ0,nv,I,m9,nj,k1,k2,k3,J]
def uj(ss:mu)(n:Nat)(a m l:Int):kf:=if a<1\/(ss.length:Int)<a then some "UnknownStack" else if (ss.getD (a.toNat-1) []).length=0 then some "EmptyStack" else if m<1\/((ss.getD (a.toNat-1) []).length:Int)<m then some "UnknownPlace" else if l<0\/100<l then some "BadLoss" else if n<60 then none else some "DeedsFull"
def goX(ss:mu)(n:Nat)(a:Int):kf:=if a<1\/(ss.length:Int)<a then some "UnknownStack" else if (ss.getD (a.toNat-1) []).length=0 then some "EmptyStack" else if n<60 then none else some "DeedsFull"
def dryX(ss:mu)(n:Nat):kf:=if 0<ss.flatten.length then(if n<60 then none else some "DeedsFull") else some "NothingWaits"
theorem uq(h:¬(a<1\/(ss.length:Int)<a)):ss[a.toNat-1]?=↑(ss.getD (a.toNat-1) []):=by
 rw[bx,av ⋯];rfl
theorem go_x(D:goX s.1 k.length a=↑c)(U:s.1.length<=5):zx [hA k (p++[s])] [.int a]=↑(c,[hA k (p++[s])]):=by
 have I:=se (k:=k) (p:=p) (s:=s);have k5:=wy (k.map dD);rw[af] at k5;refine yo (e:=[↑(.ag kH ↑0 (hP k (p++[s]))),↑(.sh (.int a)),↑(.sh (ssL s.1))]) rfl rfl ?_ rfl;rw[show kn 3 [hA k (p++[s])] [.int a]=[↑(.ag kH ↑0 (hP k (p++[s]))),↑(.sh (.int a)),none] from rfl];unfold goX at D;split at D
 ·cases D
  rename_i J;have k1:=ztu (ss:=s.1) (a:=a) J;simp[yf,fK0,cQ0,nv,I,m9,nj,k1]
 rename_i J;have k1:=zl (ss:=s.1) (a:=a) ⋯ ⋯;have k2:=zq3 (uq J) ⋯ ⋯;rw[show((a.toNat:Nat):Int)=a by lia] at k2;split at D
 ·cases D
  rename_i R;rw[if_pos R] at k2;simp[yf,fK0,cQ0,nv,I,m9,nj,k1,k2]
 rename_i R;rw[if_neg R] at k2;split at D
 ·cases D
 ·cases D
  rename_i S;rw[if_neg S] at k5;simp[yf,fK0,cQ0,nv,I,m9,nj,k1,k2,xFrz,wj,k5]
theorem z8v{m l:Int}(I:uj s.1 k.length a m l=↑c)(g:s.1.length<=5):zdz [hA k (p++[s])] [.int a,.int m,.int l]=↑(c,[hA k (p++[s])]):=by
 have J:=se (k:=k) (p:=p) (s:=s);have k5:=wy (k.map dD);rw[af] at k5;have b:kn 8 [hA k (p++[s])] [.int a,.int m,.int l]=[↑(.ag kH ↑0 (hP k (p++[s]))),↑(.sh (.int a)),↑(.sh (.int m)),↑(.sh (.int l)),none,none,none,none]:=rfl;suffices U:∃d,uz (kn 8 [hA k (p++[s])] [.int a,.int m,.int l])=↑(.xc c,[↑(.ag kH ↑0 (hP k (p++[s]))),↑(.sh (.int a)),↑(.sh (.int m)),↑(.sh (.int l)),↑(.sh (ssL s.1)),d,none,none]) from let ⟨_,U⟩:=U;yo rfl rfl U rfl;rw[b];unfold uj at I;split at I
 ·cases I
  rename_i R;have k1:=ztu (ss:=s.1) (a:=a) R;exact⟨_,by simp[uz,fK0,cQ0,nv,J,m9,nj,k1];rfl⟩
 rename_i R;have k1:=zl (ss:=s.1) (a:=a) ⋯ ⋯;have k2:=zq3 (uq R) ⋯ ⋯;have S:=vd (uq R) ⋯;rw[show((a.toNat:Nat):Int)=a by lia] at k2 S;split at I
 ·cases I
  rename_i V;rw[if_pos V] at k2;generalize ssL s.1=SL at *;exact⟨_,by simp[uz,fK0,cQ0,nv,J,m9,nj,k1,k2];rfl⟩
 rename_i V;rw[if_neg V] at k2;have k3:=zvb (t:=s.1.getD (a.toNat-1) []) (m:=m);unfold ssL at *;split at I
 ·cases I
  rename_i Y;rw[if_pos Y] at k3;generalize (s.1.getD (a.toNat-1) []).map sD=TL at *;exact⟨_,by simp[uz,fK0,cQ0,nv,J,m9,nj,k1,k2,S,k3];rfl⟩
 rename_i Y;rw[if_neg Y] at k3;generalize (s.1.getD (a.toNat-1) []).map sD=TL at *;generalize (s.1.map λs=>D.lst (s.map sD))=SL at *;split at I
 ·cases I
  rename_i e;have Z:=z2v (h:=l) e;exact⟨_,by simp[uz,fK0,cQ0,nv,J,m9,nj,k1,k2,S,k3,Z];rfl⟩
 have Z:=zq0 (h:=l) ⋯ ⋯;split at I
 ·cases I
 ·cases I
  rename_i f;rw[if_neg f] at k5;exact⟨_,by simp[uz,fK0,cQ0,nv,J,m9,nj,k1,k2,S,k3,Z,xFrz,wj,k5];rfl⟩
theorem yam(D:dryX s.1 k.length=↑c)(S:s.1.length<=5):z0 [hA k (p++[s])] []=↑(c,[hA k (p++[s])]):=by
 have J:=se (k:=k) (p:=p) (s:=s);have k5:=wy (k.map dD);rw[af] at k5;have k1:=zu7 s.1 ⋯;refine yo (e:=[↑(.ag kH ↑0 (hP k (p++[s]))),↑(.sh (ssL s.1)),none,none,none,none]) rfl rfl ?_ rfl;rw[show kn 6 [hA k (p++[s])] []=[↑(.ag kH ↑0 (hP k (p++[s]))),none,none,none,none,none] from rfl];unfold dryX at D;split at D
 ·rename_i I
  rw[if_pos I] at k1;split at D
  ·cases D
  ·cases D
   rename_i R;rw[if_neg R] at k5;simp[z7,fK0,cQ0,nv,J,m9,nj,k1,xFrz,wj,k5]
 ·cases D
  rename_i I;rw[if_neg I] at k1;simp[z7,fK0,cQ0,nv,J,m9,nj,k1]
def zq4(D:ps[j]?=↑(.o ds)):lv (.at kH) 0 j (↑(.ag kH ↑0 ps)::e)=↑ds:=zqy rfl D
variable{s':Hs}
theorem z5h{d:Deed}:zd1 [hA (k++[d]) (p++[s]++[s'])] []=none/\zfd [hA (k++[d]) (p++[s]++[s'])] []=↑(dD d,[hA k (p++[s])]):=by
 have R:kn 1 [hA (k++[d]) (p++[s]++[s'])] []=[↑(.ag kH ↑0 (hP (k++[d]) (p++[s]++[s'])))]:=rfl;have h1:lv (.at kH) 0 0 [↑(.ag kH ↑0 (hP (k++[d]) (p++[s]++[s'])))]=↑(k.map dD++[dD d]):=by rw[zq4 (j:=0) rfl];simp
 have h2:lv (.at kH) 0 1 [↑(.ag kH ↑0 (hP (k++[d]) (p++[s]++[s'])))]=↑((p++[s]).map stD++[stD s']):=by rw[zq4 (j:=1) rfl];simp
 have I:zfc (kn 1 [hA (k++[d]) (p++[s]++[s'])] [])=↑(.rt (dD d),[↑(.ag kH ↑0 (hP k (p++[s])))]):=by
  rw[R];have S:∀(l:la) (x:D),(l++[x])[(l++[x]).length-1]?=↑x:=λl x=>by simp
  have U:∀(l:la) (x:D),(l++[x]).dropLast=l:=λl x=>by simp
  have V:¬(((k.map dD++[dD d]).length:Nat):Int)=0:=by simp;lia
  have J:lv (.at kH) 0 0 [↑(.ag kH ↑0 [.o (k.map dD++[dD d]),.o ((p++[s]).map stD)])]=↑(k.map dD++[dD d]):=zq4 (j:=0) rfl;unfold hP at *;rw[show((k++[d]).map dD)=k.map dD++[dD d] by simp,show((p++[s]++[s']).map stD)=(p++[s]).map stD++[stD s'] by simp] at *;generalize (p++[s]).map stD=PL at *;simp only[zfc,sSeq,sIf,fTst,fBin,pLen,h1,aj,ac,fC,dEq,V,decide_false,bf,if_false,sNil,je,pPop,ae,h2,S,U,setP,aq,ao,J,sRet]
 exact⟨by unfold zd1 xL;rw[if_pos ⟨rfl,rfl⟩,I],by unfold zfd runL;rw[if_pos ⟨rfl,rfl⟩,I];rfl⟩
def z8w:zd1 [hA [] p] []=↑(("NothingDone" : Str),[hA [] p]):=by
 have h1:lv (.at kH) 0 0 [↑(.ag kH ↑0 (hP [] p))]=↑[]:=zq4 (j:=0) rfl;refine yo (e:=[↑(.ag kH ↑0 (hP [] p))]) rfl rfl ?_ rfl;rw[show kn 1 [hA [] p] []=[↑(.ag kH ↑0 (hP [] p))] from rfl];simp[zfc,pLen,h1,show(((0:Nat):Int)=0) from rfl,lz]
inductive Cmd where
 |d (x:Deed) |back
def cD:Cmd->D
 | .d x=>dD x | .back=>.tup [.str "back"]
def cmdX(ss:mu)(n:Nat):Cmd->kf
 | .d (.put a h l)=>putX ss n a h l
 | .d (.tell a m l)=>uj ss n a m l
 | .d (.go a)=>goX ss n a | .d .dry=>dryX ss n | .back=>if n=0 then some "NothingDone" else none
def dueW(o:kf):Str:=match o with |none=>"" |some c=>(y0 c).getD ""
theorem zvc(R:ss.length<=1000)(e:DE0):dy bSum (ax (fLst (ig (fiS (fVar 0)) [] fYes (gq 0))) fNil) (↑(.sh (ssL ss))::e)=↑(.int (ss.flatten.length:Int),↑(.sh (ssL ss))::e):=by
 have c:=qi (te:=gq 0) (base:=[]) (λs:mn=>D.lst (s.map sD)) (λs:mn=>D.int (s.length:Int)) ss λs _=>⟨_,by simp;rfl⟩;have I:=xz (λs:mn=>(s.length:Int)) ss;have J:Few (ss.map λs=>D.lst (s.map sD)).length:=few (by rw[af];lia);rw[zyt] at I;unfold ssL;generalize (ss.map λs=>D.lst (s.map sD))=L at *;simp only[dy,ax,fLst,ig,fiS,fVar,fNil,ae,ac,aj,J,if_true,cq,c,I]
def Rt(r:Option (Fl×DE0))(x:Str):Prop:=∃e',r=↑(.rt (.str x),e')
section
variable {c p q:FT} {f g:FE} {u v w:FS} {e:DE0} {i:Nat} {d:D} {x y:Str} {A B:Prop} [Decidable A] [Decidable B] {a b:Int}
def setT(h:f e=↑(d,e))(k:Rt (u (e.set i ↑(.sh d))) x):Rt (sSeq (sSet i f) u e) x:=by
 rw[show sSeq (sSet i f) u e=u (e.set i ↑(.sh d)) by simp[h]];exact k
def ifN(h:c e=↑(false,e))(k:Rt (sSeq v w e) x):Rt (sSeq (sIf c u v) w e) x:=by
 rw[show sSeq (sIf c u v) w e=sSeq v w e by simp[h]];exact k
def ifP(h:c e=↑(true,e))(k:Rt (sSeq u w e) x):Rt (sSeq (sIf c u v) w e) x:=by
 rw[show sSeq (sIf c u v) w e=sSeq u w e by simp[h]];exact k
def ifT(h:c e=↑(decide A,e))(k:A->y=x)(k':¬A->Rt (sSeq v w e) x):Rt (sSeq (sIf c (sRet (fC (.str y))) v) w e) x:=by
 by_cases z:A
 ·exact⟨e,by simp[h,z,k z]⟩
 ·exact ifN (by rw[h,decide_eq_false z]) (k' z)
def ifN0(h:c e=↑(false,e))(k:Rt (w e) x):Rt (sSeq (sIf c u sNil) w e) x:=ifN h k
def ifT0(h:c e=↑(decide A,e))(k:A->y=x)(k':¬A->Rt (w e) x):Rt (sSeq (sIf c (sRet (fC (.str y))) sNil) w e) x:=ifT h k k'
def orq(h:p e=↑(decide A,e))(h':¬A->q e=↑(decide B,e)):fOr p q e=↑(decide (A\/B),e):=by
 by_cases z:A
 ·simp[h,z]
 ·simp[h,h' z,z]
def andF(h:p e=↑(false,e)):fAnd p q e=↑(false,e):=by simp[h]
def andT(h:p e=↑(true,e)):fAnd p q e=q e:=by simp[h]
def ltq(h:f e=↑(.int a,e))(h':g e=↑(.int b,e)):fTst (fBin dLt f g) e=↑(decide (a<b),e):=by simp[h,h']
def gtq(h:f e=↑(.int a,e))(h':g e=↑(.int b,e)):fTst (fBin dGt f g) e=↑(decide (b<a),e):=by simp[h,h']
def geq(h:f e=↑(.int a,e))(h':g e=↑(.int b,e)):fTst (fBin dGe f g) e=↑(decide (b<=a),e):=by simp[h,h']
def eqq(h:f e=↑(.int a,e))(h':g e=↑(.int b,e)):fTst (fBin dEq f g) e=↑(decide (a=b),e):=by simp[h,h']
end
def sne:(("put" : Str) = "back")=False/\(("put" : Str) = "dry")=False/\(("put" : Str) = "tell")=False/\(("tell" : Str) = "back")=False/\(("tell" : Str) = "dry")=False/\(("tell" : Str) = "put")=False/\(("go" : Str) = "back")=False/\(("go" : Str) = "dry")=False/\(("go" : Str) = "put")=False/\(("go" : Str) = "tell")=False/\(("dry" : Str) = "back")=False/\(("dry" : Str) = "put")=False/\(("dry" : Str) = "tell")=False:=by
 refine⟨?_,?_,?_,?_,?_,?_,?_,?_,?_,?_,?_,?_,?_⟩ <;> exact eq_false (by decide)
variable{x:Str}
def at_4{x y z w:D}:atI [x,y,z,w] 0=↑x/\atI [x,y,z,w] 1=↑y/\atI [x,y,z,w] 2=↑z/\atI [x,y,z,w] 3=↑w:=⟨rfl,rfl,rfl,rfl⟩
theorem zkt(ss:mu)(n:Nat)(c:Cmd)(i:ss.length<=5):zd8 [ssL ss,.int (n:Int),cD c]=↑(.str (dueW (cmdX ss n c))):=by
 have U:=λe=>zvc (ss:=ss) ⋯ e;suffices J:Rt (zkz [↑(.sh (ssL ss)),↑(.sh (.int (n:Int))),↑(.sh (cD c)),none]) (dueW (cmdX ss n c)) from let ⟨_,J⟩:=J;jw rfl J;have I:∀(d w:D),Rt (sSeq (sIf (fTst (fBin dGe (fVar 1) (fC (.int 60)))) (sRet (fC (.str "deeds full"))) (sNil)) (sRet (fC (.str ""))) [↑(.sh (ssL ss)),↑(.sh (.int (n:Int))),↑(.sh d),↑(.sh w)]) (dueW (if n<60 then none else some "DeedsFull")):=λd w =>
  ifT0 (geq rfl rfl) (λh=>by rw[if_neg ⋯];rfl) λh=>by rw[if_pos ⋯];exact⟨_,rfl⟩
 have R:∀r:DE0,gq 0 (↑(.sh (ssL ss))::r)=↑(.int (ss.length:Int),↑(.sh (ssL ss))::r):=λr=>by unfold ssL;simp
 have len1:∀(d:D) (w:D) (a:Int),fIxV 2 (fC (.int 1)) [↑(.sh (ssL ss)),↑(.sh (.int (n:Int))),↑(.sh d),↑(.sh w)]=↑(.int a,[↑(.sh (ssL ss)),↑(.sh (.int (n:Int))),↑(.sh d),↑(.sh w)])->¬(a<1\/(ss.length:Int)<a)->dy bLen (ax (fIxV 0 (fBin dSub (fIxV 2 (fC (.int 1))) (fC (.int 1)))) fNil) [↑(.sh (ssL ss)),↑(.sh (.int (n:Int))),↑(.sh d),↑(.sh w)]=↑(.int ((ss.getD (a.toNat-1) []).length:Int),[↑(.sh (ssL ss)),↑(.sh (.int (n:Int))),↑(.sh d),↑(.sh w)]):=λd w a h V=>by
  have g:=vd (uq V) ⋯;rw[show((a.toNat:Nat):Int)=a by lia] at g;have S:∀F:FE,F [↑(.sh (ssL ss)),↑(.sh (.int (n:Int))),↑(.sh d),↑(.sh w)]=↑(.int (a-1),[↑(.sh (ssL ss)),↑(.sh (.int (n:Int))),↑(.sh d),↑(.sh w)])->dy bLen (ax (fIxV 0 F) fNil) [↑(.sh (ssL ss)),↑(.sh (.int (n:Int))),↑(.sh d),↑(.sh w)]=↑(.int ((ss.getD (a.toNat-1) []).length:Int),[↑(.sh (ssL ss)),↑(.sh (.int (n:Int))),↑(.sh d),↑(.sh w)]):=λF Y=>by
   unfold ssL at *;simp only[dy,ax,fIxV,Y,fNil,ixSl,ae,g,bLen,ac,aj,af]
  refine S _ ?_;simp only[fBin,h,fC,dSub,ac,aj]
 cases c with
 |back =>
   refine setT (d:=.str "back") rfl ?_;by_cases z:n=0
   ·subst z;exact⟨_,rfl⟩
   ·have Z:((n:Int)=0)=False:=eq_false ⋯
    refine⟨[↑(.sh (ssL ss)),↑(.sh (.int (n:Int))),↑(.sh (cD .back)),↑(.sh (.str "back"))],?_⟩;rw[show dueW (cmdX ss n .back) = "" by unfold cmdX;rw[if_neg z];rfl];generalize ssL ss=SL at *;have b:dIx (.lst [.str "",.str "nothing done"]) (.int 0)=↑(.str ""):=rfl;simp only[sSeq,sIf,fTst,fBin,fVar,fC,dEq,aq,ao,ah,ae,ac,aj,decide_true,if_true,sRet,fLst,gg,ax,fNil,dy,am,bj,show 0+1+1<=64 by decide,Z,decide_false,bInt,b];rfl
 |d x =>
   cases x with
   |dry =>
     refine setT (d:=.str "dry") rfl (ifN0 (by rfl) (ifP (by rfl) ?_));show Rt _ (dueW (dryX ss n));unfold dryX;refine ifT0 (by exact eqq (U _) rfl) (λz=>by rw[if_neg ⋯];rfl) λz=>?_;rw[if_pos ⋯];refine ifN0 (by exact andF rfl) (ifN0 (by exact andF rfl) (ifN0 (by exact andF rfl) (ifN0 (by exact andF rfl) ?_)));exact I _ _
   |put a h l =>
     refine setT (d:=.str "put") rfl (ifN0 (by rfl) (ifN (by rfl) ?_));show Rt _ (dueW (putX ss n a h l));unfold putX;refine ifT (by exact orq (ltq (a:=a) rfl rfl) λ_=>gtq (a:=a) rfl (R _)) (λz=>by rw[if_pos z];rfl) λz=>?_;rw[if_neg z];refine ifN0 (by exact andF rfl) (ifN0 (by exact andF rfl) ?_);refine ifT0 (by exact(andT rfl).trans (orq (ltq (a:=h) rfl rfl) λ_=>gtq (a:=h) rfl rfl)) (λz=>by rw[if_pos z];rfl) λz=>?_;rw[if_neg z];refine ifT0 (by exact(andT rfl).trans (orq (ltq (a:=l) rfl rfl) λ_=>gtq (a:=l) rfl rfl)) (λz=>by rw[if_pos z];rfl) λz=>?_;rw[if_neg z];refine ifT0 (by exact(andT rfl).trans (geq (U _) rfl)) (λz=>by rw[if_neg ⋯];rfl) λz=>?_;rw[if_pos ⋯];exact I _ _
   |tell a m l =>
     refine setT (d:=.str "tell") rfl (ifN0 (by rfl) (ifN (by rfl) ?_));show Rt _ (dueW (uj ss n a m l));unfold uj;refine ifT (by exact orq (ltq (a:=a) rfl rfl) λ_=>gtq (a:=a) rfl (R _)) (λz=>by rw[if_pos z];rfl) λz=>?_;rw[if_neg z];refine ifT0 (by exact(andT rfl).trans (eqq (len1 _ _ a rfl z) rfl)) (λz=>by rw[if_pos ⋯];rfl) λf=>?_;rw[if_neg ⋯];refine ifT0 (by exact(andT rfl).trans (orq (ltq (a:=m) rfl rfl) λ_=>gtq (a:=m) rfl (len1 _ _ a rfl z))) (λz=>by rw[if_pos z];rfl) λz=>?_;rw[if_neg z];refine ifN0 (by exact andF rfl) ?_;refine ifT0 (by exact(andT rfl).trans (orq (ltq (a:=l) rfl rfl) λ_=>gtq (a:=l) rfl rfl)) (λz=>by rw[if_pos z];rfl) λz=>?_;rw[if_neg z];refine ifN0 (by exact andF rfl) ?_;exact I _ _
   |go a =>
     refine setT (d:=.str "go") rfl (ifN0 (by rfl) (ifN (by rfl) ?_));show Rt _ (dueW (goX ss n a));unfold goX;refine ifT (by exact orq (ltq (a:=a) rfl rfl) λ_=>gtq (a:=a) rfl (R _)) (λz=>by rw[if_pos z];rfl) λz=>?_;rw[if_neg z];refine ifT0 (by exact(andT rfl).trans (eqq (len1 _ _ a rfl z) rfl)) (λz=>by rw[if_pos ⋯];rfl) λf=>?_;rw[if_neg ⋯];refine ifN0 (by exact andF rfl) (ifN0 (by exact andF rfl) (ifN0 (by exact andF rfl) (ifN0 (by exact andF rfl) ?_)));exact I _ _
def askX:Cmd->lx->la->Option (Str×lx)
 | .d (.put _ _ _)=>z8 | .d (.tell _ _ _)=>zdz | .d (.go _)=>zx | .d .dry=>z0 | .back=>zd1
def askM:Cmd->lx->la->l0
 | .d (.put _ _ _)=>zgf | .d (.tell _ _ _)=>zfb | .d (.go _)=>zhk | .d .dry=>zgh | .back=>zfd
def askD:Cmd->la
 | .d (.put a h l)=>[.int a,.int h,.int l] | .d (.tell a m l)=>[.int a,.int m,.int l] | .d (.go a)=>[.int a] |_=>[]
def x0{p:Nat}{t:lx}(h1:ags.length=p)(h2:ds.length=ar)(D:g (kn n ags ds)=↑(.rt d,e))(I:outA e 0 (List.range p)=↑t):runL n p ar g ags ds=↑(d,t)/\xL n p ar g ags ds=none:=by
 unfold runL xL;rw[if_pos ⟨h1,h2⟩,if_pos ⟨h1,h2⟩,D];dsimp only;rw[I];exact⟨rfl,rfl⟩
def xask(D:F (↑(.ag kH l ps)::e)=↑(ds,↑(.ag kH l ps)::e))(I:m [(kH,ps)] ds=↑(x,[(kH,ps')])):xK kH 0 (ny m [0] F) (↑(.ag kH l ps)::e)=↑(x,↑(.ag kH l ps')::e):=by
 rw[z8r (i:=0) rfl];exact zu4 (i:=0) rfl D I
def xasn(D:F (↑(.ag kH l ps)::e)=↑(ds,↑(.ag kH l ps)::e))(I:m [(kH,ps)] ds=none):xK kH 0 (ny m [0] F) (↑(.ag kH l ps)::e)=none:=by
 rw[z8r (i:=0) rfl];exact zu5 (i:=0) rfl D I
variable{m:lx->la->l0}
def mask{x:D}(I:F (↑(.ag kH l ps)::e)=↑(ds,↑(.ag kH l ps)::e))(J:m [(kH,ps)] ds=↑(x,[(kH,ps')])):fK kH 0 (lf m [0] F) (↑(.ag kH l ps)::e)=↑(x,↑(.ag kH l ps')::e):=by
 rw[z8q (i:=0) rfl];exact zf (i:=0) rfl I J
def yan(c:Cmd)(h:askX c [(kH,ps)] (askD c)=↑(x,[(kH,ps')])):zw [(kH,ps)] [cD c]=↑(x,[(kH,ps')]):=by
 refine yo (e:=[↑(.ag kH ↑0 ps'),↑(.sh (cD c))]) rfl rfl ?_ rfl;rw[show kn 2 [(kH,ps)] [cD c]=[↑(.ag kH ↑0 ps),↑(.sh (cD c))] from rfl];have sn:=sne;cases c with
 |back =>
   have R:atI [D.str "back"] 0=↑(.str "back"):=rfl;have J:(("back" : Str) = "put")=False/\(("back" : Str) = "tell")=False/\(("back" : Str) = "go")=False/\(("back" : Str) = "dry")=False:=by refine⟨?_,?_,?_,?_⟩ <;> exact eq_false (by decide)
   have q:=xask (l:=↑0) (F:=fNil) (e:=[↑(.sh (cD .back))]) rfl h;simp only[cD,askX] at q ⊢;simp only[t0,sSeq,sIf,fTst,fBin,fIxV,ixSl,fC,dEq,ae,ah,ac,aj,decide_false,bf,if_false,sNil,sXp,sRet, *]
 |d y =>
   cases y with
   |put a b z =>
     have I:=at_4 (x:=D.str "put") (y:=.int a) (z:=.int b) (w:=.int z);have q:=xask (l:=↑0) (F:=ax (fIxV 1 (fC (.int 1))) (ax (fIxV 1 (fC (.int 2))) (ax (fIxV 1 (fC (.int 3))) fNil))) (e:=[↑(.sh (cD (.d (.put a b z))))]) rfl h;simp only[cD,dD,askX] at q ⊢;simp only[t0,sSeq,sIf,fTst,fBin,fIxV,ixSl,fC,dEq,ae,ah,ac,aj,decide_true,if_true,sNil,sXp,sRet, *]
   |tell a b z =>
     have I:=at_4 (x:=D.str "tell") (y:=.int a) (z:=.int b) (w:=.int z);have q:=xask (l:=↑0) (F:=ax (fIxV 1 (fC (.int 1))) (ax (fIxV 1 (fC (.int 2))) (ax (fIxV 1 (fC (.int 3))) fNil))) (e:=[↑(.sh (cD (.d (.tell a b z))))]) rfl h;simp only[cD,dD,askX] at q ⊢;simp only[t0,sSeq,sIf,fTst,fBin,fIxV,ixSl,fC,dEq,ae,ah,ac,aj,decide_true,decide_false,bf,if_false,if_true,sNil,sXp,sRet, *]
   |go a =>
     have I:atI [D.str "go",.int a] 0=↑(.str "go"):=rfl;have q:=xask (l:=↑0) (F:=ax (fIxV 1 (fC (.int 1))) fNil) (e:=[↑(.sh (cD (.d (.go a))))]) rfl h;simp only[cD,dD,askX] at q ⊢;simp only[t0,sSeq,sIf,fTst,fBin,fIxV,ixSl,fC,dEq,ae,ah,ac,aj,decide_true,decide_false,bf,if_false,if_true,sNil,sXp,sRet, *]
   |dry =>
     have I:atI [D.str "dry"] 0=↑(.str "dry"):=rfl;have J:(("dry" : Str) = "go")=False:=eq_false (by decide);have q:=xask (l:=↑0) (F:=fNil) (e:=[↑(.sh (cD (.d .dry)))]) rfl h;simp only[cD,dD,askX] at q ⊢;simp only[t0,sSeq,sIf,fTst,fBin,fIxV,ixSl,fC,dEq,ae,ah,ac,aj,decide_true,decide_false,bf,if_false,if_true,sNil,sXp,sRet, *]
def yao(c:Cmd)(J:askX c [(kH,ps)] (askD c)=none)(h:askM c [(kH,ps)] (askD c)=↑(d,[(kH,ps')])):zjj [(kH,ps)] [cD c]=↑(d,[(kH,ps')])/\zw [(kH,ps)] [cD c]=none:=by
 refine x0 (e:=[↑(.ag kH ↑0 ps'),↑(.sh (cD c))]) rfl rfl ?_ rfl;rw[show kn 2 [(kH,ps)] [cD c]=[↑(.ag kH ↑0 ps),↑(.sh (cD c))] from rfl];have sn:=sne;cases c with
 |back =>
   have U:atI [D.str "back"] 0=↑(.str "back"):=rfl;have S:(("back" : Str) = "put")=False/\(("back" : Str) = "tell")=False/\(("back" : Str) = "go")=False/\(("back" : Str) = "dry")=False:=by refine⟨?_,?_,?_,?_⟩ <;> exact eq_false (by decide)
   have I:=xasn (l:=↑0) (F:=fNil) (e:=[↑(.sh (cD .back))]) rfl J;have q:=mask (l:=↑0) (F:=fNil) (e:=[↑(.sh (cD .back))]) rfl h;simp only[cD,askX,askM] at I q ⊢;simp only[t0,sSeq,sIf,fTst,fBin,fIxV,ixSl,fC,dEq,ae,ah,ac,aj,decide_false,bf,if_false,sNil,sXp,sRet, *]
 |d y =>
   cases y with
   |put a b z =>
     have R:=at_4 (x:=D.str "put") (y:=.int a) (z:=.int b) (w:=.int z);have I:=xasn (l:=↑0) (F:=ax (fIxV 1 (fC (.int 1))) (ax (fIxV 1 (fC (.int 2))) (ax (fIxV 1 (fC (.int 3))) fNil))) (e:=[↑(.sh (cD (.d (.put a b z))))]) rfl J;have q:=mask (l:=↑0) (F:=ax (fIxV 1 (fC (.int 1))) (ax (fIxV 1 (fC (.int 2))) (ax (fIxV 1 (fC (.int 3))) fNil))) (e:=[↑(.sh (cD (.d (.put a b z))))]) rfl h;simp only[cD,dD,askX,askM] at I q ⊢;simp only[t0,sSeq,sIf,fTst,fBin,fIxV,ixSl,fC,dEq,ae,ah,ac,aj,decide_true,if_true,sNil,sXp,sRet, *]
   |tell a b z =>
     have R:=at_4 (x:=D.str "tell") (y:=.int a) (z:=.int b) (w:=.int z);have I:=xasn (l:=↑0) (F:=ax (fIxV 1 (fC (.int 1))) (ax (fIxV 1 (fC (.int 2))) (ax (fIxV 1 (fC (.int 3))) fNil))) (e:=[↑(.sh (cD (.d (.tell a b z))))]) rfl J;have q:=mask (l:=↑0) (F:=ax (fIxV 1 (fC (.int 1))) (ax (fIxV 1 (fC (.int 2))) (ax (fIxV 1 (fC (.int 3))) fNil))) (e:=[↑(.sh (cD (.d (.tell a b z))))]) rfl h;simp only[cD,dD,askX,askM] at I q ⊢;simp only[t0,sSeq,sIf,fTst,fBin,fIxV,ixSl,fC,dEq,ae,ah,ac,aj,decide_true,decide_false,bf,if_false,if_true,sNil,sXp,sRet, *]
   |go a =>
     have R:atI [D.str "go",.int a] 0=↑(.str "go"):=rfl;have I:=xasn (l:=↑0) (F:=ax (fIxV 1 (fC (.int 1))) fNil) (e:=[↑(.sh (cD (.d (.go a))))]) rfl J;have q:=mask (l:=↑0) (F:=ax (fIxV 1 (fC (.int 1))) fNil) (e:=[↑(.sh (cD (.d (.go a))))]) rfl h;simp only[cD,dD,askX,askM] at I q ⊢;simp only[t0,sSeq,sIf,fTst,fBin,fIxV,ixSl,fC,dEq,ae,ah,ac,aj,decide_true,decide_false,bf,if_false,if_true,sNil,sXp,sRet, *]
   |dry =>
     have R:atI [D.str "dry"] 0=↑(.str "dry"):=rfl;have S:(("dry" : Str) = "go")=False:=eq_false (by decide);have I:=xasn (l:=↑0) (F:=fNil) (e:=[↑(.sh (cD (.d .dry)))]) rfl J;have q:=mask (l:=↑0) (F:=fNil) (e:=[↑(.sh (cD (.d .dry)))]) rfl h;simp only[cD,dD,askX,askM] at I q ⊢;simp only[t0,sSeq,sIf,fTst,fBin,fIxV,ixSl,fC,dEq,ae,ah,ac,aj,decide_true,decide_false,bf,if_false,if_true,sNil,sXp,sRet, *]
def z8x(c:Cmd)(h:askX c [(kH,ps)] (askD c)=↑(x,[(kH,ps)]))(D:y0 x=↑w):u4 [(kH,ps)] [cD c]=↑(.tup [.str "refused",.str w],[(kH,ps)]):=by
 have q:=zu4 (m:=zw) (F:=ax (fVar 1) fNil) (e:=[↑(.ag kH ↑0 ps),↑(.sh (cD c)),↑(.sh (.tup [.str "refused",.str ""])),none]) (i:=0) (l:=↑0) (ps:=ps) (ds:=[cD c]) rfl rfl (yan c h);have k1:kdT x=↑(.tup [.str "refused",.str w]):=by unfold kdT;rw[D];rfl
 refine(x0 (e:=[↑(.ag kH ↑0 ps),↑(.sh (cD c)),↑(.sh (.tup [.str "refused",.str w])),none]) rfl rfl ?_ rfl).1;rw[show kn 4 [(kH,ps)] [cD c]=[↑(.ag kH ↑0 ps),↑(.sh (cD c)),none,none] from rfl];simp[zhz] at q ⊢;simp[sTry,q,k1]
def zy7(c:Cmd)(I:askX c [(kH,ps)] (askD c)=none)(h:askM c [(kH,ps)] (askD c)=↑(d,[(kH,ps')])):u4 [(kH,ps)] [cD c]=↑(d,[(kH,ps')]):=by
 obtain⟨J,R⟩:=yao c I h;have D:=zu5 (m:=zw) (F:=ax (fVar 1) fNil) (e:=[↑(.ag kH ↑0 ps),↑(.sh (cD c)),↑(.sh (.tup [.str "refused",.str ""])),none]) (i:=0) (l:=↑0) (ps:=ps) (ds:=[cD c]) rfl rfl R;have q:=zf (m:=zjj) (F:=ax (fVar 1) fNil) (e:=[↑(.ag kH ↑0 ps),↑(.sh (cD c)),↑(.sh (.tup [.str "refused",.str ""])),none]) (i:=0) (l:=↑0) (ps:=ps) (ds:=[cD c]) rfl rfl J;refine(x0 (e:=[↑(.ag kH ↑0 ps'),↑(.sh (cD c)),↑(.sh (.tup [.str "refused",.str ""])),none]) rfl rfl ?_ rfl).1;rw[show kn 4 [(kH,ps)] [cD c]=[↑(.ag kH ↑0 ps),↑(.sh (cD c)),none,none] from rfl];simp[zhz] at D q ⊢;simp[sTry,D,q]
theorem cp_o(ss:mu)(J:ss.length<=1000)(e:DE0):wq (fiS (fVar 0)) [] (ij pq (ax (fVar 0) fNil)) (↑(.sh (ssL ss))::e)=↑(dsO ss,↑(.sh (ssL ss))::e):=by
 have c:=zmd (te:=ij pq (ax (fVar 0) (fNil))) (base:=[]) (λs:mn=>D.lst (s.map sD)) (λs:mn=>s.map sD) ss λs _=>⟨_,by simp;rfl⟩;have I:Few (ss.map λs=>D.lst (s.map sD)).length:=few (by rw[af];lia);unfold ssL dsO;generalize (ss.map λs=>D.lst (s.map sD))=L at *;simp[wq,I,c]
def zy8(ss:mu):D.lst ((dsO ss).map D.lst)=ssL ss:=by unfold dsO ssL;rw[ip];rfl
variable{x:Sk}
def at_0{x:D}{l:la}:atI (x::l) 0=↑x:=by unfold atI ixN;simp
variable{a:Nat}{num:Int}
theorem zvd{l:Int}(R:1<=a)(c:a<=ss.length)(d:ss.length<=5)(f:(ss.getD (a-1) []).length<=1000):uw [ssL ss,dD (.put a h l),.int num]=↑(.lst [ssL (putS ss a (num,h,l)),.int num]):=by
 have g:=λe=>cp_o ss ⋯ e;have S:=at_4 (x:=D.str "put") (y:=.int (a:Int)) (z:=.int h) (w:=.int l);have i:((1:Int)<((0+1+1+1+1:Nat):Int))=True:=eq_true (by decide);have I:ss[a-1]?=↑(ss.getD (a-1) []):=by rw[bx,av ⋯];rfl
 have j:ixN (dsO ss).length ((a:Int)-1)=↑(a-1):=by
  rw[tu ⋯ (by unfold dsO;rw[af];lia)];congr 1;lia
 have U:(dsO ss).set (a-1) (((num,h,l)::ss.getD (a-1) []).map sD)=dsO (putS ss a (num,h,l)):=by unfold putS dsO;rw[gw]
 have V:=vd I R;have Y:Few (0+1+((ss.getD (a-1) []).map sD).length):=few (by rw[af];lia);have Z:noLs (D.tup [.int num,.int h,.int l]::(ss.getD (a-1) []).map sD)=true:=z2z ((num,h,l)::ss.getD (a-1) []);have ct:qk false (fCat (fLst (gg (ax (fTup (ax (fVar 2) (ax (fIxV 1 (fC (.int 2))) (ax (fIxV 1 (fC (.int 3))) (fNil))))) (fNil)))) (fIxV 3 (fVar 4))) [↑(.sh (ssL ss)),↑(.sh (dD (.put a h l))),↑(.sh (.int num)),↑(.o2 (dsO ss)),↑(.sh (.int ((a:Int)-1))),none]=↑(((num,h,l)::ss.getD (a-1) []).map sD,[↑(.sh (ssL ss)),↑(.sh (dD (.put a h l))),↑(.sh (.int num)),↑(.o2 (dsO ss)),↑(.sh (.int ((a:Int)-1))),none]):=by
  have b:frz false [↑(.sh (ssL ss)),↑(.sh (dD (.put a h l))),↑(.sh (.int num)),↑(.o2 (dsO ss)),↑(.sh (.int ((a:Int)-1))),none]=[↑(.sh (ssL ss)),↑(.sh (dD (.put a h l))),↑(.sh (.int num)),↑(.sh (ssL ss)),↑(.sh (.int ((a:Int)-1))),none]:=by
   rw[<-zy8];rfl
  unfold qk;rw[b,show((num,h,l)::ss.getD (a-1) []).map sD=D.tup [.int num,.int h,.int l]::(ss.getD (a-1) []).map sD from rfl];unfold ssL dD;generalize (ss.getD (a-1) []).map sD=TL at *;generalize (ss.map λs=>D.lst (s.map sD))=SL at *;simp[S,V,Y,Z]
 rw[<-zy8 (putS ss a (num,h,l)),<-U];suffices J:∃e',wb [↑(.sh (ssL ss)),↑(.sh (dD (.put a h l))),↑(.sh (.int num)),none,none,none]=↑(.rt (.lst [.lst (((dsO ss).set (a-1) (((num,h,l)::ss.getD (a-1) []).map sD)).map D.lst),.int num]),e') from let ⟨_,J⟩:=J;jw rfl J;simp only[dD] at ct ⊢;simp only[wb,sSeq,yq,sSet,fC,gq,fIxV,ixSl,fVar,fBin,fTst,sIf,sNil,dGt,dEq,dSub,ae,ah,ac,aj,ao,aq,am,bj,decide_true,if_true,sRet,fLst,gg,ax,fNil,wn,frsE,frs1,bi,cq, *];exact⟨_,rfl⟩
theorem zsp{m:Nat}{l:Int}(I:ss[a-1]?=↑t)(R:t[m-1]?=↑x)(S:1<=a)(g:1<=m)(h:ss.length<=5):uw [ssL ss,dD (.tell a m l),.int num]=↑(.lst [ssL (ss.set (a-1) (t.set (m-1) (x.1,x.2.1,l))),.int x.2.2]):=by
 have i:=λe=>cp_o ss ⋯ e;have sn:=sne;have U:=at_4 (x:=D.str "tell") (y:=.int (a:Int)) (z:=.int (m:Int)) (w:=.int l);have j:atI [D.int x.1,.int x.2.1,.int x.2.2] 0=↑(.int x.1)/\atI [D.int x.1,.int x.2.1,.int x.2.2] 1=↑(.int x.2.1)/\atI [D.int x.1,.int x.2.1,.int x.2.2] 2=↑(.int x.2.2):=⟨rfl,rfl,rfl⟩;have k:((1:Int)<((0+1+1+1+1:Nat):Int))=True:=eq_true (by decide);have V:(0+1+1<=64)=True/\(0+1+1+1<=64)=True:=⟨eq_true (by decide),eq_true (by decide)⟩;have n:=(ak.mp I).1;have o:=(ak.mp R).1;have p:ixN (dsO ss).length ((a:Int)-1)=↑(a-1):=by
  rw[tu ⋯ (by unfold dsO;rw[af];lia)];congr 1;lia
 have Y:(dsO ss)[a-1]?=↑(t.map sD):=by unfold dsO;rw[bw,I];rfl
 have Z:ixN (t.map sD).length ((m:Int)-1)=↑(m-1):=by
  rw[tu ⋯ (by rw[af];lia)];congr 1;lia
 have b:(dsO ss).set (a-1) ((t.map sD).set (m-1) (.tup [.int x.1,.int x.2.1,.int l]))=dsO (ss.set (a-1) (t.set (m-1) (x.1,x.2.1,l))):=by
  unfold dsO;rw[gw,gw];rfl
 have c:=vd I S;have d:atI (t.map sD) ((m:Int)-1)=↑(sD x):=by
  rw[show(m:Int)-1=((m-1:Nat):Int) by lia];exact kh sD R
 have ct:fFrz false (fBin dIx (fIxV 3 (fVar 4)) (fBin dSub (fIxV 1 (fC (.int 2))) (fC (.int 1)))) [↑(.sh (ssL ss)),↑(.sh (dD (.tell a m l))),↑(.sh (.int num)),↑(.o2 (dsO ss)),↑(.sh (.int ((a:Int)-1))),none]=↑(sD x,[↑(.sh (ssL ss)),↑(.sh (dD (.tell a m l))),↑(.sh (.int num)),↑(.o2 (dsO ss)),↑(.sh (.int ((a:Int)-1))),none]):=by
  have f:frz false [↑(.sh (ssL ss)),↑(.sh (dD (.tell a m l))),↑(.sh (.int num)),↑(.o2 (dsO ss)),↑(.sh (.int ((a:Int)-1))),none]=[↑(.sh (ssL ss)),↑(.sh (dD (.tell a m l))),↑(.sh (.int num)),↑(.sh (ssL ss)),↑(.sh (.int ((a:Int)-1))),none]:=by
   rw[<-zy8];rfl
  unfold fFrz;rw[f];unfold ssL dD;simp[U,c,d];rfl
 rw[<-zy8 (ss.set (a-1) (t.set (m-1) (x.1,x.2.1,l))),<-b];suffices J:∃e',wb [↑(.sh (ssL ss)),↑(.sh (dD (.tell a m l))),↑(.sh (.int num)),none,none,none]=↑(.rt (.lst [.lst (((dsO ss).set (a-1) ((t.map sD).set (m-1) (.tup [.int x.1,.int x.2.1,.int l]))).map D.lst),.int x.2.2]),e') from let ⟨_,J⟩:=J;jw rfl J;simp only[dD,sD] at ct ⊢;simp only[wb,sSeq,yq,sSet,fC,gq,fIxV,ixSl,fVar,fBin,fTst,sIf,sNil,dGt,dEq,dSub,ae,ah,ac,aj,ao,aq,am,bj,decide_true,decide_false,bf,if_false,if_true,sRet,fLst,gg,ax,fNil,wn,frsE, *];simp only[zut,fTup];simp only[fC,fIxV,ixSl,fVar,fBin,dSub,ae,ah,ac,aj,ao,aq,am,bj,if_true,ax,fNil,frsE,frs1,bi,cq, *];exact⟨_,rfl⟩
theorem zve{v1 v2:lp}(R:ss[a-1]?=↑(x::tl))(S:1<=a)(f:ss.length<=5)(U:tl.length<=1000) :
  ∃e',(sSeq (sSet 5 (fFrz false (fBin dIx (fIxV 3 (fVar 4)) (fC (.int 0))))) (sSeq (wn 3 (fVar 4) (qk false (fSl (fIxV 3 (fVar 4)) (fO1 (fC (.int 1))) (fO0)))) (sRet (fLst (gg (ax (fVar 3) (ax (fVar 5) (fNil)))))))) [↑(.sh (ssL ss)),v1,v2,↑(.o2 (dsO ss)),↑(.sh (.int ((a:Int)-1))),none]=↑(.rt (.lst [ssL (ss.set (a-1) tl),sD x]),e'):=by
 have g:=(ak.mp R).1;have V:ixN (dsO ss).length ((a:Int)-1)=↑(a-1):=by
  rw[tu ⋯ (by unfold dsO;rw[af];lia)];congr 1;lia
 have Y:(dsO ss).set (a-1) (tl.map sD)=dsO (ss.set (a-1) tl):=by unfold dsO;rw[gw]
 have I:=vd R S;have Z:atI (sD x::tl.map sD) 0=↑(sD x):=at_0;have cd:=znm (sD x::tl.map sD) 1 (by simp);have b:noLs (tl.map sD)=true:=z2z tl;have J:(0+1+1<=64)=True:=eq_true (by decide);have c:(frz false [↑(.sh (ssL ss)),v1,v2,↑(.o2 (dsO ss)),↑(.sh (.int ((a:Int)-1))),none])[3]?=↑↑(.sh (ssL ss))/\(frz false [↑(.sh (ssL ss)),v1,v2,↑(.o2 (dsO ss)),↑(.sh (.int ((a:Int)-1))),none])[4]?=↑↑(.sh (.int ((a:Int)-1))):=⟨z2y rfl,z2x rfl⟩;have d:(frz false [↑(.sh (ssL ss)),v1,v2,↑(.o2 (dsO ss)),↑(.sh (.int ((a:Int)-1))),↑(.sh (sD x))])[3]?=↑↑(.sh (ssL ss))/\(frz false [↑(.sh (ssL ss)),v1,v2,↑(.o2 (dsO ss)),↑(.sh (.int ((a:Int)-1))),↑(.sh (sD x))])[4]?=↑↑(.sh (.int ((a:Int)-1))):=⟨z2y rfl,z2x rfl⟩;have ct:fFrz false (fBin dIx (fIxV 3 (fVar 4)) (fC (.int 0))) [↑(.sh (ssL ss)),v1,v2,↑(.o2 (dsO ss)),↑(.sh (.int ((a:Int)-1))),none]=↑(sD x,[↑(.sh (ssL ss)),v1,v2,↑(.o2 (dsO ss)),↑(.sh (.int ((a:Int)-1))),none]):=by
  unfold fFrz;unfold ssL at *;simp[c,I,Z];rfl
 have e:qk false (fSl (fIxV 3 (fVar 4)) (fO1 (fC (.int 1))) (fO0)) [↑(.sh (ssL ss)),v1,v2,↑(.o2 (dsO ss)),↑(.sh (.int ((a:Int)-1))),↑(.sh (sD x))]=↑(tl.map sD,[↑(.sh (ssL ss)),v1,v2,↑(.o2 (dsO ss)),↑(.sh (.int ((a:Int)-1))),↑(.sh (sD x))]):=by
  unfold qk;unfold ssL at *;rw[bi] at I;generalize tl.map sD=TL at *;generalize (ss.map λs=>D.lst (s.map sD))=SL at *;have cd:cutD (sD x::TL) ↑1 none=TL:=cd;simp[d,I,cd,b]
 rw[<-zy8 (ss.set (a-1) tl),<-Y];generalize tl.map sD=TL at *;generalize dsO ss=SO at *;simp only[sSeq,sSet,ct,aj,ac,ao,aq,wn,e,ae,ah,frsE,frs1,bi,cq,fVar,V,sRet,fLst,gg,ax,fNil,am,bj,J,if_true];exact⟨_,rfl⟩
theorem ztw(J:ss[a-1]?=↑(x::tl))(R:1<=a)(S:ss.length<=5)(I:tl.length<=1000):uw [ssL ss,dD (.go a),.int num]=↑(.lst [ssL (ss.set (a-1) tl),sD x]):=by
 obtain⟨e',st⟩:=zve (v1:=↑(.sh (dD (.go a)))) (v2:=↑(.sh (.int num))) J R S I;have U:=λe=>cp_o ss ⋯ e;have sn:=sne;have V:atI [D.str "go",.int (a:Int)] 0=↑(.str "go")/\atI [D.str "go",.int (a:Int)] 1=↑(.int (a:Int)):=⟨rfl,rfl⟩;have Y:((1:Int)<((0+1+1:Nat):Int))=True:=eq_true (by decide);refine jw (e':=e') rfl (?_:wb [↑(.sh (ssL ss)),↑(.sh (dD (.go a))),↑(.sh (.int num)),none,none,none]=_);rw[<-st];simp only[dD];simp[wb,U,V,sn]
theorem zvf{u v w:D}{ts:la}(J:zem [ssL ss]=↑(.lst (.tup [.int (a:Int),u,v,w]::ts)))(R:ss[a-1]?=↑(x::tl))(S:1<=a)(U:ss.length<=5)(I:tl.length<=1000):uw [ssL ss,dD .dry,.int num]=↑(.lst [ssL (ss.set (a-1) tl),sD x]):=by
 obtain⟨e',st⟩:=zve (v1:=↑(.sh (dD .dry))) (v2:=↑(.sh (.int num))) R S U I;have V:=λe=>cp_o ss ⋯ e;have sn:=sne;have Y:atI [D.str "dry"] 0=↑(.str "dry"):=rfl;have Z:atI (.tup [.int (a:Int),u,v,w]::ts) 0=↑(.tup [.int (a:Int),u,v,w]):=at_0;have b:atI [D.int (a:Int),u,v,w] 0=↑(.int (a:Int)):=rfl;have c:((1:Int)<((0+1:Nat):Int))=False:=eq_false (by decide);refine jw (e':=e') rfl (?_:wb [↑(.sh (ssL ss)),↑(.sh (dD .dry)),↑(.sh (.int num)),none,none,none]=_);rw[<-st];simp only[dD];simp[wb,V,Y,sn,J,Z,b]
def stP(k:m3)(p:np)(s:Hs):ln:=[.d (ssL s.1),.o (k.map dD),.o (p.map stD),.d (spL s.2)]
structure SI (n i:Nat) (s:Hs):Prop where
 len:s.1.length=n
 few:s.1.flatten.length<=14
 good:∀x∈s.1.flatten,jb x
 chain:sw 0 s.2
 rate:∀x∈s.2,0<=x.2.2/\x.2.2<=100000
 sp:s.2.length<=i
 hour:sv 0 s.2<=60*s.2.length
def Stp(k:m3)(s:Hs)(d:Deed)(s':Hs):Prop:=cmdX s.1 k.length (.d d)=none/\∃ans,uw [ssL s.1,dD d,.int (j4 k)]=↑(.lst [ssL s'.1,ans])/\match d with | .dry=>∃x:Sk,ans=sD x/\s'.2=s.2++[(hrOf s.2,hrOf s.2+x.2.1,lss s.1.flatten)] |_=>s'.2=s.2
structure HI (n:Nat) (k:m3) (p:np) (s:Hs):Prop where
 n5:n<=5
 k60:k.length<=60
 kp:p.length=k.length
 all:∀i t,(p++[s])[i]?=↑t->SI n i t
 st0:(p++[s])[0]?=↑(newS n)
 tr:∀i d t t',k[i]?=↑d->(p++[s])[i]?=↑t->(p++[s])[i+1]?=↑t'->Stp (k.take i) t d t'
def HI.at(h:HI n k p s):SI n k.length s:=h.all k.length s (by rw[<-h.kp];simp)
variable{x:Str}
def ze{x:Nat}(h:e[i]?=↑↑(.ag .ls ↑r ps))(h2:e[x]?=↑↑(.al r (tf ps j)))(D:ps[j]?=↑(.o ds)):lv (.al x) i j e=↑ds:=by
 unfold lv agAt;rw[if_pos (show Acc.ok (.al x) e i j from⟨_,_,_,h,h2⟩),h];dsimp;rw[D]
def z8y(h:c∈md):∃w,y0 c=↑w/\(w=("" : Str))=False:=by
 simp[md] at h;rcases h with rfl |rfl |rfl |rfl |rfl |rfl |rfl |rfl |rfl |rfl |rfl |rfl |rfl <;> exact⟨_,rfl,eq_false (by decide)⟩
variable{c:Cmd}
def z1v(h:cmdX ss n c=↑x):x∈md:=by
 cases c with
 |back =>
   simp only[cmdX] at h;split at h
   ·cases h;decide
   ·cases h
 |d y =>
   cases y with
   |put a b l=>simp only[cmdX,putX] at h;(repeat' split at h) <;> (first |cases h) <;> decide
   |tell a b l=>simp only[cmdX,uj] at h;(repeat' split at h) <;> (first |cases h) <;> decide
   |go a=>simp only[cmdX,goX] at h;(repeat' split at h) <;> (first |cases h) <;> decide
   |dry=>simp only[cmdX,dryX] at h;(repeat' split at h) <;> (first |cases h) <;> decide
def z5i(hi:HI n k p s)(h:cmdX s.1 k.length c=↑x):askX c [hA k (p++[s])] (askD c)=↑(x,[hA k (p++[s])]):=by
 have l5:s.1.length<=5:=by rw[hi.at.len];exact hi.n5
 cases c with
 |back =>
   simp only[cmdX] at h;split at h
   ·cases h
    rename_i q;obtain rfl:=kg q;exact z8w
   ·cases h
 |d y =>
   cases y with
   |put a b l=>exact yal h l5
   |tell a b l=>exact z8v h l5
   |go a=>exact go_x h l5 |dry=>exact yam h l5
def z8z(hi:HI n k p s)(h:cmdX s.1 k.length c=↑x):qx [hA k (p++[s]),(.ls,stP k p s)] [cD c]=↑(.bl true,[hA k (p++[s]),(.ls,stP k p s)]):=by
 obtain⟨w,I,D⟩:=z8y (z1v h);have rf:=zkt s.1 k.length c (by rw[hi.at.len];exact hi.n5);rw[h,show dueW ↑x=w by show(y0 x).getD "" = w;rw[I];rfl] at rf;have cl:=z8x c (z5i hi h) I;have R:=zji [.str "refused",.str w] (by simp[plD]) (by simp);have S:((k.map dD).length:Int)=k.length:=by rw[af]
 have pl:=ze (e:=[↑(.ag kH ↑0 (hP k (p++[s]))),↑(.ag .ls ↑1 (stP k p s)),↑(.sh (cD c)),↑(.sh (ssL s.1)),↑(.al 1 0),↑(.al 1 1),↑(.sh (spL s.2)),none,none,none,none,none]) (i:=1) (x:=4) (j:=1) (ds:=k.map dD) rfl rfl rfl;have J:=zf (m:=u4) (F:=ax (fVar 2) fNil) (e:=[↑(.ag kH ↑0 (hP k (p++[s]))),↑(.ag .ls ↑1 (stP k p s)),↑(.sh (cD c)),↑(.sh (ssL s.1)),↑(.al 1 0),↑(.al 1 1),↑(.sh (spL s.2)),↑(.sh (.str w)),none,none,none,none]) (i:=0) (l:=↑0) (ps:=hP k (p++[s])) (ds:=[cD c]) rfl rfl cl;refine(x0 (e:=[↑(.ag kH ↑0 (hP k (p++[s]))),↑(.ag .ls ↑1 (stP k p s)),↑(.sh (cD c)),↑(.sh (ssL s.1)),↑(.al 1 0),↑(.al 1 1),↑(.sh (spL s.2)),↑(.sh (.str w)),↑(.sh (.tup [.str "refused",.str w])),none,none,none]) rfl rfl ?_ rfl).1;rw[show kn 12 [hA k (p++[s]),(.ls,stP k p s)] [cD c]=[↑(.ag kH ↑0 (hP k (p++[s]))),↑(.ag .ls ↑1 (stP k p s)),↑(.sh (cD c)),none,none,none,none,none,none,none,none,none] from rfl];have un:xu 1 [3,4,5,6] [↑(.ag kH ↑0 (hP k (p++[s]))),↑(.ag .ls ↑1 (stP k p s)),↑(.sh (cD c)),none,none,none,none,none,none,none,none,none]=↑(.nx,[↑(.ag kH ↑0 (hP k (p++[s]))),↑(.ag .ls ↑1 (stP k p s)),↑(.sh (cD c)),↑(.sh (ssL s.1)),↑(.al 1 0),↑(.al 1 1),↑(.sh (spL s.2)),none,none,none,none,none]):=rfl;generalize hP k (p++[s])=HP at *;generalize spL s.2=SP at *;rw[<-S] at rf;generalize k.map dD=KL at *;simp at J;simp[zt,un,pLen,pl,rf];simp[J,D,R]
theorem z80(D:e[4]?=↑↑(.sh (.lst (k.map dD))))(J:k.length<=1000):fBin gp (fC (.int 1)) (dy bLen (ax (fLst (ig (fiS (fVar 4)) [] (fTst (fBin dEq (fIxV 0 (fC (.int 0))) (fC (.str "put")))) (fVar 0))) (fNil))) e=↑(.int (j4 k),e):=by
 have c:=zlv (tt:=fTst (fBin dEq (fIxV 0 (fC (.int 0))) (fC (.str "put")))) (te:=fVar 0) (base:=[]) dD dD Deed.isPut k λx _=>by
  cases x with
  |put a h l=>exact⟨_,rfl,λ_=>⟨_,rfl⟩⟩
  |tell a p l=>exact⟨_,rfl,λz=>nomatch z⟩
  |go a=>exact⟨_,rfl,λz=>nomatch z⟩ |dry=>exact⟨_,rfl,λz=>nomatch z⟩
 have I:Few (k.map dD).length:=few (by rw[af];lia);unfold j4;generalize k.map dD=L at *;simp[ig,D,I,c]
variable{x:Sk}
def zvg{x:Nat}(h:e[1]?=↑↑(.ag .ls ↑r ps))(h2:e[x]?=↑↑(.al r (tf ps j)))(D:ps[j]?=↑(.o ds))(I:f e=↑(d,e))(J:Few (ds.length+1)) :
  ut (.al x) 1 j f e=↑(.non,e.set 1 ↑(.ag .ls ↑r (ps.set j (.o (ds++[d]))))):=by
 unfold ut;rw[h];dsimp only;rw[if_pos (show labO .ls ↑r from⟨rfl,λ_ _ z=>nomatch z⟩),ze h h2 D,ac,I,ac];unfold appP;rw[h];dsimp only;rw[D];dsimp only;rw[if_pos ⟨rfl,rfl,rfl,J⟩];unfold setP;rw[h]
def z81:Deed->Bool | .dry=>true |_=>false
variable{d:Deed}{ss':mu}{ans:D}
theorem yap(hi:HI n k p s)(hd:z81 d=false)(h:cmdX s.1 k.length (.d d)=none)(Z:k.length<=100)(cl:u4 [hA k (p++[s])] [dD d]=↑(ans,[hA (k++[d]) (p++[s]++[(ss',s.2)])]))(st:uw [ssL s.1,dD d,.int (j4 k)]=↑(.lst [ssL ss',ans]))(I:zbz [ans,ans]=↑(.bl true))(b:noL ans=true) :
  qx [hA k (p++[s]),(.ls,stP k p s)] [dD d]=↑(.bl true,[hA (k++[d]) (p++[s]++[(ss',s.2)]),(.ls,stP (k++[d]) (p++[s]) (ss',s.2))]):=by
 have rf:=zkt s.1 k.length (.d d) (by rw[hi.at.len];exact hi.n5);rw[h,show dueW none = "" from rfl] at rf;have D:((k.map dD).length:Int)=k.length:=by rw[af]
 obtain⟨w,ws,ew,hb,hdr⟩:∃w ws,dD d=.tup (.str w::ws)/\(w=("back" : Str))=False/\(w=("dry" : Str))=False:=by
  cases d with
  |put a h l=>exact⟨_,_,rfl,eq_false (by decide),eq_false (by decide)⟩
  |tell a h l=>exact⟨_,_,rfl,eq_false (by decide),eq_false (by decide)⟩
  |go a=>exact⟨_,_,rfl,eq_false (by decide),eq_false (by decide)⟩ |dry=>cases hd
 have pl:=ze (e:=[↑(.ag kH ↑0 (hP k (p++[s]))),↑(.ag .ls ↑1 (stP k p s)),↑(.sh (dD d)),↑(.sh (ssL s.1)),↑(.al 1 0),↑(.al 1 1),↑(.sh (spL s.2)),none,none,none,none,none]) (i:=1) (x:=4) (j:=1) (ds:=k.map dD) rfl rfl rfl;have U:=zf (m:=u4) (F:=ax (fVar 2) fNil) (e:=[↑(.ag kH ↑0 (hP k (p++[s]))),↑(.ag .ls ↑1 (stP k p s)),↑(.sh (dD d)),↑(.sh (ssL s.1)),↑(.al 1 0),↑(.al 1 1),↑(.sh (spL s.2)),↑(.sh (.str "")),none,none,none,none]) (i:=0) (l:=↑0) (ps:=hP k (p++[s])) (ds:=[dD d]) rfl rfl cl;have nm:fFrz false (fBin gp (fC (.int 1)) (dy bLen (ax (fLst (ig (fiS (fVar 4)) [] (fTst (fBin dEq (fIxV 0 (fC (.int 0))) (fC (.str "put")))) (fVar 0))) (fNil)))) [↑(.ag kH ↑0 (hP (k++[d]) (p++[s]++[(ss',s.2)]))),↑(.ag .ls ↑1 (stP k p s)),↑(.sh (dD d)),↑(.sh (ssL s.1)),↑(.al 1 0),↑(.al 1 1),↑(.sh (spL s.2)),↑(.sh (.str "")),↑(.sh ans),none,none,none]=↑(.int (j4 k),[↑(.ag kH ↑0 (hP (k++[d]) (p++[s]++[(ss',s.2)]))),↑(.ag .ls ↑1 (stP k p s)),↑(.sh (dD d)),↑(.sh (ssL s.1)),↑(.al 1 0),↑(.al 1 1),↑(.sh (spL s.2)),↑(.sh (.str "")),↑(.sh ans),none,none,none]):=by
  unfold fFrz;rw[z80 (k:=k) rfl ⋯];rfl
 have V:=zvg (e:=[↑(.ag kH ↑0 (hP (k++[d]) (p++[s]++[(ss',s.2)]))),↑(.ag .ls ↑1 (stP k p s)),↑(.sh (dD d)),↑(.sh (ssL s.1)),↑(.al 1 0),↑(.al 1 1),↑(.sh (spL s.2)),↑(.sh (.str "")),↑(.sh ans),none,↑(.sh (.lst [ssL ss',ans])),none]) (x:=5) (j:=2) (ds:=p.map stD) (f:=fTup (ax (fVar 3) (ax (fVar 6) fNil))) (d:=stD s) rfl rfl rfl rfl (few (by rw[af];have:=hi.kp;lia));have Y:=zvg (e:=[↑(.ag kH ↑0 (hP (k++[d]) (p++[s]++[(ss',s.2)]))),↑(.ag .ls ↑1 [.d (ssL s.1),.o (k.map dD),.o (p.map stD++[stD s]),.d (spL s.2)]),↑(.sh (dD d)),↑(.sh (ssL s.1)),↑(.al 1 0),↑(.al 1 1),↑(.sh (spL s.2)),↑(.sh (.str "")),↑(.sh ans),none,↑(.sh (.lst [ssL ss',ans])),none]) (x:=4) (j:=1) (ds:=k.map dD) (f:=fVar 2) (d:=dD d) rfl rfl rfl rfl (few (by rw[af];lia));have J:atI (.str w::ws) 0=↑(.str w):=at_0;have R:atI [ssL ss',ans] 0=↑(ssL ss')/\atI [ssL ss',ans] 1=↑ans:=⟨rfl,rfl⟩;refine(x0 (e:=[↑(.ag kH ↑0 (hP (k++[d]) (p++[s]++[(ss',s.2)]))),↑(.ag .ls ↑1 (stP (k++[d]) (p++[s]) (ss',s.2))),↑(.sh (dD d)),↑(.sh (ssL s.1)),↑(.al 1 0),↑(.al 1 1),↑(.sh (spL s.2)),↑(.sh (.str "")),↑(.sh ans),none,↑(.sh (.lst [ssL ss',ans])),none]) rfl rfl ?_ rfl).1;rw[show kn 12 [hA k (p++[s]),(.ls,stP k p s)] [dD d]=[↑(.ag kH ↑0 (hP k (p++[s]))),↑(.ag .ls ↑1 (stP k p s)),↑(.sh (dD d)),none,none,none,none,none,none,none,none,none] from rfl];have un:xu 1 [3,4,5,6] [↑(.ag kH ↑0 (hP k (p++[s]))),↑(.ag .ls ↑1 (stP k p s)),↑(.sh (dD d)),none,none,none,none,none,none,none,none,none]=↑(.nx,[↑(.ag kH ↑0 (hP k (p++[s]))),↑(.ag .ls ↑1 (stP k p s)),↑(.sh (dD d)),↑(.sh (ssL s.1)),↑(.al 1 0),↑(.al 1 1),↑(.sh (spL s.2)),none,none,none,none,none]):=rfl;have S:stP (k++[d]) (p++[s]) (ss',s.2)=[.d (ssL ss'),.o (k.map dD++[dD d]),.o (p.map stD++[stD s]),.d (spL s.2)]:=by unfold stP;simp
 have rf:zd8 [ssL s.1,.int (k.length:Int),dD d]=↑(.str ""):=rf;rw[S];rw[<-D] at rf;unfold stP at *;generalize dD d=DD at *;subst ew;clear S D cl;generalize hP (k++[d]) (p++[s]++[(ss',s.2)])=HP2 at *;generalize k.map dD=KL at *;simp[zt,un,pLen,pl,rf];simp[U,J,hb];simp[nm,st,V,Y,uk,R,hdr,I];simp[R,J,hdr,I]
def z20{x:Nat}{d:D}(h:e[1]?=↑↑(.ag .ls ↑r ps))(h2:e[x]?=↑↑(.al r (tf ps j)))(I:ps[j]?=↑(.o (ds++[d]))) :
  pPop (.al x) 1 j e=↑(d,e.set 1 ↑(.ag .ls ↑r (ps.set j (.o ds)))):=by
 unfold pPop;rw[ze h h2 I,ac,show(ds++[d])[(ds++[d]).length-1]?=↑d by simp,aj,show(ds++[d]).dropLast=ds by simp];unfold setP;rw[h]
def yaq(d:Deed):∃xs,dD d=.tup xs/\(∀x∈xs,plD x)/\xs.length<=1000:=by
 cases d <;> exact⟨_,rfl,by simp[plD],by simp⟩
def z5j(hi:HI n (k++[d]) (p++[s]) s') :
  qx [hA (k++[d]) (p++[s]++[s']),(.ls,stP (k++[d]) (p++[s]) s')] [cD .back]=↑(.bl true,[hA k (p++[s]),(.ls,stP k p s)]):=by
 have h:cmdX s'.1 (k++[d]).length .back=none:=by simp[cmdX]
 have rf:=zkt s'.1 (k++[d]).length .back (by rw[hi.at.len];exact hi.n5);rw[h,show dueW none = "" from rfl] at rf;obtain⟨xs,ex,S,U⟩:=yaq d;have J:=zji xs S U;rw[<-ex] at J;have R:=z5h (k:=k) (p:=p) (s:=s) (d:=d) (s':=s');have cl:=zy7 .back R.1 R.2;have V:stP (k++[d]) (p++[s]) s'=[.d (ssL s'.1),.o (k.map dD++[dD d]),.o (p.map stD++[stD s]),.d (spL s'.2)]:=by unfold stP;simp
 have I:((k.map dD++[dD d]).length:Int)=(k++[d]).length:=by simp
 rw[<-I] at rf;rw[V];have pl:=ze (e:=[↑(.ag kH ↑0 (hP (k++[d]) (p++[s]++[s']))),↑(.ag .ls ↑1 [.d (ssL s'.1),.o (k.map dD++[dD d]),.o (p.map stD++[stD s]),.d (spL s'.2)]),↑(.sh (cD .back)),↑(.sh (ssL s'.1)),↑(.al 1 0),↑(.al 1 1),↑(.sh (spL s'.2)),none,none,none,none,none]) (i:=1) (x:=4) (j:=1) (ds:=k.map dD++[dD d]) rfl rfl rfl;have Y:=zf (m:=u4) (F:=ax (fVar 2) fNil) (e:=[↑(.ag kH ↑0 (hP (k++[d]) (p++[s]++[s']))),↑(.ag .ls ↑1 [.d (ssL s'.1),.o (k.map dD++[dD d]),.o (p.map stD++[stD s]),.d (spL s'.2)]),↑(.sh (cD .back)),↑(.sh (ssL s'.1)),↑(.al 1 0),↑(.al 1 1),↑(.sh (spL s'.2)),↑(.sh (.str "")),none,none,none,none]) (i:=0) (l:=↑0) (ps:=hP (k++[d]) (p++[s]++[s'])) (ds:=[cD .back]) rfl rfl cl;have Z:=z20 (e:=[↑(.ag kH ↑0 (hP k (p++[s]))),↑(.ag .ls ↑1 [.d (ssL s'.1),.o (k.map dD++[dD d]),.o (p.map stD++[stD s]),.d (spL s'.2)]),↑(.sh (cD .back)),↑(.sh (ssL s'.1)),↑(.al 1 0),↑(.al 1 1),↑(.sh (spL s'.2)),↑(.sh (.str "")),↑(.sh (dD d)),none,none,none]) (x:=5) (j:=2) rfl rfl rfl;have a:=z20 (e:=[↑(.ag kH ↑0 (hP k (p++[s]))),↑(.ag .ls ↑1 [.d (ssL s.1),.o (k.map dD++[dD d]),.o (p.map stD),.d (spL s.2)]),↑(.sh (cD .back)),↑(.sh (ssL s'.1)),↑(.al 1 0),↑(.al 1 1),↑(.sh (spL s'.2)),↑(.sh (.str "")),↑(.sh (dD d)),↑(.sh (.tup [ssL s.1,spL s.2])),none,none]) (x:=4) (j:=1) rfl rfl rfl;refine(x0 (e:=[↑(.ag kH ↑0 (hP k (p++[s]))),↑(.ag .ls ↑1 (stP k p s)),↑(.sh (cD .back)),↑(.sh (ssL s'.1)),↑(.al 1 0),↑(.al 1 1),↑(.sh (spL s'.2)),↑(.sh (.str "")),↑(.sh (dD d)),↑(.sh (.tup [ssL s.1,spL s.2])),none,none]) rfl rfl ?_ rfl).1;rw[show kn 12 [hA (k++[d]) (p++[s]++[s']),(.ls,[.d (ssL s'.1),.o (k.map dD++[dD d]),.o (p.map stD++[stD s]),.d (spL s'.2)])] [cD .back]=[↑(.ag kH ↑0 (hP (k++[d]) (p++[s]++[s']))),↑(.ag .ls ↑1 [.d (ssL s'.1),.o (k.map dD++[dD d]),.o (p.map stD++[stD s]),.d (spL s'.2)]),↑(.sh (cD .back)),none,none,none,none,none,none,none,none,none] from rfl];have un:xu 1 [3,4,5,6] [↑(.ag kH ↑0 (hP (k++[d]) (p++[s]++[s']))),↑(.ag .ls ↑1 [.d (ssL s'.1),.o (k.map dD++[dD d]),.o (p.map stD++[stD s]),.d (spL s'.2)]),↑(.sh (cD .back)),none,none,none,none,none,none,none,none,none]=↑(.nx,[↑(.ag kH ↑0 (hP (k++[d]) (p++[s]++[s']))),↑(.ag .ls ↑1 [.d (ssL s'.1),.o (k.map dD++[dD d]),.o (p.map stD++[stD s]),.d (spL s'.2)]),↑(.sh (cD .back)),↑(.sh (ssL s'.1)),↑(.al 1 0),↑(.al 1 1),↑(.sh (spL s'.2)),none,none,none,none,none]):=rfl;have b:cD .back=.tup [.str "back"]:=rfl;have c:atI [ssL s.1,spL s.2] 0=↑(ssL s.1)/\atI [ssL s.1,spL s.2] 1=↑(spL s.2):=⟨rfl,rfl⟩;have f:atI [D.str "back"] 0=↑(.str "back"):=rfl;have es:stD s=.tup [ssL s.1,spL s.2]:=rfl;unfold stP;generalize hP (k++[d]) (p++[s]++[s'])=HP2 at *;generalize stD s=SD at *;generalize cD .back=CD at *;subst b es;simp only[zt,sSeq,un,ac,sSet,dy,ax,fNil,fVar,pLen,pl,aj,ae,ah,rf,ao,aq];simp[Y,f];simp[Z,uk,c,a,J]
def z5k(i:Int):uf [.int i]=↑(.bl true):=by
 rfl
def zy9(i:Int):zbz [.int i,.int i]=↑(.bl true)/\noL (.int i)=true:=by
 refine⟨?_,rfl⟩;have w:=z5k i;refine jw (e':=[↑(.sh (.int i)),↑(.sh (.int i))]) rfl ?_;rw[show jy 2 [D.int i,.int i]=[↑(.sh (.int i)),↑(.sh (.int i))] from rfl];simp only[ze9,sSeq,sIf,fTst,fIsi,fVar,sNil,sRet,xp,dy,ax,fNil,w,fBin,dEq,ae,ah,ac,aj];simp[w]
def z21(x:Sk):zbz [sD x,sD x]=↑(.bl true)/\noL (sD x)=true:=by
 refine⟨?_,rfl⟩;have w:=zji [.int x.1,.int x.2.1,.int x.2.2] (by simp[plD]) (by simp);refine jw (e':=[↑(.sh (sD x)),↑(.sh (sD x))]) rfl ?_;rw[show jy 2 [sD x,sD x]=[↑(.sh (sD x)),↑(.sh (sD x))] from rfl];simp only[ze9,sSeq,sIf,fTst,fIsi,fVar,sNil,sRet,dy,ax,fNil,sD,w,ae,ah,ac,aj];simp
theorem z82(hi:HI n k p s)(h:cmdX s.1 k.length (.d .dry)=none)(cl:u4 [hA k (p++[s])] [dD .dry]=↑(sD x,[hA (k++[.dry]) (p++[s]++[dryS s a x tl])]))(st:uw [ssL s.1,dD .dry,.int (j4 k)]=↑(.lst [ssL (s.1.set (a-1) tl),sD x])) :
  qx [hA k (p++[s]),(.ls,stP k p s)] [dD .dry]=↑(.bl true,[hA (k++[.dry]) (p++[s]++[dryS s a x tl]),(.ls,stP (k++[.dry]) (p++[s]) (dryS s a x tl))]):=by
 have I:=hi.at;have l5:s.1.length<=5:=by rw[I.len];exact hi.n5
 have rf:=zkt s.1 k.length (.d .dry) l5;rw[h,show dueW none = "" from rfl] at rf;have J:((k.map dD).length:Int)=k.length:=by rw[af]
 have V:=(z21 x).1;have R:∀y∈s.1,y.length<=1000:=λy Y=>by
  have h1:=I.few;have h2:=(dw Y).length_le
  lia
 have Z:=z5c s.1 ⋯ R;have b:=I.sp;have B:=I.hour;have C:=hi.k60;have c:=zva s.2 I.chain ⋯;have g:(((rts s.2).map D.int).length:Int)=hrOf s.2:=by rw[af,zq2 _ _ I.chain,yx];lia
 have pl:=ze (e:=[↑(.ag kH ↑0 (hP k (p++[s]))),↑(.ag .ls ↑1 (stP k p s)),↑(.sh (dD .dry)),↑(.sh (ssL s.1)),↑(.al 1 0),↑(.al 1 1),↑(.sh (spL s.2)),none,none,none,none,none]) (i:=1) (x:=4) (j:=1) (ds:=k.map dD) rfl rfl rfl;have q:=zf (m:=u4) (F:=ax (fVar 2) fNil) (e:=[↑(.ag kH ↑0 (hP k (p++[s]))),↑(.ag .ls ↑1 (stP k p s)),↑(.sh (dD .dry)),↑(.sh (ssL s.1)),↑(.al 1 0),↑(.al 1 1),↑(.sh (spL s.2)),↑(.sh (.str "")),none,none,none,none]) (i:=0) (l:=↑0) (ps:=hP k (p++[s])) (ds:=[dD .dry]) rfl rfl cl;have nm:fFrz false (fBin gp (fC (.int 1)) (dy bLen (ax (fLst (ig (fiS (fVar 4)) [] (fTst (fBin dEq (fIxV 0 (fC (.int 0))) (fC (.str "put")))) (fVar 0))) (fNil)))) [↑(.ag kH ↑0 (hP (k++[.dry]) (p++[s]++[dryS s a x tl]))),↑(.ag .ls ↑1 (stP k p s)),↑(.sh (dD .dry)),↑(.sh (ssL s.1)),↑(.al 1 0),↑(.al 1 1),↑(.sh (spL s.2)),↑(.sh (.str "")),↑(.sh (sD x)),none,none,none]=↑(.int (j4 k),[↑(.ag kH ↑0 (hP (k++[.dry]) (p++[s]++[dryS s a x tl]))),↑(.ag .ls ↑1 (stP k p s)),↑(.sh (dD .dry)),↑(.sh (ssL s.1)),↑(.al 1 0),↑(.al 1 1),↑(.sh (spL s.2)),↑(.sh (.str "")),↑(.sh (sD x)),none,none,none]):=by
  unfold fFrz;rw[z80 (k:=k) rfl ⋯];rfl
 have r:=zvg (e:=[↑(.ag kH ↑0 (hP (k++[.dry]) (p++[s]++[dryS s a x tl]))),↑(.ag .ls ↑1 (stP k p s)),↑(.sh (dD .dry)),↑(.sh (ssL s.1)),↑(.al 1 0),↑(.al 1 1),↑(.sh (spL s.2)),↑(.sh (.str "")),↑(.sh (sD x)),none,↑(.sh (.lst [ssL (s.1.set (a-1) tl),sD x])),none]) (x:=5) (j:=2) (ds:=p.map stD) (f:=fTup (ax (fVar 3) (ax (fVar 6) fNil))) (d:=stD s) rfl rfl rfl rfl (few (by rw[af];have:=hi.kp;lia));have t:=zvg (e:=[↑(.ag kH ↑0 (hP (k++[.dry]) (p++[s]++[dryS s a x tl]))),↑(.ag .ls ↑1 [.d (ssL s.1),.o (k.map dD),.o (p.map stD++[stD s]),.d (spL s.2)]),↑(.sh (dD .dry)),↑(.sh (ssL s.1)),↑(.al 1 0),↑(.al 1 1),↑(.sh (spL s.2)),↑(.sh (.str "")),↑(.sh (sD x)),none,↑(.sh (.lst [ssL (s.1.set (a-1) tl),sD x])),none]) (x:=4) (j:=1) (ds:=k.map dD) (f:=fVar 2) (d:=dD .dry) rfl rfl rfl rfl (few (by rw[af];lia));have U:atI [D.str "dry"] 0=↑(.str "dry"):=rfl;have u:dD .dry=.tup [.str "dry"]:=rfl;have sn:=sne;have S:atI [ssL (s.1.set (a-1) tl),sD x] 0=↑(ssL (s.1.set (a-1) tl))/\atI [ssL (s.1.set (a-1) tl),sD x] 1=↑(sD x):=⟨rfl,rfl⟩;have v:dIx (sD x) (.int 1)=↑(.int x.2.1):=rfl;have ct:fLst (fCat (fVar 6) (fLst (gg (ax (fTup (ax (fVar 11) (ax (fBin gp (fVar 11) (fBin dIx (fIxV 10 (fC (.int 1))) (fC (.int 1)))) (ax (dy zjc (ax (fVar 3) fNil)) fNil)))) fNil))))
   [↑(.ag kH ↑0 (hP (k++[.dry]) (p++[s]++[dryS s a x tl]))),↑(.ag .ls ↑1 [.d (ssL (s.1.set (a-1) tl)),.o (k.map dD++[dD .dry]),.o (p.map stD++[stD s]),.d (spL s.2)]),↑(.sh (dD .dry)),↑(.sh (ssL s.1)),↑(.al 1 0),↑(.al 1 1),↑(.sh (spL s.2)),↑(.sh (.str "")),↑(.sh (sD x)),none,↑(.sh (.lst [ssL (s.1.set (a-1) tl),sD x])),↑(.sh (.int (hrOf s.2)))]=↑(spL (s.2++[(hrOf s.2,hrOf s.2+x.2.1,lss s.1.flatten)]),[↑(.ag kH ↑0 (hP (k++[.dry]) (p++[s]++[dryS s a x tl]))),↑(.ag .ls ↑1 [.d (ssL (s.1.set (a-1) tl)),.o (k.map dD++[dD .dry]),.o (p.map stD++[stD s]),.d (spL s.2)]),↑(.sh (dD .dry)),↑(.sh (ssL s.1)),↑(.al 1 0),↑(.al 1 1),↑(.sh (spL s.2)),↑(.sh (.str "")),↑(.sh (sD x)),none,↑(.sh (.lst [ssL (s.1.set (a-1) tl),sD x])),↑(.sh (.int (hrOf s.2)))]):=by
  have w:Few ((s.2.map sD).length+1):=few (by rw[af];lia);have z:spL (s.2++[(hrOf s.2,hrOf s.2+x.2.1,lss s.1.flatten)])=.lst (s.2.map sD++[.tup [.int (hrOf s.2),.int (hrOf s.2+x.2.1),.int (lss s.1.flatten)]]):=by unfold spL;rw[b8];rfl
  rw[z];unfold spL;simp only[fLst,fCat,fVar,gg,ax,fNil,fTup,fBin,fIxV,ixSl,fC,dy,ae,ah,ac,aj,S,v,gp,Z,am,bj,show 0+1+1+1<=64 by decide,show 0+1<=64 by decide,w,if_true]
 refine(x0 (e:=[↑(.ag kH ↑0 (hP (k++[.dry]) (p++[s]++[dryS s a x tl]))),↑(.ag .ls ↑1 (stP (k++[.dry]) (p++[s]) (dryS s a x tl))),↑(.sh (dD .dry)),↑(.sh (ssL s.1)),↑(.al 1 0),↑(.al 1 1),↑(.sh (spL s.2)),↑(.sh (.str "")),↑(.sh (sD x)),none,↑(.sh (.lst [ssL (s.1.set (a-1) tl),sD x])),↑(.sh (.int (hrOf s.2)))]) rfl rfl ?_ rfl).1;rw[show kn 12 [hA k (p++[s]),(.ls,stP k p s)] [dD .dry]=[↑(.ag kH ↑0 (hP k (p++[s]))),↑(.ag .ls ↑1 (stP k p s)),↑(.sh (dD .dry)),none,none,none,none,none,none,none,none,none] from rfl];have un:xu 1 [3,4,5,6] [↑(.ag kH ↑0 (hP k (p++[s]))),↑(.ag .ls ↑1 (stP k p s)),↑(.sh (dD .dry)),none,none,none,none,none,none,none,none,none]=↑(.nx,[↑(.ag kH ↑0 (hP k (p++[s]))),↑(.ag .ls ↑1 (stP k p s)),↑(.sh (dD .dry)),↑(.sh (ssL s.1)),↑(.al 1 0),↑(.al 1 1),↑(.sh (spL s.2)),none,none,none,none,none]):=rfl;have A:stP (k++[.dry]) (p++[s]) (dryS s a x tl)=[.d (ssL (s.1.set (a-1) tl)),.o (k.map dD++[dD .dry]),.o (p.map stD++[stD s]),.d (spL (s.2++[(hrOf s.2,hrOf s.2+x.2.1,lss s.1.flatten)]))]:=by unfold stP dryS;simp
 have rf:zd8 [ssL s.1,.int (k.length:Int),dD .dry]=↑(.str ""):=rf;rw[A];rw[<-J] at rf;unfold stP at *;generalize dD .dry=DD at *;subst u;simp only[zt,sSeq,un,ac,sSet,dy,ax,fNil,fVar,pLen,pl,aj,ae,ah,rf,ao,aq];simp only[q,aj,ac,ao,aq,sIf,fTst,fBin,fVar,fC,fIxV,ixSl,ae,ah,dNe,dEq,U,sn,decide_true,decide_false,i4,bf,if_false,sNil];simp only[nm,aj,ac,dy,ax,fNil,fVar,ae,ah,ao,aq,st,je,r,t,uk,S,fIxV,ixSl,fC];simp only[sSeq,sSet,U,decide_true,if_true,dy,ax,fNil,fVar,ae,ah,ao,aq,aj,ac,c,bLen,g,uk,ct,sRet,fIxV,ixSl,fC,S,V]
def znn{α:Type}:∀(ss:List (List α)) (i:Nat) (t t':List α),ss[i]?=↑t->∃A B,ss.flatten=A++(t++B)/\(ss.set i t').flatten=A++(t'++B)
 |y::r,0,t,t',h=>by
   simp at h;subst h;exact⟨[],r.flatten,rfl,rfl⟩
 |y::r,i+1,t,t',h=>by
   obtain⟨A,B,h1,h2⟩:=znn r i t t' (by simpa using h);exact⟨y++A,B,by simp[h1],by simp[h2]⟩
theorem HI.push(h:HI n k p s)(U:k.length<60)(R:SI n (k.length+1) s')(st:Stp k s d s'):HI n (k++[d]) (p++[s]) s':=by
 have S:(p++[s]).length=k.length+1:=by simp[h.kp]
 have lt:∀i,i<=k.length->(p++[s]++[s'])[i]?=(p++[s])[i]?:=λi c=>ay ⋯;have J:(p++[s]++[s'])[k.length+1]?=↑s':=by rw[<-S,kr]
 refine⟨h.n5,by simp;lia,by simp[h.kp],λi t D=>?_,by rw[lt 0 ⋯];exact h.st0,λi d' t t' h1 h2 I=>?_⟩
 ·by_cases c:i<=k.length
  ·exact h.all i t (lt i c ▸ D)
  ·obtain rfl:i=k.length+1:=by have:=(ak.mp D).1;simp[h.kp] at this;lia
   rw[J] at D;cases D;exact R
 ·by_cases c:i<k.length
  ·rw[gh ⋯]
   exact h.tr i d' t t' (by rwa [ay c] at h1) (by rwa [lt i ⋯] at h2) (by rwa [lt _ c] at I)
  ·obtain rfl:i=k.length:=by have:=(ak.mp h1).1;simp at this;lia
   rw[kr] at h1;rw[lt _ (b7 _),<-h.kp,kr] at h2;rw[J] at I;cases h1;cases h2;cases I;rw[nr];exact st
theorem HI.pop(h:HI n (k++[d]) (p++[s]) s'):HI n k p s:=by
 have kp:p.length=k.length:=by have:=h.kp;simp at this;exact this
 have I:∀ {i t},(p++[s])[i]?=↑t->(p++[s]++[s'])[i]?=↑t:=λD=>by rw[ay (ak.mp D).1];exact D
 refine⟨h.n5,by have:=h.k60;simp at this;lia,kp,λi t D=>h.all i t (I D),by have:=h.st0;rwa [ay (by simp)] at this,λi d' t t' h1 h2 J=>?_⟩;have c:=(ak.mp h1).1;have:=h.tr i d' t t' (by rw[ay c];exact h1) (I h2) (I J);rwa [gh ⋯] at this
theorem SI.swap{t':mn}(h:SI n i s)(I:s.1[a]?=↑t)(J:s.1.flatten.length+t'.length<=14+t.length)(R:∀x∈t',(∀y∈t,jb y)->jb x):SI n (i+1) (s.1.set a t',s.2):=by
 obtain⟨A,B,h1,h2⟩:=znn s.1 a t t' I;have g:=h.good;rw[h1] at g J;refine⟨by rw[dz];exact h.len,?_,?_,h.chain,h.rate,rd h.sp,h.hour⟩
 ·show(s.1.set a t').flatten.length<=14
  rw[h2];simp at *
  lia
 ·intro x D
  rw[h2,dg,dg] at D;rcases D with q |q |q
  ·exact g x (by simp[q])
  ·exact R x q λy S=>g y (by simp[S])
  ·exact g x (by simp[q])
theorem z5l(k:m3):1<=j4 k/\j4 k<=k.length+1:=by
 unfold j4;have:=List.length_filter_le Deed.isPut k
 lia
theorem z22:∀(l:mn),(∀x∈l,jb x)->0<=lss l/\lss l<=100*l.length
 | [],_=>⟨by decide,by decide⟩ |x::r,h=>by
   have J:=z22 r λy D=>h y (by simp[D]);have I:=h x (by simp);unfold jb at I;have e:lss (x::r)=x.2.2+lss r:=by simp[lss]
   rw[e,am]
   lia
theorem SI.dry(h:SI n i s)(I:s.1[a-1]?=↑(x::tl)):SI n (i+1) (dryS s a x tl):=by
 have q:=h.swap (t':=tl) I (by have:=h.few;rw[am];lia) λy D J=>J y (by simp[D]);have R:jb x:=h.good x (by
  obtain⟨A,B,h1,_⟩:=znn s.1 (a-1) (x::tl) tl I;rw[h1];simp)
 have S:=z22 s.1.flatten h.good;have V:=h.few;have Y:=h.hour;have U:=h.sp;unfold jb at R;refine⟨q.len,q.few,q.good,?_,?_,?_,?_⟩
 ·exact zsj _ _ _ h.chain (yx s.2) (by show hrOf s.2<=hrOf s.2+x.2.1;lia)
 ·intro y D
  have D:y∈s.2++[(hrOf s.2,hrOf s.2+x.2.1,lss s.1.flatten)]:=D;rw[dg,de] at D;rcases D with D |rfl
  ·exact h.rate y D
  ·show 0<=lss s.1.flatten/\lss s.1.flatten<=100000
   lia
 ·show(s.2++[_]).length<=i+1
  simp;lia
 ·show sv 0 (s.2++[(hrOf s.2,hrOf s.2+x.2.1,lss s.1.flatten)])<=60*((s.2++[(hrOf s.2,hrOf s.2+x.2.1,lss s.1.flatten)]).length:Int)
  rw[zoi,yx,au];simp
  lia
def zza{l:List α}(h:l≠[]):∃m x,l=m++[x]:=⟨l.dropLast,l.getLast h,(List.dropLast_concat_getLast h).symm⟩
def Mv(k:m3)(p:np)(s:Hs)(c:Cmd)(k':m3)(p':np)(s':Hs):Prop:=match cmdX s.1 k.length c with |some _=>k'=k/\p'=p/\s'=s |none=>match c with | .back=>∃d,k=k'++[d]/\p=p'++[s'] | .d d=>k'=k++[d]/\p'=p++[s]
def Done(n:Nat)(k:m3)(p:np)(s:Hs)(c:Cmd):Prop:=∃k' p' s',HI n k' p' s'/\qx [hA k (p++[s]),(.ls,stP k p s)] [cD c]=↑(.bl true,[hA k' (p'++[s']),(.ls,stP k' p' s')])/\Mv k p s c k' p' s'
protected def Mv.d(h:cmdX s.1 k.length (.d d)=none):Mv k p s (.d d) (k++[d]) (p++[s]) s':=by
 unfold Mv;rw[h];exact⟨rfl,rfl⟩
def HI.l5(hi:HI n k p s):s.1.length<=5:=by rw[hi.at.len];exact hi.n5
theorem HI.r14(hi:HI n k p s):∀y∈s.1,y.length<=14:=λy D=>by
 have h2:=(dw D).length_le;have:=hi.at.few
 lia
theorem ztx(hi:HI n k p s)(hd:z81 d=false)(D:k.length<60)(h:cmdX s.1 k.length (.d d)=none)(I:askX (.d d) [hA k (p++[s])] (askD (.d d))=none)(h1:askM (.d d) [hA k (p++[s])] (askD (.d d))=↑(ans,[hA (k++[d]) (p++[s]++[(ss',s.2)])]))(st:uw [ssL s.1,dD d,.int (j4 k)]=↑(.lst [ssL ss',ans]))(J:zbz [ans,ans]=↑(.bl true))(R:noL ans=true)(S:SI n (k.length+1) (ss',s.2)):Done n k p s (.d d) :=
 ⟨_,_,_,hi.push D S ⟨h,ans,st,by cases d <;> first |rfl |cases hd⟩,yap hi hd h ⋯ (zy7 (.d d) I h1) st J R,Mv.d h⟩
variable{a:Int}
theorem z1w{l:Int}(hi:HI n k p s)(h:cmdX s.1 k.length (.d (.put a b l))=none):Done n k p s (.d (.put a b l)):=by
 have hx:putX s.1 k.length a b l=none:=h;have D:=hx;have l5:=hi.l5;have kp:=hi.kp;have c:=hi.k60;unfold putX at D
 (repeat' split at D) <;> try cases D
 rename_i R e f g S;obtain⟨a,rfl⟩:=fy (show 0<=a by lia);have J:=z8s (p:=p) hx l5 ⋯;have I:=uq R;rw[show((a:Int).toNat-1)=a-1 by simp] at I;have i:=hi.r14 _ (az I);have sp:=zvd (num:=j4 k) (h:=b) (l:=l) (a:=a) (ss:=s.1) ⋯ ⋯ l5 ⋯;have U:=z5l k;have V:jb (j4 k,b,l):=⟨U.1,by show j4 k<=60;lia,by show 1<=b;lia,by show b<=60;lia,by show 0<=l;lia,by show l<=100;lia⟩;have Y:SI n (k.length+1) (putS s.1 a (j4 k,b,l),s.2):=hi.at.swap I (by rw[am];lia) λx hx Z=>by
  rw[ce] at hx;rcases hx with hx |hx
  ·rw[hx];exact V
  ·exact Z x hx
 exact ztx hi rfl S h J.1 J.2 sp (zy9 _).1 rfl Y
theorem zzb{m l:Int}(hi:HI n k p s)(h:cmdX s.1 k.length (.d (.tell a m l))=none):Done n k p s (.d (.tell a m l)):=by
 have D:uj s.1 k.length a m l=none:=h;have l5:=hi.l5;have kp:=hi.kp;have c:=hi.at.few;unfold uj at D
 (repeat' split at D) <;> try cases D
 rename_i U V Y e J;obtain⟨a,rfl⟩:=fy (show 0<=a by lia);obtain⟨m,rfl⟩:=fy (show 0<=m by lia);have I:=uq U;rw[show((a:Int).toNat-1)=a-1 by simp] at I V Y;have f:=hi.r14 _ (az I);obtain⟨x,hx2⟩:∃x,(s.1.getD (a-1) [])[m-1]?=↑x:=⟨_,av ⋯⟩;have R:=z5g (k:=k) (p:=p) (s:=s) (l:=l) I hx2 ⋯ ⋯ ⋯ ⋯ J l5 ⋯ ⋯;have sp:=zsp (num:=j4 k) (l:=l) I hx2 ⋯ ⋯ l5;have Z:SI n (k.length+1) (s.1.set (a-1) ((s.1.getD (a-1) []).set (m-1) (x.1,x.2.1,l)),s.2):=hi.at.swap I (by rw[dz];lia) λz b S=>by
  rcases List.mem_or_eq_of_mem_set b with q |q
  ·exact S z q
  ·have g:=S x (az hx2)
   rw[q];exact⟨g.1,g.2.1,g.2.2.1,g.2.2.2.1,by show 0<=l;lia,by show l<=100;lia⟩
 exact ztx hi rfl J h R.1 R.2 sp (zy9 _).1 rfl Z
theorem z5m(hi:HI n k p s)(h:cmdX s.1 k.length (.d (.go a))=none):Done n k p s (.d (.go a)):=by
 have D:goX s.1 k.length a=none:=h;have l5:=hi.l5;have kp:=hi.kp;have c:=hi.at.few;unfold goX at D
 (repeat' split at D) <;> try cases D
 rename_i V J S;obtain⟨a,rfl⟩:=fy (show 0<=a by lia);have I:=uq V;rw[show((a:Int).toNat-1)=a-1 by simp] at I J;have R:=hi.r14 _ (az I);obtain⟨x,tl,et⟩:∃x tl,s.1.getD (a-1) []=x::tl:=by
  cases q:s.1.getD (a-1) [] with
  |nil=>rw[q] at J;simp at J |cons x tl=>exact⟨x,tl,rfl⟩
 rw[et] at I R;have R:tl.length+1<=14:=by simpa using R
 have U:=yak (k:=k) (p:=p) (s:=s) I ⋯ S l5 ⋯;have sp:=ztw (num:=j4 k) I ⋯ l5 ⋯;have Y:SI n (k.length+1) (s.1.set (a-1) tl,s.2):=hi.at.swap I (by rw[am];lia) λz Z b=>b z (by simp[Z]);exact ztx hi rfl S h U.1 U.2 sp (z21 x).1 rfl Y
theorem z1x(hi:HI n k p s)(h:cmdX s.1 k.length (.d .dry)=none):Done n k p s (.d .dry):=by
 have D:dryX s.1 k.length=none:=h;have l5:=hi.l5;have kp:=hi.kp;have I:=hi.at;have J:=I.few;unfold dryX at D
 (repeat' split at D) <;> try cases D
 rename_i Z S;obtain⟨ts,ok,R⟩:=zh8 s.1 I.good J;have c:=zi8 ok R J;have e:=znj ok I.good J ⋯;cases ts with
 |nil =>
   have:=ok.perm.length_eq;simp only[cq,t4,bj] at this
   lia
 |cons t ts =>
   obtain⟨a,b⟩:=t;have f:=(ok.good (a,b) (by simp)).ne;cases b with
   |nil=>exact absurd rfl f |cons x r =>
     obtain⟨tl,g,h1,h2,l,_⟩:=zse ok I.good J;have U:=hi.r14;have V:=U _ (az h1);have V:tl.length+1<=14:=by simpa using V
     have i:=I.sp;have Y:=z8t (k:=k) (p:=p) (s:=s) c h1 h2 S l5 ⋯ (λy j=>by have:=U y j;lia) ⋯ Z;have sp:=zvf (num:=j4 k) e h1 h2 l5 ⋯;exact⟨_,_,_,hi.push S (I.dry h1) ⟨h,sD x,sp,x,rfl,rfl⟩,z82 hi h (zy7 (.d .dry) Y.1 Y.2) sp,Mv.d h⟩
def yar(c:Cmd)(hi:HI n k p s):Done n k p s c:=by
 cases h:cmdX s.1 k.length c with
 |some x=>exact⟨k,p,s,hi,z8z hi h,by unfold Mv;rw[h];exact⟨rfl,rfl,rfl⟩⟩ |none =>
 cases c with
 |back =>
   have D:k≠[]:=λe=>by subst e;simp[cmdX] at h
   have I:p≠[]:=λe=>by subst e;exact D (kg hi.kp.symm)
   obtain⟨k0,d,rfl⟩:=zza D;obtain⟨J,R,rfl⟩:=zza I;exact⟨k0,J,R,hi.pop,z5j hi,by unfold Mv;rw[h];exact⟨d,rfl,rfl⟩⟩
 |d y =>
   cases y with
   |put a b l=>exact z1w hi h
   |tell a m l=>exact zzb hi h
   |go a=>exact z5m hi h |dry=>exact z1x hi h
theorem z83(U:n<=5):zjf [.int n]=↑(.ls,stP [] [] (newS n)):=by
 have I:Few (rngD 0 n).length:=few (by rw[wc];lia);have c:=qi (te:=fLst (gg fNil)) (base:=[]) (λi:Nat=>D.int (0+(i:Int))) (λ_:Nat=>D.lst []) (List.range n) λi _=>⟨_,rfl⟩;have R:rngD 0 n=(List.range n).map λi:Nat=>D.int (0+(i:Int)):=rfl;have S:(List.range n).map (λ_:Nat=>D.lst [])=(List.replicate n ([]:mn)).map λs=>D.lst (s.map sD):=by rw[List.map_const',jt,pj,cq]
 have J:=og n ⋯;unfold rngD at J;rw[S] at c;rw[R] at I;unfold zjf runG;rw[if_pos (show[D.int (n:Int)].length=1 from rfl),show jy 1 [D.int (n:Int)]=[↑(.sh (.int n))] from rfl];simp only[zlh,z02,fAgL,pCd,pCo,pNil,fLst,ig,ij,ax,fVar,fNil,gg,ae,ac,aj,J,I,if_true,cq,c,bj,fg];rw[show frsE [↑(Sl.sh (D.int (n:Int)))]=[↑(.sh (.int n))] from rfl];simp only[ae,ac,aj,J,I,if_true,c,am,bj,show 0+1+1+1+1<=64 by decide];rfl
def HI.new(D:n<=5):HI n [] [] (newS n) :=
 ⟨D,by simp,rfl,λi t h=>by
  have e:i=0/\t=newS n:=by
   cases i with
   |zero=>simp at h;exact⟨rfl,h.symm⟩ |succ m=>simp at h
  obtain⟨rfl,rfl⟩:=e;have z:(newS n).1.flatten=[]:=by simp[newS]
  exact⟨by simp[newS],by rw[z];simp,by rw[z];simp,trivial,λx h=>by simp[newS] at h,by simp[newS],by simp[newS,sv]⟩,rfl,λi d t t' h=>by simp at h⟩
variable{l':Option Nat}
def z5n{J I:ln}{d:D}(S:i≠j)(h:e[i]?=↑↑(.ag κ l ps))(h':e[j]?=↑↑(.ag κ' l' J))(U:F e=↑(ds,e))(V:m [(κ,ps),(κ',J)] ds=↑(d,[(κ,ps'),(κ',I)])) :
  lf m [i,j] F e=↑(d,(e.set i ↑(.ag κ l ps')).set j ↑(.ag κ' l' I)):=by
 unfold lf;rw[if_pos (show aggs e [i,j] from λk R=>by
  simp at R;rcases R with rfl |rfl
  ·exact⟨_,h⟩
  ·exact⟨_,h'⟩),U]
 have Y:(e.set i ↑(.ag κ l ps'))[j]?=↑↑(.ag κ' l' J):=by rw[dh S];exact h'
 simp[getA,h,h',V,putA,Y]
theorem zzc(cs:i0)(a b:k4):∃I:i0,cutD (cs.map D.int) a b=I.map D.int/\I.length<=cs.length:=by
 unfold cutD;rw[<-List.map_drop,<-o9];exact⟨_,rfl,by simp only[du,fb];lia⟩
def z84(h:e[j]?=↑↑(.ag .ls l ps)):(frz false e)[j]?=↑↑(.sh (.lst (ps.map ptD))):=by
 unfold frz;rw[bw,h];rfl
theorem HI.hrs(hi:HI n k p s):0<=hrOf s.2/\hrOf s.2<=3600:=by
 have h:=hi.at;have h1:=h.hour;have h2:=h.sp;have D:=hi.k60;have I:=zu8 _ _ h.chain;rw[yx]
 lia
theorem zzd(hi:HI n k p s)(h:e[i]?=↑↑(.ag kH l (hP k (p++[s]))))(h':e[j]?=↑↑(.ag .ls l' (stP k p s))):fFrz false (iu zd9 [i] (ax (fVar j) fNil)) e=↑(.bl true,e):=by
 have a:=hi.at;have D:=hi.k60;have I:=hi.hrs;have sp:=a.sp;have st:=zy5 (k:=k) (p:=p) (s:=s) (X:=.lst (p.map stD)) a.good a.few hi.l5 ⋯ a.chain a.rate ⋯ ⋯;unfold fFrz;rw[zl6 (z2w h) (r:=([.lst [ssL s.1,.lst (k.map dD),.lst (p.map stD),spL s.2]],frz false e)) (by simp[z84 h'];rfl) (z2w h),st];rfl
abbrev EL(A B C:lp)(k:m3)(p:np)(s:Hs)(r:DE0):DE0:=A::B::C::↑(.ag kH none (hP k (p++[s])))::↑(.ag .ls none (stP k p s))::r
def zze(I:i≠j)(hi:HI n k p s)(h:e[i]?=↑↑(.ag kH l (hP k (p++[s]))))(h':e[j]?=↑↑(.ag .ls l' (stP k p s)))(J:F e=↑([cD c],e)) :
  ∃k' p' s',HI n k' p' s'/\lf qx [i,j] F e=↑(.bl true,(e.set i ↑(.ag kH l (hP k' (p'++[s'])))).set j ↑(.ag .ls l' (stP k' p' s')))/\Mv k p s c k' p' s':=by
 obtain⟨k',p',s',D,hd,R⟩:=yar c hi;exact⟨k',p',s',D,z5n I h h' J hd,R⟩
def z1y{A B C:lp}{r:DE0}:pLen (.at .ls) 4 1 (EL A B C k p s r)=↑(.int (k.length:Int),EL A B C k p s r):=by
 unfold pLen;rw[zqy (l:=none) (ps:=stP k p s) (ds:=k.map dD) rfl rfl,aj,af]
def zzf{A B C:lp}{n y:Nat}:∀(cs:List Cmd) (k:m3) (p:np) (s:Hs) (r:DE0),HI n k p s->y<r.length ->
  ∃k' p' s' I,HI n k' p' s'/\forL (y+5) (sIf (fNot (fTst (lf qx [3,4] (ax (fVar (y+5)) fNil)))) (sRet (fC (.bl false))) sNil) (cs.map cD) (EL A B C k p s r)=↑(.nx,EL A B C k' p' s' (r.set y I))
 | [],k,p,s,r,hi,hy=>⟨k,p,s,r[y],hi,by rw[List.set_getElem_self];rfl⟩ |c::cs,k,p,s,r,hi,hy=>by
   obtain⟨k1,p1,J,h1,hd,_⟩:=zze (e:=EL A B C k p s (r.set y ↑(.sh (cD c)))) (i:=3) (j:=4) (c:=c) (F:=ax (fVar (y+5)) fNil) (by decide) hi rfl rfl (by simp[EL,hy]);obtain⟨k2,p2,s2,v2,h2,D⟩:=zzf cs k1 p1 J (r.set y ↑(.sh (cD c))) h1 (by simpa using hy);rw[re] at D;refine⟨k2,p2,s2,v2,h2,?_⟩;rw[bi,forL,show(EL A B C k p s r).set (y+5) ↑(.sh (cD c))=EL A B C k p s (r.set y ↑(.sh (cD c))) from rfl];simp only[sIf,fNot,fTst,hd,ac,aj,i4,bf,if_false,sNil];exact D
def z85{y:Sk}(h:sD x=sD y):x=y:=by
 obtain⟨a,b,c⟩:=x;obtain⟨d,e,f⟩:=y;simp[sD] at h;simp[h]
def zoj{x y:mu}(h:ssL x=ssL y):x=y:=by
 unfold ssL at h;exact(List.map_inj_right λa b e=>(List.map_inj_right λ_ _=>z85).mp (D.lst.inj e)).mp (D.lst.inj h)
def flat(ts:mv):mn:=(ts.map (·.2)).flatten
abbrev Ent:=Nat×Sk
def non(a:Nat)(L:List Ent):mn:=(L.filter λe=>!(e.1==a)).map (·.2)
def stk(ss:mu)(c:Nat):mn:=if c=0 then[] else ss.getD (c-1) []
def chg(a:Nat)(l:Int):Nat->List Ent->List Ent
 |_,[]=>[] |n,e::L=>if e.1=a then(match n with |0=>(e.1,(e.2.1,e.2.2.1,l))::L |n+1=>e::chg a l n L) else e::chg a l n L
def chgN{a d:Nat}(h:d≠a)(l:Int)(x:Sk)(L:List Ent)(n:Nat):chg a l n ((d,x)::L)=(d,x)::chg a l n L:=by cases n <;> simp[chg,h]
def hd(t:Tn):Int:=(t.2.headD (0,0,0)).1
def beg(T:mn)(n:Int):Int:=hrs (T.takeWhile λx=>!(x.1==n))
theorem zzg(R:SI n i s)(f:n<=5)(st:Stp k s d s') :
  (∃(a:Nat) (h l:Int),d.isPut=true/\1<=a/\a<=s.1.length/\s'.1=putS s.1 a (j4 k,h,l))\/(d.isPut=false/\∃(b:Nat) (r e:mn),s.1[b-1]?=↑r/\s'.1=s.1.set (b-1) e/\(e.map (·.1)).Sublist (r.map (·.1))):=by
 have l5:s.1.length<=5:=by rw[R.len];exact f
 have r14:∀y∈s.1,y.length<=14:=λy U=>cr (dw U).length_le R.few;obtain⟨D,ans,st,_⟩:=st;cases d with
 |dry =>
   right;refine⟨rfl,?_⟩;obtain⟨ts,ok,_⟩:=zh8 s.1 R.good R.few;have u:0<s.1.flatten.length:=by
    replace D:dryX s.1 k.length=none:=D;unfold dryX at D;split at D
    ·assumption
    ·cases D
   have g:=znj ok R.good R.few ⋯;cases ts with
   |nil =>
     have:=ok.perm.length_eq;simp only[cq,t4,bj] at this
     lia
   |cons t ts =>
     obtain⟨a,b⟩:=t;have j:=(ok.good (a,b) (by simp)).ne;cases b with
     |nil=>exact absurd rfl j |cons x r =>
       obtain⟨tl,o,Z,p,v,w,z,A⟩:=zse ok R.good R.few;have V:=r14 _ (az Z);have V:tl.length+1<=14:=by simpa using V
       have sp:=zvf (num:=j4 k) g Z p l5 ⋯;rw[st] at sp;obtain⟨e1,_⟩:ssL s'.1=ssL (s.1.set (a-1) tl)/\ans=sD x:=by simpa using sp
       exact⟨a,x::tl,tl,Z,zoj e1,by rw[bi];exact List.sublist_cons_self _ _⟩
 |put a h l =>
   left;replace D:putX s.1 k.length a h l=none:=D;unfold putX at D;split at D
   ·cases D
   ·rename_i c
    obtain⟨I,rfl⟩:∃I:Nat,a=(I:Int):=⟨a.toNat,by lia⟩;have sp:=zvd (num:=j4 k) (ss:=s.1) (a:=I) (h:=h) (l:=l) ⋯ ⋯ l5 (by
     rw[bx,av ⋯];have:=r14 _ (eg (show I-1<s.1.length by lia));exact cr this ⋯)
    rw[st] at sp;obtain⟨e1,_⟩:ssL s'.1=ssL (putS s.1 I (j4 k,h,l))/\ans=.int (j4 k):=by simpa using sp
    exact⟨I,h,l,rfl,by lia,by lia,zoj e1⟩
 |go a =>
   right;refine⟨rfl,?_⟩;replace D:goX s.1 k.length a=none:=D;unfold goX at D;split at D
   ·cases D
   ·rename_i c
    split at D
    ·cases D
    ·rename_i Y
     obtain⟨I,rfl⟩:∃I:Nat,a=(I:Int):=⟨a.toNat,by lia⟩;have J:=uq c;rw[f6] at J Y;obtain⟨x,tl,et⟩:∃x tl,s.1.getD (I-1) []=x::tl:=by
      cases h:s.1.getD (I-1) [] with
      |nil=>rw[h] at Y;exact absurd rfl Y |cons x tl=>exact⟨x,tl,rfl⟩
     rw[et] at J;have V:=r14 _ (az J);have V:tl.length+1<=14:=by simpa using V
     have sp:=ztw (num:=j4 k) J ⋯ l5 ⋯;rw[st] at sp;obtain⟨e1,_⟩:ssL s'.1=ssL (s.1.set (I-1) tl)/\ans=sD x:=by simpa using sp
     exact⟨I,x::tl,tl,J,zoj e1,by rw[bi];exact List.sublist_cons_self _ _⟩
 |tell a m l =>
   right;refine⟨rfl,?_⟩;replace D:uj s.1 k.length a m l=none:=D;unfold uj at D;split at D
   ·cases D
   ·rename_i c
    split at D
    ·cases D
    ·rename_i Y
     split at D
     ·cases D
     ·rename_i q
      obtain⟨I,rfl⟩:∃I:Nat,a=(I:Int):=⟨a.toNat,by lia⟩;have J:=uq c;rw[f6] at J Y q;obtain⟨S,rfl⟩:∃S:Nat,m=(S:Int):=⟨m.toNat,by lia⟩;generalize s.1.getD (I-1) []=t at *;have U:t[S-1]?=↑(t.getD (S-1) (0,0,0)):=by rw[bx,av ⋯];rfl
      generalize t.getD (S-1) (0,0,0)=y at *;have sp:=zsp (num:=j4 k) (l:=l) J U ⋯ ⋯ l5;rw[st] at sp;obtain⟨e1,_⟩:ssL s'.1=ssL (s.1.set (I-1) (t.set (S-1) (y.1,y.2.1,l)))/\ans=.int y.2.2:=by simpa using sp
      refine⟨I,t,_,J,zoj e1,?_⟩;have:(t.set (S-1) (y.1,y.2.1,l)).map (·.1)=t.map (·.1):=by
       rw[gw,show y.1=(t.map (·.1))[S-1]'(by rw[af];exact(ak.mp U).1) by rw[List.getElem_map,(ak.mp U).2]];exact List.set_getElem_self _
      rw[this];exact List.Sublist.refl _
abbrev Rn:=Bool×Int×Int×Int×Int
inductive Adds (N:Int):List Rn->Int->Prop
 |nil:Adds N [] 0
 |cons {r:Rn} {l:List Rn} {v V:Int}:N*r.2.2.2.1=v*r.2.2.2.2->Adds N l V->Adds N (r::l) (v+V)
end LB
namespace SQ
open PySem L2 LB
def zms:FS:=sRet (dy bSum (ax (fLst (ig (fiS (fVar 0)) [] fYes (gq 0))) (fNil)))
def zr:la->ll:=runD 1 1 zms
def yh:FS:=sSeq (sSet 3 (fLst (ig (ij iR1 (ax (gq 0) (fNil))) [0] (fTst (fBin dGt (dy bLen (ax (fIxV 1 (fVar 0)) (fNil))) (fC (.int 0)))) (fVar 0)))) (sSeq (sIf (fOr (fTst (fBin dEqN (fVar 3) (fLst (gg (fNil))))) (fAnd (fTst (fBin dGt (fVar 2) (fC (.int 1)))) (fTst (fBin dLt (dy zr (ax (fVar 0) (fNil))) (fC (.int 14)))))) (sRet (fTup (ax (fC (.str "put")) (ax (fBin gp (fC (.int 1)) (fBin dMod (fVar 1) (gq 0))) (ax (fBin dSub (fC (.int 60)) (fBin dMul (fBin dMod (fBin dDiv (fVar 1) (fC (.int 5))) (fC (.int 60))) (fBin dMod (fBin dDiv (fVar 1) (fC (.int 300))) (fC (.int 2))))) (ax (fBin dMod (fBin dDiv (fVar 1) (fC (.int 600))) (fC (.int 101))) (fNil))))))) (sNil)) (sSeq (sSet 4 (fIxV 3 (fBin dMod (fVar 1) (gq 3)))) (sSeq (sIf (fOr (fTst (fBin dEq (fVar 2) (fC (.int 2)))) (fAnd (fTst (fBin dEq (fVar 2) (fC (.int 1)))) (fAnd (fTst (fBin dEq (dy zr (ax (fVar 0) (fNil))) (fC (.int 1)))) (fTst (fBin dEq (fBin dMod (fVar 1) (fC (.int 2))) (fC (.int 1))))))) (sRet (fTup (ax (fC (.str "go")) (ax (fBin gp (fVar 4) (fC (.int 1))) (fNil))))) (sNil)) (sSeq (sIf (fTst (fBin dEq (fVar 2) (fC (.int 3)))) (sRet (fTup (ax (fC (.str "dry")) (fNil)))) (sNil)) (sRet (fTup (ax (fC (.str "tell")) (ax (fBin gp (fVar 4) (fC (.int 1))) (ax (fBin gp (fC (.int 1)) (fBin dMod (fBin dDiv (fVar 1) (fC (.int 5))) (dy bLen (ax (fIxV 0 (fVar 4)) (fNil))))) (ax (fBin dMod (fBin dDiv (fVar 1) (fC (.int 70))) (fC (.int 101))) (fNil)))))))))))
def zg3:la->ll:=runD 5 3 yh
def zlm:FS:=sSeq (sSet 2 (gq 0)) (sSeq (sSet 3 (fBin dIx (fLst (gg (ax (fC (.int 1)) (ax (fVar 2) (ax (fC (.int 0)) (ax (fBin gp (fVar 2) (fC (.int 1))) (fNil))))))) (fBin dMod (fVar 1) (fC (.int 4))))) (sSeq (sSet 4 (fBin dIx (fLst (gg (ax (fC (.int 1)) (ax (fC (.int 60)) (ax (fC (.int 61)) (ax (fC (.int 30)) (fNil))))))) (fBin dMod (fBin dDiv (fVar 1) (fC (.int 4))) (fC (.int 4))))) (sSeq (sSet 5 (fBin dIx (fLst (gg (ax (fC (.int 0)) (ax (fC (.int 100)) (ax (fC (.int 101)) (ax (fC (.int 50)) (fNil))))))) (fBin dMod (fBin dDiv (fVar 1) (fC (.int 16))) (fC (.int 4))))) (sSeq (sSet 6 (fBin dIx (fLst (gg (ax (fC (.int 1)) (ax (fC (.int 1)) (ax (fC (.int 15)) (ax (fC (.int 2)) (fNil))))))) (fBin dMod (fBin dDiv (fVar 1) (fC (.int 64))) (fC (.int 4))))) (sRet (fLst (gg (ax (fTup (ax (fC (.str "put")) (ax (fVar 3) (ax (fVar 4) (ax (fVar 5) (fNil)))))) (ax (fTup (ax (fC (.str "tell")) (ax (fVar 3) (ax (fVar 6) (ax (fVar 5) (fNil)))))) (ax (fTup (ax (fC (.str "go")) (ax (fVar 3) (fNil)))) (ax (fTup (ax (fC (.str "dry")) (fNil))) (fNil))))))))))))
def zjk:la->ll:=runD 7 2 zlm
def zq5:FS:=sSeq (sSet 6 (fTup (ax (fC (.str "put")) (ax (fBin gp (fC (.int 1)) (fBin dMod (fBin dDiv (fVar 5) (fC (.int 12120))) (fVar 2))) (ax (fBin dSub (fC (.int 60)) (fBin dMul (fBin dMod (fVar 5) (fC (.int 60))) (fBin dMod (fBin dDiv (fVar 5) (fC (.int 60))) (fC (.int 2))))) (ax (fBin dMod (fBin dDiv (fVar 5) (fC (.int 120))) (fC (.int 101))) (fNil))))))) (sIf (fNot (fTst (lf qx [3,4] (ax (fVar 6) (fNil))))) (sRet (fC (.bl false))) (sNil))
def zty:FS:=sIf (fNot (fTst (lf qx [3,4] (ax (fVar 6) (fNil))))) (sRet (fC (.bl false))) (sNil)
def zok:FS:=sSeq (sSet 8 (fLst (qk false (ig (ij iR1 (ax (fVar 2) (fNil))) [4] (fTst (fBin dGt (dy bLen (ax (fBin dIx (fIxV 1 (fC (.int 0))) (fVar 0)) (fNil))) (fC (.int 0)))) (fVar 0))))) (sIf (fNot (fTst (lf qx [3,4] (ax (fTup (ax (fC (.str "go")) (ax (fBin gp (fC (.int 1)) (fIxV 8 (fBin dMod (fBin dDiv (fIxV 1 (fBin gp (fC (.int 1)) (fVar 7))) (fC (.int 60600))) (gq 8)))) (fNil)))) (fNil))))) (sRet (fC (.bl false))) (sNil))
def ztz:FS:=sIf (fNot (fTst (lf qx [3,4] (ax (dy zg3 (ax (fDat 4 0) (ax (fVar 5) (ax (fBin dMod (fBin dDiv (fIxV 1 (fC (.int 0))) (fC (.int 300))) (fC (.int 4))) (fNil))))) (fNil))))) (sRet (fC (.bl false))) (sNil)
def zzh:FS:=sIf (fNot (fTst (lf qx [3,4] (ax (fVar 6) (fNil))))) (sRet (fC (.bl false))) (sNil)
def z86:FS:=sSeq (sSet 1 (dy zgc (ax (fVar 0) (ax (fC (.int 62)) (fNil))))) (sSeq (sSet 2 (fBin gp (fC (.int 1)) (fBin dMod (fIxV 1 (fC (.int 0))) (fC (.int 5))))) (sSeq (zx2 3 (zx3 "House" zcq (ax (fVar 2) (fNil)))) (sSeq (zx2 4 (zup zjf (ax (fVar 2) (fNil)))) (sSeq (sFor 5 (fiS (fLst (fSl (fVar 1) (fO1 (fC (.int 1))) (fO1 (fC (.int 15)))))) (zq5)) (sSeq (sFor 6 (fiS (fLst (gg (ax (fBin dIx (dy zjk (ax (fDat 4 0) (ax (fIxV 1 (fC (.int 15))) (fNil)))) (fC (.int 0))) (ax (fTup (ax (fC (.str "put")) (ax (fC (.int 1)) (ax (fC (.int 1)) (ax (fC (.int 0)) (fNil)))))) (fNil)))))) (zty)) (sSeq (sFor 7 (ij iR1 (ax (fBin dMod (fBin dDiv (fIxV 1 (fC (.int 0))) (fC (.int 5))) (fC (.int 15))) (fNil))) (zok)) (sSeq (sFor 5 (fiS (fLst (fSl (fVar 1) (fO1 (fC (.int 16))) (fO1 (fBin dSub (fBin gp (fC (.int 16)) (fC (.int 60))) (pLen (.at .ls) 4 1)))))) (ztz)) (sSeq (sSet 9 (dy zjk (ax (fDat 4 0) (ax (fBin dDiv (fIxV 1 (fC (.int 0))) (fC (.int 1200))) (fNil))))) (sSeq (sFor 6 (fiS (fLst (fCat (fVar 9) (fLst (gg (ax (fTup (ax (fC (.str "back")) (fNil))) (ax (fIxV 9 (fBin dMod (fBin dDiv (fIxV 1 (fC (.int 0))) (fC (.int 75))) (fC (.int 4)))) (ax (fTup (ax (fC (.str "put")) (ax (fC (.int 1)) (ax (fC (.int 1)) (ax (fC (.int 0)) (fNil)))))) (fNil))))))))) (zzh)) (sRet (fFrz false (iu zd9 [3] (ax (fVar 4) (fNil))))))))))))))
def z87:la->ll:=runD 10 1 z86
end SQ
namespace SQ
open PySem L2 LB PyProof.Rows
def top(i:Nat):Stmt:=PySem.Challenge.pw_rotstacks_k24_bounds.main.body.getD i (.Pass ⟨0,0,0,0⟩)
def mth(j:Nat):Stmt:=match top 70 with | .ClassDef _ _ _ b _ _ _ _ _ _ _=>b.getD j (.Pass ⟨0,0,0,0⟩) |_=>.Pass ⟨0,0,0,0⟩
local macro_rules | `(tactic| walk_at "g") => `(tactic| first | exact gl_d (by kernel_rfl) | exact gl_c (by kernel_rfl) | exact gl_p (by kernel_rfl))
local macro_rules | `(tactic| exists $t:term) => `(tactic| as_aux_lemma => exact $t)
local macro_rules | `(tactic| walk_at "b") => `(tactic| exact ⟨by walk_at "g", by assumption⟩)
def ok_all{P:Program}{w:World}{K:k6}{mg:Str->ia}{C:Addr}(T2:Def K mg (top 2) "sack_number" ["sack"])(T3:Def K mg (top 3) "sack_hours" ["sack"])(T4:Def K mg (top 4) "sack_loss" ["sack"])(T5:Def K mg (top 5) "sacks_in_all" ["stacks"])(T6:Def K mg (top 6) "loss_in_all" ["stacks"])(T7:Def K mg (top 7) "top_sack" ["stacks", "at"])(T8:Def K mg (top 8) "with_stack" ["stacks", "at", "stack"])(T9:Def K mg (top 9) "without_top" ["stacks", "at"])(d0:Def K mg (top 11) "share_gap" ["one", "other"])(d1:Def K mg (top 12) "share_sign" ["one", "other"])(d2:Def K mg (top 13) "single_block" ["sack"])(d3:Def K mg (top 14) "joined_block" ["upper", "lower"])(d4:Def K mg (top 15) "block_share" ["block"])(d5:Def K mg (top 16) "has_greater_share" ["upper", "lower"])(d6:Def K mg (top 17) "stack_blocks" ["stack"])(ea:Def K mg (top 34) "turn_share" ["turn"])(eb:Def K mg (top 35) "place_of_turn" ["turns", "turn"])(ec:Def K mg (top 36) "block_turns" ["stacks"])(ed:Def K mg (top 37) "turn_sacks" ["stacks", "turns"])(ee:Def K mg (top 38) "told_order" ["stacks"])(cd:Def K mg (top 39) "check_known" ["stacks", "at"])(ef:Def K mg (top 40) "check_whole" ["stacks", "order"])(ei:Def K mg (top 41) "check_order" ["stacks", "order"])(ej:Def K mg (top 42) "taken_sacks" ["stacks", "order"])(el:Def K mg (top 44) "order_plan" ["stacks", "order"])(en:Def K mg (top 45) "order_cost" ["stacks", "order"])(eo:Def K mg (top 46) "least_cost" ["stacks"])(ep:Def K mg (top 48) "hours_gone" ["stretches"])(er:Def K mg (top 49) "lost_by" ["stretches", "hour"])(es:Def K mg (top 51) "block_debts" ["share", "sacks"])(et:Def K mg (top 52) "turn_fall" ["turns", "place"])(eu:Def K mg (top 53) "why_least" ["stacks"])(ev:Def K mg (top 60) "check_count" ["many"])(ew:Def K mg (top 61) "check_hours" ["hours"])(ex:Def K mg (top 62) "check_loss" ["loss"])(ey:Def K mg (top 63) "check_room" ["stacks"])(ez:Def K mg (top 64) "check_lies" ["stacks", "at"])(e0:Def K mg (top 65) "check_place" ["stack", "place"])(e1:Def K mg (top 66) "check_waits" ["stacks"])(e2:Def K mg (top 67) "check_deeds" ["deeds"])(e3:Def K mg (top 68) "next_number" ["deeds"])(e4:Def K mg (top 69) "told_anew" ["sack", "loss"])(al:Mef K C (mth 0) "__init__" "House.__init__" ["self", "many"])(an:Mef K C (mth 1) "piles" "House.piles" ["self"])(ap:Mef K C (mth 2) "spans" "House.spans" ["self"])(ar:Mef K C (mth 3) "keep" "House.keep" ["self", "deed", "piles", "spans"])(a0:Mef K C (mth 4) "put" "House.put" ["self", "at", "hours", "loss"])(a1:Mef K C (mth 5) "tell" "House.tell" ["self", "at", "place", "loss"])(a2:Mef K C (mth 6) "go" "House.go" ["self", "at"])(a3:Mef K C (mth 8) "back" "House.back" ["self"])(a4:Mef K C (mth 9) "deeds" "House.deeds" ["self"])(a5:Mef K C (mth 10) "stacks" "House.stacks" ["self"])(a6:Mef K C (mth 11) "hour" "House.hour" ["self"])(a7:Mef K C (mth 7) "dry" "House.dry" ["self"])(a8:Mef K C (mth 12) "order" "House.order" ["self"])(a9:Mef K C (mth 13) "plan" "House.plan" ["self"])(ba:Mef K C (mth 14) "cost" "House.cost" ["self"])(bb:Mef K C (mth 15) "why" "House.why" ["self"])(bd:Mef K C (mth 18) "stretches" "House.stretches" ["self"])(be:Mef K C (mth 19) "lost" "House.lost" ["self", "hour"])(e5:Def K mg (top 72) "_law_whole" ["_law_found"])(e6:Def K mg (top 73) "_law_at" ["_law_script", "_law_k"])(e8:Def K mg (top 74) "_law_draws" ["_law_script", "_law_many"])(e9:Def K mg (top 75) "_law_best" ["_law_sacks"])(fa:Def K mg (top 76) "_law_turns" ["_law_stacks"])(fe:Def K mg (top 77) "_law_told" ["_law_stacks"])(fh:Def K mg (top 78) "_law_taken" ["_law_stacks", "_law_order"])(fi:Def K mg (top 79) "_law_cost" ["_law_sacks"])(fk:Def K mg (top 80) "_law_same_row" ["_law_found", "_law_due"])(fl:Def K mg (top 81) "_law_same_rows" ["_law_found", "_law_due"])(fp:Def K mg (top 82) "_law_same_stacks" ["_law_found", "_law_due"])(fr:Def K mg (top 83) "_law_same_numbers" ["_law_found", "_law_due"])(ch:Def K mg (top 84) "_law_copy" ["_law_stacks"])(fs:Def K mg (top 85) "_law_kind" ["_law_error"])(fv:Def K mg (top 86) "_law_refusal" ["_law_piles", "_law_kept", "_law_deed"])(fw:Def K mg (top 87) "_law_ask" ["_law_house", "_law_deed"])(fz:Def K mg (top 88) "_law_call" ["_law_house", "_law_deed"])(f0:Def K mg (top 89) "_law_step" ["_law_piles", "_law_deed", "_law_number"])(f1:Def K mg (top 90) "_law_rate" ["_law_piles"])(f2:Def K mg (top 91) "_law_same_answer" ["_law_found", "_law_due"])(f3:Def K mg (top 92) "_law_rates" ["_law_dried"])(f4:Def K mg (top 93) "_law_do" ["_law_house", "_law_state", "_law_deed"])(f5:Def K mg (top 94) "_law_new" ["_law_many"])(ga:Def K mg (top 95) "_law_plan" ["_law_piles", "_law_turns_here"])(gb:Def K mg (top 96) "_law_debts" ["_law_sacks", "_law_hours", "_law_loss"])(gd:Def K mg (top 97) "_law_same_why" ["_law_found", "_law_piles"])(gj:Def K mg (top 98) "_law_same_lost" ["_law_house", "_law_dried"])(gr:Def K mg (top 99) "_law_stands" ["_law_house", "_law_state"])(ck:Def K mg (top 100) "_law_sum" ["_law_piles"])(cl:Def K mg (top 101) "_law_filler" ["_law_piles", "_law_cell", "_law_menu"])(cm:Def K mg (top 102) "_law_last" ["_law_piles", "_law_cell"])(l:Cl K "House" C)(cs:Cls K C)(mC:mg "House" = ↑(.ref C))(kC:PySem.W.makesIn K C=true)(pC:PySem.W.keepIn K (.ref C)=true)(bk:PySem.W.findIn K (.ref C) "kept" = ↑none)(Q:PySem.W.findIn K (.ref C) "states" = ↑none)(p:Exc K mg "BadCount")(q:Exc K mg "BadHours")(x:Exc K mg "BadLoss")(m:Exc K mg "DeedsFull")(k:Exc K mg "EmptyStack")(o:Exc K mg "HouseFull")(z:Exc K mg "NotGone")(j:Exc K mg "NothingDone")(c:Exc K mg "NothingWaits")(d:Exc K mg "UnknownPlace")(e:Exc K mg "UnknownStack")(Y:∃t,mg "MOST_DEEDS" = ↑(.int 60 t))(Z:∃t,mg "MOST_HOURS" = ↑(.int 60 t))(b:∃t,mg "MOST_LOSS" = ↑(.int 100 t))(V:∃t,mg "MOST_STACKS" = ↑(.int 5 t))(U:∃t,mg "MOST_WAITING" = ↑(.int 14 t))(A:KFacts K mg)(ag:mg "ValueError" = none)(dv:mg "bool" = none)(bl:mg "enumerate" = none)(gs:mg "int" = none)(ai:mg "isinstance" = none)(gu:mg "len" = none)(dx:mg "list" = none)(g0:mg "max" = none)(g1:mg "min" = none)(cn:mg "range" = none)(g2:mg "str" = none)(g3:mg "sum" = none)(co:mg "tuple" = none)(g4:mg "zip" = none):∀base f fd,Fun K "law" "law" (top 103) f fd->FnOk P w K mg base CX0 11 f fd ["_law_script"] (dSp K z87):=by
 intro base;have D:Atr K "House" "kept":=⟨C,cs,bk,l⟩;have S:Atr K "House" "states":=⟨C,cs,Q,l⟩;have c2:Cal P w K mg base CX0 "sack_number" 1 (dSp K zgq):=by exists jc T2 ["sack"] λr a t=>dm (fj (d9 cb a))
 have c3:Cal P w K mg base CX0 "sack_hours" 1 (dSp K vy):=by exists jc T3 ["sack"] λr a t=>dm (fj (d9 cb a))
 have c4:Cal P w K mg base CX0 "sack_loss" 1 (dSp K xg):=by exists jc T4 ["sack"] λr a t=>dm (fj (d9 cb a))
 have c5:Cal P w K mg base CX0 "sacks_in_all" 1 (dSp K zfz):=by exists jc T5 ["stacks"] λr a t=>dm (fj (vi (bh (gf (ua a (j5 (bg a)) (λ_ _ _ _ _ _ _ a=>js a))) ci)))
 have c6:Cal P w K mg base CX0 "loss_in_all" 2 (dSp K zi5):=by exists jc T6 ["stacks", "total", "stack"] λr a t=>dc (f7 t cb) (dc (l3 (j5 (bg a)) t.pg (dm (x9 t (vi (bh (gf (ua a (j5 (bg a)) (λ_ _ _ _ _ _ _ a=>f8 c4 r (bh (bg a) ci)))) ci))))) (dm (fj (bg a))))
 have c7:Cal P w K mg base CX0 "top_sack" 1 (dSp K zko):=by exists jc T7 ["stacks", "at"] λr a t=>dm (fj (lc (d9 (j6 (bg a) cb) a) cb))
 have c8:Cal P w K mg base CX0 "with_stack" 1 (dSp K z9):=by exists jc T8 ["stacks", "at", "stack"] λr a t=>dm (fj (gf (nh (gf (nh (gf (pk (bg a) r8 (nz (j6 (bg a) cb)))) (gf (i8 (bh (bg a) ci))))) (gf (pk (bg a) (nz (bg a)) r8)))))
 have c9:Cal P w K mg base CX0 "without_top" 2 (dSp K zgs):=by exists jc T9 ["stacks", "at"] λr a t=>dm (fj (f8 c8 r (bh (bg a) (bh (bg a) (bh (gf (pk (d9 (j6 (bg a) cb) a) (nz cb) r8)) ci)))))
 have b5:Cal P w K mg base CX0 "share_gap" 1 (dSp K zz):=by exists jc d0 ["one", "other"] λr a t=>dm (fj (j6 (o6 (d9 cb a) (d9 cb a)) (o6 (d9 cb a) (d9 cb a))))
 have cp:Cal P w K mg base CX0 "share_sign" 2 (dSp K vz):=by exists jc d1 ["one", "other", "gap"] λr a t=>dc (f7 t (f8 b5 r (bh (bg a) (bh (bg a) ci)))) (dc (gx (nc (bg a) cb) (dm (fj cb)) gz) (dc (gx (oz (bg a) cb) (dm (fj (zrk cb))) gz) (dm (fj cb))))
 have g5:Cal P w K mg base CX0 "single_block" 2 (dSp K zft):=by exists jc d2 ["sack"] λr a t=>dm (fj (ke (bh cb (bh (f8 c3 r (bh (bg a) ci)) (bh (f8 c4 r (bh (bg a) ci)) ci)))))
 have g6:Cal P w K mg base CX0 "joined_block" 1 (dSp K zfu):=by exists jc d3 ["upper", "lower"] λr a t=>dm (fj (ke (bh (j7 (d9 cb a) (d9 cb a)) (bh (j7 (d9 cb a) (d9 cb a)) (bh (j7 (d9 cb a) (d9 cb a)) ci)))))
 have ct:Cal P w K mg base CX0 "block_share" 1 (dSp K zeu):=by exists jc d4 ["block"] λr a t=>dm (fj (ke (bh (d9 cb a) (bh (d9 cb a) ci))))
 have g7:Cal P w K mg base CX0 "has_greater_share" 3 (dSp K wf):=by exists jc d5 ["upper", "lower"] λr a t=>dm (fj (z9y (f8 cp r (bh (f8 ct r (bh (bg a) ci)) (bh (f8 ct r (bh (bg a) ci)) ci))) cb))
 have g8:Cal P w K mg base CX0 "stack_blocks" 4 (dSp K zh2):=by exists jc d6 ["stack", "blocks", "sack", "block"] λr a t=>dc (m8 (t.psF (i8 ci))) (dc (l3 (j5 (bg a)) t.pg (dc (f7 t (f8 g5 r (bh (bg a) ci))) (dc (zp0 (dt_w (rq (nc (js a) cb) (tw (lq (ku (f8 g7 r (bh (d9 (zrk cb) a) (bh (bg a) ci)))))))) (dm (f7 t (f8 g6 r (bh (z7o a) (bh (bg a) ci)))))) (dm (j1 (ue (bg a) a)))))) (dm (fj (bg a))))
 have X:Cal P w K mg base CX0 "turn_share" 1 (dSp K u9):=by exists jc ea ["turn"] λr a t=>dm (fj (ke (bh (d9 cb a) (bh (d9 cb a) ci))))
 have g9:Cal P w K mg base CX0 "place_of_turn" 3 (dSp K zhc):=by exists jc eb ["turns", "turn", "place"] λr a t=>dc (f7 t cb) (dc (zp0 (dt_w (rq (oz (bg a) (js a)) (tw (yu (f8 cp r (bh (f8 X r (bh (d9 (bg a) a) ci)) (bh (f8 X r (bh (bg a) ci)) ci))) cb)))) (dm (x9 t cb))) (dm (fj (bg a))))
 have cu:Cal P w K mg base CX0 "block_turns" 5 (dSp K yk):=by exists jc ec ["stacks", "turns", "at", "stack", "many", "hours", "loss", "turn"] λr a t=>dc (m8 (t.psF (i8 ci))) (dc (zp5 (z0m (bh (bg a) ci)) (lg t (lg t um)) (dm (zn0 (j5 (f8 g8 r (bh (bg a) ci))) (lg t (lg t (lg t um))) (dc (f7 t (ke (bh (bg a) (bh (bg a) (bh (bg a) (bh (bg a) ci)))))) (dm (j1 (zxq (z0v g9 r (z4f (z96 (bh (bg a) ci)) a)) (bg a) a))))))) (dm (fj (bg a))))
 have ha:Cal P w K mg base CX0 "turn_sacks" 1 (dSp K zj6):=by exists jc ed ["stacks", "turns", "taken", "sacks", "at", "many", "hours", "loss", "begin"] λr a t=>dc (m8 (zlt a t (j5 (bg a)) (λ_ _ _ _ _ _ _ a=>cb))) (dc (m8 (t.psF (i8 ci))) (dc (zn0 (j5 (bg a)) (lg t (lg t (lg t (lg t um)))) (dc (f7 t (d9 (j6 (bg a) cb) a)) (dc (znc (j6 (bg a) cb) (j7 (bg a) (bg a)) a) (dm (j1 (ue (gf (pk (d9 (j6 (bg a) cb) a) (nz (bg a)) (nz (j7 (bg a) (bg a))))) a)))))) (dm (fj (bg a)))))
 have ca:Cal P w K mg base CX0 "told_order" 6 (fSp K xh):=by exists z4m ee ["stacks", "order", "at", "many", "hours", "loss"] λr a t=>dc (m8 (t.psF (i8 ci))) (dc (zn0 (j5 (f8 cu r (bh (bg a) ci))) (lg t (lg t (lg t (lg t um)))) (dm (j1 (zxx (zxs (i8 (bh (bg a) ci)) (bg a)) a)))) (dm (zxi a)))
 have T:Cal P w K mg base (CXr P w) "check_known" 1 (qSp K zdc xi):=by exists td cd ["stacks", "at"] λr a t=>dm (gx (dt_w (lm (oz (bg a) cb) (l4 (nc (bg a) (js a))))) (dm (uc e zrz)) gz)
 have hb:Cal P w K mg base CX0 "check_known" 1 (dSp K zit):=by exists jc cd ["stacks", "at"] λr a t=>dm (gx (dt_w (lm (oz (bg a) cb) (l4 (nc (bg a) (js a))))) (dm zpz) gz)
 have hc:Cal P w K mg base CX0 "check_whole" 1 (dSp K ziv):=by exists jc ef ["stacks", "order", "left", "at"] λr a t=>dc (m8 (zlt a t (j5 (bg a)) (λ_ _ _ _ _ _ _ a=>js a))) (dc (l3 (j5 (bg a)) t.pg (dc (gx (kt (d9 (j6 (bg a) cb) a) cb) (dm zpz) gz) (dm (z0q (j6 (bg a) cb) cb a)))) (dm (gx (nc (z4e a) cb) (dm zpz) gz)))
 have hd:Cal P w K mg base CX0 "check_order" 2 (dSp K zix):=by exists jc ei ["stacks", "order", "at"] λr a t=>dc (l3 (j5 (bg a)) t.pg (dm (j1 (f8 hb r (bh (bg a) (bh (bg a) ci)))))) (dm (j1 (f8 hc r (bh (bg a) (bh (bg a) ci)))))
 have cv:Cal P w K mg base CX0 "taken_sacks" 3 (dSp K zgr):=by exists jc ej ["stacks", "order", "taken", "sacks", "at"] λr a t=>dc (j1 (f8 hd r (bh (bg a) (bh (bg a) ci)))) (dc (m8 (zlt a t (j5 (bg a)) (λ_ _ _ _ _ _ _ a=>cb))) (dc (m8 (t.psF (i8 ci))) (dc (l3 (j5 (bg a)) t.pg (dc (j1 (ue (lc (d9 (j6 (bg a) cb) a) (d9 (j6 (bg a) cb) a)) a)) (dm (z0p (j6 (bg a) cb) cb a)))) (dm (fj (bg a))))))
 have he:Cal P w K mg base CX0 "order_plan" 4 (dSp K zhr):=by exists jc el ["stacks", "order", "plan", "hour", "at", "sack", "dry"] λr a t=>dc (m8 (t.psF (i8 ci))) (dc (f7 t cb) (dc (zp5 (z7w (bh (bg a) (bh (f8 cv r (bh (bg a) (bh (bg a) ci))) ci))) (lg t (lg t um)) (dc (f7 t (j7 (bg a) (f8 c3 r (bh (bg a) ci)))) (dc (j1 (ue (ke (bh (f8 c2 r (bh (bg a) ci)) (bh (bg a) (bh (bg a) (bh (bg a) ci))))) a)) (dm (f7 t (bg a)))))) (dm (fj (bg a)))))
 have hf:Cal P w K mg base CX0 "order_cost" 4 (dSp K zj1):=by exists jc en ["stacks", "order", "cost", "hour", "sack"] λr a t=>dc (f7 t cb) (dc (f7 t cb) (dc (l3 (j5 (f8 cv r (bh (bg a) (bh (bg a) ci)))) t.pg (dc (x9 t (f8 c3 r (bh (bg a) ci))) (dm (x9 t (o6 (f8 c4 r (bh (bg a) ci)) (bg a)))))) (dm (fj (bg a)))))
 have hg:Cal P w K mg base CX0 "least_cost" 7 (dSp K zhu):=by exists jc eo ["stacks"] λr a t=>dm (fj (f8 hf r (bh (bg a) (bh (gf (zny ca r (bh (bg a) ci))) ci))))
 have cx:Cal P w K mg base CX0 "hours_gone" 1 (dSp K zge):=by exists jc ep ["stretches"] λr a t=>dc (gx (kt (js a) cb) (dm (fj cb)) gz) (dm (fj (lc (d9 (zrk cb) a) cb)))
 have c0:Cal P w K mg base (CXr P w) "lost_by" 2 (qSp K zkq zkr):=by exists td er ["stretches", "hour", "lost", "begun", "dry", "rate"] λr a t=>dc (gx (dt_w (lm (oz (bg a) cb) (l4 (nc (bg a) (f8 cx r (bh (bg a) ci)))))) (dm (uc z zrz)) gz) (dc (f7 t cb) (dc (zn0 (j5 (bg a)) (lg t (lg t (lg t um))) (dm (gx (oz (bg a) (bg a)) (dm (x9 t (o6 (bg a) (j6 (z7j (bh (bg a) (bh (bg a) ci))) (bg a))))) gz))) (dm (fj (bg a)))))
 have hh:Cal P w K mg base CX0 "block_debts" 2 (dSp K zi1):=by exists jc es ["share", "sacks", "debts", "hours", "loss", "sack"] λr a t=>dc (m8 (t.psF (i8 ci))) (dc (f7 t cb) (dc (f7 t cb) (dc (l3 (j5 (gf (pk (bg a) r8 (nz (zrk cb))))) t.pg (dc (x9 t (f8 c3 r (bh (bg a) ci))) (dc (x9 t (f8 c4 r (bh (bg a) ci))) (dm (j1 (ue (f8 b5 r (bh (bg a) (bh (ke (bh (bg a) (bh (bg a) ci))) ci))) a)))))) (dm (fj (bg a))))))
 have hi:Cal P w K mg base CX0 "turn_fall" 2 (dSp K zld):=by exists jc et ["turns", "place"] λr a t=>dc (gx (kt (j7 (bg a) cb) (js a)) (dm (fj cb)) gz) (dm (fj (f8 b5 r (bh (f8 X r (bh (d9 (bg a) a) ci)) (bh (f8 X r (bh (d9 (j7 (bg a) cb) a) ci)) ci)))))
 have hj:Cal P w K mg base CX0 "why_least" 6 (dSp K zi3):=by exists jc eu ["stacks", "turns", "rows", "place", "sacks", "turn"] λr a t=>dc (f7 t (f8 cu r (bh (bg a) ci))) (dc (m8 (t.psF (i8 ci))) (dc (zp5 (z39 (bh (f8 ha r (bh (bg a) (bh (bg a) ci))) ci)) (lg t (lg t um)) (dc (f7 t (d9 (bg a) a)) (dm (j1 (ue (z4c (bg a) (ke (bh (f8 hh r (bh (f8 X r (bh (bg a) ci)) (bh (bg a) ci))) (bh (f8 hi r (bh (bg a) (bh (bg a) ci))) ci)))) a))))) (dm (fj (bg a)))))
 have c1:Cal P w K mg base (CXr P w) "check_count" 1 (qSp K zf0 zf1):=by exists td ev ["many"] λr a t=>dm (gx (dt_w (lm (oz (bg a) cb) (l4 (nc (bg a) (uu V))))) (dm (uc p (zg (qw ww (qw (zi (uu V)) (qw ww zh)))))) gz)
 have da:Cal P w K mg base (CXr P w) "check_hours" 1 (qSp K zf2 zdd):=by exists td ew ["hours"] λr a t=>dm (gx (dt_w (lm (oz (bg a) cb) (l4 (nc (bg a) (uu Z))))) (dm (uc q (zg (qw ww (qw (zi (uu Z)) (qw ww zh)))))) gz)
 have bm:Cal P w K mg base (CXr P w) "check_loss" 1 (qSp K ze5 yj):=by exists td ex ["loss"] λr a t=>dm (gx (dt_w (lm (oz (bg a) cb) (l4 (nc (bg a) (uu b))))) (dm (uc x (zg (qw ww (qw (zi (uu b)) zh))))) gz)
 have dd:Cal P w K mg base (CXr P w) "check_room" 2 (qSp K zgu zdv):=by exists td ey ["stacks"] λr a t=>dm (gx (yu (f8 c5 r (bh (bg a) ci)) (uu U)) (dm (uc o (zg (qw (zi (uu U)) (qw ww zh))))) gz)
 have bo:Cal P w K mg base (CXr P w) "check_lies" 1 (qSp K zfa yi):=by exists td ez ["stacks", "at"] λr a t=>dm (gx (kt (vj (bh (d9 (j6 (bg a) cb) a) ci)) cb) (dm (uc k (zg (qw ww (qw (zi (bg a)) zh))))) gz)
 have dj:Cal P w K mg base (CXr P w) "check_place" 1 (qSp K zf9 zdf):=by exists td e0 ["stack", "place"] λr a t=>dm (gx (dt_w (lm (oz (bg a) cb) (l4 (nc (bg a) (js a))))) (dm (uc d zrz)) gz)
 have dk:Cal P w K mg base (CXr P w) "check_waits" 2 (qSp K zf6 zde):=by exists td e1 ["stacks"] λr a t=>dm (gx (kt (f8 c5 r (bh (bg a) ci)) cb) (dm (uc c zrz)) gz)
 have s:Cal P w K mg base (CXr P w) "check_deeds" 1 (qSp K yg wd):=by exists td e2 ["deeds"] λr a t=>dm (gx (yu (js a) (uu Y)) (dm (uc m (zg (qw (zi (uu Y)) (qw ww zh))))) gz)
 have hk:Cal P w K mg base CX0 "next_number" 1 (dSp K zgv):=by exists jc e3 ["deeds"] λr a t=>dm (fj (j7 cb (vj (bh (gf (zrn a (j5 (bg a)) (λ_ _ _ _ _ _ _ a=>kt (d9 cb a) il) (λ_ _ _ _ _ _ _ a=>bg a))) ci))))
 have hl:Cal P w K mg base CX0 "told_anew" 2 (dSp K zlk):=by exists jc e4 ["sack", "loss"] λr a t=>dm (fj (ke (bh (f8 c2 r (bh (bg a) ci)) (bh (f8 c3 r (bh (bg a) ci)) (bh (bg a) ci)))))
 have bp:KCal P w K mg base "House" 2 (lSp K zcq zfn):=by exists yad l mC kC pC al ["self", "many"] λr a t=>dc (me (j1 (n6 c1 r (jq (bh (bg a) ci)))) (pf (o8 c1 r (jq (bh (bg a) ci))))) (dc (zus D a (i8 ci)) (dm (zus S a (i8 (bh (ke (bh (gf (ua a (sf (bh (bg a) ci)) (λ_ _ _ _ _ _ _ a=>gf (i8 ci)))) (bh (gf (i8 ci)) ci))) ci)))))
 have J:MCal P w K mg base "House" "piles" 1 (qSp K ph zot):=by exists t5 l cs an ["self"] λr a t=>dm (fj (lc (zx1 (xb S a) (z2l z2k)) cb))
 have R:MCal P w K mg base "House" "spans" 1 (qSp K qj zou):=by exists t5 l cs ap ["self"] λr a t=>dm (fj (lc (zx1 (xb S a) (z2l z2k)) cb))
 have g:MCal P w K mg base "House" "keep" 1 (lSp K ug zqu):=by exists yw l cs ar ["self", "deed", "piles", "spans"] λr a t=>dc (j1 (zim (xb D a) (bg a))) (dm (j1 (zim (xb S a) (ke (bh (bg a) (bh (bg a) ci))))))
 have E:MCal P w K mg base "House" "put" 3 (lSp K zgf z8):=by exists yw l cs a0 ["self", "at", "hours", "loss", "piles", "number", "stack"] λr a t=>dc (f7 t (lw J r a)) (dc (me (j1 (n6 T r (jq (bh (bg a) (bh (bg a) ci))))) (pf (o8 T r (jq (bh (bg a) (bh (bg a) ci)))))) (dc (me (j1 (n6 da r (jq (bh (bg a) ci)))) (pf (o8 da r (jq (bh (bg a) ci))))) (dc (me (j1 (n6 bm r (jq (bh (bg a) ci)))) (pf (o8 bm r (jq (bh (bg a) ci))))) (dc (me (j1 (n6 dd r (jq (bh (bg a) ci)))) (pf (o8 dd r (jq (bh (bg a) ci))))) (dc (me (j1 (vk (λ_ _=>n6 s r (jq (bh (vo D a) ci))))) (pf (zuq (λ_ _=>o8 s r (jq (bh (vo D a) ci)))))) (dc (f7 t (vk (λ_ _=>f8 hk r (bh (vo D a) ci)))) (dc (f7 t (gf (nh (gf (i8 (bh (ke (bh (bg a) (bh (bg a) (bh (bg a) ci)))) ci))) (d9 (j6 (bg a) cb) a)))) (dc (j1 (yd g r (bh (ke (bh il (bh (bg a) (bh (bg a) (bh (bg a) ci))))) (bh (f8 c8 r (bh (bg a) (bh (bg a) (bh (bg a) ci)))) (bh (lw R r a) ci))) a)) (dm (fj (bg a)))))))))))
 have F:MCal P w K mg base "House" "tell" 3 (lSp K zfb zdz):=by exists yw l cs a1 ["self", "at", "place", "loss", "piles", "stack", "sack", "changed"] λr a t=>dc (f7 t (lw J r a)) (dc (me (j1 (n6 T r (jq (bh (bg a) (bh (bg a) ci))))) (pf (o8 T r (jq (bh (bg a) (bh (bg a) ci)))))) (dc (me (j1 (n6 bo r (jq (bh (bg a) (bh (bg a) ci))))) (pf (o8 bo r (jq (bh (bg a) (bh (bg a) ci)))))) (dc (f7 t (d9 (j6 (bg a) cb) a)) (dc (me (j1 (n6 dj r (jq (bh (bg a) (bh (bg a) ci))))) (pf (o8 dj r (jq (bh (bg a) (bh (bg a) ci)))))) (dc (me (j1 (n6 bm r (jq (bh (bg a) ci)))) (pf (o8 bm r (jq (bh (bg a) ci))))) (dc (me (j1 (vk (λ_ _=>n6 s r (jq (bh (vo D a) ci))))) (pf (zuq (λ_ _=>o8 s r (jq (bh (vo D a) ci)))))) (dc (f7 t (d9 (j6 (bg a) cb) a)) (dc (f7 t (gf (nh (gf (nh (gf (pk (bg a) r8 (nz (j6 (bg a) cb)))) (gf (i8 (bh (f8 hl r (bh (bg a) (bh (bg a) ci))) ci))))) (gf (pk (bg a) (nz (bg a)) r8))))) (dc (j1 (yd g r (bh (ke (bh il (bh (bg a) (bh (bg a) (bh (bg a) ci))))) (bh (f8 c8 r (bh (bg a) (bh (bg a) (bh (bg a) ci)))) (bh (lw R r a) ci))) a)) (dm (fj (f8 c4 r (bh (bg a) ci)))))))))))))
 have G:MCal P w K mg base "House" "go" 3 (lSp K zhk zx):=by exists yw l cs a2 ["self", "at", "piles"] λr a t=>dc (f7 t (lw J r a)) (dc (me (j1 (n6 T r (jq (bh (bg a) (bh (bg a) ci))))) (pf (o8 T r (jq (bh (bg a) (bh (bg a) ci)))))) (dc (me (j1 (n6 bo r (jq (bh (bg a) (bh (bg a) ci))))) (pf (o8 bo r (jq (bh (bg a) (bh (bg a) ci)))))) (dc (me (j1 (vk (λ_ _=>n6 s r (jq (bh (vo D a) ci))))) (pf (zuq (λ_ _=>o8 s r (jq (bh (vo D a) ci)))))) (dc (j1 (yd g r (bh (ke (bh il (bh (bg a) ci))) (bh (f8 c9 r (bh (bg a) (bh (bg a) ci))) (bh (lw R r a) ci))) a)) (dm (fj (f8 c7 r (bh (bg a) (bh (bg a) ci)))))))))
 have H:MCal P w K mg base "House" "back" 1 (lSp K zfd zd1):=by exists yw l cs a3 ["self"] λr a t=>dc (gx (kt (zqf (xb D a)) cb) (dm (uc j zrz)) gz) (dc (j1 (zng (xb S a))) (dm (fj (zng (xb D a)))))
 have br:MCal P w K mg base "House" "deeds" 1 (qSp K zf4 zov):=by exists t5 l cs a4 ["self"] λr a t=>dm (fj (gf (zx0 (xb D a))))
 have bs:MCal P w K mg base "House" "stacks" 2 (qSp K ze6 zog):=by exists t5 l cs a5 ["self"] λr a t=>dm (fj (gf (ua a (j5 (lw J r a)) (λ_ _ _ _ _ _ _ a=>gf (zj (bh (bg a) ci))))))
 have L:MCal P w K mg base "House" "hour" 2 (qSp K ze7 zqv):=by exists t5 l cs a6 ["self"] λr a t=>dm (fj (f8 cx r (bh (lw R r a) ci)))
 have M:MCal P w K mg base "House" "dry" 7 (lSp K zgh z0):=by exists yw l cs a7 ["self", "piles", "at", "sack", "begun", "stretch"] λr a t=>dc (f7 t (lw J r a)) (dc (me (j1 (n6 dk r (jq (bh (bg a) ci)))) (pf (o8 dk r (jq (bh (bg a) ci))))) (dc (me (j1 (vk (λ_ _=>n6 s r (jq (bh (vo D a) ci))))) (pf (zuq (λ_ _=>o8 s r (jq (bh (vo D a) ci)))))) (dc (f7 t (lc (gf (zny ca r (bh (bg a) ci))) cb)) (dc (f7 t (f8 c7 r (bh (bg a) (bh (bg a) ci)))) (dc (f7 t (lw L r a)) (dc (f7 t (ke (bh (bg a) (bh (j7 (bg a) (f8 c3 r (bh (bg a) ci))) (bh (f8 c6 r (bh (bg a) ci)) ci))))) (dc (j1 (yd g r (bh (ke (bh il ci)) (bh (f8 c9 r (bh (bg a) (bh (bg a) ci))) (bh (gf (nh (lw R r a) (gf (i8 (bh (bg a) ci))))) ci))) a)) (dm (fj (bg a))))))))))
 have N:MCal P w K mg base "House" "order" 7 (qSp K zd7 zow):=by exists t5 l cs a8 ["self"] λr a t=>dm (fj (gf (zny ca r (bh (lw J r a) ci))))
 have bt:MCal P w K mg base "House" "plan" 8 (qSp K zgz zqw):=by exists t5 l cs a9 ["self"] λr a t=>dm (fj (f8 he r (bh (lw J r a) (bh (lw N r a) ci))))
 have bv:MCal P w K mg base "House" "cost" 8 (qSp K zg0 zqx):=by exists t5 l cs ba ["self"] λr a t=>dm (fj (f8 hg r (bh (lw J r a) ci)))
 have b0:MCal P w K mg base "House" "why" 7 (qSp K zhx zsf):=by exists t5 l cs bb ["self"] λr a t=>dm (fj (f8 hj r (bh (lw J r a) ci)))
 have b1:MCal P w K mg base "House" "stretches" 2 (qSp K zdl zl5):=by exists t5 l cs bd ["self"] λr a t=>dm (fj (gf (zj (bh (lw R r a) ci))))
 have O:MCal P w K mg base "House" "lost" 3 (qSp K zgx zgy):=by exists t5 l cs be ["self", "hour"] λr a t=>dm (me (fj (n6 c0 r (jq (bh (lw R r a) (bh (bg a) ci))))) (x6 (o8 c0 r (jq (bh (lw R r a) (bh (bg a) ci))))))
 have B:Cal P w K mg base CX0 "_law_whole" 1 (dSp K uf):=by exists jc e5 ["_law_found"] λr a t=>dm (fj (zxc (tm z7s (bg a)) (zxb (z7a (tm z33 (bg a))))))
 have hm:Cal P w K mg base CX0 "_law_at" 1 (dSp K zjw):=by exists jc e6 ["_law_script", "_law_k"] λr a t=>dc (gx (oz (bg a) (js a)) (dm (fj (d9 (bg a) a))) gz) (dm (fj cb))
 have hn:Cal P w K mg base CX0 "_law_draws" 2 (dSp K zgc):=by exists jc e8 ["_law_script", "_law_many", "_law_made", "_law_state", "_law_k", "_law_cell"] λr a t=>dc (m8 (t.psF (i8 ci))) (dc (f7 t cb) (dc (l3 (sf (bh (bg a) ci)) t.pg (dc (f7 t (f8 hm r (bh (bg a) (bh (bg a) ci)))) (dc (gx (kt (mf (js a) cb) cb) (dc (f7 t (mf (j7 (j7 (j7 (o6 (bg a) cb) (bg a)) (bg a)) cb) cb)) (dm (f7 t (mf (o6 (j7 (bg a) (bg a)) cb) cb)))) gz) (dm (j1 (ue (bg a) a)))))) (dm (fj (bg a)))))
 have ho:Cal P w K mg base CX0 "_law_best" 1 (dSp K zhd):=by exists jc e9 ["_law_sacks", "_law_best_here", "_law_hours", "_law_loss", "_law_k"] λr a t=>dc (f7 t (gf (i8 (bh cb (bh cb (bh (zrk cb) ci)))))) (dc (f7 t cb) (dc (f7 t cb) (dc (l3 (sf (bh (js a) ci)) t.pg (dc (f7 t (j7 (bg a) (lc (d9 (bg a) a) cb))) (dc (f7 t (j7 (bg a) (lc (d9 (bg a) a) cb))) (dm (gx (yu (o6 (bg a) (d9 cb a)) (o6 (d9 cb a) (bg a))) (dm (f7 t (gf (i8 (bh (j7 (bg a) cb) (bh (bg a) (bh (bg a) ci))))))) gz))))) (dm (fj (bg a))))))
 have cc:Cal P w K mg base CX0 "_law_turns" 2 (dSp K zem):=by exists jc fa ["_law_stacks", "_law_left", "_law_made", "_law_heads", "_law_pick", "_law_k"] λr a t=>dc (m8 (zlt a t (j5 (bg a)) (λ_ _ _ _ _ _ _ a=>gf (zj (bh (bg a) ci))))) (dc (m8 (t.psF (i8 ci))) (dc (zp0 (nc (vi (bh (gf (z0r a (z2h a) (λ_ _ _ _ _ _ _ a=>js a))) ci)) cb) (dc (zp1 (z0s a t (z2h a) (λ_ _ _ _ _ _ _ a=>f8 ho r (bh (bg a) ci)))) (dc (f7 t cb) (dc (l3 (sf (bh (js a) ci)) t.pg (dm (gx (nc (o6 (lc (d9 (bg a) a) cb) (lc (d9 (bg a) a) cb)) (o6 (lc (d9 (bg a) a) cb) (lc (d9 (bg a) a) cb))) (dm (f7 t (bg a))) gz))) (dc (j1 (ue (ke (bh (j7 (bg a) cb) (bh (lc (d9 (bg a) a) cb) (bh (lc (d9 (bg a) a) cb) (bh (lc (d9 (bg a) a) cb) ci))))) a)) (dm (znc (bg a) (gf (pk (d9 (bg a) a) (nz (lc (d9 (bg a) a) cb)) r8)) a))))))) (dm (fj (bg a)))))
 have hp:Cal P w K mg base CX0 "_law_told" 3 (fSp K zla):=by exists z4m fe ["_law_stacks", "_law_made", "_law_turn"] λr a t=>dc (m8 (t.psF (i8 ci))) (dc (l3 (j5 (f8 cc r (bh (bg a) ci))) t.pg (dm (m8 (t.psF (nh (bg a) (gf (zxs (i8 (bh (d9 cb a) ci)) (d9 cb a)))))))) (dm (zxi a)))
 have hq:Cal P w K mg base CX0 "_law_taken" 1 (dSp K zj3):=by exists jc fh ["_law_stacks", "_law_order", "_law_taken_here", "_law_made", "_law_at_here"] λr a t=>dc (m8 (zlt a t (j5 (bg a)) (λ_ _ _ _ _ _ _ a=>cb))) (dc (m8 (t.psF (i8 ci))) (dc (l3 (j5 (bg a)) t.pg (dc (j1 (ue (lc (d9 (j6 (bg a) cb) a) (d9 (j6 (bg a) cb) a)) a)) (dm (znc (j6 (bg a) cb) (j7 (d9 (j6 (bg a) cb) a) cb) a)))) (dm (fj (bg a)))))
 have hr:Cal P w K mg base CX0 "_law_cost" 1 (dSp K zlc):=by exists jc fi ["_law_sacks", "_law_hour", "_law_total", "_law_sack"] λr a t=>dc (f7 t cb) (dc (f7 t cb) (dc (l3 (j5 (bg a)) t.pg (dc (f7 t (j7 (bg a) (d9 cb a))) (dm (f7 t (j7 (bg a) (o6 (d9 cb a) (bg a))))))) (dm (fj (bg a)))))
 have aa:Cal P w K mg base CX0 "_law_same_row" 2 (dSp K we):=by exists jc fk ["_law_found", "_law_due", "_law_k"] λr a t=>dc (gx (dt_w (lm (lq (ku (tm zp3 (bg a)))) (l4 (qo (js a) (js a))))) (dm (fj lh)) gz) (dc (l3 (sf (bh (js a) ci)) t.pg (dc (gx (dt_w (rq (ku (tm zxo (d9 (bg a) a))) (tw (lq (ku (tm zxo (d9 (bg a) a))))))) (dm (fj lh)) gz) (dc (gx (dt_w (rq (lq (ku (tm zxo (d9 (bg a) a)))) (tw (lq (ku (f8 B r (bh (d9 (bg a) a) ci))))))) (dm (fj lh)) gz) (dm (gx (qo (d9 (bg a) a) (d9 (bg a) a)) (dm (fj lh)) gz))))) (dm (fj lh)))
 have b2:Cal P w K mg base CX0 "_law_same_rows" 3 (dSp K uh):=by exists jc fl ["_law_found", "_law_due", "_law_k"] λr a t=>dc (gx (dt_w (lm (lq (ku (tm zp2 (bg a)))) (l4 (qo (js a) (js a))))) (dm (fj lh)) gz) (dc (l3 (sf (bh (js a) ci)) t.pg (dm (gx (lq (ku (f8 aa r (bh (d9 (bg a) a) (bh (d9 (bg a) a) ci))))) (dm (fj lh)) gz))) (dm (fj lh)))
 have hs:Cal P w K mg base CX0 "_law_same_stacks" 4 (dSp K zdk):=by exists jc fp ["_law_found", "_law_due", "_law_k"] λr a t=>dc (gx (dt_w (lm (lq (ku (tm zp2 (bg a)))) (l4 (qo (js a) (js a))))) (dm (fj lh)) gz) (dc (l3 (sf (bh (js a) ci)) t.pg (dm (gx (lq (ku (f8 b2 r (bh (d9 (bg a) a) (bh (d9 (bg a) a) ci))))) (dm (fj lh)) gz))) (dm (fj lh)))
 have dp:Cal P w K mg base CX0 "_law_same_numbers" 2 (dSp K zcb):=by exists jc fr ["_law_found", "_law_due", "_law_k"] λr a t=>dc (gx (dt_w (lm (lq (ku (tm zp2 (bg a)))) (l4 (qo (js a) (js a))))) (dm (fj lh)) gz) (dc (l3 (sf (bh (js a) ci)) t.pg (dm (gx (dt_w (lm (lq (ku (f8 B r (bh (d9 (bg a) a) ci)))) (l4 (qo (d9 (bg a) a) (d9 (bg a) a))))) (dm (fj lh)) gz))) (dm (fj lh)))
 have ht:Cal P w K mg base CX0 "_law_copy" 1 (fSp2 K zht):=by exists z8a ch ["_law_stacks"] λr a t=>dm (z0c (z0b a (j5 (bg a)) (λ_ _ _ _ _ _ _ a=>zj (bh (bg a) ci))))
 have hu:Cal P w K mg base CX0 "_law_copy" 1 (fSp K zk8):=by exists z4m ch ["_law_stacks"] λr a t=>dm (z30 (ua a (j5 (bg a)) (λ_ _ _ _ _ _ _ a=>gf (zj (bh (bg a) ci)))))
 obtain⟨RA,hR,hS⟩:=A.rot;have kk:KCl P w K mg base "_law_kind" 1 kdT:=by exists yaf fs ["_law_error", "_law_kinds", "_law_words", "_law_found"] z1u λu v y a t=>dc (f7 t (gf (i8 (bh (rn A u v y a) (bh (rn A u v y a) ci))))) (dc (f7 t (gf (nh (bg a) (gf (i8 (bh (rn A u v y a) (bh (rn A u v y a) ci))))))) (dc (f7 t (gf (nh (bg a) (gf (i8 (bh (rn A u v y a) (bh (rn A u v y a) ci))))))) (dc (f7 t (gf (nh (bg a) (gf (i8 (bh (rn A u v y a) (bh (rn A u v y a) ci))))))) (dc (f7 t (gf (nh (bg a) (gf (i8 (bh (rn A u v y a) (bh (rn A u v y a) ci))))))) (dc (f7 t (gf (nh (bg a) (gf (i8 (bh (rn A u v y a) (bh (rn A u v y a) ci))))))) (dc (f7 t (gf (nh (bg a) (gf (i8 (bh (rn A u v y a) ci)))))) (dc (f7 t (gf (i8 (bh il (bh il (bh il (bh il (bh il (bh il ci))))))))) (dc (f7 t (gf (nh (bg a) (gf (i8 (bh il (bh il (bh il (bh il (bh il ci)))))))))) (dc (f7 t (gf (nh (bg a) (gf (i8 (bh il (bh il ci))))))) (dc (zp1 (znz (λ_ _ _ _ _ _ _ I h=>y.comp I h) a t (zo9 (λit lo n=>zs9 it lo n) (bh cb ci)) (λ_ _ _ _ _ _ _ y a=>dt_w (rq (ku (d9 (bg a) a)) (tw (ku (z8h A u v y a))))) (λ_ _ _ _ _ _ _ y a=>d9 (bg a) a))) (dm (fj (z4q (bh (gf (nh (gf (i8 (bh il ci))) (bg a))) ci))))))))))))))
 have hv:Cal P w K mg base CX0 "_law_refusal" 1 (dSp K zd8):=by exists jc fv ["_law_piles", "_law_kept", "_law_deed", "_law_word"] λr a t=>dc (f7 t (d9 cb a)) (dc (gx (kt (bg a) il) (dm (fj (lc (gf (i8 (bh il (bh il ci)))) (z3w (bh (z69 (bg a) cb) ci))))) gz) (dc (gx (kt (bg a) il) (dm (gx (kt (vi (bh (gf (ua a (j5 (bg a)) (λ_ _ _ _ _ _ _ a=>js a))) ci)) cb) (dm (fj il)) gz)) (dm (gx (dt_w (lm (oz (d9 cb a) cb) (l4 (nc (d9 cb a) (js a))))) (dm (fj il)) (dm (gx (dt_w (rq (qo (bg a) il) (tw (kt (vj (bh (d9 (j6 (d9 cb a) cb) a) ci)) cb)))) (dm (fj il)) gz))))) (dc (gx (dt_w (rq (kt (bg a) il) (tw (dt_w (lm (oz (d9 cb a) cb) (l4 (nc (d9 cb a) (vj (bh (d9 (j6 (d9 cb a) cb) a) ci))))))))) (dm (fj il)) gz) (dc (gx (dt_w (rq (kt (bg a) il) (tw (dt_w (lm (oz (d9 cb a) cb) (l4 (nc (d9 cb a) cb))))))) (dm (fj il)) gz) (dc (gx (dt_w (rq (dt_w (lm (kt (bg a) il) (l4 (kt (bg a) il)))) (tw (dt_w (lm (oz (d9 cb a) cb) (l4 (nc (d9 cb a) cb))))))) (dm (fj il)) gz) (dc (gx (dt_w (rq (kt (bg a) il) (tw (yu (vi (bh (gf (ua a (j5 (bg a)) (λ_ _ _ _ _ _ _ a=>js a))) ci)) cb)))) (dm (fj il)) gz) (dc (gx (yu (bg a) cb) (dm (fj il)) gz) (dm (fj il)))))))))
 have dr:Cal P w K mg base (CXr P w) "_law_ask" 8 (lSp K zjj zw):=by exists z4n fw ["_law_house", "_law_deed"] λr a t=>dc (gx (kt (d9 cb a) il) (dm (me (fj (yd E r (bh (d9 cb a) (bh (d9 cb a) (bh (d9 cb a) ci))) a)) (x6 (zqd E r (bh (d9 cb a) (bh (d9 cb a) (bh (d9 cb a) ci))) a)))) gz) (dc (gx (kt (d9 cb a) il) (dm (me (fj (yd F r (bh (d9 cb a) (bh (d9 cb a) (bh (d9 cb a) ci))) a)) (x6 (zqd F r (bh (d9 cb a) (bh (d9 cb a) (bh (d9 cb a) ci))) a)))) gz) (dc (gx (kt (d9 cb a) il) (dm (me (fj (yd G r (bh (d9 cb a) ci) a)) (x6 (zqd G r (bh (d9 cb a) ci) a)))) gz) (dc (gx (kt (d9 cb a) il) (dm (me (fj (zpb M r a)) (x6 (zry M r a)))) gz) (dm (me (fj (zpb H r a)) (x6 (zry H r a)))))))
 have hw:Cal P w K mg base (CXr P w) "_law_call" 9 (lSp K u4 zso):=by exists z4n fz ["_law_house", "_law_deed", "_law_refused", "e"] λr a t=>dc (f7 t (ke (bh il (bh il ci)))) (dc (z4s hR hS kk r a t (λ_ _ a t=>dm (me (fj (ye dr r (p9 (jq (bh (bg a) ci)) a))) (x6 (z0y dr r (p9 (jq (bh (bg a) ci)) a)))))) (dm (fj (bg a))))
 have hx:Cal P w K mg base CX0 "_law_step" 3 (dSp K uw):=by exists jc f0 ["_law_piles", "_law_deed", "_law_number", "_law_left", "_law_k", "_law_sack"] λr a t=>dc (zxl (z0a a t (j5 (bg a)) (λ_ _ _ _ _ _ _ a=>zj (bh (bg a) ci)))) (dc (f7 t cb) (dc (gx (nc (js a) cb) (dm (f7 t (j6 (d9 cb a) cb))) gz) (dc (gx (kt (d9 cb a) il) (dc (zuu (λ_ _=>bg a) (zx5 (λ_ _=>nh (gf (i8 (bh (ke (bh (bg a) (bh (d9 cb a) (bh (d9 cb a) ci)))) ci))) (d9 (bg a) a))) a) (dm (fj (gf (i8 (bh (bg a) (bh (bg a) ci))))))) gz) (dc (gx (kt (d9 cb a) il) (dc (f7 t (vk (λ_ _=>lc (d9 (bg a) a) (j6 (d9 cb a) cb)))) (dc (zx7 (λ_ _=>bg a) (λ_ _=>j6 (d9 cb a) cb) (ke (bh (d9 cb a) (bh (d9 cb a) (bh (d9 cb a) ci)))) a) (dm (fj (gf (i8 (bh (bg a) (bh (d9 cb a) ci)))))))) gz) (dc (gx (kt (d9 cb a) il) (dm (f7 t (j6 (lc (lc (f8 cc r (bh (bg a) ci)) cb) cb) cb))) gz) (dc (f7 t (vk (λ_ _=>lc (d9 (bg a) a) cb))) (dc (zuu (λ_ _=>bg a) (zx5 (λ_ _=>pk (d9 (bg a) a) (nz cb) r8)) a) (dm (fj (gf (i8 (bh (bg a) (bh (bg a) ci)))))))))))))
 have hy:Cal P w K mg base CX0 "_law_rate" 1 (dSp K zjc):=by exists jc f1 ["_law_piles"] λr a t=>dm (fj (vi (bh (gf (ua a (j5 (bg a)) (λ_ _ _ _ _ _ _ a=>vi (bh (gf (ua a (j5 (bg a)) (λ_ _ _ _ _ _ _ a=>d9 cb a))) ci)))) ci)))
 have hz:Cal P w K mg base CX0 "_law_same_answer" 3 (dSp K zbz):=by exists jc f2 ["_law_found", "_law_due"] λr a t=>dc (gx (ku (tm zp3 (bg a))) (dm (fj (f8 aa r (bh (bg a) (bh (bg a) ci))))) gz) (dm (fj (zxc (f8 B r (bh (bg a) ci)) (zxb (z69 (bg a) (bg a))))))
 have ds:Cal P w K mg base CX0 "_law_rates" 1 (dSp K zhw):=by exists jc f3 ["_law_dried", "_law_rates_here", "_law_begun", "_law_dry", "_law_rate_here"] λr a t=>dc (f7 t (gf (i8 ci))) (dc (zn0 (j5 (bg a)) (lg t (lg t (lg t um))) (dm (f7 t (gf (nh (bg a) (gf (zxs (i8 (bh (bg a) ci)) (j6 (bg a) (bg a))))))))) (dm (fj (bg a))))
 have ab:Cal P w K mg base (CXr P w) "_law_do" 10 (lSp K qx zwd):=by exists z4n f4 ["_law_house", "_law_state", "_law_deed", "_law_piles", "_law_kept", "_law_past", "_law_dried", "_law_due", "_law_found", "_law_ahead", "_law_step_here", "_law_hour"] λr a t=>dc (z08 (lg t (lg t (lg t (lg t um)))) a) (dc (f7 t (f8 hv r (bh (bg a) (bh (zqf (zr0 a)) (bh (bg a) ci))))) (dc (f7 t (ye hw r (p9 (jq (bh (bg a) ci)) a))) (dc (gx (qo (bg a) il) (dm (fj (f8 aa r (bh (bg a) (bh (ke (bh il (bh (bg a) ci))) ci))))) gz) (dc (gx (kt (d9 cb a) il) (dc (f7 t (zng (zr0 a))) (dc (znh (d9 cb a) a) (dc (znh (d9 cb a) a) (dm (fj (f8 aa r (bh (bg a) (bh (zng (zr0 a)) ci)))))))) gz) (dc (f7 t (f8 hx r (bh (bg a) (bh (bg a) (bh (vk (λ_ _=>j7 cb (vj (bh (gf (zrn a (j5 (bg a)) (λ_ _ _ _ _ _ _ a=>kt (d9 cb a) il) (λ_ _ _ _ _ _ _ a=>bg a))) ci)))) ci))))) (dc (j1 (zim (zr0 a) (ke (bh (bg a) (bh (bg a) ci))))) (dc (j1 (zim (zr0 a) (bg a))) (dc (znh (d9 cb a) a) (dc (gx (kt (d9 cb a) il) (dc (f7 t (vj (bh (f8 ds r (bh (bg a) ci)) ci))) (dm (znh (gf (nh (bg a) (gf (i8 (bh (ke (bh (bg a) (bh (j7 (bg a) (lc (d9 cb a) cb)) (bh (f8 hy r (bh (bg a) ci)) ci)))) ci))))) a))) gz) (dm (fj (f8 hz r (bh (bg a) (bh (d9 cb a) ci))))))))))))))
 have h0:Cal P w K mg base (CXr P w) "_law_new" 1 (gSp K zjf ztr):=by exists yac f5 ["_law_many"] λr a t=>dm (z03 (z4k (z78 (λ_ _=>gf (ua a (sf (bh (bg a) ci)) (λ_ _ _ _ _ _ _ a=>gf (i8 ci)))) (z79 (λ_ _=>i8 ci) (z79 (λ_ _=>i8 ci) (z78 (λ_ _=>gf (i8 ci)) z4j))))))
 have h1:Cal P w K mg base CX0 "_law_plan" 2 (dSp K zlj):=by exists jc ga ["_law_piles", "_law_turns_here", "_law_made", "_law_hour", "_law_left", "_law_at_here", "_law_sack"] λr a t=>dc (m8 (t.psF (i8 ci))) (dc (f7 t cb) (dc (zxl (t.psF2 (z0e ht r (bh (bg a) ci)))) (dc (l3 (j5 (bg a)) t.pg (dc (f7 t (zxn (j6 (bg a) cb) (λ_ _=>cb) a)) (dc (j1 (ue (ke (bh (d9 cb a) (bh (bg a) (bh (bg a) (bh (j7 (bg a) (d9 cb a)) ci))))) a)) (dm (f7 t (j7 (bg a) (d9 cb a))))))) (dm (fj (bg a))))))
 have h2:Cal P w K mg base CX0 "_law_debts" 1 (dSp K zj8):=by exists jc gb ["_law_sacks", "_law_hours", "_law_loss", "_law_made", "_law_begun", "_law_gone", "_law_sack"] λr a t=>dc (m8 (t.psF (i8 ci))) (dc (f7 t cb) (dc (f7 t cb) (dc (l3 (j5 (gf (pk (bg a) r8 (nz (j6 (js a) cb))))) t.pg (dc (f7 t (j7 (bg a) (d9 cb a))) (dc (f7 t (j7 (bg a) (d9 cb a))) (dm (j1 (ue (j6 (o6 (bg a) (bg a)) (o6 (bg a) (bg a))) a)))))) (dm (fj (bg a))))))
 have h3:Cal P w K mg base CX0 "_law_same_why" 3 (dSp K zhh):=by exists jc gd ["_law_found", "_law_piles", "_law_turns_here", "_law_left", "_law_k", "_law_at_here", "_law_many", "_law_hours", "_law_loss", "_law_fall", "_law_debts_here", "_law_row"] λr a t=>dc (f7 t (f8 cc r (bh (bg a) ci))) (dc (m8 (t.psF (zny hu r (bh (bg a) ci)))) (dc (gx (dt_w (lm (lq (ku (tm zp2 (bg a)))) (l4 (qo (js a) (js a))))) (dm (fj lh)) gz) (dc (l3 (sf (bh (js a) ci)) t.pg (dc (z7t (d9 (bg a) a) (lg t (lg t (lg t (lg t um))))) (dc (f7 t cb) (dc (gx (oz (j7 (bg a) cb) (js a)) (dm (f7 t (j6 (o6 (bg a) (lc (d9 (j7 (bg a) cb) a) cb)) (o6 (lc (d9 (j7 (bg a) cb) a) cb) (bg a))))) gz) (dc (f7 t (f8 h2 r (bh (gf (pk (d9 (j6 (bg a) cb) a) r8 (nz (bg a)))) (bh (bg a) (bh (bg a) ci))))) (dc (znc (j6 (bg a) cb) (gf (pk (d9 (j6 (bg a) cb) a) (nz (bg a)) r8)) a) (dc (f7 t (d9 (bg a) a)) (dc (gx (dt_w (lm (lq (ku (tm zp3 (bg a)))) (lm (qo (js a) cb) (l4 (lq (ku (f8 aa r (bh (z7z (bg a) r8 (nz cb)) (bh (d9 (bg a) a) ci))))))))) (dm (fj lh)) gz) (dm (gx (dt_w (lm (lq (ku (f8 dp r (bh (d9 cb a) (bh (bg a) ci))))) (lm (lq (ku (f8 B r (bh (d9 cb a) ci)))) (l4 (qo (d9 cb a) (bg a)))))) (dm (fj lh)) gz)))))))))) (dm (fj lh)))))
 have h4:Cal P w K mg base (CXr P w) "_law_same_lost" 4 (qSp K zdy zmp):=by exists td gj ["_law_house", "_law_dried", "_law_rates_here", "_law_hour", "_law_gone", "_law_lost"] λr a t=>dc (f7 t (f8 ds r (bh (bg a) ci))) (dc (f7 t (lw L r a)) (dc (gx (dt_w (lm (lq (ku (f8 B r (bh (bg a) ci)))) (l4 (qo (bg a) (js a))))) (dm (fj lh)) gz) (dc (l3 (j5 (gf (i8 (bh cb (bh (o5 (bg a) cb) (bh (z7i (bh cb (bh (j6 (bg a) cb) ci))) (bh (bg a) ci))))))) t.pg (dc (me (f7 t (zxz O r (bh (bg a) ci) a)) (z4g (i:=5) t (z0z O r (bh (bg a) ci) a))) (dm (gx (dt_w (lm (lq (ku (f8 B r (bh (bg a) ci)))) (l4 (qo (bg a) (vi (bh (gf (pk (bg a) r8 (nz (bg a)))) ci)))))) (dm (fj lh)) gz)))) (dm (fj (f8 b2 r (bh (lw b1 r a) (bh (bg a) ci))))))))
 have h5:Cal P w K mg base (CXr P w) "_law_stands" 9 (qSp K zd9 zox):=by exists td gr ["_law_house", "_law_state", "_law_piles", "_law_turns_here", "_law_total"] λr a t=>dc (f7 t (d9 cb a)) (dc (gx (dt_w (lm (lq (ku (f8 hs r (bh (lw bs r a) (bh (bg a) ci))))) (l4 (lq (ku (f8 b2 r (bh (lw br r a) (bh (d9 cb a) ci)))))))) (dm (fj lh)) gz) (dc (f7 t (gf (zny hp r (bh (bg a) ci)))) (dc (gx (lq (ku (f8 dp r (bh (lw N r a) (bh (bg a) ci))))) (dm (fj lh)) gz) (dc (f7 t (lw bv r a)) (dc (gx (dt_w (lm (lq (ku (f8 B r (bh (bg a) ci)))) (l4 (qo (bg a) (f8 hr r (bh (f8 hq r (bh (bg a) (bh (bg a) ci))) ci)))))) (dm (fj lh)) gz) (dc (gx (lq (ku (f8 b2 r (bh (lw bt r a) (bh (f8 h1 r (bh (bg a) (bh (bg a) ci))) ci))))) (dm (fj lh)) gz) (dm (fj (zxc (n6 h4 r (p9 (jq (bh (d9 cb a) ci)) a)) (zxb (f8 h3 r (bh (lw b0 r a) (bh (bg a) ci)))))))))))))
 have b3:Cal P w K mg base CX0 "_law_sum" 1 (dSp K zr):=by exists jc ck ["_law_piles"] λr a t=>dm (fj (vi (bh (gf (ua a (j5 (bg a)) (λ_ _ _ _ _ _ _ a=>js a))) ci)))
 have dt:Cal P w K mg base CX0 "_law_filler" 2 (dSp K zg3):=by exists jc cl ["_law_piles", "_law_cell", "_law_menu", "_law_some", "_law_spot"] λr a t=>dc (zp1 (zpa a t (sf (bh (js a) ci)) (λ_ _ _ _ _ _ _ a=>nc (vj (bh (d9 (bg a) a) ci)) cb) (λ_ _ _ _ _ _ _ a=>bg a))) (dc (gx (dt_w (lm (z8d r (bg a) (gf (i8 ci))) (l4 (dt_w (rq (nc (bg a) cb) (tw (oz (f8 b3 r (bh (bg a) ci)) cb))))))) (dm (fj (ke (bh il (bh (j7 cb (mf (bg a) (js a))) (bh (j6 cb (o6 (mf (o5 (bg a) cb) cb) (mf (o5 (bg a) cb) cb))) (bh (mf (o5 (bg a) cb) cb) ci))))))) gz) (dc (f7 t (d9 (mf (bg a) (js a)) a)) (dc (gx (dt_w (lm (kt (bg a) cb) (l4 (dt_w (rq (kt (bg a) cb) (rq (kt (f8 b3 r (bh (bg a) ci)) cb) (tw (kt (mf (bg a) cb) cb)))))))) (dm (fj (ke (bh il (bh (j7 (bg a) cb) ci))))) gz) (dc (gx (kt (bg a) cb) (dm (fj (ke (bh il ci)))) gz) (dm (fj (ke (bh il (bh (j7 (bg a) cb) (bh (j7 cb (mf (o5 (bg a) cb) (vj (bh (d9 (bg a) a) ci)))) (bh (mf (o5 (bg a) cb) cb) ci)))))))))))
 have b4:Cal P w K mg base CX0 "_law_last" 1 (dSp K zjk):=by exists jc cm ["_law_piles", "_law_cell", "_law_many", "_law_at_here", "_law_hours", "_law_loss", "_law_place"] λr a t=>dc (f7 t (js a)) (dc (f7 t (lc (gf (i8 (bh cb (bh (bg a) (bh cb (bh (j7 (bg a) cb) ci)))))) (mf (bg a) cb))) (dc (f7 t (lc (gf (i8 (bh cb (bh cb (bh cb (bh cb ci)))))) (mf (o5 (bg a) cb) cb))) (dc (f7 t (lc (gf (i8 (bh cb (bh cb (bh cb (bh cb ci)))))) (mf (o5 (bg a) cb) cb))) (dc (f7 t (lc (gf (i8 (bh cb (bh cb (bh cb (bh cb ci)))))) (mf (o5 (bg a) cb) cb))) (dm (fj (gf (i8 (bh (ke (bh il (bh (bg a) (bh (bg a) (bh (bg a) ci))))) (bh (ke (bh il (bh (bg a) (bh (bg a) (bh (bg a) ci))))) (bh (ke (bh il (bh (bg a) ci))) (bh (ke (bh il ci)) ci))))))))))))
 exact yae ["_law_script", "_law_draws_here", "_law_many", "_law_house", "_law_state", "_law_cell", "_law_deed", "_law_k", "_law_some", "_law_deeds"] λr a t=>dc (f7 t (f8 hn r (bh (bg a) (bh cb ci)))) (dc (f7 t (j7 cb (mf (d9 cb a) cb))) (dc (zuo t (z05 bp r (bh (bg a) ci))) (dc (zuo t (z04 h0 r (bh (bg a) ci))) (dc (l3 (j5 (gf (pk (bg a) (nz cb) (nz cb)))) t.pg (dc (f7 t (ke (bh il (bh (j7 cb (mf (o5 (bg a) cb) (bg a))) (bh (j6 cb (o6 (mf (bg a) cb) (mf (o5 (bg a) cb) cb))) (bh (mf (o5 (bg a) cb) cb) ci)))))) (dm (gx (lq (ku (ye ab r (p9 (p9 (jq (bh (bg a) ci)) a) a)))) (dm (fj lh)) gz)))) (dc (l3 (j5 (gf (i8 (bh (lc (f8 b4 r (bh (zs5 a) (bh (d9 cb a) ci))) cb) (bh (ke (bh il (bh cb (bh cb (bh cb ci))))) ci))))) t.pg (dm (gx (lq (ku (ye ab r (p9 (p9 (jq (bh (bg a) ci)) a) a)))) (dm (fj lh)) gz))) (dc (l3 (sf (bh (mf (o5 (d9 cb a) cb) cb) ci)) t.pg (dc (zp1 (z4l (λ_ _=>zpa a t (sf (bh (bg a) ci)) (λ_ _ _ _ _ _ _ a=>nc (vj (bh (lc (d9 cb a) (bg a)) ci)) cb) (λ_ _ _ _ _ _ _ a=>bg a)))) (dm (gx (lq (ku (ye ab r (p9 (p9 (jq (bh (ke (bh il (bh (j7 cb (d9 (mf (o5 (d9 (j7 cb (bg a)) a) cb) (js a)) a)) ci))) ci)) a) a)))) (dm (fj lh)) gz)))) (dc (l3 (j5 (gf (pk (bg a) (nz cb) (nz (j6 (j7 cb cb) (zqf (z4i a))))))) t.pg (dm (gx (lq (ku (ye ab r (p9 (p9 (jq (bh (f8 dt r (bh (zs5 a) (bh (bg a) (bh (mf (o5 (d9 cb a) cb) cb) ci)))) ci)) a) a)))) (dm (fj lh)) gz))) (dc (f7 t (f8 b4 r (bh (zs5 a) (bh (o5 (d9 cb a) cb) ci)))) (dc (l3 (j5 (gf (nh (bg a) (gf (i8 (bh (ke (bh il ci)) (bh (d9 (mf (o5 (d9 cb a) cb) cb) a) (bh (ke (bh il (bh cb (bh cb (bh cb ci))))) ci)))))))) t.pg (dm (gx (lq (ku (ye ab r (p9 (p9 (jq (bh (bg a) ci)) a) a)))) (dm (fj lh)) gz))) (dm (fj (vk (λ_ _=>n6 h5 r (p9 (jq (bh (bg a) ci)) a))))))))))))))
end SQ
namespace SQ
open PySem L2 LB
variable{n:Nat}{k:m3}{p:np}{s s':Hs}
def zvh{d:Deed}(kp:p.length=k.length)(h:HI n (k++[d]) (p++[s]) s'):Stp k s d s':=by
 have:=h.tr k.length d s s' (by simp) (by rw[d7,<-kp];simp) (by rw[show k.length+1=(p++[s]).length by simp[kp]];simp);rwa [List.take_left'] at this;rfl
variable{k':m3}{p':np}{a:Int}
theorem z5o{h l:Int}(hi:HI n k p s)(D:HI n k' p' s')(I:Mv k p s (.d (.put a h l)) k' p' s')(J:putX s.1 k.length a h l=none):s'.1.flatten.length=s.1.flatten.length+1/\k'.length=k.length+1:=by
 unfold Mv at I;rw[show cmdX s.1 k.length (.d (.put a h l))=none from J] at I;obtain⟨rfl,rfl⟩:=I;have st:=zvh hi.kp D;rcases zzg hi.at hi.n5 st with⟨R,h',l',_,S,U,e⟩ | ⟨e,_⟩
 ·rw[e,zy1 ⋯]
  exact⟨rfl,by simp⟩
 ·cases e
variable{ss:mu}
theorem z1z{m:Nat}{h l:Int}(D:14<=ss.flatten.length):∃x,putX ss m a h l=↑x:=by
 unfold putX;split
 ·exact⟨_,rfl⟩
 split
 ·exact⟨_,rfl⟩
 split
 ·exact⟨_,rfl⟩
 rw[if_neg ⋯];exact⟨_,rfl⟩
theorem z88(hi:HI n k p s)(J:HI n k' p' s')(D:Mv k p s (.d (.go a)) k' p' s'):s.1.flatten.length<=s'.1.flatten.length+1:=by
 unfold Mv at D;cases hx:goX s.1 k.length a with
 |some x =>
   rw[show cmdX s.1 k.length (.d (.go a))=↑x from hx] at D;rw[D.2.2]
   lia
 |none =>
   rw[show cmdX s.1 k.length (.d (.go a))=none from hx] at D;obtain⟨rfl,rfl⟩:=D;have st:=zvh hi.kp J;unfold goX at hx
   (repeat' split at hx) <;> try cases hx
   rename_i S R Y;obtain⟨a,rfl⟩:=fy (show 0<=a by lia);have I:=uq S;rw[show((a:Int).toNat-1)=a-1 by simp] at I R;cases e:s.1.getD (a-1) [] with
   |nil=>rw[e] at R;exact absurd rfl R |cons x tl =>
     rw[e] at I;have r:=hi.r14 _ (az I);rw[am] at r;have U:=ztw (num:=j4 k) I ⋯ hi.l5 ⋯;obtain⟨_,ans,st,_⟩:=st;rw[U] at st;injection st with st;injection st with st;injection st with st _;have st:=zoj st;obtain⟨A,B,V,f2⟩:=znn s.1 (a-1) (x::tl) tl I;rw[<-st,V,f2];simp
     lia
theorem z10(a b c d z:Int):∃v,atI [D.int a,.int b,.int c,.int d] (z % 4)=↑(.int v):=by
 have:z % 4=0\/z % 4=1\/z % 4=2\/z % 4=3:=by lia
 rcases this with h |h |h |h <;> rw[h]
 ·exact⟨_,rfl⟩
 ·exact⟨_,rfl⟩
 ·exact⟨_,rfl⟩
 ·exact⟨_,rfl⟩
abbrev lst4(a h l m:Int):List Cmd:=[.d (.put a h l),.d (.tell a m l),.d (.go a),.d .dry]
def zzi(ss:mu)(c:Int):∃a h l m,zjk [ssL ss,.int c]=↑(.lst ((lst4 a h l m).map cD)):=by
 obtain⟨a,R⟩:=z10 1 (ss.length:Int) 0 ((ss.length:Int)+1) c;obtain⟨h,S⟩:=z10 1 60 61 30 (c / 4);obtain⟨l,U⟩:=z10 0 100 101 50 (c / 16);obtain⟨m,V⟩:=z10 1 1 15 2 (c / 64);have lss:(((ss.map λs=>D.lst (s.map sD)).length:Nat):Int)=(ss.length:Int):=by rw[af]
 have Y:∀z:Int,dMod (.int z) (.int 4)=↑(.int (z % 4)):=λz=>oj (by decide);have Z:dDiv (.int c) (.int 4)=↑(.int (c / 4)):=p8 (by decide) (by decide);have I:dDiv (.int c) (.int 16)=↑(.int (c / 16)):=p8 (by decide) (by decide);have J:dDiv (.int c) (.int 64)=↑(.int (c / 64)):=p8 (by decide) (by decide);refine⟨a,h,l,m,?_⟩;refine jw (e':=[↑(.sh (ssL ss)),↑(.sh (.int c)),↑(.sh (.int ss.length)),↑(.sh (.int a)),↑(.sh (.int h)),↑(.sh (.int l)),↑(.sh (.int m))]) rfl ?_;show zlm [↑(.sh (ssL ss)),↑(.sh (.int c)),none,none,none,none,none]=_;unfold ssL;rw[show(lst4 a h l m).map cD=[.tup [.str "put",.int a,.int h,.int l],.tup [.str "tell",.int a,.int m,.int l],.tup [.str "go",.int a],.tup [.str "dry"]] from rfl];generalize (ss.map λs=>D.lst (s.map sD))=SL at *;simp only[zlm,sSeq,sSet,sRet,gq,fBin,fVar,fC,fLst,gg,ax,fNil,fTup,gp,dIx,lss,R,S,U,V,Y,Z,I,J,am,bj,ae,ah,aq,ao,ac,aj,show(0+1+1+1+1<=64)=True by simp,show(0+1+1<=64)=True by simp,show(0+1<=64)=True by simp,if_true]
def z89(ss:mu)(D:ss.length<=1000):zr [ssL ss]=↑(.int (ss.flatten.length:Int)):=by
 refine jw (e':=[↑(.sh (ssL ss))]) rfl ?_;show zms [↑(.sh (ssL ss))]=_;unfold zms;simp only[sRet,zvc D,aj]
abbrev W(ss:mu):ik:=(List.range ss.length).filter λj=>decide (0<(ss.getD j []).length)
def z5p(n:Nat):rngD 0 n=(List.range n).map λi:Nat=>D.int (0+(i:Int)):=rfl
def W_ne(h:0<ss.flatten.length):W ss≠[]:=by
 intro e;obtain⟨r,D,hne⟩:∃r∈ss,r≠[]:=by
  by_cases h2:∃r∈ss,r≠[]
  ·exact h2
  ·have:ss.flatten=[]:=List.flatten_eq_nil_iff.mpr λr D=>by
    by_cases I:r=[]
    ·exact I
    ·exact absurd ⟨r,D,I⟩ h2
   rw[this] at h;cases h
 obtain⟨j,J⟩:=m7.mp D;have R:=(ak.mp J).1;have:j∈W ss:=iw.mpr ⟨gi.mpr R,by
  rw[bx,J];simpa[fo] using hne⟩
 rw[e] at this;cases this
theorem W_at(h:W ss≠[])(z:Int):∃j:Nat,j<ss.length/\0<(ss.getD j []).length/\atI ((W ss).map λj:Nat=>D.int (0+(j:Int))) (z % (((W ss).map λj:Nat=>D.int (0+(j:Int))).length:Int))=↑(.int (j:Int)):=by
 have S:0<(W ss).length:=fo.mpr h;rw[af];have J:=Int.emod_nonneg z (show((W ss).length:Int)≠0 by lia);have h1:=Int.emod_lt_of_pos z (show(0:Int)<((W ss).length:Int) by lia);obtain⟨i,hi⟩:=fy J;rw[hi] at h1 ⊢;have R:(W ss)[i]'⋯∈W ss:=eg _;have I:=iw.mp R;refine⟨(W ss)[i]'⋯,gi.mp I.1,by simpa using I.2,?_⟩;have:=kh (k:=i) (λj:Nat=>D.int (0+(j:Int))) (xs:=W ss) (av ⋯);rw[this,gm]
def z23(base:DE0)(te:FE)(tt:FT)(J:∀j:Nat,j<ss.length->∃I,tt (↑(.sh (.int (0+(j:Int))))::base)=↑(decide (0<(ss.getD j []).length),I)/\te I=↑(.int (0+(j:Int)),I)):n9 tt te base (rngD 0 ss.length)=↑((W ss).map λj:Nat=>D.int (0+(j:Int))):=by
 rw[z5p];refine zlv (λi:Nat=>D.int (0+(i:Int))) (λi:Nat=>D.int (0+(i:Int))) (λj=>decide (0<(ss.getD j []).length)) (List.range ss.length) λj R=>?_;obtain⟨I,h1,h2⟩:=J j (gi.mp R);exact⟨I,h1,λ_=>⟨I,h2⟩⟩
def zt0{j:Nat}(I:j<ss.length):atI (ss.map λs=>D.lst (s.map sD)) (j:Int)=↑(.lst ((ss.getD j []).map sD)):=by
 have h:ss[j]?=↑(ss.getD j []):=by rw[bx,av I];rfl
 exact kh (λs:mn=>D.lst (s.map sD)) h
theorem zzj(h1:1<=ss.length)(M:ss.length<=5)(c I:Int):∃R,zg3 [ssL ss,.int c,.int I]=↑(cD R):=by
 have R:=z23 (ss:=ss) [↑(.sh (ssL ss))] (fVar 0) (fTst (fBin dGt (dy bLen (ax (fIxV 1 (fVar 0)) fNil)) (fC (.int 0)))) λj q=>by
  have n:=zt0 q;rw[<-gm (j:Int)] at n;refine⟨[↑(.sh (.int (0+(j:Int)))),↑(.sh (ssL ss))],?_,rfl⟩;unfold ssL;have F:decide ((0:Int)<(((ss.getD j []).map sD).length:Int))=decide (0<(ss.getD j []).length):=by rw[af];exact decide_eq_decide.mpr ⋯
  generalize (ss.map λs=>D.lst (s.map sD))=SL at *;simp only[fTst,fBin,dy,ax,fNil,fIxV,ixSl,fVar,fC,n,bLen,dGt,F,ae,ah,aq,ao,ac,aj]
 have sm:=z89 ss ⋯;have S:(((ss.map λs=>D.lst (s.map sD)).length:Nat):Int)=(ss.length:Int):=by rw[af]
 have g:=og ss.length ⋯;have i:Few (rngD 0 ss.length).length:=few (by rw[wc];lia);have t:dDiv (.int c) (.int 5)=↑(.int (c / 5)):=p8 (by decide) (by decide);have u:dDiv (.int c) (.int 70)=↑(.int (c / 70)):=p8 (by decide) (by decide);have V:dDiv (.int c) (.int 300)=↑(.int (c / 300)):=p8 (by decide) (by decide);have Y:dDiv (.int c) (.int 600)=↑(.int (c / 600)):=p8 (by decide) (by decide);have k:dMod (.int (c / 5)) (.int 60)=↑(.int (c / 5 % 60)):=oj (by decide);have C:dMod (.int (c / 300)) (.int 2)=↑(.int (c / 300 % 2)):=oj (by decide);have n2:dMod (.int c) (.int 2)=↑(.int (c % 2)):=oj (by decide);have Z:dMod (.int (c / 600)) (.int 101)=↑(.int (c / 600 % 101)):=oj (by decide);have l:dMod (.int (c / 70)) (.int 101)=↑(.int (c / 70 % 101)):=oj (by decide);have E:dMod (.int c) (.int (ss.length:Int))=↑(.int (c % ss.length)):=oj ⋯;have mm:dMul (.int (c / 5 % 60)) (.int (c / 300 % 2))=↑(.int (c / 5 % 60*(c / 300 % 2))):=zui (tz ⋯);suffices v:∃R e',yh [↑(.sh (ssL ss)),↑(.sh (.int c)),↑(.sh (.int I)),none,none]=↑(.rt (cD R),e') from let ⟨R,_,v⟩:=v;⟨R,jw rfl v⟩;by_cases o:W ss=[]
 ·refine⟨.d (.put (1+c % ss.length) (60-c / 5 % 60*(c / 300 % 2)) (c / 600 % 101)),?_⟩
  rw[o,cq] at R;unfold ssL at *;generalize (ss.map λs=>D.lst (s.map sD))=SL at *;simp only[yh,sSeq,sSet,sIf,sRet,fLst,ig,ij,ax,fNil,gq,S,g,i,R,bi,cq,ji,capt,fOr,fTst,fBin,gg,fVar,fC,dEqN,List.isEmpty_nil,fTup,gp,dSub,E,t,V,Y,k,C,mm,Z,am,bj,fg,show(0+1+1+1+1<=64)=True by simp,if_true,ae,ah,aq,ao,ac,aj];exact⟨_,rfl⟩
 ·obtain⟨j,q,G,f⟩:=W_at o c
  have w:((W ss).map λj:Nat=>D.int (0+(j:Int))).isEmpty=false:=by
   cases e:W ss with
   |nil=>exact absurd e o |cons a r=>rfl
  have N:0<((W ss).map λj:Nat=>D.int (0+(j:Int))).length:=by rw[af];exact fo.mpr o
  generalize ((W ss).map λj:Nat=>D.int (0+(j:Int)))=WL at *;have y:dMod (.int c) (.int (WL.length:Int))=↑(.int (c % WL.length)):=oj ⋯;have n:=zt0 q;have H:(((ss.getD j []).map sD).length:Int)=((ss.getD j []).length:Int):=by rw[af]
  have K:dMod (.int (c / 5)) (.int ((ss.getD j []).length:Int))=↑(.int (c / 5 % (ss.getD j []).length)):=oj ⋯;by_cases A:1<I/\(ss.flatten.length:Int)<14
  ·refine⟨.d (.put (1+c % ss.length) (60-c / 5 % 60*(c / 300 % 2)) (c / 600 % 101)),?_⟩
   have m:decide (1<I)=true:=decide_eq_true A.1;have B:decide ((ss.flatten.length:Int)<14)=true:=decide_eq_true A.2;unfold ssL at *;generalize (ss.map λs=>D.lst (s.map sD))=SL at *;simp only[yh,sSeq,sSet,sIf,sRet,fLst,ig,ij,dy,ax,fNil,gq,S,g,i,R,bi,cq,ji,capt,fOr,fAnd,fTst,fBin,gg,fVar,fC,dEqN,w,sm,dGt,dLt,m,B,fTup,gp,dSub,E,t,V,Y,k,C,mm,Z,am,bj,fg,show(0+1+1+1+1<=64)=True by simp,if_true,bf,if_false,ae,ah,aq,ao,ac,aj];exact⟨_,rfl⟩
  ·have L:∃x:Bool,(decide (1<I)=false/\x=false)\/(decide (1<I)=true/\decide ((ss.flatten.length:Int)<14)=false):=by
    by_cases h:1<I
    ·exact⟨true,.inr ⟨decide_eq_true h,decide_eq_false λz=>A ⟨h,z⟩⟩⟩
    ·exact⟨false,.inl ⟨decide_eq_false h,rfl⟩⟩
   have U:fOr (fTst (fBin dEqN (fVar 3) (fLst (gg fNil)))) (fAnd (fTst (fBin dGt (fVar 2) (fC (.int 1)))) (fTst (fBin dLt (dy zr (ax (fVar 0) fNil)) (fC (.int 14))))) [↑(.sh (ssL ss)),↑(.sh (.int c)),↑(.sh (.int I)),↑(.sh (.lst WL)),none]=↑(false,[↑(.sh (ssL ss)),↑(.sh (.int c)),↑(.sh (.int I)),↑(.sh (.lst WL)),none]):=by
    obtain⟨_,⟨m,_⟩ | ⟨m,B⟩⟩:=L
    ·simp only[fOr,fAnd,fTst,fBin,fVar,fC,fLst,gg,fNil,dEqN,w,dGt,m,bj,fg,if_true,bf,if_false,ae,ah,aq,ao,ac,aj]
    ·simp only[fOr,fAnd,fTst,fBin,fVar,fC,fLst,gg,fNil,dy,ax,dEqN,w,dGt,dLt,sm,m,B,bj,fg,if_true,bf,if_false,ae,ah,aq,ao,ac,aj]
   have J:∃b,fOr (fTst (fBin dEq (fVar 2) (fC (.int 2)))) (fAnd (fTst (fBin dEq (fVar 2) (fC (.int 1)))) (fAnd (fTst (fBin dEq (dy zr (ax (fVar 0) fNil)) (fC (.int 1)))) (fTst (fBin dEq (fBin dMod (fVar 1) (fC (.int 2))) (fC (.int 1)))))) [↑(.sh (ssL ss)),↑(.sh (.int c)),↑(.sh (.int I)),↑(.sh (.lst WL)),↑(.sh (.int (j:Int)))]=↑(b,[↑(.sh (ssL ss)),↑(.sh (.int c)),↑(.sh (.int I)),↑(.sh (.lst WL)),↑(.sh (.int (j:Int)))]):=by
    cases e1:decide (I=2) <;> cases e2:decide (I=1) <;> cases p:decide ((ss.flatten.length:Int)=1) <;> (simp only[fOr,fAnd,fTst,fBin,fVar,fC,fNil,dy,ax,dEq,sm,n2,e1,e2,p,if_true,bf,if_false,ae,ah,aq,ao,ac,aj];exact⟨_,rfl⟩)
   obtain⟨b,J⟩:=J;unfold ssL at *;generalize (ss.map λs=>D.lst (s.map sD))=SL at *;cases b
   ·by_cases p:I=3
    ·have b3:decide (I=3)=true:=decide_eq_true p
     refine⟨.d .dry,?_⟩;simp only[yh,sSeq,sSet,sIf,sRet,sNil,fLst,ig,ij,ax,fNil,gq,S,g,i,R,bi,cq,ji,capt,U,J,fTst,fBin,fVar,fIxV,ixSl,fC,y,f,dEq,b3,fTup,am,bj,show(0+1<=64)=True by simp,if_true,bf,if_false,ae,ah,aq,ao,ac,aj];exact⟨_,rfl⟩
    ·have b3:decide (I=3)=false:=decide_eq_false p
     refine⟨.d (.tell ((j:Int)+1) (1+c / 5 % (ss.getD j []).length) (c / 70 % 101)),?_⟩;simp only[yh,sSeq,sSet,sIf,sRet,sNil,fLst,ig,ij,dy,ax,fNil,gq,S,g,i,R,bi,cq,ji,capt,U,J,fTst,fBin,fVar,fIxV,ixSl,fC,y,f,n,bLen,H,K,t,u,l,gp,dEq,b3,fTup,am,bj,show(0+1+1+1+1<=64)=True by simp,if_true,bf,if_false,ae,ah,aq,ao,ac,aj];exact⟨_,rfl⟩
   ·refine⟨.d (.go ((j:Int)+1)),?_⟩
    simp only[yh,sSeq,sSet,sIf,sRet,sNil,fLst,ig,ij,ax,fNil,gq,S,g,i,R,bi,cq,ji,capt,U,J,fTst,fBin,fVar,fIxV,ixSl,fC,y,f,gp,fTup,am,bj,show(0+1+1<=64)=True by simp,if_true,bf,if_false,ae,ah,aq,ao,ac,aj];exact⟨_,rfl⟩
theorem z24{A B:lp}{n:Nat}{r:DE0}(U:1<=n):∀(I:i0) (k:m3) (p:np) (s:Hs) (v5 v6:lp),HI n k p s->s.1.flatten.length+I.length<=14->k.length+I.length<=59 ->
  ∃k' p' s' J R,HI n k' p' s'/\k'.length=k.length+I.length/\s'.1.flatten.length=s.1.flatten.length+I.length/\forL 5 zq5 (I.map D.int) (EL A B ↑(.sh (.int n)) k p s (v5::v6::r))=↑(.nx,EL A B ↑(.sh (.int n)) k' p' s' (J::R::r))
 | [],k,p,s,v5,v6,hi,_,_=>⟨k,p,s,v5,v6,hi,rfl,rfl,rfl⟩ |z::I,k,p,s,v5,v6,hi,hc,hk=>by
   rw[am] at hc hk;have V:dDiv (.int z) (.int 12120)=↑(.int (z / 12120)):=p8 (by decide) (by decide);have Y:dDiv (.int z) (.int 60)=↑(.int (z / 60)):=p8 (by decide) (by decide);have Z:dDiv (.int z) (.int 120)=↑(.int (z / 120)):=p8 (by decide) (by decide);have a:dMod (.int (z / 12120)) (.int (n:Int))=↑(.int (z / 12120 % n)):=oj ⋯;have b:dMod (.int z) (.int 60)=↑(.int (z % 60)):=oj (by decide);have f:dMod (.int (z / 60)) (.int 2)=↑(.int (z / 60 % 2)):=oj (by decide);have g:dMod (.int (z / 120)) (.int 101)=↑(.int (z / 120 % 101)):=oj (by decide);have mm:dMul (.int (z % 60)) (.int (z / 60 % 2))=↑(.int (z % 60*(z / 60 % 2))):=zui (tz ⋯);have u:=Int.emod_nonneg (z / 12120) (show(n:Int)≠0 by lia);have v:=Int.emod_lt_of_pos (z / 12120) (show(0:Int)<n by lia);have x:0<=z % 60*(z / 60 % 2)/\z % 60*(z / 60 % 2)<=59:=by
    have:z / 60 % 2=0\/z / 60 % 2=1:=by lia
    rcases this with h |h <;> rw[h] <;> lia
   generalize z % 60*(z / 60 % 2)=w at *;obtain⟨k1,p1,S,h1,hd,l⟩:=zze (e:=EL A B ↑(.sh (.int n)) k p s (↑(.sh (.int z))::↑(.sh (.tup [.str "put",.int (1+z / 12120 % n),.int (60-w),.int (z / 120 % 101)]))::r)) (i:=3) (j:=4) (c:=.d (.put (1+z / 12120 % n) (60-w) (z / 120 % 101))) (F:=ax (fVar 6) fNil) (by decide) hi rfl rfl rfl;have sl:=hi.at.len;have m:putX s.1 k.length (1+z / 12120 % n) (60-w) (z / 120 % 101)=none:=by
    unfold putX;rw[if_neg ⋯,if_neg ⋯,if_neg ⋯,if_pos ⋯,if_pos ⋯]
   have ct:=z5o hi h1 l m;obtain⟨k2,p2,s2,o,q,h2,y,C,t⟩:=z24 U I k1 p1 S ↑(.sh (.int z)) ↑(.sh (.tup [.str "put",.int (1+z / 12120 % n),.int (60-w),.int (z / 120 % 101)])) h1 ⋯ ⋯;refine⟨k2,p2,s2,o,q,h2,by rw[am];lia,by rw[am];lia,?_⟩;rw[bi,forL,show(EL A B ↑(.sh (.int n)) k p s (v5::v6::r)).set 5 ↑(.sh (.int z))=EL A B ↑(.sh (.int n)) k p s (↑(.sh (.int z))::v6::r) from rfl];have body:zq5 (EL A B ↑(.sh (.int n)) k p s (↑(.sh (.int z))::v6::r))=↑(.nx,EL A B ↑(.sh (.int n)) k1 p1 S (↑(.sh (.int z))::↑(.sh (.tup [.str "put",.int (1+z / 12120 % n),.int (60-w),.int (z / 120 % 101)]))::r)):=by
    unfold EL at *;simp only[zq5,sSeq,sSet,fTup,ax,fNil,fC,fVar,fBin,gp,dSub,V,Y,Z,a,b,f,g,mm,sIf,fNot,fTst,hd,sNil,am,bj,show(0+1+1+1+1<=64)=True by simp,i4,bf,if_true,if_false,ae,ah,aq,ao,ac,aj]
   rw[body];exact t
theorem zzk{A B C:lp}{n:Nat}{r:DE0}{v5:lp}{k:m3}{p:np}{s:Hs}(hi:HI n k p s)(R:s.1.flatten.length=14):∀(cs:List (Int×Int×Int)) (v6:lp),∃D,forL 6 zty (cs.map λc=>cD (.d (.put c.1 c.2.1 c.2.2))) (EL A B C k p s (v5::v6::r))=↑(.nx,EL A B C k p s (v5::D::r))
 | [],v6=>⟨v6,rfl⟩ |c::cs,v6=>by
   obtain⟨k1,p1,J,h1,hd,I⟩:=zze (e:=EL A B C k p s (v5::↑(.sh (cD (.d (.put c.1 c.2.1 c.2.2))))::r)) (i:=3) (j:=4) (c:=.d (.put c.1 c.2.1 c.2.2)) (F:=ax (fVar 6) fNil) (by decide) hi rfl rfl rfl;obtain⟨x,S⟩:=z1z (m:=k.length) (a:=c.1) (h:=c.2.1) (l:=c.2.2) (show 14<=s.1.flatten.length by lia);unfold Mv at I;rw[show cmdX s.1 k.length (.d (.put c.1 c.2.1 c.2.2))=↑x from S] at I;obtain⟨rfl,rfl,rfl⟩:=I;obtain⟨U,h2⟩:=zzk (A:=A) (B:=B) (C:=C) (r:=r) (v5:=v5) hi R cs ↑(.sh (cD (.d (.put c.1 c.2.1 c.2.2))));refine⟨U,?_⟩;rw[bi,forL,show(EL A B C k1 p1 J (v5::v6::r)).set 6 ↑(.sh (cD (.d (.put c.1 c.2.1 c.2.2))))=EL A B C k1 p1 J (v5::↑(.sh (cD (.d (.put c.1 c.2.1 c.2.2))))::r) from rfl];simp only[zty,sIf,fNot,fTst,hd,ac,aj,i4,bf,if_false,sNil];exact h2
abbrev EB(A:lp)(cs:i0)(n:Nat)(k:m3)(p:np)(s:Hs)(r:DE0):DE0:=EL A ↑(.sh (.lst (cs.map D.int))) ↑(.sh (.int n)) k p s r
def z9a(l:ik):noLs (l.map λj:Nat=>D.int (0+(j:Int)))=true:=by
 induction l with
 |nil=>rfl |cons a r ih=>rw[bi];unfold noLs;rw[ih];rfl
variable{cs:i0}
theorem gos{A:lp}(r:cs.length=62){v5 v6 v9:lp}{g:Nat}(N:g<=14){k0:m3}{S:np}{R:Hs}(U:HI n k0 S R)(V:14<=R.1.flatten.length)(Y Z:lp) :
  ∃k p s J I,HI n k p s/\forL 7 zok (rngD 0 g) (EB A cs n k0 S R [v5,v6,Y,Z,v9])=↑(.nx,EB A cs n k p s [v5,v6,J,I,v9]):=by
 obtain⟨e',h1,k,p,s,J,I,hi,_,rfl⟩:=ud (i:=7) (g:=zok) (λi e=>∃k p s J I,HI n k p s/\14<=s.1.flatten.length+i/\e=EB A cs n k p s [v5,v6,J,I,v9])
  (rngD 0 g) (EB A cs n k0 S R [v5,v6,Y,Z,v9]) ⟨k0,S,R,Y,Z,U,V,rfl⟩ (by
    rintro i d e a ⟨k,p,s,J,I,hi,hc,rfl⟩;obtain⟨rfl,t⟩:=ub a;rw[gm];have sl:=hi.at.len;have l5:=hi.l5;have f:=z23 (ss:=s.1) [↑(.sh (.lst [ssL s.1,.lst (k.map dD),.lst (p.map stD),spL s.2]))] (fVar 0) (fTst (fBin dGt (dy bLen (ax (fBin dIx (fIxV 1 (fC (.int 0))) (fVar 0)) fNil)) (fC (.int 0)))) λj h=>by
     have l:=zt0 h;rw[<-gm (j:Int)] at l;have m:atI [ssL s.1,.lst (k.map dD),.lst (p.map stD),spL s.2] 0=↑(ssL s.1):=at_0;refine⟨[↑(.sh (.int (0+(j:Int)))),↑(.sh (.lst [ssL s.1,.lst (k.map dD),.lst (p.map stD),spL s.2]))],?_,rfl⟩;have u:decide ((0:Int)<(((s.1.getD j []).map sD).length:Int))=decide (0<(s.1.getD j []).length):=by rw[af];exact decide_eq_decide.mpr ⋯
     generalize O:[ssL s.1,.lst (k.map dD),.lst (p.map stD),spL s.2]=L at *;unfold ssL at m;simp only[fTst,fBin,dy,ax,fNil,fIxV,ixSl,fVar,fC,m,dIx,l,bLen,dGt,u,ae,ah,aq,ao,ac,aj]
    have o:=W_ne (ss:=s.1) ⋯;have v:atI (cs.map D.int) (1+(i:Int))=↑(.int cs[1+i]):=by
     rw[show(1:Int)+(i:Int)=((1+i:Nat):Int) by lia];exact kh D.int (av ⋯)
    generalize cs[1+i]=c at *;have w:dDiv (.int c) (.int 60600)=↑(.int (c / 60600)):=p8 (by decide) (by decide);obtain⟨j,h,x,b⟩:=W_at o (c / 60600);have y:=z9a (W s.1);have P:0<((W s.1).map λj:Nat=>D.int (0+(j:Int))).length:=by rw[af];exact fo.mpr o
    generalize ((W s.1).map λj:Nat=>D.int (0+(j:Int)))=WL at *;have z:dMod (.int (c / 60600)) (.int (WL.length:Int))=↑(.int (c / 60600 % WL.length)):=oj ⋯;have B:=og n ⋯;have C:Few (rngD 0 n).length:=few (by rw[wc];lia);rw[sl] at f;have G:qk false (ig (ij iR1 (ax (fVar 2) fNil)) [4] (fTst (fBin dGt (dy bLen (ax (fBin dIx (fIxV 1 (fC (.int 0))) (fVar 0)) fNil)) (fC (.int 0)))) (fVar 0)) (EB A cs n k p s [v5,v6,↑(.sh (.int (i:Int))),I,v9])=↑(WL,EB A cs n k p s [v5,v6,↑(.sh (.int (i:Int))),I,v9]):=by
     have H:(frz false (EB A cs n k p s [v5,v6,↑(.sh (.int (i:Int))),I,v9]))[2]?=↑↑(.sh (.int n)):=rfl;have K:(frz false (EB A cs n k p s [v5,v6,↑(.sh (.int (i:Int))),I,v9])).getD 4 none=↑(.sh (.lst [ssL s.1,.lst (k.map dD),.lst (p.map stD),spL s.2])):=rfl;unfold qk;generalize frz false (EB A cs n k p s [v5,v6,↑(.sh (.int (i:Int))),I,v9])=E at *;simp only[ig,ij,ax,fNil,fVar,H,B,C,bi,cq,K,capt,f,y,if_true,ac,aj]
    obtain⟨k1,p1,q,h1,hd,M⟩:=zze (e:=EB A cs n k p s [v5,v6,↑(.sh (.int (i:Int))),↑(.sh (.lst WL)),v9]) (i:=3) (j:=4) (c:=.d (.go (1+(j:Int)))) (F:=ax (fTup (ax (fC (.str "go")) (ax (fBin gp (fC (.int 1)) (fIxV 8 (fBin dMod (fBin dDiv (fIxV 1 (fBin gp (fC (.int 1)) (fVar 7))) (fC (.int 60600))) (gq 8)))) fNil))) fNil) (by decide) hi rfl rfl (by
     unfold EB EL;simp only[fTup,ax,fNil,fC,fBin,fIxV,ixSl,gq,fVar,gp,v,w,z,b,am,bj,show(0+1+1<=64)=True by simp,if_true,ae,ah,aq,ao,ac,aj];rfl)
    have ct:=z88 hi h1 M;refine⟨EB A cs n k1 p1 q [v5,v6,↑(.sh (.int (i:Int))),↑(.sh (.lst WL)),v9],?_,k1,p1,q,_,_,h1,by lia,rfl⟩;show zok (EB A cs n k p s [v5,v6,↑(.sh (.int (i:Int))),I,v9])=_;unfold zok;rw[sSeq];simp only[sSet,fLst,G,aj,ac];rw[show(EB A cs n k p s [v5,v6,↑(.sh (.int (i:Int))),I,v9]).set 8 ↑(.sh (.lst WL))=EB A cs n k p s [v5,v6,↑(.sh (.int (i:Int))),↑(.sh (.lst WL)),v9] from rfl];simp only[sIf,fNot,fTst,hd,ac,aj,i4,bf,if_false,sNil];rfl)
 exact⟨k,p,s,J,I,hi,h1⟩
theorem z9b{A:lp}{n:Nat}(S:1<=n){cs:i0}(I:cs.length=62){r:DE0}:∀(J:i0) (k:m3) (p:np) (s:Hs) (v5:lp),HI n k p s ->
  ∃k' p' s' R,HI n k' p' s'/\forL 5 ztz (J.map D.int) (EB A cs n k p s (v5::r))=↑(.nx,EB A cs n k' p' s' (R::r))
 | [],k,p,s,v5,hi=>⟨k,p,s,v5,hi,rfl⟩ |z::J,k,p,s,v5,hi=>by
   have U:atI (cs.map D.int) 0=↑(.int cs[0]):=kh (k:=0) D.int (by simp[I]);have V:dDiv (.int cs[0]) (.int 300)=↑(.int (cs[0] / 300)):=p8 (by decide) (by decide);have Y:dMod (.int (cs[0] / 300)) (.int 4)=↑(.int (cs[0] / 300 % 4)):=oj (by decide);have sl:=hi.at.len;obtain⟨c,Z⟩:=zzj (ss:=s.1) ⋯ hi.l5 z (cs[0] / 300 % 4);have a:fDat 4 0 (EB A cs n k p s (↑(.sh (.int z))::r))=↑(ssL s.1,EB A cs n k p s (↑(.sh (.int z))::r)):=rfl;obtain⟨k1,p1,b,h1,hd,_⟩:=zze (e:=EB A cs n k p s (↑(.sh (.int z))::r)) (i:=3) (j:=4) (c:=c) (F:=ax (dy zg3 (ax (fDat 4 0) (ax (fVar 5) (ax (fBin dMod (fBin dDiv (fIxV 1 (fC (.int 0))) (fC (.int 300))) (fC (.int 4))) fNil)))) fNil) (by decide) hi rfl rfl (by
    unfold EB EL at *;simp only[ax,fNil,dy,a,fVar,fBin,fIxV,ixSl,fC,U,V,Y,Z,ae,ah,aq,ao,ac,aj])
   obtain⟨k2,p2,s2,d,h2,f⟩:=z9b S I J k1 p1 b ↑(.sh (.int z)) h1;refine⟨k2,p2,s2,d,h2,?_⟩;rw[bi,forL,show(EB A cs n k p s (v5::r)).set 5 ↑(.sh (.int z))=EB A cs n k p s (↑(.sh (.int z))::r) from rfl];simp only[ztz,sIf,fNot,fTst,hd,ac,aj,i4,bf,if_false,sNil];exact f
def yas(I:cs.length=62):cutD (cs.map D.int) ↑1 ↑15=((cs.drop 1).take 14).map D.int:=by
 unfold cutD;rw[af,I];show((cs.map D.int).drop 1).take 14=_;rw[<-List.map_drop,<-o9]
theorem z9c(a h l m z:Int):∃c:Cmd,atI ((lst4 a h l m).map cD) (z % 4)=↑(cD c):=by
 have:z % 4=0\/z % 4=1\/z % 4=2\/z % 4=3:=by lia
 rcases this with h |h |h |h <;> rw[h]
 ·exact⟨_,rfl⟩
 ·exact⟨_,rfl⟩
 ·exact⟨_,rfl⟩
 ·exact⟨_,rfl⟩
theorem good(Y:i0)(hn:Y.length<=63):z87 [.lst (Y.map D.int)]=↑(.bl true):=by
 obtain⟨cs,I,hd⟩:=z1d Y 62 ⋯;have hd:zgc [.lst (Y.map D.int),.int 62]=↑(.lst (cs.map D.int)):=hd;have a0:atI (cs.map D.int) 0=↑(.int cs[0]):=kh (k:=0) D.int (by simp[I]);have M:atI (cs.map D.int) 15=↑(.int cs[15]):=kh (k:=15) D.int (by simp[I]);obtain⟨n,hn1,hn5⟩:∃n:Nat,(1:Int)+cs[0] % 5=(n:Int)/\(1<=n/\n<=5):=⟨(1+cs[0] % 5).toNat,by lia,by lia⟩;have N:=z83 hn5.2;obtain⟨A,eA⟩:∃A:lp,A=↑(.sh (.lst (Y.map D.int))):=⟨_,rfl⟩;have mk:=z48 (n:=n) hn5.2 (F:=ax (fVar 2) fNil) (e:=[A,↑(.sh (.lst (cs.map D.int))),↑(.sh (.int n)),none,none,none,none,none,none,none]) rfl;have O:=yas I;have Z:((cs.drop 1).take 14).length=14:=by rw[du,fb,I];rfl
 generalize (cs.drop 1).take 14=z1 at *;obtain⟨k1,p1,U,q,P,h1,e1,e2,e3⟩:=z24 (A:=A) (B:=↑(.sh (.lst (cs.map D.int)))) (r:=[none,none,none]) hn5.1 z1 [] [] (newS n) none none (HI.new hn5.2) (by simp[newS,Z]) (by simp[Z]);have cnt:U.1.flatten.length=14:=by rw[e2,Z];simp[newS]
 obtain⟨a,h,l,m,v⟩:=zzi U.1 cs[15];obtain⟨b,w⟩:=zzk (A:=A) (B:=↑(.sh (.lst (cs.map D.int)))) (C:=↑(.sh (.int n))) (r:=[none,none,none]) (v5:=q) h1 cnt [(a,h,l),(1,1,0)] P;have Q:(0:Int)<=cs[0] / 5 % 15/\cs[0] / 5 % 15<=14:=by lia
 obtain⟨g,hg⟩:=fy Q.1;have d5:dDiv (.int cs[0]) (.int 5)=↑(.int (cs[0] / 5)):=p8 (by decide) (by decide);have m5:dMod (.int cs[0]) (.int 5)=↑(.int (cs[0] % 5)):=oj (by decide);have x:dMod (.int (cs[0] / 5)) (.int 15)=↑(.int (cs[0] / 5 % 15)):=oj (by decide);have T:=og g ⋯;obtain⟨k2,p2,s2,J,R,h2,f2⟩:=gos (A:=A) (n:=n) I (v5:=q) (v6:=b) (v9:=none) (g:=g) ⋯ h1 ⋯ none none;obtain⟨zs,hz,_⟩:=zzc cs ↑16 ↑((16:Int)+60-(k2.length:Int));obtain⟨k3,z,V,f,h3,f3⟩:=z9b (A:=A) hn5.1 I (r:=[b,J,R,none]) zs k2 p2 s2 q h2;obtain⟨t,h',l',u,W⟩:=zzi V.1 (cs[0] / 1200);obtain⟨X,aa⟩:=z9c t h' l' u (cs[0] / 75);have ab:dDiv (.int cs[0]) (.int 75)=↑(.int (cs[0] / 75)):=p8 (by decide) (by decide);have o:dDiv (.int cs[0]) (.int 1200)=↑(.int (cs[0] / 1200)):=p8 (by decide) (by decide);have m4:dMod (.int (cs[0] / 75)) (.int 4)=↑(.int (cs[0] / 75 % 4)):=oj (by decide);obtain⟨E,G,H,S,h4,K⟩:=zzf (A:=A) (B:=↑(.sh (.lst (cs.map D.int)))) (C:=↑(.sh (.int n))) (y:=1) (lst4 t h' l' u++[.back,X,.d (.put 1 1 0)]) k3 z V [f,b,J,R,↑(.sh (.lst ((lst4 t h' l' u).map cD)))] h3 (by simp);have st:=zzd (e:=EB A cs n E G H [f,S,J,R,↑(.sh (.lst ((lst4 t h' l' u).map cD)))]) (i:=3) (j:=4) (l:=none) (l':=none) h4 rfl rfl;have kl:=z1y (A:=A) (B:=↑(.sh (.lst (cs.map D.int)))) (C:=↑(.sh (.int n))) (k:=k2) (p:=p2) (s:=s2) (r:=[q,b,J,R,none]);have q1:fDat 4 0 (EB A cs n k1 p1 U [q,P,none,none,none])=↑(ssL U.1,EB A cs n k1 p1 U [q,P,none,none,none]):=rfl;have q3:fDat 4 0 (EB A cs n k3 z V [f,b,J,R,none])=↑(ssL V.1,EB A cs n k3 z V [f,b,J,R,none]):=rfl;rw[show[(a,h,l),((1,1,0):Int×Int×Int)].map (λc=>cD (.d (.put c.1 c.2.1 c.2.2)))=[.tup [.str "put",.int a,.int h,.int l],.tup [.str "put",.int 1,.int 1,.int 0]] from rfl] at w;obtain⟨LA,eLA⟩:∃L,L=(lst4 a h l m).map cD:=⟨_,rfl⟩;have ag:atI LA 0=↑(.tup [.str "put",.int a,.int h,.int l]):=by rw[eLA];exact at_0
 rw[<-eLA] at v;rw[b8,show([.back,X,.d (.put 1 1 0)]:List Cmd).map cD=[.tup [.str "back"],cD X,.tup [.str "put",.int 1,.int 1,.int 0]] from rfl] at K;have fw:Few (((lst4 t h' l' u).map cD).length+(0+1+1+1)):=few (by rw[af];exact Nat.le_of_ble_eq_true rfl);generalize (lst4 t h' l' u).map cD=LB at *;rw[show(sIf (fNot (fTst (lf qx [3,4] (ax (fVar (1+5)) fNil)))) (sRet (fC (.bl false))) sNil)=zzh from rfl] at K;rw[show([f,b,J,R,↑(.sh (.lst LB))]:DE0).set 1 S=[f,S,J,R,↑(.sh (.lst LB))] from rfl] at K;refine jw (e':=EB A cs n E G H [f,S,J,R,↑(.sh (.lst LB))]) rfl ?_;rw[show jy 10 [D.lst (Y.map D.int)]=[↑(.sh (.lst (Y.map D.int))),none,none,none,none,none,none,none,none,none] from rfl];unfold EB EL at *;rw[mr] at e3;subst eA;rw[hg] at x;unfold z86;generalize ssL U.1=SS1 at *;generalize ssL V.1=SS3 at *;generalize hP E (G++[H])=HP4 at *;generalize stP E G H=SP4 at *;generalize hP k3 (z++[V])=HP3 at *;generalize stP k3 z V=SP3 at *;generalize hP k2 (p2++[s2])=HP2 at *;generalize stP k2 p2 s2=SP2 at *;generalize hP k1 (p1++[U])=HP1 at *;generalize stP k1 p1 U=SP1 at *;generalize hP [] [newS n]=HP0 at *;generalize stP [] [] (newS n)=SP0 at *;generalize cs.map D.int=CS at *;simp only[sSeq,sSet,dy,ij,ax,fVar,fC,fNil,fIxV,ixSl,hd,a0,M,zx2,mk,zup,N,sFor,fiS,fLst,fSl,fO1,fBin,gp,dSub,dIx,hn1,m5,O,e3,q1,v,ag,gg,fTup,am,bj,show(0+1+1+1+1<=64)=True by simp,show(0+1+1+1<=64)=True by simp,show(0+1+1<=64)=True by simp,show(0+1<=64)=True by simp,if_true,w,d5,x,T,f2,kl,hz,f3,q3,o,W,fCat,ab,m4,aa,fw,K,sRet,st,ae,ah,aq,ao,ac,aj,show(16:Int)+60-(k2.length:Int)=16+60-(k2.length:Int) from rfl]
end SQ
end
open PySem PySem.W PyProof.Rows
open L2 (us1 us2 us3 us4 us5)
theorem PySem.Challenge.cw_rotstacks_k24_bounds_holds : PySem.Challenge.rw_rotstacks_k24_bounds.Holds := by
 refine headO ?_
 k_fill
 refine L2.walkD (k:=11) (s:="_law_script") (l:=PySem.Challenge.rw_rotstacks_k24_bounds) ⟨rfl,by decide,by decide⟩ rfl rfl (λw h Y=>PySem.W.kIn_of Y) ?F;case F =>
  intro w mg fa h KX G hmg;refine' L2.law_mk KX G hmg ?a ?l ?c ?k ?b (SQ.ok_all _ _ _ _ _ _ _ _ _ _ _ _ _ _ _ _ _ _ _ _ _ _ _ _ _ _ _ _ _ _ _ _ _ _ _ _ _ _ _ _ _ _ _ _ _ _ _ _ _ _ _ _ _ _ _ _ _ _ _ _ _ _ _ _ _ _ _ _ _ _ _ _ _ _ _ _ _ _ _ _ _ _ _ _ _ _ _ _ _ _ _ ?hhC _ _ _ _ _ _ _ _ _ _ _ _ _ _ _ _ _ _ _ _ _ _ _ _ _ _ _ _ _ _ _ _ _ _ _ _ _) SQ.good
  (case a=>k_is)
  (case l=>k_is)
  (case c=>k_is)
  (case k=>k_is)
  (case b=>exact λv=>rfl)
  (case hhC=>unfold L2.Cl;k_is)
  all_goals first | (refine' L2.def_mk (by assumption) (by assumption) ?a ?l ?c ?k ?b;(case a=>k_is);(case l=>k_is);(case c=>k_is);(case k=>k_is);(case b=>first |exact us1 λ_=>rfl |exact us2 λ_ _=>rfl |exact us3 λ_ _ _=>rfl |exact us4 λ_ _ _ _=>rfl |exact us5 λ_ _ _ _ _=>rfl)) | (refine' L2.mef_mk ?a ?l ?c ?k ?i ?b;(case a=>k_is);(case l=>k_is);(case c=>k_is);(case k=>k_is);(case i=>k_is);(case b=>first |exact us1 λ_=>rfl |exact us2 λ_ _=>rfl |exact us3 λ_ _ _=>rfl |exact us4 λ_ _ _ _=>rfl |exact us5 λ_ _ _ _ _=>rfl)) |exact⟨by k_is,by k_is,by k_is,by k_is⟩ |exact PySem.W.mg_none_of KX G (by k_is) |exact lr KX G (by k_is) | (refine' L2.exc_mk KX G ?a ?b (by decide +kernel);(case a=>k_is);(case b=>k_exc)) | (refine' L2.con_mk KX G ?a;(case a=>k_is)) |exact L2.kf_mk KX G (by kernel_rfl) |k_is

