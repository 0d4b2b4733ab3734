import PyProof.Rows.All
import Wide.All
import OpenK.AllK
import Wide.FinOn
import Lean
import PyProof.EqAt
import PyProof.EqKinds
import PyProof.TupleCall
import PyProof.Draws
import PyProof.ZipIter
import PyProof.EnumMake
import PyProof.AttrMissHeap
import KE.KDictOf
import PyProof.Rows.SeqMore2
import PyProof.Rows.SortWalk
import KE.KTryMore
import PyProof.RulesAs
import PyProof.NsDelKeeps
import KE.KIsAll
import PyProof.ExcArgs
import PySem.Challenge.RW_rotstacks_k38_whole_drying_on
set_option Elab.async false
set_option linter.all false
set_option maxRecDepth 100000
set_option compiler.extract_closed false
set_option bootstrap.genMatcherCode false
local macro_rules | `(command|def $i:declId $s:optDeclSig $v:declVal)=>`(command|noncomputable def $i:declId $s:optDeclSig $v:declVal)
set_option maxHeartbeats 0
def ac:=@Option.bind_some
def af:=@List.getElem?_cons_zero
def ah:=@List.length_map
def ai:=@List.getElem?_cons_succ
def aj:=@List.getElem?_eq_some_iff
def ak:=@Option.map_some
def am:=@List.length_cons
def ao:=@List.length_append
def aq:=@PySem.Heap.get?_push_of_some
def av:=@List.getElem?_eq_getElem
def aw:=@List.getElem?_append_left
def ax:=@List.set_cons_zero
def ay:=@List.mem_cons_of_mem
def az:=@List.set_cons_succ
def bc:=@Nat.lt_of_lt_of_le
def bf:=@List.mem_of_getElem?
def bg:=@PySem.Heap.lt_size
def bh:=@Option.some.inj
def bj:=@List.size_toArray
def bq:=@List.mem_cons_self
def bu:=@List.getElem?_map
def bw:=@List.nodup_cons
def bx:=@List.getD_eq_getElem?_getD
def bz:=@Bool.false_eq_true
def b6:=@List.length_nil
def b7:=@Nat.le_refl
def b8:=@List.mem_append_right
def b9:=@Nat.ne_of_lt
def cb:=@List.mem_cons
def ce:=@Bool.false_ne_true
def cf:=@PySem.Heap.get?_push_size
def ci:=@List.map_cons
def cj:=@PySem.Heap.get?_update_other
def cq:=@List.lookup_cons
def cr:=@List.mem_singleton
def cw:=@List.flatten_cons
def cz:=@List.getElem?_eq_none
def db:=@List.mem_append
def dc:=@List.getElem?_set_ne
def de:=@List.append_nil
def df:=@Nat.le_trans
def dg:=@List.append_assoc
def dh:=@List.map_append
def di:=@List.getElem?_append_right
def dn:=@Option.bind_eq_some_iff
def dq:=@List.length_set
def du:=@List.map_nil
def dy:=@List.length_take
def dz:=@List.ext_getElem?
def d5:=@List.mem_append_left
def d6:=@List.getElem?_set_self
def d8:=@PySem.W.kia_one
def d9:=@List.length_drop
def eg:=@Bool.and_eq_true
def eh:=@PySem.mem_of_lookup
def ek:=@List.sublist_flatten_of_mem
def e7:=@List.flatten_append
def fb:=@List.length_replicate
def fc:=@List.pairwise_cons
def ff:=@PySem.F.plainAttrs_list
def fg:=@Nat.lt_succ_self
def fm:=@List.drop_eq_getElem_cons
def fo:=@Nat.lt_irrefl
def fq:=@List.eq_nil_of_length_eq_zero
def ft:=@PySem.Heap.get?_update_self
def fy:=@List.mem_map
def f7:=@Nat.lt_succ_of_lt
def f8:=@Int.toNat_natCast
def gc:=@List.sum_cons
def gh:=@List.replicate_succ
def gi:=@List.mem_flatten
def gk:=@List.all_eq_true
def gl:=@Int.mul_le_mul_of_nonneg_right
def gp:=@Nat.zero_le
def gq:=@List.take_append_of_le_length
def gv:=@Option.map_eq_some_iff
def gw:=@List.map_set
def gy:=@Int.mul_right_comm
def h9:=@Int.mul_assoc
def ib:=@List.singleton_append
def ie:=@List.getElem?_set
def ig:=@List.getElem?_concat_length
def il:=@List.pairwise_append
def im:=@Int.add_mul
def iw:=@List.map_map
def iy:=@List.length_pos_iff
def iz:=@List.length_flatten
def i4:=@List.getElem_of_mem
def i6:=@PySem.Heap.size_push
def i8:=@List.mem_filter
def jb:=@PySem.W.callWith_K
def jc:=@List.zip_cons_cons
def jd:=@List.filter_append
def jf:=@Int.eq_ofNat_of_zero_le
def jh:=@List.take_of_length_le
def jl:=@List.takeWhile_append_dropWhile
def jm:=@List.length_singleton
def jo:=@Int.mul_add
def js:=@List.of_mem_zip
def ju:=@List.filterMap_cons
def jx:=@PyProof.Rows.callWith_type1
def jy:=@Nat.zero_add
def jz:=@Nat.le_of_lt
def j0:=@Int.mul_comm
def j2:=@List.take_left
def j3:=@List.mem_range
def j4:=@Array.getElem?_eq_some_iff
def j9:=@List.length_range
def ke:=@Bool.not_eq_true'
def kj:=@PySem.W.mg_of
def kl:=@Option.isSome_iff_exists
def kr:=@Nat.le_of_not_lt
def kt:=@List.getElem_mem
def ku:=@List.filter_cons_of_pos
def kv:=@List.filter_cons_of_neg
def kx:=@List.drop_length
def ky:=@List.cons_append
def lj:=@PySem.W.cellsFrom_some
def lm:=@Nat.ne_of_gt
def lp:=@Int.zero_add
def lr:=@Option.map_none
def lu:=@List.nil_append
def lv:=@Bool.eq_iff_iff
def l3:=@PySem.F.type_list_pop
def l4:=@PySem.F.slot_list_pop
def ma:=@Nat.sub_succ_lt_self
def md:=@Nat.le_succ
def my:=@PySem.W.plainGet_of
def mz:=@List.getElem?_range
def m6:=@Bool.not_true
def ni:=@List.mem_filterMap
def nj:=@List.map_replicate
def oa:=@PySem.W.kitx_list
def og:=@Nat.lt_of_succ_le
def oh:=@Nat.le_succ_of_le
def o7:=@List.eraseIdxIfInBounds_toArray
def pz:=@List.flatten_nil
def qi:=@Int.mul_le_mul_of_nonneg_left
def r8:=@Nat.le_antisymm
def sd:=@List.range_succ
def se:=@List.length_zip
def t6:=@Int.mul_lt_mul_of_pos_right
def va:=@PySem.boot_len
def vb:=@PySem.F.excBase_ValueError
def vd:=@List.drop_zero
def ve:=@Int.lt_of_mul_lt_mul_right
def vf:=@Int.le_of_mul_le_mul_right
def wp:=@List.getLast?_eq_some_iff
def wq:=@List.getLast?_eq_none_iff
def yt:=@PySem.F.type_list_append
def yu:=@PySem.F.slot_list_append
abbrev g7:=List PySem.Str
abbrev g8:=List PySem.Value
abbrev g9:=Option PySem.Value
abbrev h7:=List PySem.Addr
abbrev h8:=List Nat
abbrev ia:=List Int
abbrev ic:=List PySem.Env
abbrev ik:=List PySem.Expr
abbrev ka:=Option PySem.Str
abbrev kb:=Option Int
abbrev kf:=PySem.W.Frag
abbrev k4:=List (PySem.Addr×PySem.Obj)
abbrev k6:=Array PySem.Value
namespace PySem.W.Fast
def tw16532565388948089689:=()
def tw15359066029296091914:=()
def tw12228147544654841872:=()
def tw3301900299095288138:=()
def tw390746492956994619:=()
def tw13494128715974936559:=()
def tw7803279730508470376:=()
def tw16534869220895929806:=()
def tw14726039395708169042:=()
def tw13211135914812361414:=()
def tw16443253333803420104:=()
def tw8884897592538199573:=()
def tw2568920784801229785:=()
def tw7725012626891826632:=()
def tw83686271494855530:=()
def tw14767782586175439492:=()
def tw18424013207920332442:=()
def tw10900955558412200155:=()
def tw2626721090386267002:=()
def tw11426443043654593942:=()
def tw1489821537144307907:=()
def tw5557865022116740448:=()
def tw11105427925141876665:=()
def tw2310152115407694317:=()
def tw12264938177008825913:=()
def tw17548525900877467917:=()
def tw6805036417131008916:=()
def tw8221379785114272625:=()
def tw5794113773821822752:=()
def tw9730515312287759631:=()
def tw13774891425750927617:=()
def tw11259471920729424210:=()
def tw267220488418714694:=()
def tw17702111594606338733:=()
def tw13413012072783188425:=()
def tw3599352512664547791:=()
def tw6493330665566167147:=()
def tw3307053570587155738:=()
def tw15831293633207555195:=()
def tw4437080809759059605:=()
def tw7556450903620949716:=()
def tw5034716454303145026:=()
def tw11026720062418087932:=()
def tw8672185609985027439:=()
def tw9861558533797506370:=()
def tw5598528202930427401:=()
def tw15359102603107413231:=()
def tw14573953567509026023:=()
def tw3823070681319032280:=()
def tw12668837403108445984:=()
def tw7062433028394551289:=()
def tw210044324623842073:=()
def tw12791392028554949626:=()
def tw4272594590288698280:=()
def tw3940656549514326351:=()
def tw13372310052145129520:=()
def tw8140187065305788796:=()
def tw2043501010429613985:=()
def tw3945582593327187780:=()
def tw8106365122697232209:=()
def tw14731571944601670388:=()
def tw6163023441807191163:=()
def tw4856031234699149851:=()
def tw1089804193526757552:=()
def tw3571750150667202872:=()
def tw489658428743795868:=()
def tw1941158131923050496:=()
def tw9509332782846596327:=()
def tw90743548125290388:=()
def tw12161852113490284199:=()
def tw13026136331304254567:=()
def tw7810788576717098659:=()
def tw11457838680292950747:=()
def tw14057238044761739051:=()
def tw871618039370766144:=()
def tw13252475720556201039:=()
def tw17806559798037380195:=()
def tw15732433535119192703:=()
def tw6296575575862129534:=()
def tw6636851955436695:=()
def tw15552618252400785101:=()
def tw520760608191861299:=()
def tw9386486049590100709:=()
def tw5317498474899054006:=()
def tw14196151101740859672:=()
def tw4752798683845683672:=()
def tw4350389097029185460:=()
def tw8936502833500920895:=()
def tw1042730745191015830:=()
def tw8168842266489454260:=()
def tw6589729802992796608:=()
def tw15430037558567434164:=()
def tw17945612443392747120:=()
def tw11878816300642521280:=()
def tw2678646209641352363:=()
def tw15711869671402154468:=()
def tw16010320434224640865:=()
def tw6483710568601462799:=()
def tw9798687865813937216:=()
def tw1617684584516686801:=()
def tw14845087081150203729:=()
def tw14848821875180376310:=()
def tw16670337082191713251:=()
def tw11419798665769463319:=()
def tw3653488805216411198:=()
def tw14163884457187909044:=()
def tw2388936564005763016:=()
def tw8342137133837284574:=()
def tw11298351402639607737:=()
def tw18251893030405360759:=()
def tw17715355151536627880:=()
def tw7122239765987411625:=()
def tw6498599440046646152:=()
def tw17581998168518647442:=()
def tw7691101470794888783:=()
def tw8528296176800286927:=()
def tw923929161578708131:=()
def tw4855314216099888563:=()
def tw16518523057615377998:=()
def tw11944983581154280522:=()
def tw2975443145256112729:=()
def tw7027161504191823226:=()
def tw10184082262108008333:=()
def tw6325669893785667225:=()
def tw16929985832543967965:=()
def tw4432724790468297698:=()
def tw5051928251995058599:=()
def tw15312604883864658121:=()
def tw17436130570902122954:=()
def tw8596935767243345797:=()
def tw14643470665348594077:=()
def tw3018418718631485023:=()
def tw1431313312217236848:=()
def tw1628180050576995452:=()
def tw2071606587056475718:=()
def tw4889893562448275700:=()
def tw4685104083224611147:=()
def tw4895425382642465790:=()
def tw10064278401438594924:=()
def tw9234954786079030011:=()
def tw5898611799629526299:=()
def tw8507352256790140945:=()
def tw8890728187195941351:=()
def tw18167784821210252591:=()
def tw18258044017837031756:=()
def tw10405927150804094027:=()
def tw13053231961161858130:=()
def tw1844946164214362932:=()
def tw17731801680971310:=()
def tw6050367820228774611:=()
def tw14556100686425596895:=()
def tw13916040809530369296:=()
def tw9238318764281012090:=()
def tw1622557476127942605:=()
def tw11066789057533804942:=()
def tw11674209156167569879:=()
def tw13536869062205639005:=()
def tw12340551673284875809:=()
def tw7881732657216084209:=()
def tw13144248107758189823:=()
def tw7342397301655820149:=()
def tw11638739722516940127:=()
def tw5467222893395880145:=()
def tw6016840223995648031:=()
def tw14786972923689998084:=()
def tw16658151731271584020:=()
def tw4348695930679769728:=()
def tw13674210368510959279:=()
def tw2702439272556505636:=()
def tw2811824731477432661:=()
def tw17843410382910287299:=()
def tw8176140570609435463:=()
def tw4050732226601590682:=()
def tw12001160295815477938:=()
def tw2325606590763678580:=()
def tw14826912328538242741:=()
def tw3872529491428680710:=()
def tw4889039987935711080:=()
def tw8694474041912759065:=()
def tw15594794917597159775:=()
def tw16350272775003310265:=()
def tw15848108554550008055:=()
def tw11073039516269669748:=()
def tw11695408590473916421:=()
def tw11478856704950905501:=()
def tw16888146075410284241:=()
def tw9679322562879927657:=()
def tw5821339014629620944:=()
def tw10986931170350255741:=()
def tw5166654182613107631:=()
def tw4721184679926851813:=()
def tw6986209519638567572:=()
def tw12538974470732270587:=()
def tw11201857759490133884:=()
def tw10276145494591126561:=()
def tw13617027138147984029:=()
def tw951539657040619174:=()
def tw15146276678955778912:=()
def tw5398993404786027997:=()
def tw16871584232092169642:=()
def tw15509039178638469261:=()
def tw10020126217023852985:=()
def tw12155327589920219077:=()
def tw7399771249758580916:=()
def tw5910249020813440600:=()
def tw7586728641817783655:=()
def tw3629635586054587791:=()
def tw2620867373401844138:=()
def tw5062136379586313953:=()
def tw11114441641902549053:=()
def tw16944876944197547581:=()
def tw13341254790193404362:=()
def tw683955573386985426:=()
def tw5510226504961764771:=()
def tw15399392379912836652:=()
def tw13923418127731320396:=()
end PySem.W.Fast
open_top headO for PySem.Challenge.rw_rotstacks_k38_whole_drying_on
noncomputable section
namespace L2
open PySem PySem.Spec PyProof.Rows
abbrev Key:=Sum Int Str
def z2h:Key->Value->Bool
 | .inl k,v=>Value.isInt k v
 | .inr x,v=>Value.isStrOf x v
def keyH(w:World):Key->Int
 | .inl k=>hashInt k
 | .inr x=>hashStr w x
def tz:∀ {k:Key} {v:Value},z2h k v=true->(∃i t,k=Sum.inl i/\v=Value.int i t)\/(∃x t,k=Sum.inr x/\v=Value.str x t)
 | .inl i,v,h=>by
   obtain⟨t,e⟩:=Value.isInt_shape (k:=i) (v:=v) h;exact .inl ⟨i,t,rfl,e⟩
 | .inr x,v,h=>by
   obtain⟨t,e⟩:=Value.isStrOf_shape (x:=x) (v:=v) h;exact .inr ⟨x,t,rfl,e⟩
def z2i(a b:Int):decide ((Sum.inl a:Key)=Sum.inl b)=(a==b):=by
 by_cases e:a=b
 ·subst e;simp
 ·have h:¬(Sum.inl a:Key)=Sum.inl b:=λq=>e (Sum.inl.inj q)
  rw[decide_eq_false h];exact(beq_eq_false_iff_ne.mpr e).symm
def z2j(a b:Str):decide ((Sum.inr a:Key)=Sum.inr b)=decide (a=b):=by
 by_cases e:a=b
 ·subst e;simp
 ·have h:¬(Sum.inr a:Key)=Sum.inr b:=λq=>e (Sum.inr.inj q)
  rw[decide_eq_false h,decide_eq_false e]
def z2k(a:Int)(b:Str):decide ((Sum.inl a:Key)=Sum.inr b)=false:=decide_eq_false (λq=>nomatch q)
def z2l(a:Str)(b:Int):decide ((Sum.inr a:Key)=Sum.inl b)=false:=decide_eq_false (λq=>nomatch q)
def zs9(prog:Program)(w:World):PySem.KeyKind prog w Key where
 is:=z2h
 hash:=keyH w
 inj:=λv a b J I=>by
  rcases tz J with⟨i,t,rfl,rfl⟩ | ⟨x,t,rfl,rfl⟩
  ·rcases tz I with⟨j,u,rfl,e⟩ | ⟨y,u,rfl,e⟩
   ·injection e with e1 _;rw[e1]
   ·exact nomatch e
  ·rcases tz I with⟨j,u,rfl,e⟩ | ⟨y,u,rfl,e⟩
   ·exact nomatch e
   ·injection e with e1 _;rw[e1]
 byValue:=λk v h=>by
  rcases tz h with⟨i,t,rfl,rfl⟩ | ⟨x,t,rfl,rfl⟩ <;> rfl
 pyHash:=λD h=>by
  rcases tz D with⟨i,t,rfl,rfl⟩ | ⟨x,t,rfl,rfl⟩
  ·exact wpAny_pyHash_int h
  ·exact wpAny_pyHash_str h
 eqBool:=λR D h=>by
  rcases tz R with⟨i,t,rfl,rfl⟩ | ⟨x,t,rfl,rfl⟩
  ·rcases tz D with⟨j,u,rfl,rfl⟩ | ⟨y,u,rfl,rfl⟩
   ·rw[z2i] at h;exact wpAny_eqBool_int h
   ·rw[z2k] at h;exact SeqAt.EqAt.int_str i t y u _ _ _ _ h
  ·rcases tz D with⟨j,u,rfl,rfl⟩ | ⟨y,u,rfl,rfl⟩
   ·rw[z2l] at h;exact SeqAt.EqAt.str_int x t j u _ _ _ _ h
   ·rw[z2j] at h;exact wpAny_eqBool_str h
 «strs»:=λk x t v h=>by
  rcases tz h with⟨i,u,rfl,e⟩ | ⟨y,u,rfl,e⟩
  ·exact nomatch e
  ·injection e with e1 _
   subst e1;cases v <;> rfl
inductive V where
 | non | bl (b:Bool) | int (i:Int) | str (x:Str) | byt (b:Array UInt8) | flt (b:UInt64) | ref (a:Addr) | ty (n:String)
 deriving DecidableEq
abbrev k7:=List V
def RelV:V->Value->Prop
 | .non,u=>u=Value.none
 | .bl b,u=>u=Value.bool b
 | .int i,u=>∃t,u=Value.int i t
 | .str x,u=>∃t,u=Value.str x t
 | .byt b,u=>∃t,u=Value.bytes b t
 | .flt b,u=>∃t,u=Value.float b t
 | .ref a,u=>u=Value.ref a
 | .ty n,u=>u=Value.type n
abbrev Vals:k7->g8->Prop:=Paired RelV
def Vals.length{xs:k7}{us:g8}(r:Vals xs us):xs.length=us.length:=Paired.length r
def Vals.get:∀ {xs:k7} {us:g8} {i:Nat} {x:V},Vals xs us->xs[i]?=some x->∃u,us[i]?=some u/\RelV x u
 | _,_,_,_,.nil,e=>by simp at e
 | _,_,0,_,.cons r _,e=>by simp at e;subst e;exact⟨_,rfl,r⟩
 | _,_,i+1,x,.cons _ t,e=>by
   obtain⟨u,h1,h2⟩:=Vals.get (i:=i) (x:=x) t (by simpa using e);exact⟨u,by simpa using h1,h2⟩
def Vals.set{x:V}{u:Value}(r:RelV x u):∀ {xs:k7} {us:g8} (i:Nat),Vals xs us->Vals (xs.set i x) (us.set i u)
 | _,_,_,.nil=>.nil
 | _,_,0,.cons _ t=>.cons r t
 | _,_,i+1,.cons q t=>.cons q (Vals.set r i t)
variable{xs ys:k7}{us:g8}
def Vals.append{ws:g8}(h:Vals xs us)(s:Vals ys ws):Vals (xs++ys) (us++ws):=by
 induction h with
 | nil=>exact s
 | cons r _ q=>exact .cons r q
def Vals.take:∀ {xs:k7} {us:g8} (n:Nat),Vals xs us->Vals (xs.take n) (us.take n)
 | _,_,0,_=>.nil
 | _,_,_+1,.nil=>.nil
 | _,_,n+1,.cons r t=>.cons r (Vals.take n t)
def Vals.drop:∀ {xs:k7} {us:g8} (n:Nat),Vals xs us->Vals (xs.drop n) (us.drop n)
 | _,_,0,r=>r
 | _,_,_+1,.nil=>.nil
 | _,_,n+1,.cons _ t=>Vals.drop n t
def RelO:Option V->g9->Prop
 | some v,some u=>RelV v u
 | none,none=>True
 | _,_=>False
def KV{κ:Type}:List (κ×V)->List (κ×Value)->Prop:=Paired λ(p:κ×V) (q:κ×Value)=>p.1=q.1/\RelV p.2 q.2
def kV:Key->V
 | .inl i=>.int i
 | .inr x=>.str x
inductive HO where
 | lst (xs:k7)
 | tup (xs:k7)
 | dK (kvs:List (Key×V)) | dT (kvs:List (List Key×V))
 | set (S:Int->Bool) (n:Nat)
 | ins (C dx:Addr) (fs:List (Str×V))
 | own (x:Addr)
 | xd (fs:List (Str×V))
 | met (f x:Addr)
 | rng (lo hi:Int)
 | frz (o:Obj) (u:HO)
 | tbl (ps:k6)
 | ext (φ:Heap->Prop)
abbrev Hp:=Addr->Option HO
def upd(H:Hp)(a:Addr)(o:HO):Hp:=λb=>if b=a then some o else H b
variable{H:Hp}{a:Addr}{o:HO}
def ki:upd H a o a=some o:=by unfold upd;rw[if_pos rfl]
variable{b:Addr}
def gm(h:b≠a):upd H a o b=H b:=by unfold upd;rw[if_neg h]
def nt(h:H a=some o)(h':H b=none):a≠b:=by
 intro e;subst e;rw[h] at h';cases h'
section
variable (P:Program) (w:World)
def ObjOk(H:Hp)(h:Heap)(a:Addr):HO->Prop
 | .lst xs=>xs.length<=sizeLine/\∃(its:g8) (n:Nat),Vals xs its/\h.get? a=some { cls:=.type "list",data:=.seq its.toArray n }
 | .tup xs=>xs.length<=sizeLine/\∃its:g8,Vals xs its/\IsTup h a its.toArray
 | .dK kvs=>kvs.length<=sizeLine/\(a==sysModules)=false/\∃vs,KV kvs vs/\h.DictOf (zs9 P w) a vs
 | .dT kvs=>kvs.length<=sizeLine/\(a==sysModules)=false/\∃xs:List (List Key×Addr×Value),
    Paired (λ(p:List Key×V) (q:List Key×Addr×Value)=>p.1=q.1/\H q.2.1=some (.tup (p.1.map kV))/\RelV p.2 q.2.2) kvs xs /\
    ∃o es D,h.get? a=some o/\o.ExactDict/\o.data=.dict es D/\es.toList=xs.map (entryOfKey (tupleKind (zs9 P w)))/\(xs.map (·.1)).Nodup
 | .set S n=>h.SetOf (intKind P w) a S n
 | .ins C dx fs=>H dx=some (.own a)/\fs.length<=1000/\dx≠a/\h.get? a=some (PySem.W.instObj C dx) /\
    ∃mA,h.Ns1 dx mA/\(∀f,RelO (fs.lookup f) (mA f))/\PySem.Within mA (fs.map (·.1))
 | .own _=>∃o,h.get? a=some o
 | .xd fs=>∃mA,h.Ns1 a mA/\∀f,RelO (fs.lookup f) (mA f)
 | .rng lo hi=>∃t u v,h.get? a=some { cls:=.type "range",data:=.fields #[.int lo t,.int hi u,.int 1 v] }
 | .frz o u=>h.get? a=some o/\ObjOk H h a u
 | .tbl ps=>h.get? a=some { cls:=.none,data:=.fields ps }
 | .met f x=>h.get? a=some (PySem.W.methodObj (.ref f) (.ref x))
 | .ext φ=>φ h/\(∃o,h.get? a=some o)/\∀h1 h2:Heap,φ h1->(∀o,h1.get? a=some o->h2.get? a=some o)->φ h2
def HOk(H:Hp)(h:Heap):Prop:=∀a o,H a=some o->ObjOk P w H h a o
end
variable{P:Program}{w:World}{h:Heap}
def ObjOk.lt(x:ObjOk P w H h a o):a<h.objs.size:=by
 cases o with
 | lst xs=>obtain⟨_,_,_,_,e⟩:=x;exact bg e
 | tup xs=>obtain⟨_,_,_,p⟩:=x;exact p.lt
 | dK kvs=>obtain⟨_,_,_,_,o,_,_,e,_⟩:=x;exact bg e
 | dT kvs=>obtain⟨_,_,_,_,o,_,_,e,_⟩:=x;exact bg e
 | set S n=>obtain⟨o,_,_,_,e,_⟩:=x;exact bg e
 | ins C dx fs=>obtain⟨_,_,_,e,_⟩:=x;exact bg e
 | own y=>obtain⟨_,e⟩:=x;exact bg e
 | xd fs=>obtain⟨_,⟨_,_,_,e,_⟩,_⟩:=x;exact bg e
 | rng lo hi=>obtain⟨_,_,_,e⟩:=x;exact bg e
 | frz ob u=>obtain⟨e,_⟩:=x;exact bg e
 | tbl ps=>exact bg (show h.get? a=some _ from x)
 | met f y=>exact bg (show h.get? a=some _ from x)
 | ext φ=>obtain⟨_,⟨_,e⟩,_⟩:=x;exact bg e
variable{α:Type}
def Paired.mapP{β:Type}{F G:α->β->Prop}{D:List α}{I:List β}(h:Paired F D I)(f:∀a b,F a b->G a b):Paired G D I:=by
 induction h with
 | nil=>exact .nil
 | cons r _ q=>exact .cons (f _ _ r) q
variable{H':Hp}{h':Heap}
def ObjOk.stay(x:ObjOk P w H h a o)(k:∀b u,(b=a\/H b=some (.own a))->h.get? b=some u->h'.get? b=some u)(J:∀b,H b=some (.own a)->H' b=some (.own a))(R:∀b xs,H b=some (.tup xs)->H' b=some (.tup xs)):ObjOk P w H' h' a o:=by
 induction o with
 | lst xs=>obtain⟨z,its,n,r,e⟩:=x;exact⟨z,its,n,r,k _ _ (.inl rfl) e⟩
 | tup xs=>obtain⟨z,its,r,D,e,c⟩:=x;exact⟨z,its,r,D,k _ _ (.inl rfl) e,c⟩
 | dK kvs=>obtain⟨z,y,vs,r,D,es,I,e,c⟩:=x;exact⟨z,y,vs,r,D,es,I,k _ _ (.inl rfl) e,c⟩
 | dT kvs =>
   obtain⟨z,y,xs,r,D,es,I,e,c⟩:=x;exact⟨z,y,xs,Paired.mapP r λp q z=>⟨z.1,R _ _ z.2.1,z.2.2⟩,D,es,I,k _ _ (.inl rfl) e,c⟩
 | set S n=>obtain⟨D,es,I,t,e,c⟩:=x;exact⟨D,es,I,t,k _ _ (.inl rfl) e,c⟩
 | ins C dx fs =>
   obtain⟨d,z,U,e,mA,⟨od,es,I,V,c⟩,r⟩:=x;exact⟨J _ d,z,U,k _ _ (.inl rfl) e,mA,⟨od,es,I,k _ _ (.inr d) V,c⟩,r⟩
 | own y=>obtain⟨D,e⟩:=x;exact⟨D,k _ _ (.inl rfl) e⟩
 | xd fs=>obtain⟨mA,⟨od,es,I,e,c⟩,r⟩:=x;exact⟨mA,⟨od,es,I,k _ _ (.inl rfl) e,c⟩,r⟩
 | rng lo hi=>obtain⟨t,u,v,e⟩:=x;exact⟨t,u,v,k _ _ (.inl rfl) e⟩
 | frz D u ih=>obtain⟨e,q⟩:=x;exact⟨k _ _ (.inl rfl) e,ih q⟩
 | tbl ps =>
   have e:h.get? a=some { cls:=.none,data:=.fields ps }:=x;show h'.get? a=some { cls:=.none,data:=.fields ps };exact k a _ (.inl rfl) e
 | met f y =>
   have e:h.get? a=some (PySem.W.methodObj (.ref f) (.ref y)):=x;show h'.get? a=some (PySem.W.methodObj (.ref f) (.ref y));exact k a _ (.inl rfl) e
 | ext φ=>obtain⟨p,⟨o,e⟩,st⟩:=x;exact⟨st _ _ p λo q=>k _ _ (.inl rfl) q,⟨o,k _ _ (.inl rfl) e⟩,st⟩
def HOk.lt(x:HOk P w H h)(e:H a=some o):a<h.objs.size:=(x a o e).lt
def HOk.fresh(x:HOk P w H h)(e:h.objs.size<=a):H a=none:=by
 cases q:H a with
 | none=>rfl
 | some u=>exact absurd (bc (x.lt q) e) (fo _)
def HOk.kept(x:HOk P w H h)(k:∀b u,h.get? b=some u->h'.get? b=some u):HOk P w H h':=λa o e =>
 (x a o e).stay (λb u _ q=>k b u q) (λ_ q=>q) λ_ _ q=>q
def HOk.laid(x:HOk P w H h)(k:∀b u,h.get? b=some u->h'.get? b=some u)(J:h.objs.size<=a)(new:ObjOk P w (upd H a o) h' a o):HOk P w (upd H a o) h':=λb u e=>by
 have D:=x.fresh J;by_cases I:b=a
 ·subst I;rw[ki] at e;cases e;exact new
 ·rw[gm I] at e
  exact(x b u e).stay (λc v _ q=>k c v q) (λc q=>by rw[gm (nt q D)];exact q) λc xs q=>by rw[gm (nt q D)];exact q
def Rd(H:Hp)(a:Addr)(u:HO):Prop:=H a=some u\/∃o,H a=some (.frz o u)
variable{u:Value}
def Rd.ok{u:HO}(r:Rd H a u)(x:HOk P w H h):ObjOk P w H h a u:=by
 rcases r with r | ⟨o,r⟩
 ·exact x a u r
 ·obtain⟨_,q⟩:=x a _ r
  exact q
def Mut:Option HO->Prop
 | some (.lst _)=>True
 | some (.dK _)=>True
 | some (.dT _)=>True
 | some (.set _ _)=>True
 | some (.ins _ _ _)=>True
 | some (.ext _)=>True
 | _=>False
variable{x e:Addr}{o':HO}
def HOk.write(ok:HOk P w H h)(R:Mut (H x))(Y:e=x\/H e=some (.own x))(k:∀b u,b≠e->h.get? b=some u->h'.get? b=some u)(V:∃u,h'.get? e=some u)(new:ObjOk P w (upd H x o') h' x o'):HOk P w (upd H x o') h':=λb u q=>by
 have I:∀c y,H c=some (.own y)->c≠x:=λc y r z=>by subst z;rw[r] at R;exact R
 have J:∀c xs,H c=some (.tup xs)->c≠x:=λc xs r z=>by subst z;rw[r] at R;exact R
 by_cases U:b=x
 ·subst U;rw[ki] at q;cases q;exact new
 ·rw[gm U] at q
  by_cases D:b=e
  ·have Z:H b=some (.own x):=by
    rcases Y with z | z
    ·exact absurd (D.trans z) U
    ·rw[D];exact z
   rw[q] at Z;cases Z;obtain⟨v,a⟩:=V;exact⟨v,by rw[D];exact a⟩
  ·refine(ok b u q).stay (λc v hc r=>k c v ?_ r) (λc r=>by rw[gm (I c b r)];exact r) λc xs r=>by rw[gm (J c xs r)];exact r
   rcases hc with rfl | hc
   ·exact D
   ·rintro rfl
    rcases Y with z | z
    ·exact I c b hc z
    ·rw[hc] at z;cases z;exact U rfl
structure Un (fs ex:h7) (H H':Hp) (h h':Heap):Prop where
 keep:∀b o,h.get? b=some o->H b=none->b∉fs->b∉ex->h'.get? b=some o
 slot:∀b o,h.get? b=some o->H b=none->b∈fs->b∉ex->∃sl,h'.get? b=some { o with slots:=sl }
 free:∀b o,h.get? b=some o->H b=none->b∉ex->H' b=none
 there:∀b o,h.get? b=some o->b∉ex->∃o',h'.get? b=some o'
 tups:∀b xs,H b=some (.tup xs)->H' b=some (.tup xs)
 frzs:∀b o u,H b=some (.frz o u)->H' b=some (.frz o u)
 tbls:∀b ps,H b=some (.tbl ps)->∃more,H' b=some (.tbl (ps++more))
variable{fs ex:h7}{H1:Hp}{h1:Heap}
def Un.any(u:Un fs ex H H1 h h1){D:Obj}(q:h.get? b=some D)(n:H b=none)(I:b∉ex):∃sl,h1.get? b=some { D with slots:=sl }:=by
 by_cases J:b∈fs
 ·exact u.slot b D q n J I
 ·exact⟨D.slots,u.keep b D q n J I⟩
def Un.kept(k:∀b u,h.get? b=some u->h'.get? b=some u):Un fs ex H H h h' :=
 ⟨λb D q _ _ _=>k b D q,λb D q _ _ _=>⟨D.slots,k b D q⟩,λ_ _ _ n _=>n,λb D q _=>⟨D,k b D q⟩,λ_ _ q=>q,λ_ _ _ q=>q,λ_ ps q=>⟨#[],by rw[q];simp⟩⟩
def Un.refl:Un fs ex H H h h:=Un.kept λ_ _ q=>q
def Un.laid(k:∀b u,h.get? b=some u->h'.get? b=some u)(I:h.objs.size<=a)(D:H a=none):Un fs ex H (upd H a o) h h' where
 keep:=λb u q _ _ _=>k b u q
 slot:=λb u q _ _ _=>⟨u.slots,k b u q⟩
 free:=λb u q n _=>by rw[gm (b9 (bc (bg q) I))];exact n
 there:=λb u q _=>⟨u,k b u q⟩
 tups:=λb xs q=>by rw[gm (nt q D)];exact q
 frzs:=λb u xs q=>by rw[gm (nt q D)];exact q
 tbls:=λb ps q=>⟨#[],by rw[gm (nt q D),q];simp⟩
def Un.write(I:Mut (H x))(Y:e=x\/H e=some (.own x))(k:∀b u,b≠e->h.get? b=some u->h'.get? b=some u)(J:∃u,h'.get? e=some u):Un fs ex H (upd H x o) h h':=by
 have U:∀b,H b=none->b≠x:=λb n z=>by subst z;rw[n] at I;exact I
 have V:∀b,H b=none->b≠e:=λb n z=>by
  subst z;rcases Y with r | r
  ·exact U b n r
  ·rw[n] at r;cases r
 have R:∀b u,H b=some u->¬Mut (some u)->b≠x:=λb u q nm z=>by subst z;rw[q] at I;exact nm I
 refine⟨λb u q n _ _=>k b u (V b n) q,λb u q n _ _=>⟨u.slots,k b u (V b n) q⟩,λb u q n _=>by rw[gm (U b n)];exact n,λb u q _=>?_,
  λb xs q=>by rw[gm (R b _ q λz=>z)];exact q,λb u xs q=>by rw[gm (R b _ q λz=>z)];exact q,λb ps q=>⟨#[],by rw[gm (R b _ q λz=>z),q];simp⟩⟩
 by_cases D:b=e
 ·subst D;exact J
 ·exact⟨u,k b u D q⟩
def trk(h:Heap)(H:Hp):h7:=(List.range h.objs.size).filter λa=>(H a).isSome
def hidT(h:Heap)(H:Hp):Heap:=PySem.W.hideAll h (trk h H)
def zta(h:Heap)(H:Hp):(hidT h H).objs.size=h.objs.size:=PySem.W.hideAll_size _ _
variable{o:Obj}
def zv9(e:h.get? b=some o)(n:H b=none):(hidT h H).get? b=some o :=
 PySem.W.hideAll_get _ e λD=>by
  have q:(H b).isSome=true:=(i8.mp D).2;rw[n] at q;simp at q
def zz2(e:(hidT h H).get? b=some o):h.get? b=some o/\H b=none:=by
 have e':h.get? b=some o:=PySem.W.of_hideAll (trk h H) e;refine⟨e',?_⟩;cases q:H b with
 | none=>rfl
 | some x =>
   have D:b∈trk h H:=i8.mpr ⟨j3.mpr (bg e'),by simp[q]⟩;have z:(hidT h H).get? b=none:=PySem.W.hideAll_none (trk h H) D;rw[z] at e;cases e
def zz3(g h:Heap)(L:Addr):k4:=(List.range h.objs.size).filterMap λa=>if a=L\/(g.get? a).isSome=true then none else(h.get? a).map λo=>(a,o)
def rest(g h:Heap)(L d:Addr):k4:=(zz3 g h L).filter λp=>decide (p.1≠d)
structure Mod (K:kf) (mg:Str->g9) (base:Heap):Prop where
 kin:K.In base
 glob:base.Ns mainGlobals mg
 blt:∃mb,base.Ns builtinsNs mb/\∀x:Str,x ≠ "__name__"->mb x=bootBuiltins x
 nolimit:base.NoLimit
structure Cx where
 prog:Program
 w:World
 K:kf
 mg:Str->g9
 base:Heap
 A:Around
 N:g7
 s₀:Shared
 H₀:Hp
 env:Env
 outer:ic
 stack:ic
 ex:h7
 fn:Str->Bool
 calm:Bool
 pn:k4
 xe:Value->Shared->Prop
def frs(l:ic):h7:=l.filterMap (·.frame)
protected abbrev Cx.fs(X:Cx):h7:=frs X.outer
def Vis(sc:Scope)(x:Str):Prop:=sc.names.lookup x=some .local\/sc.names.lookup x=some .cell\/sc.names.lookup x=some .free
def Loc(sc:Scope)(x:Str):Prop:=sc.names.lookup x=some .local\/sc.names.lookup x=some .cell
def Look(env:Env)(h:Heap)(m:Str->g9)(x:Str)(u:Value):Prop :=
 (env.kindOf x=some .local/\m x=some u)\/((env.kindOf x=some .cell\/env.kindOf x=some .free)/\∃c,env.cells.lookup x=some c/\h.IsCell c (some u))
structure Cx.Ok (X:Cx):Prop where
 mod:Mod X.K X.mg X.base
 kind:X.env.scope.kind=.function
 glob:X.env.globals=mainGlobals
 blt:X.env.builtins=builtinsNs
 above:X.s₀.heap.objs.size<=X.env.locals
 inj:∀x y c,X.env.cells.lookup x=some c->X.env.cells.lookup y=some c->x=y
 has:∀x,(X.env.kindOf x=some .cell\/X.env.kindOf x=some .free)->∃c,X.env.cells.lookup x=some c
 cab:∀x c,X.fn x=true->X.env.cells.lookup x=some c->X.s₀.heap.objs.size<=c
 hd:X.calm=true->X.A.handled=none
 frames:X.A.frames=some X.stack
 stk:X.stack=X.outer\/(X.stack=X.env::X.outer/\X.env.frame=some X.env.locals)
 exf:∀b∈X.ex,b≠X.env.locals/\∀x c,X.env.cells.lookup x=some c->c≠b
 bs:∀b o,X.base.get? b=some o->X.s₀.heap.get? b=some o/\X.H₀ b=none
 bsz:X.base.objs.size<=X.s₀.heap.objs.size
 noex:∀b o,X.base.get? b=some o->b∉X.ex
 exfs:∀b∈X.ex,b∉X.fs
 funs:X.s₀.heap.FunFrames X.base X.outer
 frf:∀b∈X.fs,X.H₀ b=none
structure Inv (X:Cx) (pins:k4) (σ:List (Option V)) (H:Hp) (s:Shared):Prop where
 ok:X.Ok
 os:s.os=X.s₀.os
 bare:AllBare s.gens
 base:Un X.fs X.ex X.H₀ H X.s₀.heap s.heap
 loc:∃m,s.heap.Ns X.env.locals m/\∀(i:Nat) (x:Str) (v:V),X.N[i]?=some x->σ[i]?=some (some v)->Vis X.env.scope x->∃u,RelV v u/\Look X.env s.heap m x u
 cell:∀x c,X.env.cells.lookup x=some c->∃v,s.heap.IsCell c v
 free:H X.env.locals=none
 freeC:∀x c,X.env.cells.lookup x=some c->H c=none
 pin:∀p∈X.pn++pins,s.heap.get? p.1=some p.2/\H p.1=none/\p.1≠X.env.locals/\p.1∉X.fs/\∀v,p.2.data≠.cell v
 hok:HOk X.prog X.w H s.heap
 len:σ.length=X.N.length
variable{X:Cx}
def Cx.Ok.nofr(ok:X.Ok)(e:X.base.get? b=some o):b∉X.fs:=λD=>by
 have:=(ok.funs.mem D).1;rw[e] at this;cases this
variable{pins:k4}{σ:List (Option V)}{s:Shared}
protected def Inv.bs(I:Inv X pins σ H s):∀b o,X.base.get? b=some o->s.heap.get? b=some o/\H b=none:=λb o e =>
 ⟨I.base.keep b o (I.ok.bs b o e).1 (I.ok.bs b o e).2 (I.ok.nofr e) (I.ok.noex b o e),I.base.free b o (I.ok.bs b o e).1 (I.ok.bs b o e).2 (I.ok.noex b o e)⟩
def Inv.bk(I:Inv X pins σ H s):∀b o,X.base.get? b=some o->s.heap.get? b=some o:=λb o e=>(I.bs b o e).1
def Inv.mod(I:Inv X pins σ H s):Mod X.K X.mg X.base:=I.ok.mod
def Inv.kIn(I:Inv X pins σ H s):X.K.In s.heap:=I.ok.mod.kin.keeps I.bk
def Inv.lt(I:Inv X pins σ H s):X.env.locals<s.heap.objs.size:=let ⟨_,D,_⟩:=I.loc;D.lt
def Inv.sz(I:Inv X pins σ H s):X.s₀.heap.objs.size<=s.heap.objs.size:=df I.ok.above (jz I.lt)
def Inv.nofs(I:Inv X pins σ H s)(h:s.heap.objs.size<=a):a∉X.fs:=λD=>by
 obtain⟨_,o,J,_⟩:=I.ok.funs.mem D;exact absurd (bc (bg J) (df I.sz h)) (fo _)
def Inv.cne(I:Inv X pins σ H s):∀x c,X.env.cells.lookup x=some c->c≠X.env.locals:=λx c e z=>by
 obtain⟨v,o,R,U⟩:=I.cell x c e;obtain⟨m,⟨o',es,V,D,J,_⟩,_⟩:=I.loc;rw[z,D] at R;cases R;rw[J] at U;cases U
def Inv.funs(I:Inv X pins σ H s):s.heap.FunFrames X.base X.outer:=by
 have all:∀(l:ic),(∀b∈frs l,b∈X.fs)->X.s₀.heap.FunFrames X.base l->s.heap.FunFrames X.base l:=by
  intro l;induction l with
  | nil=>intro _ _;trivial
  | cons env r ih =>
    intro U V;obtain⟨Y,⟨L,o,D,Z,a,c⟩,d⟩:=V;have J:L∈X.fs:=U L (by unfold frs;rw[ju,D];exact bq);obtain⟨sl,e⟩:=I.base.slot L o a (I.ok.frf L J) J λz=>I.ok.exfs L z J;exact⟨Y,⟨L,_,D,Z,e,c⟩,ih (λb R=>U b (by unfold frs;rw[ju,D];exact ay _ R)) d⟩
 exact all X.outer (λ_ R=>R) I.ok.funs
def Inv.stack(I:Inv X pins σ H s):s.heap.FunFrames X.base X.stack:=by
 rcases I.ok.stk with e | ⟨e,hf⟩
 ·rw[e];exact I.funs
 ·rw[e]
  obtain⟨m,D,_⟩:=I.loc;refine .cons (by rw[I.ok.kind];decide) hf D ?_ I.funs;exact Heap.get?_none_of_le (df I.ok.bsz I.ok.above)
def Inv.stkSub(I:Inv X pins σ H s):∀b∈frs X.stack,b∈X.env.locals::X.fs:=λb D=>by
 rcases I.ok.stk with e | ⟨e,hf⟩
 ·rw[e] at D;exact ay _ D
 ·rw[e] at D
  unfold frs at D;rw[ju,hf] at D;exact D
def Inv.stkFree(I:Inv X pins σ H s):∀b∈frs X.stack,H b=none:=λb hb=>by
 rcases cb.mp (I.stkSub b hb) with e | hb
 ·rw[e];exact I.free
 ·obtain⟨_,o,D,_⟩:=I.ok.funs.mem hb
  exact I.base.free b o D (I.ok.frf b hb) λz=>I.ok.exfs b z hb
variable{g':Array GenState}{t':Nat}{d':Drawn}{ch:h7}
protected def Inv.step(I:Inv X pins σ H s)(J:∀b∈ch,(b∈X.ex\/X.s₀.heap.objs.size<=b)/\b≠X.env.locals/\(∀x c,X.env.cells.lookup x=some c->c≠b)/\∀p∈X.pn++pins,p.1≠b)(keep:∀b o,b≠X.env.locals->b∉X.fs->b∉ch->s.heap.get? b=some o->H b=none->h'.get? b=some o)(Z:∀b o,b≠X.env.locals->b∈X.fs->b∉ch->s.heap.get? b=some o->H b=none->∃sl,h'.get? b=some { o with slots:=sl })(free:∀b o,b∉ch->s.heap.get? b=some o->H b=none->H' b=none)(a:∀b o,b∉ch->s.heap.get? b=some o->∃o',h'.get? b=some o')(h:∀b xs,H b=some (.tup xs)->H' b=some (.tup xs))(j:∀b o u,H b=some (.frz o u)->H' b=some (.frz o u))(t:∀b ps,H b=some (.tbl ps)->∃more,H' b=some (.tbl (ps++more)))(M:∀m,s.heap.Ns X.env.locals m->h'.Ns X.env.locals m)(B:HOk X.prog X.w H' h')(N:AllBare g') :
  Inv X pins σ H' { s with heap:=h',gens:=g',drawn:=d',toks:=t' }:=by
 have y:∀b o,X.s₀.heap.get? b=some o->b≠X.env.locals:=λb o e=>b9 (bc (bg e) I.ok.above);have V:∀b o,X.s₀.heap.get? b=some o->b∉X.ex->b∉ch:=λb o e D f=>by
  rcases(J b f).1 with z | z
  ·exact D z
  ·exact absurd (bc (bg e) z) (fo _)
 have R:∀x c,X.env.cells.lookup x=some c->∀v,s.heap.IsCell c v->h'.IsCell c v:=λx c e v O=>by
  obtain⟨o,g,C⟩:=O;have U:c∉ch:=λz=>(J c z).2.2.1 x c e rfl;by_cases F:c∈X.fs
  ·obtain⟨sl,q⟩:=Z c o (I.cne x c e) F U g (I.freeC x c e)
   exact⟨_,q,C⟩
  ·exact⟨o,keep c o (I.cne x c e) F U g (I.freeC x c e),C⟩
 refine⟨I.ok,I.os,N,⟨λb o e n f D=>?_,λb o e n f D=>?_,λb o e n D=>?_,λb o e D=>?_,λb xs e=>h b xs (I.base.tups b xs e),λb o xs e=>j b o xs (I.base.frzs b o xs e),λb ps e=>?_⟩,?_,λx c e=>?_,?_,λx c e=>?_,λp G=>?_,B,I.len⟩
 ·exact keep b o (y b o e) f (V b o e D) (I.base.keep b o e n f D) (I.base.free b o e n D)
 ·obtain⟨sl,Y⟩:=I.base.slot b o e n f D
  obtain⟨E,A⟩:=Z b _ (y b o e) f (V b o e D) Y (I.base.free b o e n D);exact⟨E,A⟩
 ·obtain⟨o',Y⟩:=I.base.there b o e D
  exact free b o' (V b o e D) Y (I.base.free b o e n D)
 ·obtain⟨o',Y⟩:=I.base.there b o e D
  exact a b o' (V b o e D) Y
 ·obtain⟨P,Y⟩:=I.base.tbls b ps e
  obtain⟨Q,A⟩:=t b _ Y;exact⟨P++Q,by rw[A,Array.append_assoc]⟩
 ·obtain⟨m,S,T⟩:=I.loc
  refine⟨m,M m S,λi x v Y A W=>?_⟩;obtain⟨u,r,l⟩:=T i x v Y A W;refine⟨u,r,?_⟩;rcases l with l | ⟨k,c,e,z⟩
  ·exact .inl l
  ·exact .inr ⟨k,c,e,R x c e _ z⟩
 ·obtain⟨v,z⟩:=I.cell x c e
  exact⟨v,R x c e v z⟩
 ·obtain⟨m,⟨o,_,_,g,_⟩,_⟩:=I.loc
  exact free _ o (λz=>(J _ z).2.1 rfl) g I.free
 ·obtain⟨v,o,g,C⟩:=I.cell x c e
  exact free c o (λz=>(J c z).2.2.1 x c e rfl) g (I.freeC x c e)
 ·obtain⟨e,n,K,L,d⟩:=I.pin p G
  have U:p.1∉ch:=λz=>(J p.1 z).2.2.2 p G rfl;exact⟨keep p.1 p.2 K L U e n,free p.1 p.2 U e n,K,L,d⟩
def Inv.un(I:Inv X pins σ H s)(u:Un X.fs [] H H' s.heap h')(J:HOk X.prog X.w H' h'):Inv X pins σ H' { s with heap:=h',toks:=t' }:=by
 obtain⟨m,⟨o,es,d,Y,r⟩,_⟩:=id I.loc;obtain⟨sl,Z⟩:=u.any Y I.free (by simp);exact I.step (g':=s.gens) (d':=s.drawn) (ch:=[]) (λ_ z=>nomatch z) (λb o _ R _ e n=>u.keep b o e n R (by simp)) (λb o _ R _ e n=>u.slot b o e n R (by simp)) (λb o _ e n=>u.free b o e n (by simp)) (λb o _ e=>u.there b o e (by simp)) u.tups u.frzs u.tbls (λf a=>by
  obtain⟨o',U,V,D,c⟩:=a;rw[Y] at D;cases D;exact⟨_,U,V,Z,c⟩) J I.bare
def Inv.call(I:Inv X pins σ H s)(u:Un (frs X.stack) ch H H' s.heap h')(U:HOk X.prog X.w H' h')(d:AllBare g')(J:∀b∈ch,(b∈X.ex\/X.s₀.heap.objs.size<=b)/\b≠X.env.locals/\(∀x c,X.env.cells.lookup x=some c->c≠b)/\∀p∈X.pn++pins,p.1≠b) :
  Inv X pins σ H' { s with heap:=h',gens:=g',drawn:=d',toks:=t' }:=by
 obtain⟨m,⟨o,es,i,a,r⟩,_⟩:=id I.loc;obtain⟨sl,V⟩:=u.any a I.free λz=>(J _ z).2.1 rfl;exact I.step (ch:=ch) J (λb o V f D e n=>u.keep b o e n (λz=>(cb.mp (I.stkSub b z)).elim V f) D) (λb o _ _ D e n=>u.any e n D) (λb o D e n=>u.free b o e n D) (λb o D e=>u.there b o e D) u.tups u.frzs u.tbls (λj g=>by
  obtain⟨o',Y,Z,R,h⟩:=g;rw[a] at R;cases R;exact⟨_,Y,Z,V,h⟩) U d
variable{it:Addr}
def Inv.turned(I:Inv X pins σ H s)(k:∀b o,b≠it->s.heap.get? b=some o->h'.get? b=some o)(U:H it=none)(R:it≠X.env.locals)(h1:it∈X.ex\/X.s₀.heap.objs.size<=it)(h2:∀x c,X.env.cells.lookup x=some c->c≠it)(V:∀p∈X.pn++pins,p.1≠it):Inv X pins σ H { s with heap:=h',toks:=t' }:=by
 have J:∀b u,H b=some u->b≠it:=λb u e z=>by rw[z,U] at e;cases e
 refine I.step (g':=s.gens) (d':=s.drawn) (ch:=[it]) (λb Y=>?_) (λb o _ _ D e _=>k b o (λz=>D (by simp[z])) e) (λb o _ _ D e _=>⟨o.slots,k b o (λz=>D (by simp[z])) e⟩) (λ_ _ _ _ n=>n)
  (λb o D e=>⟨o,k b o (λz=>D (by simp[z])) e⟩) (λ_ _ e=>e) (λ_ _ _ e=>e) (λb ps e=>⟨#[],by rw[e];simp⟩) (λm Z=>?_) (λb u e=>?_) I.bare
 ·have e:b=it:=by simpa using Y
  subst e;exact⟨h1,R,h2,V⟩
 ·obtain⟨o,es,a,d,r⟩:=Z
  exact⟨o,es,a,k _ o (Ne.symm R) d,r⟩
 ·refine(I.hok b u e).stay (λc v D q=>k c v ?_ q) (λ_ q=>q) λ_ _ q=>q
  rcases D with z | z
  ·rw[z];exact J b u e
  ·exact J c _ z
def Inv.tok(I:Inv X pins σ H s)(t:Nat):Inv X pins σ H { s with toks:=t }:=I.un (h':=s.heap) (t':=t) Un.refl I.hok
def Inv.kept{t':Nat}(I:Inv X pins σ H s)(k:∀b u,s.heap.get? b=some u->h'.get? b=some u):Inv X pins σ H { s with heap:=h',toks:=t' }:=I.un (Un.kept k) (I.hok.kept k)
def Inv.laid{a:Addr}{o:HO}{t':Nat}(I:Inv X pins σ H s)(k:∀b u,s.heap.get? b=some u->h'.get? b=some u)(D:s.heap.objs.size<=a)(new:ObjOk X.prog X.w (upd H a o) h' a o) :
  Inv X pins σ (upd H a o) { s with heap:=h',toks:=t' }:=I.un (Un.laid k D (I.hok.fresh D)) (I.hok.laid k D new)
def Inv.write{x e:Addr}{o:HO}{t':Nat}(I:Inv X pins σ H s)(J:Mut (H x))(R:e=x\/H e=some (.own x))(k:∀b u,b≠e->s.heap.get? b=some u->h'.get? b=some u)(D:∃u,h'.get? e=some u)(new:ObjOk X.prog X.w (upd H x o) h' x o):Inv X pins σ (upd H x o) { s with heap:=h',toks:=t' }:=I.un (Un.write J R k D) (I.hok.write J R k D new)
def Inv.pins_of{D:k4}(I:Inv X pins σ H s)(h:∀p∈D,s.heap.get? p.1=some p.2/\H p.1=none/\p.1≠X.env.locals/\p.1∉X.fs/\∀v,p.2.data≠.cell v):Inv X D σ H s :=
 ⟨I.ok,I.os,I.bare,I.base,I.loc,I.cell,I.free,I.freeC,λp J=>(db.mp J).elim (λz=>I.pin p (d5 _ z)) (h p),I.hok,I.len⟩
variable{x:Str}{N:g7}{i:Nat}{j:Int}
def zmw(D:N.Nodup){j:Nat}(a:N[i]?=some x)(b:N[j]?=some x):i=j:=by
 obtain⟨h1,I⟩:=aj.mp a;obtain⟨h2,J⟩:=aj.mp b;exact(List.getElem_inj D).mp (I.trans J.symm)
variable{M:Model}{A:Around}{E:Value->Shared->Prop}{v:V}{Q:Unit->Shared->Prop}
def zk8(I:Inv X pins σ H s)(hN:X.N.Nodup)(hi:X.N[i]?=some x)(U:Loc X.env.scope x)(r:RelV v u)(h:∀s',Inv X pins (σ.set i (some v)) H s'->(∃a,Heap.SameBut a s.heap s'.heap/\(a=X.env.locals\/X.env.cells.lookup x=some a))->Q () s')(hf:X.fn x=true\/X.env.scope.names.lookup x=some .local:=by first | exact .inl rfl | exact .inr rfl | assumption):wpAny M A (storeName X.env x u) Q E s:=by
 obtain⟨m,P,hl⟩:=id I.loc;have t:(X.env.scope.kind==.class || (X.env.scope.kind==.module && X.env.locals != X.env.globals))=false:=by rw[I.ok.kind];rfl
 have Z:i<σ.length:=by rw[I.len];exact(aj.mp hi).1
 have cne:=I.cne;have J:∀ {a:Addr} {h':Heap},(∃o,s.heap.get? a=some o/\H a=none)->Heap.SameBut a s.heap h'->HOk X.prog X.w H h':=λ{a h'} ha D b ob e=>by
  obtain⟨_,_,V⟩:=ha;refine(I.hok b ob e).stay (λc K hc q=>(D.2 c ?_).trans q) (λ_ q=>q) λ_ _ q=>q;rintro rfl;rcases hc with rfl | hc
  ·rw[V] at e;cases e
  ·rw[V] at hc;cases hc
 rcases U with hk | hk
 ·refine wpAny_storeName_local hk P (λh' S D=>?_) t
  obtain⟨oL,_,_,T,_⟩:=id P;refine h _ ⟨I.ok,I.os,I.bare,⟨λb o e n f U=>?_,λb o e n f U=>?_,I.base.free,λb o e U=>?_,I.base.tups,I.base.frzs,I.base.tbls⟩,⟨_,S,λj y W R Y e3=>?_⟩,λy c e=>?_,I.free,I.freeC,λp hp=>?_,J ⟨oL,T,I.free⟩ D,by simpa using I.len⟩ ⟨_,D,.inl rfl⟩
  ·exact(D.2 b (b9 (bc (bg e) I.ok.above))).trans (I.base.keep b o e n f U)
  ·obtain⟨sl,R⟩:=I.base.slot b o e n f U
   exact⟨sl,(D.2 b (b9 (bc (bg e) I.ok.above))).trans R⟩
  ·obtain⟨o',R⟩:=I.base.there b o e U
   exact⟨o',(D.2 b (b9 (bc (bg e) I.ok.above))).trans R⟩
  ·by_cases g:j=i
   ·subst g
    rw[hi] at R;cases R;rw[d6 Z] at Y;cases Y;exact⟨u,r,.inl ⟨hk,by simp⟩⟩
   ·rw[dc (Ne.symm g)] at Y
    obtain⟨u',r',q⟩:=hl j y W R Y e3;refine⟨u',r',?_⟩;rcases q with⟨k,e⟩ | ⟨k,c,e,z⟩
    ·refine .inl ⟨k,?_⟩
     have:y≠x:=λe=>g (zmw hN R (e ▸ hi));simp[this,e]
    ·exact .inr ⟨k,c,e,z.sameBut D (cne y c e)⟩
  ·obtain⟨K,z⟩:=I.cell y c e
   exact⟨K,z.sameBut D (cne y c e)⟩
  ·obtain⟨e,n,L,nf,d⟩:=I.pin p hp
   exact⟨(D.2 p.1 L).trans e,n,L,nf,d⟩
 ·have l:X.fn x=true:=by
   rcases hf with z | z
   ·exact z
   ·rw[z] at hk;cases hk
  obtain⟨c,hc⟩:=I.ok.has x (.inl hk);obtain⟨K,z⟩:=I.cell x c hc;refine wpAny_storeName_cell I.ok.kind hk hc z (λh' B D=>?_);obtain⟨oc,C,F⟩:=id z;refine h { s with heap:=h' } ⟨I.ok,I.os,I.bare,⟨λb o e n f U=>?_,λb o e n f U=>?_,I.base.free,λb o e U=>?_,I.base.tups,I.base.frzs,I.base.tbls⟩,⟨m,P.sameBut D (Ne.symm (cne x c hc)),λj y W R Y e3=>?_⟩,λy O e=>?_,I.free,I.freeC,λp hp=>?_,J ⟨oc,C,I.freeC x c hc⟩ D,by simpa using I.len⟩ ⟨c,D,.inr hc⟩
  ·exact(D.2 b (b9 (bc (bg e) (I.ok.cab x c l hc)))).trans (I.base.keep b o e n f U)
  ·obtain⟨sl,R⟩:=I.base.slot b o e n f U
   exact⟨sl,(D.2 b (b9 (bc (bg e) (I.ok.cab x c l hc)))).trans R⟩
  ·obtain⟨o',R⟩:=I.base.there b o e U
   exact⟨o',(D.2 b (b9 (bc (bg e) (I.ok.cab x c l hc)))).trans R⟩
  ·by_cases g:j=i
   ·subst g
    rw[hi] at R;cases R;rw[d6 Z] at Y;cases Y;exact⟨u,r,.inr ⟨.inl hk,c,hc,B⟩⟩
   ·rw[dc (Ne.symm g)] at Y
    obtain⟨u',r',q⟩:=hl j y W R Y e3;refine⟨u',r',?_⟩;rcases q with q | ⟨k,O,e,z'⟩
    ·exact .inl q
    ·refine .inr ⟨k,O,e,z'.sameBut D ?_⟩
     rintro rfl;exact g (zmw hN R (I.ok.inj _ _ _ e hc ▸ hi))
  ·by_cases G:O=c
   ·subst G;exact⟨_,B⟩
   ·obtain⟨w2,z2⟩:=I.cell y O e
    exact⟨w2,z2.sameBut D G⟩
  ·obtain⟨e,n,L,nf,d⟩:=I.pin p hp
   refine⟨(D.2 p.1 ?_).trans e,n,L,nf,d⟩;intro q;rw[q,C] at e;have q':oc=p.2:=bh e;exact d K (by rw[<-q'];exact F)
def zkx(I:Inv X pins σ H s)(D:X.N.Nodup)(hi:X.N[i]?=some x)(J:Loc X.env.scope x)(r:RelV v u)(h:∀s',Inv X pins (σ.set i (some v)) H s'->Q () s')(R:X.fn x=true\/X.env.scope.names.lookup x=some .local:=by first | exact .inl rfl | exact .inr rfl | assumption):wpAny M A (storeName X.env x u) Q E s :=
 zk8 I D hi J r (λs' U _=>h s' U) R
variable{s':Shared}
def Inv.call'(I:Inv X pins σ H s)(R:s'.os=s.os)(u:Un (frs X.stack) ch H H' s.heap s'.heap)(D:HOk X.prog X.w H' s'.heap)(U:AllBare s'.gens)(J:∀b∈ch,(b∈X.ex\/X.s₀.heap.objs.size<=b)/\b≠X.env.locals/\(∀x c,X.env.cells.lookup x=some c->c≠b)/\∀p∈X.pn++pins,p.1≠b):Inv X pins σ H' s':=by
 obtain⟨h',g',d',t',o'⟩:=s';have e:o'=s.os:=R;subst e;exact I.call (g':=g') (t':=t') (d':=d') u D U J
abbrev XK:=Value->Option Addr->Hp->Prop
abbrev St:=List (Option V)
abbrev VK:=V->Hp->Prop
abbrev TE:=St->Hp->VK->Prop
abbrev TT:=St->Hp->(Bool->Hp->Prop)->Prop
abbrev TA:=St->Hp->(k7->Hp->Prop)->Prop
structure Ends where
 nx:St->Hp->Prop
 rt:VK
 bk:St->Hp->Prop:=λ_ _=>False
 ct:St->Hp->Prop:=λ_ _=>False
abbrev TS:=Ends->St->Hp->Prop
inductive EP (X:Cx) (pins:k4) (σ:St) (Q:VK) (u:Value) (s':Shared):Prop
 | mk (v:V) (H':Hp) (i:Inv X pins σ H' s') (r:RelV v u) (q:Q v H'):EP X pins σ Q u s'
inductive TP (X:Cx) (pins:k4) (σ:St) (Q:Bool->Hp->Prop) (b:Bool) (s':Shared):Prop
 | mk (H':Hp) (i:Inv X pins σ H' s') (q:Q b H'):TP X pins σ Q b s'
inductive AP (X:Cx) (pins:k4) (σ:St) (Q:k7->Hp->Prop) (us:g8) (s':Shared):Prop
 | mk (vs:k7) (H':Hp) (i:Inv X pins σ H' s') (r:Vals vs us) (q:Q vs H'):AP X pins σ Q us s'
def SP(X:Cx)(pins:k4)(D:Ends)(f:Flow)(s':Shared):Prop :=
 match f with
 | .next=>∃I H',Inv X pins I H' s'/\D.nx I H'
 | .brk=>∃I H',Inv X pins I H' s'/\D.bk I H'
 | .cont=>∃I H',Inv X pins I H' s'/\D.ct I H'
 | .ret u=>∃v I H',Inv X pins I H' s'/\RelV v u/\D.rt v H'
def PE(X:Cx)(e:Expr)(t:TE):Prop :=
 ∀(pins:k4) (s:Shared) (σ:St) (H:Hp) (Q:VK),Inv X pins σ H s->t σ H Q->wpAny (model X.prog X.w) X.A (eval e X.env) (EP X pins σ Q) X.xe s
def PT(X:Cx)(e:Expr)(t:TT):Prop :=
 ∀(pins:k4) (s:Shared) (σ:St) (H:Hp) (Q:Bool->Hp->Prop),Inv X pins σ H s->t σ H Q->wpAny (model X.prog X.w) X.A (isTrue e X.env (eval e X.env)) (TP X pins σ Q) X.xe s
def PW(X:Cx)(e:Expr)(t:TT):Prop :=
 ∀(whole:Sem Value) (pins:k4) (s:Shared) (σ:St) (H:Hp) (Q:Bool->Hp->Prop),Inv X pins σ H s->t σ H Q->wpAny (model X.prog X.w) X.A (isTrue e X.env whole) (TP X pins σ Q) X.xe s
variable{e:Expr}{t:TA}
def PW.pt{t:TT}(h:PW X e t):PT X e t:=h _
def PA(X:Cx)(es:ik)(t:TA):Prop :=
 ∀(pos:Pos) (pins:k4) (s:Shared) (σ:St) (H:Hp) (Q:k7->Hp->Prop),Inv X pins σ H s->t σ H Q->wpAny (model X.prog X.w) X.A (spliced (backTo pos (starEach es X.env))) (AP X pins σ Q) X.xe s
def PS(X:Cx)(st:Stmt)(t:TS):Prop :=
 ∀(pins:k4) (s:Shared) (σ:St) (H:Hp) (D:Ends),Inv X pins σ H s->t D σ H->wpAny (model X.prog X.w) X.A (exec st X.env) (SP X pins D) X.xe s
def PSs(X:Cx)(st:List Stmt)(t:TS):Prop :=
 ∀(pins:k4) (s:Shared) (σ:St) (H:Hp) (D:Ends),Inv X pins σ H s->t D σ H->wpAny (model X.prog X.w) X.A (execs st X.env) (SP X pins D) X.xe s
def thn{t:Sem α}{Q D:α->Shared->Prop}(h:wpAny M A t Q E s)(I:∀a s,Q a s->D a s):wpAny M A t D E s:=wpAny_mono h I λ_ _ x=>x
section
variable {X:Cx}
def tVar(i:Nat):TE:=λσ H Q=>∃v,σ[i]?=some (some v)/\Q v H
def tC(v:V):TE:=λ_ H Q=>Q v H
def z2m{i:Nat}{x:Str}{pos:Pos}(U:X.N[i]?=some x)(V:Vis X.env.scope x)(J:(x==("__debug__" : Str))=false:=by decide)(R:(x==("__classdict__" : Str))=false:=by decide):PE X (.Name x pos) (tVar i):=by
 intro pins s σ H Q I h;obtain⟨v,e,h⟩:=h;obtain⟨m,Y,Z⟩:=I.loc;obtain⟨u,r,l⟩:=Z i x v U e V;have D:EP X pins σ Q u s:=⟨v,H,I,r,h⟩;rcases l with⟨hk,a⟩ | ⟨hk,c,hc,hcell⟩
 ·exact wpAny_Name (wpAny_loadName_local I.ok.kind hk Y a D) J
 ·rcases hk with hk | hk
  ·exact wpAny_Name (wpAny_loadName_cell I.ok.kind hk hc hcell D) J
  ·exact wpAny_Name (wpAny_loadName_free I.ok.kind hk hc hcell D R) J
def zf{i j pos}:PE X (.Constant (.int i) j pos) (tC (.int i)):=λ_ _ _ H _ I h=>wpAny_Constant_int ⟨.int i,H,I.tok _,⟨_,rfl⟩,h⟩
def z5x{b j pos}:PE X (.Constant (.bool b) j pos) (tC (.bl b)):=λ_ _ _ H _ I h=>Constant_bool ⟨.bl b,H,I,rfl,h⟩
def zyt{x j pos}:PE X (.Constant (.str x) j pos) (tC (.str x)):=λ_ _ _ H _ I h=>Calls.Constant_str ⟨.str x,H,I.tok _,⟨_,rfl⟩,h⟩
def Gl(X:Cx)(x:Str):Prop:=X.env.kindOf x=some .globalImplicit
def vq{E:Value->Shared->Prop}{pins:k4}{s:Shared}{σ:St}{H:Hp}{x:Str}{u:Value}{pos:Pos}{Q:Value->Shared->Prop}(I:Inv X pins σ H s)(D:Gl X x)(J:X.mg x=some u)(h:Q u s)(R:(x==("__debug__" : Str))=false:=by decide):wpAny (model X.prog X.w) X.A (eval (.Name x pos) X.env) Q E s :=
 Calls.Name_function_global I.ok.kind D (Calls.loadGlobal_global (by rw[I.ok.glob];exact I.mod.glob.keeps I.bk) J h) R
def xr{E:Value->Shared->Prop}{pins:k4}{s:Shared}{σ:St}{H:Hp}{x:Str}{u:Value}{pos:Pos}{Q:Value->Shared->Prop}(I:Inv X pins σ H s)(D:Gl X x)(J:X.mg x=none)(R:bootBuiltins x=some u)(h:Q u s)(U:x ≠ "__name__":=by decide)(V:(x==("__debug__" : Str))=false:=by decide):wpAny (model X.prog X.w) X.A (eval (.Name x pos) X.env) Q E s:=by
 obtain⟨Y,h1,h2⟩:=I.mod.blt;exact Calls.Name_function_global I.ok.kind D (Calls.loadGlobal_builtin (by rw[I.ok.glob];exact I.mod.glob.keeps I.bk) J (by rw[I.ok.blt];exact h1.keeps I.bk) ((h2 x U).trans R) h) V
def ztb{x:Str}{v:V}{u:Value}{pos:Pos}(D:Gl X x)(J:X.mg x=some u)(r:RelV v u)(R:(x==("__debug__" : Str))=false:=by decide):PE X (.Name x pos) (tC v) :=
 λ_ _ _ H _ I h=>vq I D J ⟨v,H,I,r,h⟩ R
def ztc{x:Str}{v:V}{u:Value}{pos:Pos}(D:Gl X x)(J:X.mg x=none)(R:bootBuiltins x=some u)(r:RelV v u)(U:x ≠ "__name__":=by decide)(Y:(x==("__debug__" : Str))=false:=by decide):PE X (.Name x pos) (tC v) :=
 λ_ _ _ H _ I h=>xr I D J R ⟨v,H,I,r,h⟩ U Y
variable {a b:Expr} {ta tb:TE} {pos:Pos}
def tB(t:TE):TT:=λσ H Q=>t σ H λx H1=>∃c,x=.bl c/\Q c H1
def z2n{e:Expr}{t:TE}(h:PE X e t)(D:∀whole,isTrue e X.env whole=(do let v <-whole;standAt e.pos;holding [v] (truthy v)):=by intro _;rfl):PT X e (tB t):=by
 intro pins s σ H Q I J;refine isTrue_plain (thn (h pins s σ H _ I J) λv Z R=>?_) (D _);obtain⟨x,H1,U,V,Y⟩:=R;obtain⟨d,rfl,q⟩:=Y;cases V;exact wpAny_truthy_bool ⟨H1,U,q⟩
variable {tA tB':TT} {rest:ik}
def tAnd(t u:TT):TT:=λσ H Q=>t σ H λc H1=>if c=true then u σ H1 Q else Q false H1
def tOr(t u:TT):TT:=λσ H Q=>t σ H λc H1=>if c=true then Q true H1 else u σ H1 Q
def tNot(t:TT):TT:=λσ H Q=>t σ H λc H1=>Q (!c) H1
def zz4(D:PT X a tA):PW X (.BoolOp .And [a] pos) tA:=by
 intro J pins s σ H Q I h;refine isTrue_and (thn (D pins s σ H Q I h) λc R e=>?_);cases c with
 | true=>exact isTrue_and_nil e
 | false=>exact e
def z2o(D:PT X a tA):PW X (.BoolOp .Or [a] pos) tA:=by
 intro J pins s σ H Q I h;refine isTrue_or (thn (D pins s σ H Q I h) λc R e=>?_);cases c with
 | false=>exact isTrue_or_nil e
 | true=>exact e
def z2p(R:PT X a tA)(U:PW X (.BoolOp .And (b::rest) pos) tB'):PW X (.BoolOp .And (a::b::rest) pos) (tAnd tA tB'):=by
 intro V pins s σ H Q I h;refine isTrue_and (thn (R pins s σ H _ I h) λc Y Z=>?_);obtain⟨H1,D,J⟩:=Z;cases c with
 | true=>exact U V pins Y σ H1 Q D J
 | false=>exact⟨H1,D,J⟩
def z5y(R:PT X a tA)(U:PW X (.BoolOp .Or (b::rest) pos) tB'):PW X (.BoolOp .Or (a::b::rest) pos) (tOr tA tB'):=by
 intro V pins s σ H Q I h;refine isTrue_or (thn (R pins s σ H _ I h) λc Y Z=>?_);obtain⟨H1,D,J⟩:=Z;cases c with
 | true=>exact⟨H1,D,J⟩
 | false=>exact U V pins Y σ H1 Q D J
def z2q(D:PT X a tA):PT X (.UnaryOp .Not a pos) (tNot tA):=by
 intro pins s σ H Q I h;refine isTrue_not (thn (D pins s σ H (λc H1=>Q (!c) H1) I h) λc R h=>?_);obtain⟨H1,J,q⟩:=h;exact⟨H1,J,q⟩
def z5z(ta tb:TE):TE:=λσ H Q=>ta σ H λx H1=>∃c,x=.bl c/\if c=true then tb σ H1 Q else Q (.bl false) H1
def z50(ta:TE):TE:=λσ H Q=>ta σ H λx H1=>∃c,x=.bl c/\Q (.bl (!c)) H1
def z2r{op}{t:TE}(h:PE X a t):PE X (.BoolOp op [a] pos) t:=λpins s σ H Q I D=>BoolOp_one (h pins s σ H Q I D)
def z2s(R:PE X a ta)(U:PE X (.BoolOp .And (b::rest) pos) tb):PE X (.BoolOp .And (a::b::rest) pos) (z5z ta tb):=by
 intro pins s σ H Q I h;refine BoolOp_and (thn (R pins s σ H _ I h) λv V Y=>?_);obtain⟨x,H1,J,Z,D⟩:=Y;obtain⟨c,rfl,D⟩:=D;cases Z;refine wpAny_truthy_bool ?_;cases c with
 | true=>exact U pins V σ H1 Q J D
 | false=>exact⟨.bl false,H1,J,rfl,D⟩
def z2t(J:PE X a ta):PE X (.UnaryOp .Not a pos) (z50 ta):=by
 intro pins s σ H Q I h;refine UnaryOp_ (thn (J pins s σ H _ I h) λv Y R=>?_);obtain⟨x,H1,U,V,D⟩:=R;obtain⟨c,rfl,D⟩:=D;cases V;exact not_of (wpAny_truthy_bool ⟨.bl (!c),H1,U,rfl,D⟩)
end
def SqL(K:kf)(H:Hp)(a:Addr)(xs:k7):Prop :=
 Rd H a (.lst xs) \/
  ∃(o:Obj) (its:k6) (n:Nat),K.lookup a=some o/\o.cls=.type "list"/\o.dict=none/\o.data=.seq its n/\its.size<=sizeLine/\Vals xs its.toList
def SqT(K:kf)(H:Hp)(a:Addr)(xs:k7):Prop :=
 Rd H a (.tup xs) \/
  ∃(o:Obj) (its:k6) (n:Nat),K.lookup a=some o/\o.cls=.type "tuple"/\o.data=.seq its n/\its.size<=sizeLine/\Vals xs its.toList
def absV:Value->Option V
 | .none=>some .non
 | .bool b=>some (.bl b)
 | .int i _=>some (.int i)
 | .str x _=>some (.str x)
 | .bytes b _=>some (.byt b)
 | .float b _=>some (.flt b)
 | .ref a=>some (.ref a)
 | .type n=>some (.ty n)
 | _=>none
def RelV.abs{x:V}(r:RelV x u):absV u=some x:=by
 cases x with
 | non=>cases r;rfl
 | bl _=>cases r;rfl
 | int _=>obtain⟨t,rfl⟩:=r;rfl
 | str _=>obtain⟨t,rfl⟩:=r;rfl
 | byt _=>obtain⟨t,rfl⟩:=r;rfl
 | flt _=>obtain⟨t,rfl⟩:=r;rfl
 | ref _=>cases r;rfl
 | ty _=>cases r;rfl
def RelV.inj{x y:V}{u:Value}(r:RelV x u)(q:RelV y u):x=y:=bh (r.abs.symm.trans q.abs)
def Vals.inj{xs ys:k7}{us:g8}(h:Vals xs us)(g:Vals ys us):xs=ys:=by
 induction h generalizing ys with
 | nil=>cases g;rfl
 | cons r t ih=>cases g with | cons p q=>rw[r.inj p,ih q]
variable{K:kf}
def SqT.of(h:H a=some (.tup xs)):SqT K H a xs:=.inl (.inl h)
variable{σ:St}
theorem Inv.list(I:Inv X pins σ H s)(h:SqL X.K H a xs):∃its:g8,Vals xs its/\PlainL s.heap a its.toArray/\xs.length<=sizeLine:=by
 rcases h with h | ⟨o,its,n,hk,hc,hd,hs,hz,r⟩
 ·obtain⟨z,its,n,r,e⟩:=h.ok I.hok
  exact⟨its,r,⟨_,n,e,rfl,rfl,rfl⟩,z⟩
 ·refine⟨its.toList,r,⟨o,n,I.kIn a o hk,hc,hd,by simpa using hs⟩,?_⟩
  have e:=r.length;simp only[Array.length_toList] at e
  lia
theorem Inv.tuple(I:Inv X pins σ H s)(h:SqT X.K H a xs):∃its:g8,Vals xs its/\IsTup s.heap a its.toArray/\xs.length<=sizeLine:=by
 rcases h with h | ⟨o,its,n,hk,hc,hs,hz,r⟩
 ·obtain⟨z,its,r,p⟩:=h.ok I.hok
  exact⟨its,r,p,z⟩
 ·refine⟨its.toList,r,⟨o,I.kIn a o hk,hc,n,by simpa using hs⟩,?_⟩
  have e:=r.length;simp only[Array.length_toList] at e
  lia
def Inv.list_inj(I:Inv X pins σ H s)(h:SqL X.K H a xs)(h':SqL X.K H a ys):xs=ys:=by
 obtain⟨its,r,⟨o,n,e,_,_,d⟩,_⟩:=I.list h;obtain⟨its',D,⟨o',J,e',_,_,d'⟩,_⟩:=I.list h';rw[e] at e';cases e';rw[d] at d';injection d' with d1 _;have:its=its':=by simpa using congrArg Array.toList d1
 subst this;exact r.inj D
def Inv.tuple_inj(I:Inv X pins σ H s)(h:SqT X.K H a xs)(h':SqT X.K H a ys):xs=ys:=by
 obtain⟨its,r,⟨o,e,_,n,d⟩,_⟩:=I.tuple h;obtain⟨its',D,⟨o',e',_,J,d'⟩,_⟩:=I.tuple h';rw[e] at e';cases e';rw[d] at d';injection d' with d1 _;have:its=its':=by simpa using congrArg Array.toList d1
 subst this;exact r.inj D
abbrev Cx.wish(X:Cx)(E:Value->Shared->Prop):Cx:={ X with xe:=E }
abbrev Cx.nox(X:Cx):Cx:=X.wish λ_ _=>False
def Cx.Ok.wish(ok:X.Ok)(E:Value->Shared->Prop):(X.wish E).Ok :=
 ⟨ok.mod,ok.kind,ok.glob,ok.blt,ok.above,ok.inj,ok.has,ok.cab,ok.hd,ok.frames,ok.stk,ok.exf,ok.bs,ok.bsz,ok.noex,ok.exfs,ok.funs,ok.frf⟩
def Cx.Ok.unwish(ok:(X.wish E).Ok):X.Ok :=
 ⟨ok.mod,ok.kind,ok.glob,ok.blt,ok.above,ok.inj,ok.has,ok.cab,ok.hd,ok.frames,ok.stk,ok.exf,ok.bs,ok.bsz,ok.noex,ok.exfs,ok.funs,ok.frf⟩
def Inv.wish(I:Inv X pins σ H s)(E:Value->Shared->Prop):Inv (X.wish E) pins σ H s:=⟨I.ok.wish E,I.os,I.bare,I.base,I.loc,I.cell,I.free,I.freeC,I.pin,I.hok,I.len⟩
def Inv.unwish(I:Inv (X.wish E) pins σ H s):Inv X pins σ H s:=⟨I.ok.unwish,I.os,I.bare,I.base,I.loc,I.cell,I.free,I.freeC,I.pin,I.hok,I.len⟩
def SP.unwish{D:Ends}{f:Flow}{s':Shared}(h:SP (X.wish E) pins D f s'):SP X pins D f s':=by
 cases f with
 | next=>obtain⟨J,H',I,q⟩:=h;exact⟨J,H',I.unwish,q⟩
 | brk=>obtain⟨J,H',I,q⟩:=h;exact⟨J,H',I.unwish,q⟩
 | cont=>obtain⟨J,H',I,q⟩:=h;exact⟨J,H',I.unwish,q⟩
 | ret u=>obtain⟨v,J,H',I,r,q⟩:=h;exact⟨v,J,H',I.unwish,r,q⟩
def PSs.nox{st:List Stmt}{t:TS}(h:PSs X.nox st t):PSs X st t:=λpins s σ H D I J =>
 wpAny_mono (h pins s σ H D (I.wish _) J) (λ_ _ q=>q.unwish) λ_ _ z=>False.elim z
section
variable {X:Cx} {st:Stmt} {rest:List Stmt} {t u:TS} {e:Expr} {te:TE} {pos:Pos}
def z51:TS:=λD σ H=>D.nx σ H
def tSeq(t u:TS):TS:=λD σ H=>t { D with nx:=u D } σ H
def zz5:PSs X [] z51:=λ_ _ σ H _ I h=>wpAny_execs_nil ⟨σ,H,I,h⟩
def zwa(h1:PS X st t)(h2:PSs X rest u):PSs X (st::rest) (tSeq t u):=by
 intro pins s σ H D I h;refine wpAny_execs_cons (thn (h1 pins s σ H { D with nx:=u D } I h) λf R q=>?_);cases f with
 | next =>
   obtain⟨J,H',U,q⟩:=q;exact h2 pins R J H' D U q
 | ret v=>exact q
 | brk=>exact q
 | cont=>exact q
def zz6(h1:PS X st t):PSs X [st] t:=by
 intro pins s σ H D I h;refine wpAny_execs_cons (thn (h1 pins s σ H D I h) λf J q=>?_);cases f with
 | next=>exact wpAny_execs_nil q
 | ret v=>exact q
 | brk=>exact q
 | cont=>exact q
def Inv.quiet{pins:k4}{σ:St}{H:Hp}{s:Shared}(I:Inv X pins σ H s):interactive X.env=false:=by simp[interactive,I.ok.kind]
def z52(te:TE):TS:=λD σ H=>te σ H λ_ H1=>D.nx σ H1
def ztd(J:PE X e te)(R:swapsWith e none pos.line X.env=pure false:=by rfl):PS X (.Expr e pos) (z52 te):=by
 intro pins s σ H D I h;exact wpAny_Expr_any (thn (J pins s σ H _ I h) λv s1 ⟨x,H1,I1,r1,q1⟩=>⟨σ,H1,I1,q1⟩) I.quiet R
def tRet(te:TE):TS:=λD σ H=>te σ H D.rt
def xq(J:PE X e te):PS X (.Return (some e) pos) (tRet te):=by
 intro pins s σ H D I h;exact wpAny_Return_some (thn (J pins s σ H _ I h) λv s1 ⟨x,H1,I1,r1,q1⟩=>⟨x,σ,H1,I1,r1,q1⟩)
def tIfS(c:TT)(t u:TS):TS:=λD σ H=>c σ H λb H1=>if b=true then t D σ H1 else u D σ H1
def z53{c:Expr}{a b:List Stmt}{J:TT}(Y:PT X c J)(Z:PSs X a t)(e:PSs X b u):PS X (.If c a b pos) (tIfS J t u):=by
 intro pins s σ H D I h;refine wpAny_If (thn (Y pins s σ H _ I h) λd R f=>?_);obtain⟨H1,U,V⟩:=f;cases d with
 | true=>exact Z pins R σ H1 D U V
 | false=>exact e pins R σ H1 D U V
def z2u:TS:=λ_ _ _=>False
def zwb:PS X st z2u:=λ_ _ _ _ _ _ h=>h.elim
end
abbrev TG:=V->St->Hp->(St->Hp->Prop)->Prop
abbrev TGs:=k7->St->Hp->(St->Hp->Prop)->Prop
def PG(X:Cx)(D:Expr)(t:TG):Prop :=
 ∀(pins:k4) (s:Shared) (σ:St) (H:Hp) (v:V) (u:Value) (Q:St->Hp->Prop),Inv X pins σ H s->RelV v u->t v σ H Q ->
  wpAny (model X.prog X.w) X.A (assign D X.env u) (λ_ s'=>∃I H',Inv X pins I H' s'/\Q I H') X.xe s
def PGs(X:Cx)(ts:ik)(t:TGs):Prop :=
 ∀(pins:k4) (s:Shared) (σ:St) (H:Hp) (vs:k7) (us:g8) (Q:St->Hp->Prop),Inv X pins σ H s->Vals vs us->t vs σ H Q ->
  wpAny (model X.prog X.w) X.A (assignInOrder ((assignEach ts X.env).map (·.2)) us) (λ_ s'=>∃D H',Inv X pins D H' s'/\Q D H') X.xe s
abbrev TSet:=V->V->V->Hp->(Hp->Prop)->Prop
def PSet(X:Cx)(t:TSet):Prop :=
 ∀(pins:k4) (s:Shared) (σ:St) (H:Hp) (o i v:V) (D I u:Value) (Q:Hp->Prop),Inv X pins σ H s->RelV o D->RelV i I->RelV v u->t o i v H Q ->
  wpAny (model X.prog X.w) X.A (setItem D I u) (λ_ s'=>∃H',Inv X pins σ H' s'/\Q H') X.xe s
abbrev TIp:=V->V->Hp->VK->Prop
def PIp(X:Cx)(op:Operator)(t:TIp):Prop :=
 ∀(pins:k4) (s:Shared) (σ:St) (H:Hp) (x y:V) (v u:Value) (Q:VK),Inv X pins σ H s->RelV x v->RelV y u->t x y H Q ->
  wpAny (model X.prog X.w) X.A (inplaceOp op v u) (EP X pins σ Q) X.xe s
def m3(i:Nat):TG:=λv σ H Q=>Q (σ.set i (some v)) H
variable{pos:Pos}
def zte(D:X.N.Nodup)(hi:X.N[i]?=some x)(J:Loc X.env.scope x)(R:X.fn x=true\/X.env.scope.names.lookup x=some .local:=by first | exact .inl rfl | exact .inr rfl | assumption):PG X (.Name x pos) (m3 i):=by
 intro pins s σ H v u Q I r h;exact wpAny_assign_Name (zkx I D hi J r (λs' U=>⟨_,H,U,h⟩) R)
def gNil:TGs:=λvs σ H Q=>vs=[]/\Q σ H
def z2v(t:TG)(u:TGs):TGs:=λvs σ H Q=>∃v r,vs=v::r/\t v σ H λD H'=>u r D H' Q
def zz7:PGs X [] gNil:=by
 intro pins s σ H vs us Q I r h;obtain⟨e,h⟩:=h;subst e;cases r;exact assignInOrder_nil ⟨σ,H,I,h⟩
variable{es:ik}
def zwc{t:TG}{u:TGs}(h1:PG X e t)(h2:PGs X es u)(J:(assignEach (e::es) X.env).map (·.2)=assign e X.env::(assignEach es X.env).map (·.2):=by rfl):PGs X (e::es) (z2v t u):=by
 intro pins s σ H vs us Q I r h;obtain⟨v,a,R,h⟩:=h;subst R;cases r with
 | cons r rr =>
   rw[J];refine assignInOrder_cons (thn (h1 pins s σ H _ _ _ I r h) λ_ U V=>?_);obtain⟨D,H1,Y,Z⟩:=V;exact h2 pins U D H1 _ _ Q Y rr Z
def gTup(K:kf)(n:Nat)(t:TGs):TG:=λv σ H Q=>∃a xs,v=.ref a/\SqT K H a xs/\xs.length=n/\t xs σ H Q
variable{k n:Nat}
def z2w{t:TGs}(U:X.calm=true)(h:PGs X es t)(V:(assignEach es X.env).length=n:=by rfl)(D:(assignEach es X.env).findIdx? (·.1)=none:=by rfl):PG X (.Tuple es k pos) (gTup X.K n t):=by
 intro pins s σ H v u Q I r J;obtain⟨a,xs,Y,Z,c,J⟩:=J;subst Y;cases r;obtain⟨its,R,d,i⟩:=I.tuple Z;refine assign_Tuple_tuple (I.ok.hd U) d (by simp[V,<-c,R.length]) D λh' f=>?_;have g:Inv X pins σ H { s with heap:=h' }:=I.kept (t':=s.toks) λb o e=>f b o (b9 (bg e)) e;exact h pins _ σ H xs _ Q g (by simpa using R) J
def gSub(to ti:TE)(t:TSet):TG:=λv σ H Q=>to σ H λo H1=>ti σ H1 λi H2=>t o i v H2 λD=>Q σ D
variable{to ti:TE}
def zqw{o i:Expr}{t:TSet}(U:PE X o to)(hi:PE X i ti)(V:PSet X t)(Y:∀v,assign (.Subscript o i pos) X.env v=(do
   let D <-holding [v] (eval o X.env);let J <-holding [v,D] (eval i X.env)
   standAt pos
   holding [v,D,J] (setItem D J v)
   release [v,D,J] []):=by intro _;rfl):PG X (.Subscript o i pos) (gSub to ti t):=by
 intro pins s σ H v u Q I r h;rw[Y];refine wpAny_bind (wpAny_holding (thn (U pins s σ H _ I h) λD Z R=>?_));obtain⟨x,H1,a,b,c⟩:=R;refine wpAny_bind (wpAny_holding (thn (hi pins Z σ H1 _ a c) λJ s2 R=>?_));obtain⟨y,H2,d,e,f⟩:=R;refine wpAny_bind (wpAny_standAt (wpAny_bind (wpAny_holding (thn (V pins s2 σ H2 x y v D J u _ d b e r f) λ_ l R=>?_))));obtain⟨g,j,k⟩:=R;exact wpAny_release ⟨σ,g,j,k⟩
def tAsg(te:TE)(g:TG):TS:=λD σ H=>te σ H λx H1=>g x σ H1 D.nx
variable{tg:Expr}{te:TE}{g:TG}
def ze(J:PE X e te)(R:PG X tg g)(U:swapsWithSole [tg] e pos.line X.env=pure false:=by rfl)(V:swappedStores [tg] e X.env=pure none:=by rfl)(h1:(assignEach [tg] X.env).map (·.2)=[assign tg X.env]:=by rfl):PS X (.Assign [tg] e pos) (tAsg te g):=by
 intro pins s σ H D I h;refine wpAny_Assign_stores (thn (J pins s σ H _ I h) λv Y Z=>?_) U V;obtain⟨x,H1,a,b,c⟩:=Z;rw[h1];exact thn (R pins Y σ H1 x v _ a b c) λ_ s2 q=>q
variable{pos':Pos}
def zqx(J:X.N.Nodup)(hi:X.N[i]?=some x)(R:Loc X.env.scope x)(U:PE X e te)(V:swapsWith e (some (.Name x pos')) pos.line X.env=pure false:=by rfl)(Y:X.fn x=true\/X.env.scope.names.lookup x=some .local:=by first | exact .inl rfl | exact .inr rfl | assumption) :
  PS X (.Assign [.Name x pos'] e pos) (tAsg te (m3 i)):=by
 intro pins s σ H D I h;refine wpAny_Assign_Name (thn (U pins s σ H _ I h) λv f Z=>?_) V;obtain⟨y,H1,a,b,c⟩:=Z;exact zkx a J hi R b (λs2 d=>⟨_,H1,d,c⟩) Y
def tAug(i:Nat)(te:TE)(ti:TIp):TS:=λD σ H=>∃x,σ[i]?=some (some x)/\te σ H λy H1=>ti x y H1 λz H2=>D.nx (σ.set i (some z)) H2
variable{op:Operator}
def z2x{ti:TIp}(Y:X.N.Nodup)(hi:X.N[i]?=some x)(R:Loc X.env.scope x)(Z:PE X e te)(a:PIp X op ti)(b:X.fn x=true\/X.env.scope.names.lookup x=some .local:=by first | exact .inl rfl | exact .inr rfl | assumption) :
  PS X (.AugAssign (.Name x pos') op e pos) (tAug i te ti):=by
 intro pins s σ H D I h;obtain⟨v,d,h⟩:=h;obtain⟨m,f,g⟩:=I.loc;have U:Vis X.env.scope x:=by rcases R with k | k;exact .inl k;exact .inr (.inl k)
 obtain⟨u,r,l⟩:=g i x v hi d U;refine wpAny_AugAssign_Name ?_;have go:wpAny (model X.prog X.w) X.A (eval e X.env) (λw s₂=>wpAny (model X.prog X.w) X.A (inplaceOp op u w) (λr J=>wpAny (model X.prog X.w) X.A (storeName X.env x r) (λ_=>SP X pins D .next) X.xe J) X.xe s₂) X.xe s:=by
  refine thn (Z pins s σ H _ I h) λw j V=>?_;obtain⟨y,H1,n,o,p⟩:=V;refine thn (a pins j σ H1 v y u w _ n r o p) λz s2 V=>?_;obtain⟨F,H2,q,t,B⟩:=V;exact zkx q Y hi R t (λG C=>⟨_,H2,C,B⟩) b
 rcases l with⟨hk,E⟩ | ⟨hk,c,hc,hcell⟩
 ·exact wpAny_loadName_local I.ok.kind hk f E go
 ·rcases hk with hk | hk
  ·exact wpAny_loadName_cell I.ok.kind hk hc hcell go
  ·rcases R with k | k
   ·have:X.env.scope.names.lookup x=some .free:=hk
    rw[k] at this;cases this
   ·have:X.env.scope.names.lookup x=some .free:=hk
    rw[k] at this;cases this
def z2y(to ti te:TE)(I:V->V->Hp->VK->Prop)(R:TIp)(J:TSet):TS:=λD σ H=>to σ H λo H1=>ti σ H1 λi H2=>I o i H2 λx U=>te σ U λy Y=>R x y Y λz Z=>J o i z Z λa=>D.nx σ a
def PGet(X:Cx)(t:V->V->Hp->VK->Prop):Prop :=
 ∀(pins:k4) (s:Shared) (σ:St) (H:Hp) (o i:V) (D I:Value) (Q:VK),Inv X pins σ H s->RelV o D->RelV i I->t o i H Q ->
  wpAny (model X.prog X.w) X.A (getItem D I) (EP X pins σ Q) X.xe s
variable{i:Int}
def ztf{o i:Expr}{R:V->V->Hp->VK->Prop}{a:TIp}{U:TSet}{b:Pos}(k:PE X o to)(hi:PE X i ti)(l:PGet X R)(m:PE X e te)(n:PIp X op a)(p:PSet X U)(q:∀Y Z new,augStore i Y Z new=(do holding [new,Y,Z] (setItem Y Z new);release [new,Y,Z] [];pure .next):=by intros;rfl):PS X (.AugAssign (.Subscript o i b) op e pos) (z2y to ti te R a U):=by
 intro pins s σ H D I h;refine wpAny_AugAssign_SubscriptAny (thn (k pins s σ H _ I h) λY r J=>?_) q;obtain⟨d,H1,t,f,u⟩:=J;refine thn (hi pins r σ H1 _ t u) λZ s2 J=>?_;obtain⟨g,H2,w,j,x⟩:=J;refine thn (l pins s2 σ H2 d g Y Z _ w f j x) λc y J=>?_;obtain⟨z,A,B,r3,C⟩:=J;refine thn (m pins y σ A _ B C) λv E J=>?_;obtain⟨F,G,K,L,M⟩:=J;refine thn (n pins E σ G z F c v _ K r3 L M) λnew N J=>?_;obtain⟨O,P,Q,S,T⟩:=J;exact thn (p pins N σ P d g O Y Z new _ Q f j S T) λ_ s6 ⟨H6,I6,q6⟩=>⟨σ,H6,I6,q6⟩
def ipI(f:Int->Int->Int):TIp:=λx y H Q=>∃i j,x=.int i/\y=.int j/\Q (.int (f i j)) H
def zyu:PIp X .Add (ipI λi j=>i+j):=by
 intro pins s σ H x y v u Q I D J h;obtain⟨i,j,R,U,q⟩:=h;subst R;subst U;obtain⟨t,rfl⟩:=D;obtain⟨t',rfl⟩:=J;exact iadd_int ⟨.int _,H,I.tok _,⟨_,rfl⟩,q⟩
def z2z:PIp X .Sub (ipI λi j=>i-j):=by
 intro pins s σ H x y v u Q I D J h;obtain⟨i,j,R,U,q⟩:=h;subst R;subst U;obtain⟨t,rfl⟩:=D;obtain⟨t',rfl⟩:=J;exact isub_int ⟨.int _,H,I.tok _,⟨_,rfl⟩,q⟩
def z20(c:TT)(tb:TS):TS:=λD σ H=>∃W:Nat->St->Hp->Prop,(∃m,W m σ H)/\∀m σ H,W m σ H ->
 c σ H λb H1=>if b=true then ∃N:St->Hp->Prop,(∀I H',N I H'->∃J,J<m/\W J I H')/\tb { D with nx:=N,ct:=N,bk:=D.nx } σ H1 else D.nx σ H1
variable{c:Value}{body:List Stmt}{tb:TS}
def zwd{c:Expr}{i:TT}(j:PassesOwn (model X.prog X.w) X.A X.env X.xe)(m:PT X c i)(o:PSs X body tb):PS X (.While c body [] pos) (z20 i tb):=by
 intro pins s σ H D I h;obtain⟨W,⟨p,q⟩,turn⟩:=h;refine wpAny_While (codeAny_whileLoop (λn s'=>∃R H',Inv X pins R H' s'/\W n R H') ?_ p ⟨σ,H,I,q⟩);rintro n r ⟨σ1,H1,I1,w1⟩;refine wpAny_passesOwn j (thn (m pins r σ1 H1 _ I1 (turn n σ1 H1 w1)) λb s2 t=>?_);obtain⟨H2,k,V⟩:=t;cases b with
 | true =>
   obtain⟨N,l,V⟩:=V;rw[if_pos rfl];refine wpAny_passesOwn j (thn (o pins s2 σ1 H2 _ k V) λf u Y=>?_);cases f with
   | next =>
     obtain⟨J,U,Z,a⟩:=Y;obtain⟨d,e,g⟩:=l J U a;exact⟨d,e,J,U,Z,g⟩
   | cont =>
     obtain⟨J,U,Z,a⟩:=Y;obtain⟨d,e,g⟩:=l J U a;exact⟨d,e,J,U,Z,g⟩
   | brk=>exact Y
   | ret v=>exact Y
 | false =>
   rw[if_neg ce];exact wpAny_execs_nil ⟨σ1,H2,k,V⟩
structure It where
 go:Nat->Hp->Prop
 yld:Nat->Hp->V->Hp->Prop
 stop:Nat->Hp->Prop
def FpOk(X:Cx)(pins:k4)(H:Hp)(b:Addr):Prop :=
 H b=none/\b≠X.env.locals/\b∉X.fs/\(b∈X.ex\/X.s₀.heap.objs.size<=b)/\(∀x c,X.env.cells.lookup x=some c->c≠b)/\∀p∈X.pn++pins,p.1≠b
def Inv.fpOk(I:Inv X pins σ H s)(D:s.heap.objs.size<=b)(J:H' b=none):FpOk X pins H' b:=by
 refine⟨J,lm (bc I.lt D),I.nofs D,.inr (df I.sz D),λx c e z=>?_,λp R z=>?_⟩
 ·obtain⟨v,q⟩:=I.cell x c e
  exact absurd (bc q.lt (by rw[z];exact D)) (fo _)
 ·exact absurd (bc (bg (I.pin p R).1) (by rw[z];exact D)) (fo _)
structure vj (Cm:Cx->Prop) (P:Program) (w:World) (K:kf) (tg:Expr) (J:It) (fp:h7) (it:Addr) (tn:Nat->Heap->Prop):Prop where
 mem:it∈fp
 obj:∀i h,tn i h->∀b∈fp,∃o,h.get? b=some o/\∀v,o.data≠.cell v
 keep:∀i h h',tn i h->(∀b∈fp,∀o,h.get? b=some o->h'.get? b=some o)->tn i h'
 item:∀(X:Cx),X.prog=P->X.w=w->X.K=K->Cm X->∀(i:Nat) (pins:k4) (s:Shared) (σ:St) (H:Hp) (E:Value->Shared->Prop),Inv X pins σ H s->(∀b∈fp,FpOk X pins H b)->tn i s.heap->J.go i H ->
  wpAny (model P w) X.A (pyNext (.ref it)) (λr s1=>∃u,r=some u /\
   wpAny (model P w) X.A (letOwnedTupleGo tg (.ref it) u) (λ_ s2=>∃x H',Inv X pins σ H' s2/\RelV x u/\J.yld i H x H'/\tn (i+1) s2.heap/\∀b∈fp,H' b=none) E s1) E s
 done:∀(X:Cx),X.prog=P->X.w=w->X.K=K->Cm X->∀(i:Nat) (pins:k4) (s:Shared) (σ:St) (H:Hp) (E:Value->Shared->Prop),Inv X pins σ H s->(∀b∈fp,FpOk X pins H b)->tn i s.heap->J.stop i H ->
  wpAny (model P w) X.A (pyNext (.ref it)) (λr s1=>r=none/\Inv X pins σ H s1) E s
 self:∀(A:Around) (i:Nat) (s:Shared) (Q:Value->Shared->Prop) (E:Value->Shared->Prop),tn i s.heap->Q (.ref it) s->wpAny (model P w) A (pyIter (.ref it)) Q E s
abbrev Turn:=vj λX=>X.calm=true
abbrev TI:=St->Hp->(It->Hp->Prop)->Prop
def PIEC(Cm:Cx->Prop)(X:Cx)(pins:k4)(σ:St)(tg:Expr)(R:It->Hp->Prop)(D:Value)(s2:Shared):Prop :=
 ∃(it:Addr) (fp:h7) (I:Nat->Heap->Prop) (J:It) (H':Hp),D=.ref it/\Inv X pins σ H' s2/\vj Cm X.prog X.w X.K tg J fp it I/\I 0 s2.heap/\(∀b∈fp,FpOk X pins H' b)/\R J H'
def PIC(Cm:Cx->Prop)(X:Cx)(tg iter:Expr)(wi:TI):Prop :=
 ∀(pins:k4) (s:Shared) (σ:St) (H:Hp) (R:It->Hp->Prop),Inv X pins σ H s->wi σ H R ->
  wpAny (model X.prog X.w) X.A (eval iter X.env) (λv D=>wpAny (model X.prog X.w) X.A (pyIter v) (PIEC Cm X pins σ tg R) X.xe D) X.xe s
abbrev PI:=PIC λX=>X.calm=true
variable{vs:k7}
def zwe{n:String}{vs:k6}(I:s.heap.get? it=some o)(J:o.cls=.type n)(R:o.data=.fields vs)(U:["enumerate", "zip", "dict_itemiterator", "dict_reverseitemiterator", "odict_iterator", "itertools.zip_longest", "itertools.pairwise"].contains n=false)(D:Q () s):wpAny M A (letOwnedTupleGo tg (.ref it) u) Q E s:=by
 unfold letOwnedTupleGo;cases tg <;> first
  | exact wpAny_pure D
  | (cases u <;> first
      | exact wpAny_pure D
      | (refine wpAny_bind (wpAny_load I ?_)
         rw[J,R];show wpAny M A (if (["enumerate", "zip", "dict_itemiterator", "dict_reverseitemiterator", "odict_iterator", "itertools.zip_longest", "itertools.pairwise"].contains n && vs[0]?==some (rawInt _))=true then _ else _) Q E s;rw[if_neg (by intro h;rw[U,Bool.false_and] at h;cases h)];exact wpAny_pure D))
def Itl(K:kf)(a:Addr):It :=
 ⟨λi H=>∃xs x,SqL K H a xs/\xs[i]?=some x,λi H x H'=>H'=H/\∀xs,SqL K H a xs->xs[i]?=some x,λi H=>∃xs,SqL K H a xs/\xs.length<=i⟩
def Itt(K:kf)(a:Addr):It :=
 ⟨λi H=>∃xs x,SqT K H a xs/\xs[i]?=some x,λi H x H'=>H'=H/\∀xs,SqT K H a xs->xs[i]?=some x,λi H=>∃xs,SqT K H a xs/\xs.length<=i⟩
def Itr(lo:Int)(n:Nat):It:=⟨λi _=>i<n,λi H x H'=>H'=H/\x=.int (lo+i),λi _=>n<=i⟩
theorem ztg(a it:Addr):Turn P w K tg (Itl K a) [it] it (λi h=>h.IsListIter it a i) where
 mem:=by simp
 obj:=λi h st b D=>by
  have e:b=it:=by simpa using D
  subst e;obtain⟨o,e,c,d⟩:=st;exact⟨o,e,λv z=>by rw[d] at z;cases z⟩
 keep:=λi h h' st k=>st.at λo e=>k it (by simp) o e
 item:=by
  intro X hP V Y r i pins s σ H E I R st Z;subst hP V Y;obtain⟨xs,x,U,f⟩:=Z;obtain⟨its,g,p,t⟩:=I.list U;obtain⟨u,y,A⟩:=g.get f;obtain⟨j,l,f2,m,n,q⟩:=R it (by simp);refine wpAny_pyNext_list_item st p.isList (x:=u) (by simpa using y) λh' J B=>?_;have C:Inv X pins σ H { s with heap:=h' }:=I.turned (t':=s.toks) (λb o D e=>(B.2 b D).trans e) j l m n q;obtain⟨o,e,c,d⟩:=id J;exact⟨u,rfl,zwe (s:={ s with heap:=h' }) e c d (by decide) ⟨x,H,C,A,⟨rfl,λys F=>by rw[I.list_inj F U];exact f⟩,J,λb D=>(R b D).1⟩⟩
 done:=by
  intro X hP V Y r i pins s σ H E I R st Z;subst hP V Y;obtain⟨xs,U,f⟩:=Z;obtain⟨its,g,p,t⟩:=I.list U;obtain⟨j,l,f2,m,n,q⟩:=R it (by simp);have L:=g.length;exact wpAny_pyNext_list_end (I.ok.hd r) st p.isList (by simp;lia) λh' G=>⟨rfl,I.turned (t':=s.toks) (λb o D e=>G b o D e) j l m n q⟩
 self:=λ_ _ _ _ _ st h=>wpAny_pyIter_listiter st h
theorem zse(a it:Addr):Turn P w K tg (Itt K a) [it] it (λi h=>h.IsTupleIter it a i) where
 mem:=by simp
 obj:=λi h st b D=>by
  have e:b=it:=by simpa using D
  subst e;obtain⟨o,e,c,d⟩:=st;exact⟨o,e,λv z=>by rw[d] at z;cases z⟩
 keep:=λi h h' st k=>st.at λo e=>k it (by simp) o e
 item:=by
  intro X hP V Y r i pins s σ H E I R st Z;subst hP V Y;obtain⟨xs,x,U,f⟩:=Z;obtain⟨its,g,p,t⟩:=I.tuple U;obtain⟨u,y,A⟩:=g.get f;obtain⟨j,l,f2,m,n,q⟩:=R it (by simp);refine wpAny_pyNext_tuple_item st (show s.heap.IsTuple a its.toArray from p) (x:=u) (by simpa using y) λh' J B=>?_;have C:Inv X pins σ H { s with heap:=h' }:=I.turned (t':=s.toks) (λb o D e=>(B.2 b D).trans e) j l m n q;obtain⟨o,e,c,d⟩:=id J;exact⟨u,rfl,zwe (s:={ s with heap:=h' }) e c d (by decide) ⟨x,H,C,A,⟨rfl,λys F=>by rw[I.tuple_inj F U];exact f⟩,J,λb D=>(R b D).1⟩⟩
 done:=by
  intro X hP V Y r i pins s σ H E I R st Z;subst hP V Y;obtain⟨xs,U,f⟩:=Z;obtain⟨its,g,p,t⟩:=I.tuple U;obtain⟨j,l,f2,m,n,q⟩:=R it (by simp);have L:=g.length;exact wpAny_pyNext_tuple_end (I.ok.hd r) st (show s.heap.IsTuple a its.toArray from p) (by simp;lia) λh' G=>⟨rfl,I.turned (t':=s.toks) (λb o D e=>G b o D e) j l m n q⟩
 self:=λ_ _ _ _ _ st h=>wpAny_pyIter_tupleiter st h
theorem zix(it:Addr)(lo:Int)(n:Nat):Turn P w K tg (Itr lo n) [it] it (λi h=>IsRangeIter h it (lo+(i:Nat)*1) ((n:Int)-(i:Nat)) 1) where
 mem:=by simp
 obj:=λi h st b D=>by
  have e:b=it:=by simpa using D
  subst e;exact⟨_,st,λv z=>by
   have j:Data.fields _=Data.cell v:=z;cases j⟩
 keep:=λi h h' st k=>k it (by simp) _ st
 item:=by
  intro X hP U V Y i pins s σ H E I R st Z;subst hP U V;obtain⟨a,c,f2,d,f,g⟩:=R it (by simp);have W:=Walks.range (prog:=X.prog) (w:=X.w) (I.ok.hd Y) it lo 1 n;refine W.item i s _ _ Z st λv h' tk l J kk=>?_;obtain⟨t,rfl⟩:=l;have m:Inv X pins σ H { s with heap:=h',toks:=tk }:=I.turned (λb o D e=>kk b o (by simpa using D) e) a c d f g;refine⟨_,rfl,zwe (s:={ s with heap:=h',toks:=tk }) (n:="range_iterator") J rfl rfl (by decide) ⟨.int (lo+i),H,m,⟨t,?_⟩,⟨rfl,rfl⟩,J,λb D=>(R b D).1⟩⟩;rw[Int.mul_one]
 done:=by
  intro X hP U V Y i pins s σ H E I R st Z;subst hP U V;obtain⟨a,c,f2,d,f,g⟩:=R it (by simp);exact wpAny_pyNext_range_end (I.ok.hd Y) st (by have:n<=i:=Z;lia) λh' p=>⟨rfl,I.turned (t':=s.toks) (λb o D e=>p b o D e) a c d f g⟩
 self:=λ_ _ _ _ _ st h=>wpAny_pyIter_rangeiter st h
def z54(K:kf)(tl:TE):TI:=λσ H R=>tl σ H λx H1=>∃a,x=.ref a/\(∃xs,SqL K H1 a xs)/\R (Itl K a) H1
def iTup(K:kf)(tl:TE):TI:=λσ H R=>tl σ H λx H1=>∃a,x=.ref a/\(∃xs,SqT K H1 a xs)/\R (Itt K a) H1
variable{l:Expr}{tl:TE}
def zth(U:PE X l tl):PI X tg l (z54 X.K tl):=by
 intro pins s σ H R I h;refine thn (U pins s σ H _ I h) λv D V=>?_;obtain⟨x,H1,J,Y,Z⟩:=V;obtain⟨a,e,⟨xs,c⟩,q⟩:=Z;subst e;cases Y;obtain⟨its,f,p,g⟩:=J.list c;refine wpAny_pyIter_list p.isList ?_;refine⟨D.heap.objs.size,[D.heap.objs.size],_,_,H1,rfl,J.kept (t':=D.toks) λb o e=>aq _ e,ztg a _,⟨_,cf _ rfl,rfl,rfl⟩,λb d=>?_,q⟩;have e:b=D.heap.objs.size:=by simpa using d
 subst e;exact J.fpOk (b7 _) (J.hok.fresh (b7 _))
def z21(U:PE X l tl):PI X tg l (iTup X.K tl):=by
 intro pins s σ H R I h;refine thn (U pins s σ H _ I h) λv D V=>?_;obtain⟨x,H1,J,Y,Z⟩:=V;obtain⟨a,e,⟨xs,c⟩,q⟩:=Z;subst e;cases Y;obtain⟨its,f,p,g⟩:=J.tuple c;refine wpAny_pyIter_tuple (show D.heap.IsTuple a its.toArray from p) ?_;refine⟨D.heap.objs.size,[D.heap.objs.size],_,_,H1,rfl,J.kept (t':=D.toks) λb o e=>aq _ e,zse a _,⟨_,cf _ rfl,rfl,rfl⟩,λb d=>?_,q⟩;have e:b=D.heap.objs.size:=by simpa using d
 subst e;exact J.fpOk (b7 _) (J.hok.fresh (b7 _))
variable{v:Value}{Cm:Cx->Prop}
theorem zwf(hT:∀(it:Addr) (lo:Int) (n:Nat),vj Cm X.prog X.w X.K tg (Itr lo n) [it] it (λi h=>IsRangeIter h it (lo+(i:Nat)*1) ((n:Int)-(i:Nat)) 1)){R:It->Hp->Prop}{lo hi:Int}{t u v:Tok}{tk:Nat}(I:Inv X pins σ H s)(h1:-(2 ^ 62)<=lo)(h2:lo<2 ^ 62)(J:-(2 ^ 62)<=hi)(U:hi<2 ^ 62)(q:R (Itr lo (hi-lo).toNat) H):wpAny (model X.prog X.w) X.A (pyIter (.ref s.heap.objs.size)) (PIEC Cm X pins σ tg R) E { s with heap:=s.heap.push { cls:=.type "range",data:=.fields #[.int lo t,.int hi u,.int 1 v] },toks:=tk }:=by
 refine wpAny_pyIter_range (IsRange.new ..) (small_one h1 h2 J U) ?_;have D:Inv X pins σ H { s with heap:=s.heap.push { cls:=.type "range",data:=.fields #[.int lo t,.int hi u,.int 1 v] },toks:=tk }:=I.kept λb o e=>aq _ e;refine⟨(s.heap.push { cls:=.type "range",data:=.fields #[.int lo t,.int hi u,.int 1 v] }).objs.size,[(s.heap.push { cls:=.type "range",data:=.fields #[.int lo t,.int hi u,.int 1 v] }).objs.size],_,_,H,rfl,
  D.kept (t':=tk) λb o e=>aq _ e,hT _ lo (hi-lo).toNat,?_,λb V=>?_,q⟩
 ·have Y:lo+((0:Nat):Int)*1=lo:=by simp
  have Z:(((hi-lo).toNat:Nat):Int)-((0:Nat):Int)=Builtin.Range.rangeSize lo hi 1:=by rw[rangeSize_one];split <;> lia
  show IsRangeIter _ _ (lo+((0:Nat):Int)*1) ((((hi-lo).toNat:Nat):Int)-((0:Nat):Int)) 1;rw[Y,Z];exact cf _ rfl
 ·have e:b=(s.heap.push { cls:=.type "range",data:=.fields #[.int lo t,.int hi u,.int 1 v] }).objs.size:=by simpa using V
  subst e;exact D.fpOk (b7 _) (D.hok.fresh (b7 _))
def z55(ta:TA):TI:=λσ H R=>ta σ H λvs H1=>∃j:Int,vs=[.int j]/\-(2 ^ 62)<=j/\j<2 ^ 62/\R (Itr 0 j.toNat) H1
variable{a:Expr}{ta:TE}{p:Pos}
theorem zsf(hT:∀(it:Addr) (lo:Int) (n:Nat),vj Cm X.prog X.w X.K tg (Itr lo n) [it] it (λi h=>IsRangeIter h it (lo+(i:Nat)*1) ((n:Int)-(i:Nat)) 1)){ta:TA}(J:Gl X "range")(U:X.mg "range" = none)(V:PA X [a] ta)(Y:starEach [a] X.env=[(false,eval a X.env)]:=by rfl):PIC Cm X tg (.Call (.Name "range" p) [a] [] pos) (z55 ta):=by
 intro pins s σ H R I h;refine Call_ (xr I J U boot_range (jx (thn (V pos pins s σ H _ I h) λus f Z=>?_) Y rfl));obtain⟨vs,H1,b,c,D⟩:=Z;obtain⟨j,e,D,d,q⟩:=D;subst e;cases c with
 | cons r rr =>
   cases rr;obtain⟨t,rfl⟩:=r;exact call_range_1 (zwf hT b (by lia) (by lia) D d (by simpa using q))
def tFor(wi:TI)(g:TG)(tb:TS):TS:=λD σ H=>wi σ H λJ H1=>∃W:Nat->Nat->St->Hp->Prop,(∃m,W 0 m σ H1)/\∀i m σ H,W i m σ H ->
 (J.stop i H/\D.nx σ H)\/(J.go i H/\∃N:St->Hp->Prop,(∀I H',N I H'->∃U,U<m/\W (i+1) U I H')/\∀x H',J.yld i H x H'->g x σ H' λR H2=>tb { D with nx:=N,ct:=N,bk:=D.nx } R H2)
def zd(fp:h7)(h:Heap):k4:=fp.filterMap λb=>(h.get? b).map λo=>(b,o)
variable{fp:h7}
def ziy(D:b∈fp)(e:h.get? b=some o):(b,o)∈zd fp h:=ni.mpr ⟨b,D,by rw[e];rfl⟩
def zti{p:Addr×Obj}(D:p∈zd fp h):p.1∈fp/\h.get? p.1=some p.2:=by
 obtain⟨b,I,e⟩:=ni.mp D;cases q:h.get? b with
 | none=>rw[q] at e;cases e
 | some o =>
   rw[q] at e;have e':(b,o)=p:=bh e;subst e';exact⟨I,q⟩
def Inv.pinned(I:Inv X pins σ H s)(J:∀b∈fp,FpOk X pins H b)(R:∀b∈fp,∃o,s.heap.get? b=some o/\∀v,o.data≠.cell v):Inv X (pins++zd fp s.heap) σ H s :=
 I.pins_of λp U=>(db.mp U).elim (λz=>I.pin p (b8 _ z)) λz=>by
  obtain⟨D,e⟩:=zti z;obtain⟨V,Y,f2,_⟩:=J p.1 D;obtain⟨o,e',d⟩:=R p.1 D;rw[e] at e';cases e';exact⟨e,V,Y,f2,d⟩
def Inv.unpinned{pins pl:k4}(I:Inv X (pins++pl) σ H s):Inv X pins σ H s:=I.pins_of λp D=>I.pin p (b8 _ (d5 _ D))
def z22{iter:Expr}{wi:TI}(l:PassesOwn (model X.prog X.w) X.A X.env X.xe)(F:X.calm=true)(hi:PI X tg iter wi)(O:PG X tg g)(U:PSs X body tb)(P:∀x,foldedSetIterable iter X.env x=pure x:=by intro _;rfl):PS X (.For tg iter body [] pos) (tFor wi g tb):=by
 intro pins s σ H D I h;refine wpAny_For (thn (hi pins s σ H _ I h) λv s1 h1=>thn h1 λQ s2 h2=>?_) P;obtain⟨it,fp,G,J,H2,e,S,T,t,f2,W,⟨m0,w0⟩,turn⟩:=h2;subst e;have V:∀ {H':Hp},(∀b∈fp,H' b=none)->∀b∈fp,FpOk X pins H' b:=λhn b U=>⟨hn b U,(f2 b U).2⟩;refine codeAny_forLoop_any (λn s'=>∃i Y H',Inv X pins Y H' s'/\G i s'.heap/\(∀b∈fp,H' b=none)/\W i n Y H') ?_ m0 ⟨0,σ,H2,S,t,λb U=>(f2 b U).1,w0⟩;rintro n K ⟨i,σ3,H3,I3,st3,fr3,w3⟩;rcases turn i n σ3 H3 w3 with⟨p,qn⟩ | ⟨go,N,hN,step⟩
 ·refine wpAny_passesOwn l (thn (T.done X rfl rfl rfl F i pins K σ3 H3 X.xe I3 (V fr3) st3 p) λr s4 j=>?_)
  obtain⟨y,I4⟩:=j;subst y;exact wpAny_execs_nil ⟨σ3,H3,I4,qn⟩
 ·refine wpAny_passesOwn l (thn (T.item X rfl rfl rfl F i pins K σ3 H3 X.xe I3 (V fr3) st3 go) λr s4 j=>?_)
  obtain⟨u,y,h4⟩:=j;subst y;refine wpAny_passesOwn l (thn h4 λ_ L j=>?_);obtain⟨x,M,I5,r5,y5,k,z⟩:=j;have B:=I5.pinned (V z) (T.obj _ _ k);refine wpAny_passesOwn l (thn (O _ L σ3 M x u _ B r5 (step x M y5)) λ_ s6 j=>?_);obtain⟨C,H6,I6,q6⟩:=j;refine wpAny_passesOwn l (thn (U _ s6 C H6 _ I6 q6) λf E c=>?_);have again:∀ {R:St} {Z:Hp},Inv X (pins++zd fp L.heap) R Z E->N R Z->∃m,m<n/\∃i Y H',Inv X pins Y H' E/\G i E.heap/\(∀b∈fp,H' b=none)/\W i m Y H':=λ{R Z} a q=>by
   obtain⟨m',hm,w7⟩:=hN R Z q;refine⟨m',hm,i+1,R,Z,a.unpinned,T.keep _ _ _ k λb U o e=>(a.pin (b,o) (b8 _ (b8 _ (ziy U e)))).1,λb U=>?_,w7⟩;obtain⟨o,e,d⟩:=T.obj _ _ k b U;exact(a.pin (b,o) (b8 _ (b8 _ (ziy U e)))).2.1
  cases f with
  | next=>obtain⟨R,Z,a,q⟩:=c;exact again a q
  | cont=>obtain⟨R,Z,a,q⟩:=c;exact again a q
  | brk=>obtain⟨R,Z,a,c⟩:=c;exact⟨R,Z,a.unpinned,c⟩
  | ret v=>obtain⟨x7,R,Z,a,r7,c⟩:=c;exact⟨x7,R,Z,a.unpinned,r7,c⟩
abbrev R2:=V->V->Hp->VK->Prop
def OpR(X:Cx)(f:Value->Value->Sem Value)(r:R2):Prop :=
 ∀(pins:k4) (s:Shared) (σ:St) (H:Hp) (x y:V) (v u:Value) (Q:VK),Inv X pins σ H s->RelV x v->RelV y u->r x y H Q ->
  wpAny (model X.prog X.w) X.A (f v u) (EP X pins σ Q) X.xe s
def UnR(X:Cx)(f:Value->Sem Value)(r:V->Hp->VK->Prop):Prop :=
 ∀(pins:k4) (s:Shared) (σ:St) (H:Hp) (x:V) (v:Value) (Q:VK),Inv X pins σ H s->RelV x v->r x H Q ->
  wpAny (model X.prog X.w) X.A (f v) (EP X pins σ Q) X.xe s
def oo(X:Cx)(f:Value)(r:k7->Hp->VK->Prop):Prop :=
 ∀(pins:k4) (s:Shared) (σ:St) (H:Hp) (xs:k7) (us:g8) (Q:VK),Inv X pins σ H s->Vals xs us->r xs H Q ->
  wpAny (model X.prog X.w) X.A (call f us) (EP X pins σ Q) X.xe s
def tOp(r:R2)(ta tb:TE):TE:=λσ H Q=>ta σ H λx H1=>tb σ H1 λy H2=>r x y H2 Q
def tUn(r:V->Hp->VK->Prop)(ta:TE):TE:=λσ H Q=>ta σ H λx H1=>r x H1 Q
def rI(C:Int->Int->Prop)(g:Int->Int->V):R2:=λx y H Q=>∃i j,x=.int i/\y=.int j/\C i j/\Q (g i j) H
def rI0(g:Int->Int->V):R2:=λx y H Q=>∃i j,x=.int i/\y=.int j/\Q (g i j) H
def rU(g:Int->V):V->Hp->VK->Prop:=λx H Q=>∃i,x=.int i/\Q (g i) H
variable{b:Expr}{Q:Value->Shared->Prop}{tb:TE}{f:Value->Value->Sem Value}
def binT(U:PE X a ta)(Y:PE X b tb){R:V->V->Hp->Prop}(I:Inv X pins σ H s)(h:ta σ H λx H1=>tb σ H1 λy H2=>R x y H2)(Z:∀v u s2 x y H2,Inv X pins σ H2 s2->RelV x v->RelV y u->R x y H2->wpAny (model X.prog X.w) X.A (f v u) Q X.xe s2) :
  wpAny (model X.prog X.w) X.A (eval a X.env) (λv D=>wpAny (model X.prog X.w) X.A (eval b X.env) (λu s₂=>wpAny (model X.prog X.w) X.A (f v u) Q X.xe s₂) X.xe D) X.xe s:=by
 refine thn (U pins s σ H _ I h) λv c J=>?_;obtain⟨x,H1,d,e,g⟩:=J;refine thn (Y pins c σ H1 _ d g) λu s2 J=>?_;obtain⟨y,H2,i,j,k⟩:=J;exact Z v u s2 x y H2 i e j k
variable{r:R2}
def zz8(D:OpR X (binaryOp op) r)(J:PE X a ta)(R:PE X b tb):PE X (.BinOp a op b pos) (tOp r ta tb):=by
 intro pins s σ H Q I h;exact wpAny_BinOp (binT J R I h λv u s2 x y H2 U V Y q=>D pins s2 σ H2 x y v u Q U V Y q)
variable{op:CmpOp}
def z23{op:UnaryOp}{r:V->Hp->VK->Prop}(D:UnR X (unaryOp op) r)(J:PE X a ta):PE X (.UnaryOp op a pos) (tUn r ta):=by
 intro pins s σ H Q I h;exact UnaryOp_ (thn (J pins s σ H _ I h) λv s1 ⟨x,H1,I1,r1,q1⟩=>D pins s1 σ H1 x v Q I1 r1 q1)
variable{g:Int->Int->Int}{C:Addr}
def opI{C:Int->Int->Prop}(rule:∀(i j:Int) (t u:Tok) (s:Shared) (Q:Value->Shared->Prop) (E:Value->Shared->Prop),C i j->Q (.int (g i j) s.toks) { s with toks:=s.toks+1 }->wpAny (model X.prog X.w) X.A (f (.int i t) (.int j u)) Q E s) :
  OpR X f (rI C λi j=>.int (g i j)):=by
 intro pins s σ H x y v u Q I D J h;obtain⟨i,j,rfl,rfl,R,q⟩:=h;obtain⟨t,rfl⟩:=D;obtain⟨t',rfl⟩:=J;exact rule i j t t' s _ _ R ⟨.int (g i j),H,I.tok _,⟨_,rfl⟩,q⟩
def opI0(rule:∀(i j:Int) (t u:Tok) (s:Shared) (Q:Value->Shared->Prop) (E:Value->Shared->Prop),Q (.int (g i j) s.toks) { s with toks:=s.toks+1 }->wpAny (model X.prog X.w) X.A (f (.int i t) (.int j u)) Q E s) :
  OpR X f (rI0 λi j=>.int (g i j)):=by
 intro pins s σ H x y v u Q I D J h;obtain⟨i,j,rfl,rfl,q⟩:=h;obtain⟨t,rfl⟩:=D;obtain⟨t',rfl⟩:=J;exact rule i j t t' s _ _ ⟨.int (g i j),H,I.tok _,⟨_,rfl⟩,q⟩
def opB0{g:Int->Int->Bool}(rule:∀(i j:Int) (t u:Tok) (s:Shared) (Q:Value->Shared->Prop) (E:Value->Shared->Prop),Q (.bool (g i j)) s->wpAny (model X.prog X.w) X.A (f (.int i t) (.int j u)) Q E s) :
  OpR X f (rI0 λi j=>.bl (g i j)):=by
 intro pins s σ H x y v u Q I D J h;obtain⟨i,j,rfl,rfl,q⟩:=h;obtain⟨t,rfl⟩:=D;obtain⟨t',rfl⟩:=J;exact rule i j t t' s _ _ ⟨.bl (g i j),H,I,rfl,q⟩
def CDiv(i j:Int):Prop:=0<j/\j<1073741824
def CPow(i j:Int):Prop:=0<=j/\j<=1000000/\i.natAbs<2 ^ 64
def CMul(i j:Int):Prop:=(-(2 ^ 64)<i/\i<2 ^ 64)\/(-(2 ^ 64)<j/\j<2 ^ 64)
def CMul.ok(h:CMul i j):IntMulOk i j:=by
 rcases h with⟨h1,h2⟩ | ⟨h1,h2⟩
 ·exact .of_left (intBits_le_64 h1 h2)
 ·exact .of_right (intBits_le_64 h1 h2)
def z24:OpR X (binaryOp .Add) (rI0 λi j=>.int (i+j)):=opI0 λ_ _ _ _ _ _ _ q=>add_int q
def z25:OpR X (binaryOp .Sub) (rI0 λi j=>.int (i-j)):=opI0 λ_ _ _ _ _ _ _ q=>sub_int q
def z26:OpR X (binaryOp .Mult) (rI CMul λi j=>.int (i*j)):=opI λ_ _ _ _ _ _ _ D q=>mul_int q D.ok
theorem zz9:OpR X (binaryOp .FloorDiv) (rI CDiv λi j=>.int (i / j)):=opI λi j _ _ _ _ _ D q=>by
 have h1:(0:Int)<j:=D.1;have h2:j<1073741824:=D.2;exact floordiv_int (by lia) (by rw[Int.fdiv_eq_ediv_of_nonneg i (by lia)];exact q) (.inl (PyProof.noPylong_small (by lia)))
theorem z27:OpR X (binaryOp .Mod) (rI (λ_ j=>0<j) λi j=>.int (i % j)):=opI λi j _ _ _ _ _ D q=>by
 have h1:(0:Int)<j:=D;exact mod_int' (by lia) (by rw[Int.fmod_eq_emod_of_nonneg i (by lia)];exact q)
def z28:OpR X (binaryOp .Pow) (rI CPow λi j=>.int (i ^ j.toNat)):=opI λ_ _ _ _ _ _ _ D q=>pow_int_small D.1 D.2.1 D.2.2 q
variable{f:Addr}
def unI{f:Value->Sem Value}{g:Int->Int}(rule:∀(i:Int) (t:Tok) (s:Shared) (Q:Value->Shared->Prop) (E:Value->Shared->Prop),Q (.int (g i) s.toks) { s with toks:=s.toks+1 }->wpAny (model X.prog X.w) X.A (f (.int i t)) Q E s) :
  UnR X f (rU λi=>.int (g i)):=by
 intro pins s σ H x v Q I D h;obtain⟨i,rfl,q⟩:=h;obtain⟨t,rfl⟩:=D;exact rule i t s _ _ ⟨.int (g i),H,I.tok _,⟨_,rfl⟩,q⟩
def zyv:UnR X (unaryOp .USub) (rU λi=>.int (-i)):=unI λ_ _ _ _ _ q=>neg_int q
def scal:V->V->Bool
 | .non,.non=>true | .non,.int _=>true | .int _,.non=>true | .non,.bl _=>true | .bl _,.non=>true | .non,.str _=>true | .str _,.non=>true
 | .int _,.int _=>true | .bl _,.bl _=>true | .str _,.str _=>true | .byt _,.byt _=>true
 | .int _,.str _=>true | .str _,.int _=>true | .bl _,.str _=>true | .str _,.bl _=>true
 | _,_=>false
def rEq:R2:=λx y H Q=>scal x y=true/\Q (.bl (decide (x=y))) H
def rNe:R2:=λx y H Q=>scal x y=true/\Q (.bl (!decide (x=y))) H
def ztj:decide (V.int i=V.int j)=(i==j):=by
 rw[lv];simp
def zyw{i j:Bool}:decide (V.bl i=V.bl j)=(i==j):=by
 rw[lv];simp
def ztk{i j:Str}:decide (V.str i=V.str j)=(i==j):=by
 rw[lv];simp
def ztl{i j:Array UInt8}:decide (V.byt i=V.byt j)=(i.toList==j.toList):=by
 rw[lv];cases i;cases j;simp
def j7{Q:VK}{k k':Bool}(I:Inv X pins σ H s)(q:Q (.bl k) H)(e:k=k'):EP X pins σ Q (.bool k') s:=by
 subst e;exact⟨.bl k,H,I,rfl,q⟩
def z29:OpR X (compareOp .Eq) rEq:=by
 intro pins s σ H x y v u Q I R D h;obtain⟨J,q⟩:=h;cases x with
 | non =>
   cases R;cases y with
   | non=>cases D;exact PySem.EqNone.eq_none_none (j7 I q (by simp))
   | bl j=>cases D;exact PySem.EqNone.eq_none_bool (j7 I q (by simp))
   | int j=>obtain⟨t',rfl⟩:=D;exact PySem.EqNone.eq_none_int (j7 I q (by simp))
   | str j=>obtain⟨t',rfl⟩:=D;exact PySem.EqNone.eq_none_str (j7 I q (by simp))
   | _=>exact absurd (show false=true from J) ce
 | bl i =>
   cases R;cases y with
   | non=>cases D;exact PySem.EqNone.eq_bool_none (j7 I q (by simp))
   | bl j=>cases D;exact eq_bool (j7 I q zyw)
   | str j=>obtain⟨t',rfl⟩:=D;exact PySem.EqMixed.eq_bool_str (j7 I q (by simp))
   | _=>exact absurd (show false=true from J) ce
 | int i =>
   obtain⟨t,rfl⟩:=R;cases y with
   | non=>cases D;exact PySem.EqNone.eq_int_none (j7 I q (by simp))
   | int j=>obtain⟨t',rfl⟩:=D;exact eq_int (j7 I q ztj)
   | str j=>obtain⟨t',rfl⟩:=D;exact PySem.EqMixed.eq_int_str (j7 I q (by simp))
   | _=>exact absurd (show false=true from J) ce
 | str i =>
   obtain⟨t,rfl⟩:=R;cases y with
   | non=>cases D;exact PySem.EqNone.eq_str_none (j7 I q (by simp))
   | bl j=>cases D;exact PySem.EqMixed.eq_str_bool (j7 I q (by simp))
   | int j=>obtain⟨t',rfl⟩:=D;exact PySem.EqMixed.eq_str_int (j7 I q (by simp))
   | str j=>obtain⟨t',rfl⟩:=D;exact eq_str (j7 I q ztk)
   | _=>exact absurd (show false=true from J) ce
 | byt i =>
   obtain⟨t,rfl⟩:=R;cases y with
   | byt j=>obtain⟨t',rfl⟩:=D;exact PySem.W.eq_bytes (j7 I q ztl)
   | _=>exact absurd (show false=true from J) ce
 | _=>cases y <;> exact absurd (show false=true from J) ce
def z56:OpR X (compareOp .NotEq) rNe:=by
 intro pins s σ H x y v u Q I R D h;obtain⟨J,q⟩:=h;cases x with
 | non =>
   cases R;cases y with
   | non=>cases D;exact PySem.EqNone.ne_none_none (j7 I q (by simp))
   | bl j=>cases D;exact PySem.EqNone.ne_none_bool (j7 I q (by simp))
   | int j=>obtain⟨t',rfl⟩:=D;exact PySem.EqNone.ne_none_int (j7 I q (by simp))
   | str j=>obtain⟨t',rfl⟩:=D;exact PySem.EqNone.ne_none_str (j7 I q (by simp))
   | _=>exact absurd (show false=true from J) ce
 | bl i =>
   cases R;cases y with
   | non=>cases D;exact PySem.EqNone.ne_bool_none (j7 I q (by simp))
   | bl j=>cases D;exact ne_bool (j7 I q (congrArg not zyw))
   | str j=>obtain⟨t',rfl⟩:=D;exact PySem.EqMixed.ne_bool_str (j7 I q (by simp))
   | _=>exact absurd (show false=true from J) ce
 | int i =>
   obtain⟨t,rfl⟩:=R;cases y with
   | non=>cases D;exact PySem.EqNone.ne_int_none (j7 I q (by simp))
   | int j=>obtain⟨t',rfl⟩:=D;exact ne_int (j7 I q (congrArg not ztj))
   | str j=>obtain⟨t',rfl⟩:=D;exact PySem.EqMixed.ne_int_str (j7 I q (by simp))
   | _=>exact absurd (show false=true from J) ce
 | str i =>
   obtain⟨t,rfl⟩:=R;cases y with
   | non=>cases D;exact PySem.EqNone.ne_str_none (j7 I q (by simp))
   | bl j=>cases D;exact PySem.EqMixed.ne_str_bool (j7 I q (by simp))
   | int j=>obtain⟨t',rfl⟩:=D;exact PySem.EqMixed.ne_str_int (j7 I q (by simp))
   | str j=>obtain⟨t',rfl⟩:=D;exact ne_str (j7 I q (congrArg not ztk))
   | _=>exact absurd (show false=true from J) ce
 | byt i =>
   obtain⟨t,rfl⟩:=R;cases y with
   | byt j=>obtain⟨t',rfl⟩:=D;exact PySem.W.ne_bytes (j7 I q (congrArg not ztl))
   | _=>exact absurd (show false=true from J) ce
 | _=>cases y <;> exact absurd (show false=true from J) ce
def z57:OpR X (compareOp .Lt) (rI0 λi j=>.bl (decide (i<j))):=opB0 λ_ _ _ _ _ _ _ q=>lt_int q
def z58:OpR X (compareOp .LtE) (rI0 λi j=>.bl (decide (i<=j))):=opB0 λ_ _ _ _ _ _ _ q=>le_int q
def z3a:OpR X (compareOp .Gt) (rI0 λi j=>.bl (decide (j<i))):=opB0 λ_ _ _ _ _ _ _ q=>gt_int q
def z59:OpR X (compareOp .GtE) (rI0 λi j=>.bl (decide (j<=i))):=opB0 λ_ _ _ _ _ _ _ q=>ge_int q
def um(b:Expr)(h:op≠.In:=by decide)(h2:op≠.NotIn:=by decide):behindInMarks op b=false:=by
 have D:(op==CmpOp.In)=false:=by cases op <;> first | rfl | exact absurd rfl h
 have I:(op==CmpOp.NotIn)=false:=by cases op <;> first | rfl | exact absurd rfl h2
 cases b <;> simp[behindInMarks,D,I]
def z0a(D:OpR X (compareOp op) r)(J:PE X a ta)(R:PE X b tb)(U:behindInMarks op b=false):PE X (.Compare a [op] [b] pos) (tOp r ta tb):=by
 intro pins s σ H Q I h;exact wpAny_Compare1 (binT J R I h λv u s2 x y H2 V Y Z q=>D pins s2 σ H2 x y v u Q V Y Z q) U
def z3b(t:TE):TT:=λσ H Q=>t σ H λx H'=>∃k,x=.bl k/\Q k H'
def z0b(D:OpR X (compareOp op) r)(J:PE X a ta)(R:PE X b tb)(U:behindInMarks op b=false):PT X (.Compare a [op] [b] pos) (z3b (tOp r ta tb)):=by
 intro pins s σ H Q I h;refine wpAny_isTrue_Compare1 (thn (J pins s σ H _ I h) λv s1 ⟨x,H1,I1,r1,q1⟩=>thn (R pins s1 σ H1 _ I1 q1) λu s2 ⟨y,H2,I2,r2,q2⟩ =>
  thn (D pins s2 σ H2 x y v u _ I2 r1 r2 q2) λc s3 ⟨z,H3,I3,r3,k,e,q3⟩=>?_) U
 subst e;cases r3;exact wpAny_truthy_bool ⟨H3,I3,q3⟩
def xp:(sizeLine:Nat)<2 ^ 63:=by rw[sizeLine_eq];decide
variable{x:V}
def vi(r:Vals [x] us):∃u,us=[u]/\RelV x u:=by
 cases r with
 | cons r1 r2=>cases r2;exact⟨_,rfl,r1⟩
variable{y:V}
def z0c(r:Vals [x,y] us):∃u D,us=[u,D]/\RelV x u/\RelV y D:=by
 cases r with
 | cons r1 r2 =>
   cases r2 with
   | cons r3 r4=>cases r4;exact⟨_,_,rfl,r1,r3⟩
def ztm(J:X.calm=true):oo X (.builtin "max") (λxs H Q=>∃i j,xs=[.int i,.int j]/\Q (.int (if j > i then j else i)) H):=by
 intro pins s σ H xs us Q I r h;obtain⟨i,j,rfl,q⟩:=h;obtain⟨u,R,rfl,⟨t,rfl⟩,⟨t',rfl⟩⟩:=z0c r;refine max_two_ints (I.ok.hd J) λh' tk k=>⟨_,H,I.kept k,?_,q⟩;by_cases D:j > i
 ·rw[if_pos D,if_pos D];exact⟨_,rfl⟩
 ·rw[if_neg D,if_neg D];exact⟨_,rfl⟩
def ztn:oo X (.type "int") (λxs H Q=>(∃i,xs=[.int i]/\Q (.int i) H)\/∃k,xs=[.bl k]/\Q (.int (if k then 1 else 0)) H):=by
 intro pins s σ H xs us Q I r h;rcases h with⟨i,rfl,q⟩ | ⟨k,rfl,q⟩
 ·obtain⟨u,rfl,t,rfl⟩:=vi r
  exact call_int_int ⟨.int i,H,I,⟨_,rfl⟩,q⟩
 ·obtain⟨u,rfl,D⟩:=vi r
  cases D;exact call_int_bool ⟨.int (if k then 1 else 0),H,I.tok _,⟨_,rfl⟩,q⟩
structure ObjM (h:Heap) (x dx C:Addr) (mA:Str->g9):Prop where
 obj:h.get? x=some (PySem.W.instObj C dx)
 ns:h.Ns1 dx mA
 ne:dx≠x
variable{dx:Addr}{mA:Str->g9}
def zto(n:h.Ns1 dx mA):∃od,h.get? dx=some od/\∀name,PySem.W.lookIn name od=some (mA name):=by
 obtain⟨o,es,Z,I,J,R,_,U⟩:=n;refine⟨o,I,λname=>?_⟩;have e:=U name;unfold nsFind findBy at e;rw[<-Array.find?_toList] at e;unfold PySem.W.lookIn;rw[J];dsimp only;split
 ·rename_i y q
  rw[q] at e;exact congrArg some e
 ·rename_i q
  rw[q] at e;have a:es.toList.any (·.refKey)=false:=by
   rw[List.any_eq_false];intro y V;obtain⟨z,t,D⟩:=R y (Array.mem_toList_iff.mp V);simp[DictEntry.refKey,D]
  have Y:¬es.toList.any (·.refKey)=true:=by rw[a];exact ce
  rw[if_neg Y];exact congrArg some e
variable{x:Addr}
def ObjM.look(I:ObjM h x dx C mA):∃od,PySem.W.InstAt h x (PySem.W.instObj C dx) C (some od)/\∀name,PySem.W.lookIn name od=some (mA name) :=
 let ⟨od,D,J⟩:=zto I.ns
 ⟨od,⟨I.obj,rfl,rfl,D⟩,J⟩
variable{prog:Program}{name:Str}
def z0d{D:Bool}(X:K.In s.heap)(I:ObjM s.heap x dx C mA)(U:PySem.W.plainGet K C name=true)(V:PySem.W.hasDictIn K C=true)(Y:PySem.W.findIn K (.ref C) name=some none)(Z:mA name=some v)(R:PySem.W.handedIn v=true)(h:Q v { s with toks:=s.toks+1 }) :
  wpAny (model prog w) A (getAttr (.ref x) name D) Q E s:=by
 obtain⟨od,J,a⟩:=I.look;exact PySem.W.get_value X J (my U).1 (PySem.W.findObj_own V Y rfl (by rw[a,Z])) R h
def zwg{pl:Sem Bool}{Q:Value×g8->Shared->Prop}(X:K.In s.heap)(I:ObjM s.heap x dx C mA)(D:PySem.W.plainGet K C name=true)(R:PySem.W.findIn K (.ref C) name=some (some (.ref f)))(U:PySem.W.isFn K (.ref f)=true)(V:mA name=none)(h:Q (.ref f,[.ref x]) s) :
  wpAny (model prog w) A (getMethod (.ref x) name pl) Q E s:=by
 obtain⟨od,J,Y⟩:=I.look;exact PySem.W.method_fn X J (my D).1 (my D).2 R (beq_iff_eq.mp U) (by show(PySem.W.lookIn name od).map (·.isSome)=some false;rw[Y,V];rfl) h
theorem z0e{c:g7}{Q:Unit->Shared->Prop}(X:K.In s.heap)(I:ObjM s.heap x dx C mA)(d:PySem.W.findIn K (.ref C) "__setattr__" = some (some (.builtin "object.__setattr__")))(e:PySem.W.plainOver K C=true)(f:PySem.W.takerIn K C name=some none)(g:PySem.W.hasDictIn K C=true)(i:PySem.Within mA c)(j:c.length<=sizeLine)(h:∀h',ObjM h' x dx C (λy=>if y=name then some v else mA y)->Heap.SameBut dx s.heap h'->Q () { s with heap:=h',toks:=s.toks+2 }) :
  wpAny (model prog w) A (setAttr (.ref x) name v) Q E s:=by
 obtain⟨od,J,o⟩:=I.look;refine PySem.W.set_plain X J d (PySem.W.osa_open (s:={ s with toks:=s.toks+1 }) (r:=none) X J e f λb=>?_);obtain⟨p,k,U⟩:=PySem.W.any_some g;have l:s.heap.get? x=some ⟨.ref C,some dx,.plain,#[]⟩:=I.obj;refine wpAny_bind (wpAny_pure (wpAny_bind (wpAny_bind (wpAny_loadPart l (wpAny_bind (PySem.W.Looks.here (s:={ s with toks:=s.toks+1 }) (PySem.W.looks_clsIn X k) ?_))))));rw[U];refine wpAny_pure (a:=some dx) (wpAny_bind (wpAny_pure (wpAny_bind ?_)));refine wpAny_nsSet1 (s:={ s with toks:=s.toks+1 }) I.ns λh' D R=>?_;obtain⟨q,m,n,V,Y,Z⟩:=D.count (PySem.Within.cons name v i);refine wpAny_bind (wpAny_lookBehind V (by rw[Y];exact pastItsLine_dict (df Z (by rw[am];lia))) ?_);exact wpAny_pure (h _ ⟨(R.2 _ (Ne.symm I.ne)).trans I.obj,D,I.ne⟩ R)
variable{kw:List (Str×Value)}
def zwh{R:Result->Shared->Prop}{vs:g8}(X:K.In s.heap)(I:PySem.W.makesIn K C=true)(hi:PySem.W.findIn K (.ref C) "__init__" = some (some (.ref f)))(J:PySem.W.typeIn K (.ref f)=some (.type "function"))(h:codeAny (model prog w) (A.under (.builtin "type.__call__" ⟨.ref C::vs,kw⟩)) (.call (.ref f) ⟨.ref (s.heap.objs.size+1)::vs,kw⟩) (PySem.W.InitBack (s.heap.objs.size+1) R)
   { s with heap:=(s.heap.push PySem.W.emptyDict).push (PySem.W.instObj C s.heap.objs.size) }) :
  codeAny (model prog w) A (.call (.ref C) ⟨vs,kw⟩) R s:=by
 obtain⟨U,g,d,t,os⟩:=s;exact PySem.W.make_core (PySem.W.makes_of X I) (PySem.W.looks_findIn X hi) (λD=>PySem.W.bind_fn X D J) (.inl rfl) h
def putF(f:Str)(v:V):List (Str×V)->List (Str×V)
 | []=>[(f,v)]
 | (g,x)::r=>if g=f then(g,v)::r else(g,x)::putF f v r
def zk9(f g:Str)(v:V):∀fs:List (Str×V),(putF f v fs).lookup g=if g=f then some v else fs.lookup g
 | []=>by
   show List.lookup g [(f,v)]=_;by_cases h:g=f
   ·have D:(g==f)=true:=beq_iff_eq.mpr h
    simp only[List.lookup,D,if_pos h]
   ·have D:(g==f)=false:=beq_eq_false_iff_ne.mpr h
    simp only[List.lookup,D,if_neg h]
 | (k,x)::r=>by
   have J:=zk9 f g v r;rw[show putF f v ((k,x)::r)=(if k=f then(k,v)::r else(k,x)::putF f v r) from rfl];by_cases I:k=f
   ·rw[if_pos I]
    by_cases h:g=k
    ·have D:(g==k)=true:=beq_iff_eq.mpr h
     simp only[List.lookup,D,if_pos (h.trans I)]
    ·have D:(g==k)=false:=beq_eq_false_iff_ne.mpr h
     simp only[List.lookup,D,if_neg (λe:g=f=>h (e.trans I.symm))]
   ·rw[if_neg I]
    by_cases h:g=k
    ·have D:(g==k)=true:=beq_iff_eq.mpr h
     simp only[List.lookup,D,if_neg (λe:g=f=>I (h.symm.trans e))]
    ·have D:(g==k)=false:=beq_eq_false_iff_ne.mpr h
     simp only[List.lookup,D];exact J
def zla(f:Str)(v:V):∀fs:List (Str×V),f∈(putF f v fs).map (·.1)/\∀g,g∈fs.map (·.1)->g∈(putF f v fs).map (·.1)
 | []=>⟨by simp[putF],λg h=>by simp at h⟩
 | (k,x)::r=>by
   obtain⟨I,J⟩:=zla f v r;rw[show putF f v ((k,x)::r)=(if k=f then(k,v)::r else(k,x)::putF f v r) from rfl];by_cases D:k=f
   ·rw[if_pos D]
    subst D;exact⟨by simp,λg h=>by simpa using h⟩
   ·rw[if_neg D]
    refine⟨?_,λg h=>?_⟩
    ·rw[ci]
     exact ay _ I
    ·rw[ci] at h ⊢
     rcases cb.mp h with e | e
     ·exact cb.mpr (.inl e)
     ·exact ay _ (J g e)
theorem zlb(f:Str)(v:V):∀fs:List (Str×V),(putF f v fs).length<=fs.length+1
 | []=>by simp[putF]
 | (k,x)::r=>by
   have I:=zlb f v r;rw[show putF f v ((k,x)::r)=(if k=f then(k,v)::r else(k,x)::putF f v r) from rfl];by_cases D:k=f
   ·rw[if_pos D,am,am];lia
   ·rw[if_neg D,am,am];lia
variable{o:g9}{v:V}
def RelO.some_of(r:RelO (some v) o):∃u,o=some u/\RelV v u:=by
 cases o with
 | none=>exact(show False from r).elim
 | some u=>exact⟨u,rfl,r⟩
def RelO.none_of(r:RelO none o):o=none:=by
 cases o with
 | none=>rfl
 | some u=>exact(show False from r).elim
def ztp(r:RelV v u):PySem.W.handedIn u=true:=by
 cases v with
 | non=>cases (show u=Value.none from r);rfl
 | bl b=>cases (show u=Value.bool b from r);rfl
 | int i=>obtain⟨t,e⟩:=(show ∃t,u=Value.int i t from r);cases e;rfl
 | str x=>obtain⟨t,e⟩:=(show ∃t,u=Value.str x t from r);cases e;rfl
 | byt b=>obtain⟨t,e⟩:=(show ∃t,u=Value.bytes b t from r);cases e;rfl
 | flt b=>obtain⟨t,e⟩:=(show ∃t,u=Value.float b t from r);cases e;rfl
 | ref a=>cases (show u=Value.ref a from r);rfl
 | ty n=>cases (show u=Value.type n from r);rfl
variable{a:Addr}{fs:List (Str×V)}
def zmx(D:HOk P w H h)(e:H a=some (.ins C dx fs)):∃mA,ObjM h a dx C mA/\(∀f,RelO (fs.lookup f) (mA f))/\PySem.Within mA (fs.map (·.1))/\fs.length<=1000/\H dx=some (.own a):=by
 obtain⟨d,z,I,J,mA,n,r,q⟩:=(show ObjOk P w H h a (.ins C dx fs) from D a _ e);exact⟨mA,⟨J,n,I⟩,r,q,z,d⟩
structure Cls (K:kf) (C:Addr):Prop where
 pg:PySem.W.plainGet K C Str.empty=true
 hd:PySem.W.hasDictIn K C=true
 po:PySem.W.plainOver K C=true
 sa:PySem.W.findIn K (.ref C) "__setattr__" = some (some (.builtin "object.__setattr__"))
def Cls.get(c:Cls K C)(f:Str):PySem.W.plainGet K C f=true:=c.pg
def NoAttr(K:kf)(C:Addr)(f:Str):Prop:=PySem.W.findIn K (.ref C) f=some none
variable{f:Str}
def NoAttr.taker(n:NoAttr K C f):PySem.W.takerIn K C f=some none:=by
 unfold PySem.W.takerIn;rw[show PySem.W.findIn K (.ref C) f=some none from n];rfl
structure Con (K:kf) (C:Addr) (f:Str) (v:V) (u:Value):Prop where
 at_:PySem.W.findIn K (.ref C) f=some (some u)
 rel:RelV v u
 get:PySem.W.specialIn K u "__get__" = some none
 cp:PySem.W.copiedNames.contains f=false
structure Meth (K:kf) (C:Addr) (m:Str) (f:Addr):Prop where
 at_:PySem.W.findIn K (.ref C) m=some (some (.ref f))
 fn:PySem.W.isFn K (.ref f)=true
 kp:PySem.W.keepIn K (.ref f)=true
variable{b:Bool}
def zsg(I:Inv X pins σ H s)(e:H a=some (.ins C dx fs))(c:Cls X.K C)(n:NoAttr X.K C f)(l:fs.lookup f=some v)(h:∀u s',Inv X pins σ H s'->RelV v u->Q u s'):wpAny (model X.prog X.w) A (getAttr (.ref a) f b) Q E s:=by
 obtain⟨mA,O,r,_,_,_⟩:=zmx I.hok e;obtain⟨u,J,D⟩:=RelO.some_of (v:=v) (o:=mA f) (by rw[<-l];exact r f);exact z0d I.kIn O (c.get f) c.hd n J (ztp D) (h u _ (I.tok _) D)
def zmd{m:Str}{g:Addr}{pl:Sem Bool}{Q:Value×g8->Shared->Prop}(I:Inv X pins σ H s)(e:H a=some (.ins C dx fs))(c:Cls X.K C)(k:Meth X.K C m g)(l:fs.lookup m=none)(h:Q (.ref g,[.ref a]) s):wpAny (model X.prog X.w) A (getMethod (.ref a) m pl) Q E s:=by
 obtain⟨mA,O,r,_,_,_⟩:=zmx I.hok e;have D:mA m=none:=RelO.none_of (by rw[<-l];exact r m);exact zwg I.kIn O (c.get m) k.at_ k.fn D h
theorem zsh{Q:Unit->Shared->Prop}(I:Inv X pins σ H s)(e:H a=some (.ins C dx fs))(c:Cls X.K C)(n:NoAttr X.K C f)(d:fs.length<1000)(J:RelV y u)(h:∀s',Inv X pins σ (upd H a (.ins C dx (putF f y fs))) s'->Q () s'):wpAny (model X.prog X.w) A (setAttr (.ref a) f u) Q E s:=by
 obtain⟨mA,O,r,wi,_,D⟩:=zmx I.hok e;have R:(fs.map (·.1)).length<=sizeLine:=by rw[ah,sizeLine_eq];lia
 refine z0e I.kIn O c.sa c.po n.taker c.hd wi R λh' O' U=>h _ ?_;have V:∃o,h'.get? dx=some o:=let ⟨o,_,_,e',_⟩:=O'.ns;⟨o,e'⟩;refine I.write (x:=a) (e:=dx) (by rw[e];exact True.intro) (.inr D) (λb q Y z=>(U.2 b Y).trans z) V ?_;refine⟨by rw[gm O.ne];exact D,?_,O.ne,O'.obj,_,O'.ns,λg=>?_,λg Z=>?_⟩
 ·have:=zlb f y fs;lia
 ·show RelO ((putF f y fs).lookup g) (if g=f then some u else mA g)
  rw[zk9];by_cases q:g=f
  ·rw[if_pos q,if_pos q];exact J
  ·rw[if_neg q,if_neg q];exact r g
 ·by_cases q:g=f
  ·rw[q];exact(zla f y fs).1
  ·refine(zla f y fs).2 g (wi g λz=>Z ?_)
   show(if g=f then some u else mA g)=none;rw[if_neg q];exact z
def Inv.made(I:Inv X pins σ H s):Inv X pins σ (upd (upd H s.heap.objs.size (.own (s.heap.objs.size+1))) (s.heap.objs.size+1) (.ins C s.heap.objs.size []))
  { s with heap:=(s.heap.push PySem.W.emptyDict).push (PySem.W.instObj C s.heap.objs.size) }:=by
 have D:(s.heap.push PySem.W.emptyDict).get? s.heap.objs.size=some PySem.W.emptyDict:=cf s.heap rfl;have R:((s.heap.push PySem.W.emptyDict).push (PySem.W.instObj C s.heap.objs.size)).get? (s.heap.objs.size+1)=some (PySem.W.instObj C s.heap.objs.size):=by
  have:=cf (s.heap.push PySem.W.emptyDict) (o:=PySem.W.instObj C s.heap.objs.size) rfl;rwa [i6] at this
 have U:(s.heap.push PySem.W.emptyDict).Ns s.heap.objs.size (λ_=>none):=⟨PySem.W.emptyDict,#[],_,D,rfl,(λe V=>absurd V (by simp)),λ_=>rfl⟩;have Y:=I.laid (a:=s.heap.objs.size) (o:=.own (s.heap.objs.size+1)) (h':=s.heap.push PySem.W.emptyDict) (t':=s.toks) (λb u q=>aq _ q) (b7 _) ⟨_,D⟩;refine Y.laid (a:=s.heap.objs.size+1) (o:=.ins C s.heap.objs.size []) (t':=s.toks) (λb u q=>aq _ q) (Nat.le_of_eq (i6 _ _)) ?_;have J:s.heap.objs.size≠s.heap.objs.size+1:=b9 (fg _);refine⟨by rw[gm J,ki],gp _,J,R,λ_=>none,(Heap.Ns1.of_empty U).at λo q=>aq _ q,λ_=>True.intro,λy Z=>absurd rfl Z⟩
def z0f{env:Env}(I:attributeBase e f env (eval e env)=eval e env)(h:wpAny (model prog w) A (eval e env) (λo D=>wpAny (model prog w) A (getAttr o f true) Q E D) E s):wpAny (model prog w) A (eval (.Attribute e f pos) env) Q E s :=
 Attribute_any_ h (by rw[arm_eval_Attribute,I])
def tFld(K:kf)(ta:TE)(f:Str):TE:=λσ H Q=>ta σ H λx H1=>∃a C dx fs v,x=.ref a/\H1 a=some (.ins C dx fs)/\Cls K C/\NoAttr K C f/\fs.lookup f=some v/\Q v H1
def sFld(K:kf)(ta tv:TE)(f:Str):TS:=λD σ H=>tv σ H λy H1=>ta σ H1 λx H2=>∃a C dx fs,x=.ref a/\H2 a=some (.ins C dx fs)/\Cls K C/\NoAttr K C f/\fs.length<1000 /\
 D.nx σ (upd H2 a (.ins C dx (putF f y fs)))
def zyx(D:PE X e ta)(J:attributeBase e f X.env (eval e X.env)=eval e X.env):PE X (.Attribute e f pos) (tFld X.K ta f):=by
 intro pins s σ H Q I h;refine z0f J (thn (D pins s σ H _ I h) λu b R=>?_);obtain⟨x,H1,U,V,a,C,dx,fs,v,ex,ea,c,n,l,q⟩:=R;subst ex;obtain rfl:u=Value.ref a:=V;exact zsg U ea c n l λd s2 Y Z=>⟨v,H1,Y,Z,q⟩
variable{o value:Expr}{tv:TE}
def z3c(R:PE X o ta)(U:PE X value tv)(V:swapsWith value (some (.Attribute o f pos')) pos.line X.env=pure false):PS X (.Assign [.Attribute o f pos'] value pos) (sFld X.K ta tv f):=by
 intro pins s σ H D I h;refine plainObj_wpAny_Assign_Attribute (thn (U pins s σ H _ I h) λu Y J=>?_) V;obtain⟨y,H1,Z,b,q⟩:=J;refine thn (R pins Y σ H1 _ Z q) λd s2 J=>?_;obtain⟨x,H2,e,g,a,C,dx,fs,ex,ea,c,n,l,i⟩:=J;subst ex;obtain rfl:d=Value.ref a:=g;exact zsh e ea c n l b λk j=>⟨σ,_,j,i⟩
inductive TyOf (K:kf) (H:Hp):V->Value->Prop where
 | non:TyOf K H .non (.type "NoneType")
 | bl (x:Bool):TyOf K H (.bl x) (.type "bool")
 | int (i:Int):TyOf K H (.int i) (.type "int")
 | str (x:Str):TyOf K H (.str x) (.type "str")
 | flt (x:UInt64):TyOf K H (.flt x) (.type "float")
 | lst {a:Addr} {xs:k7} (e:H a=some (.lst xs)):TyOf K H (.ref a) (.type "list")
 | frz {a:Addr} {o:Obj} {xs:k7} (e:H a=some (.frz o (.lst xs))):TyOf K H (.ref a) (.type "list")
 | tup {a:Addr} {xs:k7} (e:H a=some (.tup xs)):TyOf K H (.ref a) (.type "tuple")
 | dK {a:Addr} {kvs:List (Key×V)} (e:H a=some (.dK kvs)):TyOf K H (.ref a) (.type "dict")
 | dT {a:Addr} {kvs:List (List Key×V)} (e:H a=some (.dT kvs)):TyOf K H (.ref a) (.type "dict")
 | ins {a C dx:Addr} {fs:List (Str×V)} (e:H a=some (.ins C dx fs)) (cl:Cls K C) (ha:PySem.W.findIn K (.ref C) "__class__" = some (some (.builtin "object.__class__")))
    (hn:PySem.W.specialIn K (.builtin "object.__class__") "__get__" = some (some (.builtin "getset_descriptor.__get__"))) (htk:PySem.W.takesIn K (.builtin "object.__class__")=some true)
    (hm:PySem.W.mroIn K C (.type "object")=some true):TyOf K H (.ref a) (.ref C)
variable{x:Str}
def ztq{x:V}{t:Value}(I:Inv X pins σ H s)(D:RelV x u)(R:TyOf X.K H x t)(e:PySem.W.kitOne X.K t c=some b)(h:∀tk,Q (.bool b) { s with toks:=tk }) :
  wpAny (model X.prog X.w) A (call (.builtin "isinstance") [u,c]) Q E s:=by
 cases R with
 | non=>cases (show u=Value.none from D);exact d8 PySem.W.kitx_none I.kIn True.intro e (λz=>nomatch z) h
 | bl y=>cases (show u=Value.bool y from D);exact d8 PySem.W.kitx_bool I.kIn True.intro e (λz=>nomatch z) h
 | int i=>obtain⟨t,q⟩:=(show ∃t,u=Value.int i t from D);cases q;exact d8 PySem.W.kitx_int I.kIn True.intro e (λz=>nomatch z) h
 | str y=>obtain⟨t,q⟩:=(show ∃t,u=Value.str y t from D);cases q;exact d8 PySem.W.kitx_str I.kIn True.intro e (λz=>nomatch z) h
 | flt y=>obtain⟨t,q⟩:=(show ∃t,u=Value.float y t from D);cases q;exact d8 PySem.W.kitx_float I.kIn True.intro e (λz=>nomatch z) h
 | @lst a xs ea =>
   cases (show u=Value.ref a from D);obtain⟨_,_,n,_,h1⟩:=(show ObjOk X.prog X.w H s.heap a (.lst xs) from I.hok a _ ea);exact d8 oa I.kIn ⟨_,h1,rfl⟩ e (λz=>nomatch z) h
 | @frz a ob xs ea =>
   cases (show u=Value.ref a from D);obtain⟨_,_,_,n,_,h1⟩:=(show ObjOk X.prog X.w H s.heap a (.frz ob (.lst xs)) from I.hok a _ ea);exact d8 oa I.kIn ⟨_,h1,rfl⟩ e (λz=>nomatch z) h
 | @tup a xs ea =>
   cases (show u=Value.ref a from D);obtain⟨_,_,_,p⟩:=(show ObjOk X.prog X.w H s.heap a (.tup xs) from I.hok a _ ea);obtain⟨o,h1,h2,_⟩:=p;exact d8 PySem.W.kitx_tuple I.kIn ⟨o,h1,h2⟩ e (λz=>nomatch z) h
 | @dK a kvs ea =>
   cases (show u=Value.ref a from D);obtain⟨_,_,vs,_,p⟩:=(show ObjOk X.prog X.w H s.heap a (.dK kvs) from I.hok a _ ea);obtain⟨o,es,U,h1,h2,_⟩:=p;exact d8 PySem.W.kitx_dict I.kIn ⟨o,h1,h2.1⟩ e (λz=>nomatch z) h
 | @dT a kvs ea =>
   cases (show u=Value.ref a from D);obtain⟨_,_,xs,_,o,es,U,h1,h2,_⟩:=(show ObjOk X.prog X.w H s.heap a (.dT kvs) from I.hok a _ ea);exact d8 PySem.W.kitx_dict I.kIn ⟨o,h1,h2.1⟩ e (λz=>nomatch z) h
 | @ins a C dx fs ea cl ha hn htk hm =>
   cases (show u=Value.ref a from D);obtain⟨mA,O,_⟩:=zmx I.hok ea;obtain⟨od,J,_⟩:=O.look;exact d8 (PySem.W.kitx_own (cl.get _) cl.hd ha hn htk hm) I.kIn J e (λz=>nomatch z) h
structure Room (k:Nat) (A:Around):Prop where
 hd:A.handled=none
 dp:A.depth+3*k+5<recursionLimit
 un:A.units+16*k+200<cLine
theorem Room.mono{j:Nat}(r:Room k A)(h:j<=k):Room j A:=⟨r.hd,by have:=r.dp;lia,by have:=r.un;lia⟩
theorem Room.deeper(r:Room (k+1) A)(env:Env):Room k (A.deeper env) :=
 ⟨r.hd,by have:=r.dp;show A.depth+1+3*k+5<_;lia,by have:=r.un;show A.units+3+16*k+200<_;lia⟩
def zsi:(A.under (.builtin "type.__call__" ⟨.ref C::us,kw⟩)).depth=A.depth+1:=by
 first | rfl | simp[Around.under,Code.weight,Code.isCreation,Code.isGuard,Code.isCaller,Code.frames,Code.isFrame,guardIds]
def zsj:(A.under (.builtin "type.__call__" ⟨.ref C::us,kw⟩)).units=A.units+1:=by
 first | rfl | simp[Around.under,Code.cUnits,Code.frames,Code.isFrame]
theorem Room.make(r:Room (k+1) A)(C:Addr)(us:g8)(kw:List (Str×Value)):Room k (A.under (.builtin "type.__call__" ⟨.ref C::us,kw⟩)) :=
 ⟨r.hd,by have:=r.dp;rw[zsi];lia,by have:=r.un;rw[zsj];lia⟩
theorem Room.depth(r:Room k A):A.depth<recursionLimit:=by have:=r.dp;lia
def tNil:TA:=λ_ H Q=>Q [] H
def z3d(ta:TE)(tr:TA):TA:=λσ H Q=>ta σ H λx H1=>tr σ H1 λxs H2=>Q (x::xs) H2
def o5:PA X [] tNil:=λ_ _ _ _ H Q I h=>Calls.spliced_nil ⟨[],H,I,.nil,h⟩
def mr(D:PE X e te)(J:PA X es t)(R:starEach (e::es) X.env=(false,eval e X.env)::starEach es X.env:=by rfl):PA X (e::es) (z3d te t):=by
 intro pos pins s σ H Q I h;rw[R];show wpAny _ _ (spliced ((false,eval e X.env)::backTo pos (starEach es X.env))) _ _ s;refine Calls.spliced_cons (thn (D pins s σ H _ I h) λu U V=>?_);obtain⟨x,H1,Y,Z,a⟩:=V;exact thn (J pos pins U σ H1 _ Y a) λus s2 ⟨xs,H2,I2,r2,q2⟩=>⟨x::xs,H2,I2,.cons Z r2,q2⟩
def tTup(t:TA):TE:=λσ H Q=>t σ H λxs H1=>xs.length<=sizeLine/\∀p,H1 p=none->Q (.ref p) (upd H1 p (.tup xs))
def tLst(t:TA):TE:=λσ H Q=>t σ H λxs H1=>xs.length<=sizeLine/\∀p,H1 p=none->Q (.ref p) (upd H1 p (.lst xs))
def z3e{x1}(h:PA X es t):PE X (.Tuple es x1 pos) (tTup t):=by
 intro pins s σ H Q I R;refine wpAny_Tuple_spliced (thn (h pos pins s σ H _ I R) λus D U=>?_);obtain⟨xs,H1,J,r,z,q⟩:=U;refine⟨by rw[<-r.length];exact z,?_⟩;have V:H1 D.heap.objs.size=none:=J.hok.fresh (b7 _);refine⟨.ref D.heap.objs.size,upd H1 D.heap.objs.size (.tup xs),J.laid (t':=D.toks) (λb u e=>aq _ e) (b7 _) ?_,rfl,q _ V⟩;exact⟨z,us,r,⟨_,cf _ rfl,rfl,_,rfl⟩⟩
def zyy(h:PA X es t):PE X (.List es pos) (tLst t):=by
 intro pins s σ H Q I R;refine wpAny_List_spliced (thn (h pos pins s σ H _ I R) λus D U=>?_);obtain⟨xs,H1,J,r,z,q⟩:=U;refine⟨by rw[<-r.length];exact z,?_⟩;have V:H1 D.heap.objs.size=none:=J.hok.fresh (b7 _);refine⟨.ref D.heap.objs.size,upd H1 D.heap.objs.size (.lst xs),J.laid (t':=D.toks) (λb u e=>aq _ e) (b7 _) ?_,rfl,q _ V⟩;exact⟨z,us,0,r,cf _ rfl⟩
abbrev Sp:=k7->Hp->VK->XK->Prop
abbrev CXT:=ic->Hp->Shared->XK->Value->Shared->Prop
structure Env0 (P:Program) (w:World) (K:kf) (mg:Str->g9) (base:Heap) (A:Around) (outer:ic) (s:Shared) (H:Hp):Prop where
 frames:A.frames=some outer
 mod:Mod K mg base
 bs:∀b o,base.get? b=some o->s.heap.get? b=some o/\H b=none
 bsz:base.objs.size<=s.heap.objs.size
 funs:s.heap.FunFrames base outer
 frf:∀b∈frs outer,H b=none
 hok:HOk P w H s.heap
 bare:AllBare s.gens
def CE(outer:ic)(P:Program)(w:World)(H:Hp)(s:Shared)(Q:VK)(u:Value)(s':Shared):Prop :=
 ∃v H',s'.os=s.os/\AllBare s'.gens/\Un (frs outer) [] H H' s.heap s'.heap/\HOk P w H' s'.heap/\RelV v u/\Q v H'
def CR(CX:CXT)(outer:ic)(P:Program)(w:World)(H:Hp)(s:Shared)(Q:VK)(E:XK)(r:Result)(s':Shared):Prop :=
 match r with
 | .ok (.ret u)=>CE outer P w H s Q u s'
 | .ok _=>False
 | .error e=>CX outer H s E e s'
structure FnOk (P:Program) (w:World) (K:kf) (mg:Str->g9) (base:Heap) (CX:CXT) (k:Nat) (f:Addr) (fd:FuncData) (ps:g7) (sp:Sp):Prop where
 len:∀vs H Q E,sp vs H Q E->vs.length=ps.length
 run:∀(A:Around) (outer:ic) (s:Shared) (H:Hp) (args:Args) (us:g8) (vs:k7) (Q:VK) (E:XK),Room k A->Env0 P w K mg base A outer s H->BindsTo s fd args (ps.zip us)->Vals vs us->sp vs H Q E ->
  codeAny (model P w) A (.call (.ref f) args) (CR CX outer P w H s Q E) s
variable{f:Addr}{mg:Str->g9}{base:Heap}{CX:CXT}{fd:FuncData}{ps:g7}{sp:Sp}
theorem FnOk.imp{D:Sp}(F:FnOk P w K mg base CX k f fd ps sp)(h:∀vs H Q E,D vs H Q E->sp vs H Q E):FnOk P w K mg base CX k f fd ps D :=
 ⟨λvs H Q E q=>F.len vs H Q E (h _ _ _ _ q),λA outer s H args us vs Q E I J R U V=>F.run A outer s H args us vs Q E I J R U (h _ _ _ _ V)⟩
variable{outer:ic}
def Env0.make(e:Env0 P w K mg base A outer s H)(C:Addr)(us:g8)(kw:List (Str×Value)) :
  Env0 P w K mg base (A.under (.builtin "type.__call__" ⟨.ref C::us,kw⟩)) outer s H:=⟨by first | exact e.frames | (simpa[Around.under,Code.envs,Code.isFrame,pushEnvs] using e.frames),e.mod,e.bs,e.bsz,e.funs,e.frf,e.hok,e.bare⟩
protected def Inv.env0(I:Inv X pins σ H s):Env0 X.prog X.w X.K X.mg X.base X.A X.stack s H :=
 ⟨I.ok.frames,I.ok.mod,I.bs,df I.ok.bsz I.sz,I.stack,I.stkFree,I.hok,I.bare⟩
variable{Q:VK}
def Inv.after(I:Inv X pins σ H s)(h:CE X.stack X.prog X.w H s Q u s'):EP X pins σ Q u s':=by
 obtain⟨v,H',os,D,un,J,r,q⟩:=h;obtain⟨U,g,d,t,R⟩:=s';obtain rfl:R=s.os:=os;exact⟨v,H',I.call (h':=U) (g':=g) (d':=d) (t':=t) (ch:=[]) un J D (λb z=>absurd z (by simp)),r,q⟩
def za(sp:Sp)(dvs:k7)(E:XK)(t:TA):TE:=λσ H Q=>t σ H λvs H1=>sp (vs++dvs) H1 Q E
def Binds(K:kf)(fd:FuncData)(ps:g7)(ds:g8):Prop :=
 ∀(s:Shared) (us:g8),K.In s.heap->(us++ds).length=ps.length->BindsTo s fd ⟨us,[]⟩ (ps.zip (us++ds))
def Binds.all(h:∀us:g8,us.length=ps.length->bindArgs fd ⟨us,[]⟩=pure (ps.zip us)):Binds K fd ps []:=λs us _ D=>by
 rw[de] at D ⊢;exact .of_eq (h us D)
def zts(CX:CXT)(X:Cx)(E:XK):Prop:=∀(pins:k4) (σ:St) (H:Hp) (s:Shared) (e:Value) (s':Shared),Inv X pins σ H s->CX X.stack H s E e s'->X.xe e s'
variable{E:XK}{dvs:k7}{ds:g8}
theorem z3f(F:FnOk X.prog X.w X.K X.mg X.base CX k f fd ps sp)(R:Room k X.A)(U:Binds X.K fd ps ds)(V:Vals dvs ds)(Y:zts CX X E)(I:Inv X pins σ H s)(r:Vals vs us)(h:sp (vs++dvs) H Q E):wpAny (model X.prog X.w) X.A (call (.ref f) us) (EP X pins σ Q) X.xe s:=by
 have J:Vals (vs++dvs) (us++ds):=r.append V;have Z:(us++ds).length=ps.length:=by rw[<-J.length];exact F.len _ _ _ _ h
 refine wpAny_call (codeAny_mono (F.run X.A X.stack s H ⟨us,[]⟩ (us++ds) (vs++dvs) Q E R I.env0 (U s us I.kIn Z) J h) λr s' D=>?_);cases r with
 | error e=>exact Y pins σ H s e s' I D
 | ok fl =>
   cases fl with
   | ret u=>exact I.after D
   | next=>exact False.elim D
   | brk=>exact False.elim D
   | cont=>exact False.elim D
def zmy(F:FnOk X.prog X.w X.K X.mg X.base CX k f fd ps sp)(U:Room k X.A)(V:Gl X x)(Y:X.mg x=some (.ref f))(Z:PySem.W.keepIn X.K (.ref f)=true)(a:Binds X.K fd ps ds)(b:Vals dvs ds)(c:zts CX X E)(d:PA X (e::es) t)(D:(x==("__debug__" : Str))=false:=by decide)(g:starEach (e::es) X.env=(false,eval e X.env)::starEach es X.env:=by rfl)(J:(backTo pos (starEach es X.env)).any (·.1)=false:=by rfl) :
  PE X (.Call (.Name x p) (e::es) [] pos) (za sp dvs E t):=by
 intro pins s σ H Q I h;refine wpAny_Call_Name_kw (vq I V Y ?_ D);refine jb (h₀:=X.base) I.ok.mod.kin Z (thn (d pos pins s σ H _ I h) λus j i=>?_) g J;obtain⟨vs,H1,R,r,q⟩:=i;refine⟨R.kIn,?_⟩;exact z3f F U a b c R r q
structure Mk (K:kf) (C f:Addr):Prop where
 makes:PySem.W.makesIn K C=true
 init:PySem.W.findIn K (.ref C) "__init__" = some (some (.ref f))
 fn:PySem.W.isFn K (.ref f)=true
 kp:PySem.W.keepIn K (.ref C)=true
def PK(X:Cx)(kws:List Keyword)(t:TA):Prop :=
 ∀(pos:Pos) (pins:k4) (s:Shared) (σ:St) (H:Hp) (Q:k7->Hp->Prop),Inv X pins σ H s->t σ H Q->wpAny (model X.prog X.w) X.A (evalAll ((backToKw pos (keywordEach kws X.env)).map (·.2))) (AP X pins σ Q) X.xe s
section
variable {X:Cx} {CX:CXT} {k:Nat} {f C:Addr} {fd:FuncData} {ps ks:g7} {sp:Sp} {E:XK} {x m:Str} {p pos apos kpos:Pos} {e o:Expr} {es:ik} {kws:List Keyword} {te ta:TE} {t tk:TA} {nm:ka}
def z3g:PK X [] tNil:=λ_ _ _ _ H Q I h=>wpAny_evalAll_nil ⟨[],H,I,.nil,h⟩
def z0g(D:PE X e te)(J:PK X kws t):PK X (⟨nm,e,kpos⟩::kws) (z3d te t):=by
 intro pos pins s σ H Q I h;show wpAny _ _ (evalAll ((do let v <-eval e X.env;standAt pos;pure v)::(backToKw pos (keywordEach kws X.env)).map (·.2))) _ _ s;refine wpAny_evalAll_cons (wpAny_bind (thn (D pins s σ H _ I h) λu R U=>?_));obtain⟨x,H1,V,Y,Z⟩:=U;refine wpAny_bind (wpAny_standAt (wpAny_pure ?_));exact thn (J pos pins R σ H1 _ V Z) λus s2 ⟨xs,H2,I2,r2,q2⟩=>⟨x::xs,H2,I2,.cons Y r2,q2⟩
structure z7f (K:kf) (fd:FuncData) (ps ks:g7) (g:g8->g8->g8) (gV:k7->k7->k7):Prop where
 to:∀(s:Shared) (us ws:g8),K.In s.heap->(g us ws).length=ps.length->BindsTo s fd ⟨us,ks.zip ws⟩ (ps.zip (g us ws))
 rel:∀ {vs:k7} {us:g8} {zs:k7} {ws:g8},Vals vs us->Vals zs ws->Vals (gV vs zs) (g us ws)
variable {g:g8->g8->g8} {gV:k7->k7->k7}
end
structure pj (N P:g7) (sc:Scope):Prop where
 kind:sc.kind=.function
 co:sc.isCoroutine=false
 gen:sc.isGenerator=false
 nd:N.Nodup
 pre:N.take P.length=P
 par:∀x∈P,sc.names.lookup x=some .local\/sc.names.lookup x=some .cell
 nofree:∀y∈sc.names,y.2≠.free
def zod{kindOf:Str->Option NameKind}{x:Str}:∀ {D:List (Str×Value)} {m:Str->g9},(∀v,(x,v)∉D)->bindL kindOf D m x=m x
 | [],_,_=>rfl
 | (n,v)::r,m,h=>by
   unfold bindL;rw[zod λw I=>h w (ay _ I)];split
   ·have:x≠n:=by rintro rfl;exact h v bq
    simp[this]
   ·rfl
def zoe{kindOf:Str->Option NameKind}{x:Str}:∀ {D:List (Str×Value)} {m:Str->g9},(∀v,(x,v)∉D)->bindC kindOf D m x=m x
 | [],_,_=>rfl
 | (n,v)::r,m,h=>by
   unfold bindC;rw[zoe λw I=>h w (ay _ I)];split
   ·rfl
   ·have:x≠n:=by rintro rfl;exact h v bq
    simp[this]
def zof{kindOf:Str->Option NameKind}{x:Str}{v:Value}:∀ {P:g7} {vs:g8} {i:Nat} {m:Str->g9},P.Nodup->P[i]?=some x->vs[i]?=some v->kindOf x=some .local ->
  bindL kindOf (P.zip vs) m x=some v
 | [],_,_,_,_,h,_,_=>by simp at h
 | _::_,[],_,_,_,_,h,_=>by simp at h
 | p::P,w::vs,0,m,nd,h1,h2,hk=>by
   simp at h1 h2;subst h1;subst h2;show bindL kindOf ((p,w)::P.zip vs) m p=_;unfold bindL;rw[zod λv D=>(bw.mp nd).1 (js D).1,if_pos hk];simp
 | p::P,w::vs,i+1,m,nd,h1,h2,hk=>by
   show bindL kindOf ((p,w)::P.zip vs) m x=_;unfold bindL;exact zof (i:=i) (bw.mp nd).2 (by simpa using h1) (by simpa using h2) hk
def zog{kindOf:Str->Option NameKind}{x:Str}{v:Value}:∀ {P:g7} {vs:g8} {i:Nat} {m:Str->g9},P.Nodup->P[i]?=some x->vs[i]?=some v->kindOf x≠some .local ->
  bindC kindOf (P.zip vs) m x=some v
 | [],_,_,_,_,h,_,_=>by simp at h
 | _::_,[],_,_,_,_,h,_=>by simp at h
 | p::P,w::vs,0,m,nd,h1,h2,hk=>by
   simp at h1 h2;subst h1;subst h2;show bindC kindOf ((p,w)::P.zip vs) m p=_;unfold bindC;rw[zoe λv D=>(bw.mp nd).1 (js D).1,if_neg hk];simp
 | p::P,w::vs,i+1,m,nd,h1,h2,hk=>by
   show bindC kindOf ((p,w)::P.zip vs) m x=_;unfold bindC;exact zog (i:=i) (bw.mp nd).2 (by simpa using h1) (by simpa using h2) hk
def start(N:g7)(vs:k7):St:=vs.map some++List.replicate (N.length-vs.length) none
def cxOf(CX:CXT)(P:Program)(w:World)(K:kf)(mg:Str->g9)(base:Heap)(N:g7)(qual:Str)(scope:Scope)(f:Addr)(I:Value)(A:Around)(outer:ic)(s:Shared)(H:Hp)(E:XK):Cx where
 prog:=P
 w:=w
 K:=K
 mg:=mg
 base:=base
 A:=A.deeper (envOfC qual scope s.heap.objs.size f I)
 N:=N
 s₀:=s
 H₀:=H
 env:=envOfC qual scope s.heap.objs.size f I
 outer:=outer
 stack:=envOfC qual scope s.heap.objs.size f I::outer
 ex:=[]
 calm:=true
 fn:=λ_=>true
 pn:=[]
 xe:=λe s'=>wpAny (model P w) (A.deeper (envOfC qual scope s.heap.objs.size f I)) (leaving (envOfC qual scope s.heap.objs.size f I) e) (λ_ D=>CX outer H s E e D) (λe' D=>CX outer H s E e' D) s'
def zqy{sc:Scope}(h:sc.names.lookup x=some .cell):∃c,(cellsFrom n sc.names []).lookup x=some c:=by
 have q:=lj sc.names n [] (.inl h);exact kl.mp q
variable{qual:Str}{scope:Scope}
theorem zoh{U:Value}{V:Shared}(S:pj N ps scope)(d:A.handled=none)(D:Env0 P w K mg base A outer s H)(m:vs.length=ps.length)(r:Vals vs us)(x:InCallC s s.heap.objs.size (bindL (envOfC qual scope s.heap.objs.size f U).kindOf (ps.zip us) λ_=>none) (cellsFrom (s.heap.objs.size+1) scope.names []) (bindC (envOfC qual scope s.heap.objs.size f U).kindOf (ps.zip us) λ_=>none) V) :
  Inv (cxOf CX P w K mg base N qual scope f U A outer s H E) [] (start N vs) H V:=by
 have g:ps.length<=N.length:=by have:=congrArg List.length S.pre;rw[dy] at this;lia
 obtain⟨h1,tk,rfl,Y⟩:=x.done;have I:∀b:Addr,b∉(cxOf CX P w K mg base N qual scope f U A outer s H E).ex:=λb z=>absurd (show b∈([]:h7) from z) (by simp);refine⟨⟨D.mod,S.kind,rfl,rfl,b7 _,λy z c h1 h2=>?_,λy hy=>?_,λy c _ h=>?_,λ_=>d,Around.frames_deeper D.frames,.inr ⟨rfl,rfl⟩,λb z=>absurd z (I b),D.bs,D.bsz,λb _ _=>I b,λb z=>absurd z (I b),D.funs,D.frf⟩,
  rfl,D.bare,Un.kept Y,⟨_,x.toInCall.ns,λi y v h1 h2 o=>?_⟩,λy c h=>⟨_,x.cell y c h⟩,D.hok.fresh (b7 _),λy c h=>?_,λp J=>absurd (show p∈([]:k4) from J) (by simp),D.hok.kept Y,?_⟩
 ·exact name_of_addr x.apart (eh h1) (eh h2)
 ·have hy:scope.names.lookup y=some .cell\/scope.names.lookup y=some .free:=hy
  rcases hy with hy | hy
  ·exact zqy hy
  ·exact absurd rfl (S.nofree _ (eh hy))
 ·exact jz (x.above y c (eh h))
 ·have hi:i<vs.length:=by
   unfold start at h2;by_cases hi:i<vs.length
   ·exact hi
   ·rw[di (by simpa using hi)] at h2
    rw[List.getElem?_replicate] at h2;split at h2 <;> cases h2
  have j:vs[i]?=some v:=by
   unfold start at h2;rw[aw (by simpa using hi),bu] at h2;cases e:vs[i]? with
   | none=>rw[e] at h2;cases h2
   | some a=>rw[e] at h2;cases h2;rfl
  obtain⟨u,Z,l⟩:=r.get j;have J:ps[i]?=some y:=by
   rw[<-S.pre,List.getElem?_take_of_lt (by lia)];exact h1
  have R:ps.Nodup:=by rw[<-S.pre];exact S.nd.sublist (List.take_sublist _ _)
  refine⟨u,l,?_⟩;rcases S.par y (bf J) with k | k
  ·exact .inl ⟨k,zof R J Z k⟩
  ·obtain⟨c,e⟩:=zqy (n:=s.heap.objs.size+1) k
   refine .inr ⟨.inl k,c,e,?_⟩;have q:=x.cell y c e;rw[zog R J Z (by show scope.names.lookup y≠_;rw[k];decide)] at q;exact q
 ·exact D.hok.fresh (jz (x.above y c (eh h)))
 ·unfold start
  show _=N.length;rw[ao,ah,fb]
  lia
def z6a{D:Arguments}{m kV a p cdv ct oc:Value}{an od:Option Addr}{osl:Array g9}(C:K.lookup f=some ⟨oc,od,.func (PySem.W.fnOf name qual D body scope m kV a p an cdv ct),osl⟩)(h:PySem.W.codeIn K cdv qual=true)(S:pj N ps scope)(len:∀vs H Q E,sp vs H Q E->vs.length=ps.length)(U:∀(A:Around) (outer:ic) (s:Shared) (H:Hp) (vs:k7) (Q:VK) (E:XK),Room k (A.deeper (envOfC qual scope s.heap.objs.size f cdv))->sp vs H Q E ->
   ∃t,PSs (cxOf CX P w K mg base N qual scope f cdv A outer s H E) body t/\t { nx:=λ_ H'=>Q .non H',rt:=Q } (start N vs) H) :
  FnOk P w K mg base CX (k+1) f (PySem.W.fnOf name qual D body scope m kV a p an cdv ct) ps sp:=by
 refine⟨len,λA outer s H args us vs Q E i c F r d=>?_⟩;have G:=len _ _ _ _ d;have z:K.In s.heap:=c.mod.kin.keeps λb o e=>(c.bs b o e).1;have j:s.heap.NoLimit:=c.mod.nolimit.keeps λb o e=>(c.bs b o e).1;have Y:∀y∈ps.zip us,scope.names.lookup y.1=some .local\/(scope.names.lookup y.1=some .cell/\((cellsFrom (s.heap.objs.size+1) scope.names []).lookup y.1).isSome=true):=λ⟨n,v⟩ hy=>by
  rcases S.par n (js hy).1 with q | q
  ·exact .inl q
  ·exact .inr ⟨q,lj _ _ _ (.inl q)⟩
 refine codeAny_call_function i.depth (z _ _ C) rfl S.co S.gen rfl (PySem.W.codeRec_of z h) (F _ _ _ _ ?_);refine wpAny_newFunctionEnv_cells S.kind Y λenv L B x=>?_;subst L;refine⟨j.keeps x.toInCall.keep,codeAny_func ?_⟩;obtain⟨t,M,O⟩:=U A outer s H vs Q E (i.deeper _) d;have I:Inv (cxOf CX P w K mg base N qual scope f cdv A outer s H E) [] (start N vs) H B:=zoh S i.hd c G r x;refine wpAny_mono (M [] B (start N vs) H _ I O) (λfl s' Z=>?_) λe s' Z=>Z;have g:∀ {R:St} {H':Hp} {v:V} {u:Value},Inv (cxOf CX P w K mg base N qual scope f cdv A outer s H E) [] R H' s'->RelV v u->Q v H'->CE outer P w H s Q u s' :=
  λ{R H' v u} J l q=>⟨v,H',J.os,J.bare,J.base,J.hok,l,q⟩
 cases fl with
 | ret u =>
   obtain⟨v,R,H',J,l,q⟩:=Z;exact g J l q
 | next =>
   obtain⟨R,H',J,q⟩:=Z;exact g (v:=V.non) (u:=Value.none) J rfl q
 | brk =>
   obtain⟨_,_,_,q⟩:=Z;exact False.elim q
 | cont =>
   obtain⟨_,_,_,q⟩:=Z;exact False.elim q
def tCB(r:k7->Hp->VK->Prop)(t:TA):TE:=λσ H Q=>t σ H λvs H1=>r vs H1 Q
variable{r:k7->Hp->VK->Prop}{id:String}
def x0(R:oo X (.builtin id) r)(U:Gl X x)(V:X.mg x=none)(Y:bootBuiltins x=some (.builtin id))(Z:PA X (e::es) t)(a:x ≠ "__name__":=by decide)(D:(x==("__debug__" : Str))=false:=by decide)(b:starEach (e::es) X.env=(false,eval e X.env)::starEach es X.env:=by rfl)(J:(backTo pos (starEach es X.env)).any (·.1)=false:=by rfl):PE X (.Call (.Name x p) (e::es) [] pos) (tCB r t):=by
 intro pins s σ H Q I h;refine wpAny_Call_Name_kw (xr I U V Y ?_ a D);exact PyProof.Rows.callWith_builtin1 (thn (Z pos pins s σ H _ I h) λus s1 ⟨vs,H1,I1,r1,q1⟩=>R pins s1 σ H1 vs us Q I1 r1 q1) b J
variable{T:String}
def zoi(R:oo X (.type T) r)(U:Gl X x)(V:X.mg x=none)(Y:bootBuiltins x=some (.type T))(Z:PA X (e::es) t)(a:x ≠ "__name__":=by decide)(D:(x==("__debug__" : Str))=false:=by decide)(b:starEach (e::es) X.env=(false,eval e X.env)::starEach es X.env:=by rfl)(J:(backTo pos (starEach es X.env)).any (·.1)=false:=by rfl):PE X (.Call (.Name x p) (e::es) [] pos) (tCB r t):=by
 intro pins s σ H Q I h;refine wpAny_Call_Name_kw (xr I U V Y ?_ a D);exact jx (thn (Z pos pins s σ H _ I h) λus s1 ⟨vs,H1,I1,r1,q1⟩=>R pins s1 σ H1 vs us Q I1 r1 q1) b J
end L2
namespace HT
open PySem PyProof.Rows
section
open PySem.SeqAt
open PySem.AutoSeq1 (wpAny_loadPart')
open PySem.MeetsSeq PySem.MeetsSeq2 PySem.MeetsSeq3
end
def sIx(n d:Nat):kb->Nat
 | none=>d
 | some v=>if v<0 then(v+(n:Int)).toNat else min v.toNat n
def sIx_none(n d:Nat):sIx n d none=d:=rfl
theorem sIx_nat(n d k:Nat):sIx n d (some (k:Int))=min k n:=by
 show(if (k:Int)<0 then((k:Int)+(n:Int)).toNat else min (k:Int).toNat n)=min k n;rw[if_neg (by lia),f8]
end HT
namespace L2
open PySem PySem.Spec PyProof.Rows
abbrev TO:=St->Hp->(kb->Hp->Prop)->Prop
def PO(X:Cx)(e:Option Expr)(t:TO):Prop :=
 ∀(pins:k4) (s:Shared) (σ:St) (H:Hp) (Q:kb->Hp->Prop),Inv X pins σ H s->t σ H Q ->
  wpAny (model X.prog X.w) X.A (evalPart e X.env) (λu s'=>∃o H',Inv X pins σ H' s'/\IsPart u o/\Q o H') X.xe s
def z0h:TO:=λ_ H Q=>Q none H
def z6b(t:TE):TO:=λσ H Q=>t σ H λx H1=>∃i,x=.int i/\Q (some i) H1
def zsk{D:ia}:∀ {us:g8},Vals (D.map V.int) us->IntsAre us D:=by
 induction D with
 | nil=>intro us r;rw[du] at r;cases r;exact .nil
 | cons n D ih =>
   intro us r;rw[ci] at r;cases r with
   | cons r1 r2 =>
     obtain⟨t,e⟩:=r1;subst e;exact .cons n t (ih r2)
variable{X:Cx}
def z0i:PO X none z0h:=by
 intro pins s σ H Q I h;rw[evalPart_none];exact wpAny_pure ⟨none,H,I,.none,h⟩
variable{e:Expr}{te:TE}
def z0j(h:PE X e te):PO X (some e) (z6b te):=by
 intro pins s σ H Q I D;rw[evalPart_some];refine thn (h pins s σ H _ I D) λu Y J=>?_;obtain⟨x,H1,R,U,V⟩:=J;obtain⟨i,rfl,q⟩:=V;obtain⟨t,rfl⟩:=U;exact⟨some i,H1,R,.int i t,q⟩
variable{lo hi:Option Expr}
def SlR(X:Cx)(r:V->kb->kb->Hp->VK->Prop):Prop :=
 ∀(pins:k4) (s:Shared) (σ:St) (H:Hp) (x:V) (v D I:Value) (lo hi:kb) (sl:Addr) (Q:VK),Inv X pins σ H s->RelV x v->s.heap.IsSliceOf sl D I .none->IsPart D lo->IsPart I hi->r x lo hi H Q ->
  ∃T id,typeLookup (.type T) "__getitem__" = pure (some (.builtin id))/\s.TypeIs v T/\wpAny (model X.prog X.w) X.A (getItem v (.ref sl)) (EP X pins σ Q) X.xe s
def tSl(r:V->kb->kb->Hp->VK->Prop)(te:TE)(tl th:TO):TE:=λσ H Q=>te σ H λx H1=>tl σ H1 λl H2=>th σ H2 λu D=>r x l u D Q
variable{r:R2}{tl th:TO}{pos p2:Pos}
def zwi{r:V->kb->kb->Hp->VK->Prop}(Z:SlR X r)(a:PE X e te)(c:PO X lo tl)(d:PO X hi th):PE X (.Subscript e (.Slice lo hi none p2) pos) (tSl r te tl th):=by
 intro pins s σ H Q I h;refine Subscript_ (thn (a pins s σ H _ I h) λv f J=>?_);obtain⟨x,H1,g,i,j⟩:=J;refine wpAny_Slice (thn (c pins f σ H1 _ g j) λR s2 J=>?_);obtain⟨l,H2,k,pl,m⟩:=J;refine thn (d pins s2 σ H2 _ k m) λU D J=>?_;obtain⟨u,Y,n,o,p⟩:=J;rw[evalPart_none];refine wpAny_pure ?_;have t:Inv X pins σ Y { D with heap:=D.heap.push { cls:=.type "slice",data:=.fields #[R,U,.none] } }:=n.kept (t':=D.toks) λb B q=>aq _ q;obtain⟨T,id,hT,y,z⟩:=Z pins { D with heap:=D.heap.push { cls:=.type "slice",data:=.fields #[R,U,.none] } } σ Y x v R U l u D.heap.objs.size Q t i (Heap.IsSliceOf.new ..) pl o p;show wpAny (model X.prog X.w) X.A (subscriptTail e (.Slice lo hi none p2) v (.ref D.heap.objs.size)) (EP X pins σ Q) X.xe { D with heap:=D.heap.push { cls:=.type "slice",data:=.fields #[R,U,.none] } };exact tail_any (ops:=[.ref D.heap.objs.size,v]) y hT z (by with_unfolding_all rfl)
def cutV(xs:k7)(lo hi:kb):k7:=(xs.drop (HT.sIx xs.length 0 lo)).take (HT.sIx xs.length xs.length hi-HT.sIx xs.length 0 lo)
theorem zpq(xs:k7)(lo hi:kb):(cutV xs lo hi).length<=xs.length:=by
 unfold cutV;rw[dy,d9]
 lia
def ixN(n:Nat)(i:Int):Option Nat:=if 0<=i then(if i<n then some i.toNat else none) else if -(n:Int)<=i then some (i+n).toNat else none
variable{α:Type}
def atI(xs:List α)(i:Int):Option α:=(ixN xs.length i).bind λj=>xs[j]?
variable{n j:Nat}{i:Int}
theorem zmz(h:ixN n i=some j):seqIndex? i n=some j/\j<n/\-(n:Int)<=i/\i<n:=by
 unfold ixN at h;by_cases D:0<=i
 ·rw[if_pos D] at h
  by_cases h1:i<n
  ·rw[if_pos h1] at h
   have e:i.toNat=j:=bh h;exact⟨by rw[seqIndex_of D h1,e],by lia,by lia,h1⟩
  ·rw[if_neg h1] at h;cases h
 ·rw[if_neg D] at h
  by_cases h1:-(n:Int)<=i
  ·rw[if_pos h1] at h
   have e:(i+n).toNat=j:=bh h;exact⟨by rw[seqIndex_neg (by lia) h1,e],by lia,h1,by lia⟩
  ·rw[if_neg h1] at h;cases h
def zpr{xs:List α}{v:α}(h:atI xs i=some v):∃j,seqIndex? i xs.length=some j/\xs[j]?=some v/\j<xs.length/\-(xs.length:Int)<=i/\i<xs.length:=by
 unfold atI at h;cases e:ixN xs.length i with
 | none=>rw[e] at h;cases h
 | some j =>
   rw[e] at h;obtain⟨h1,h2,D,I⟩:=zmz e;exact⟨j,h1,h,h2,D,I⟩
theorem ztt{xs:List α}{v:α}(h:xs[j]?=some v):atI xs (j:Int)=some v:=by
 have D:j<xs.length:=(aj.mp h).1;have e:ixN xs.length (j:Int)=some j:=by
  unfold ixN;rw[if_pos (by lia),if_pos (by lia)];simp
 unfold atI;rw[e];exact h
theorem zwj(xs:List α)(v:α):atI (xs++[v]) (-1)=some v:=by
 have D:(xs++[v]).length=xs.length+1:=by simp
 have e:ixN (xs++[v]).length (-1)=some xs.length:=by
  unfold ixN;rw[D,if_neg (by decide),if_pos (by lia)];congr 1
  lia
 unfold atI;rw[e];show(xs++[v])[xs.length]?=some v;simp
def uw(b:Expr):Prop:=∀o i,subscripted b false o i=operate [o,i] (getItem o i)
def IxR(X:Cx)(r:R2):Prop :=
 ∀(value D:Expr) (pins:k4) (s:Shared) (σ:St) (H:Hp) (x y:V) (v u:Value) (Q:VK),Inv X pins σ H s->RelV x v->RelV y u->r x y H Q ->
  subscripted D false v u=operate [v,u] (getItem v u)->wpAny (model X.prog X.w) X.A (subscriptTail value D v u) (EP X pins σ Q) X.xe s
def MtR(X:Cx)(id:String)(r:V->k7->Hp->VK->Prop):Prop :=
 ∀(pins:k4) (s:Shared) (σ:St) (H:Hp) (x:V) (xs:k7) (v:Value) (us:g8) (Q:VK),Inv X pins σ H s->RelV x v->Vals xs us->r x xs H Q ->
  wpAny (model X.prog X.w) X.A (call (.builtin id) (v::us)) (EP X pins σ Q) X.xe s
def IxR.or{J:R2}(h:IxR X r)(h':IxR X J):IxR X (λx y H Q=>r x y H Q\/J x y H Q):=by
 intro value D pins s σ H x y v u Q I R U q V;rcases q with q | q
 ·exact h value D pins s σ H x y v u Q I R U q V
 ·exact h' value D pins s σ H x y v u Q I R U q V
variable{a b:Expr}{ta tb:TE}
def xb(D:IxR X r)(J:PE X a ta)(R:PE X b tb)(U:uw b):PE X (.Subscript a b pos) (tOp r ta tb):=by
 intro pins s σ H Q I h;exact Subscript_ (binT J R I h λv u s2 x y H2 V Y Z q=>D a b pins s2 σ H2 x y v u Q V Y Z q (U _ _))
def rIxL(K:kf):R2:=λx y H Q=>∃p xs i v,x=.ref p/\y=.int i/\SqL K H p xs/\atI xs i=some v/\Q v H
def rIxT(K:kf):R2:=λx y H Q=>∃p xs i v,x=.ref p/\y=.int i/\SqT K H p xs/\atI xs i=some v/\Q v H
def rIxS:R2:=λx y H Q=>∃z i c,x=.str z/\y=.int i/\z.length<=sizeLine/\atI z.cps.toList i=some c/\Q (.str ⟨#[c]⟩) H
theorem zm0:IxR X (rIxL X.K):=by
 intro value J pins s σ H x y v u Q I a b h V;obtain⟨p,xs,i,z,rfl,rfl,c,d,q⟩:=h;cases a;obtain⟨t,rfl⟩:=b;obtain⟨its,r,pl,k⟩:=I.list c;obtain⟨j,h1,h2,l,e,f⟩:=zpr d;obtain⟨w,Y,R⟩:=r.get h2;have g:=r.length;have m:=xp;have D:EP X pins σ Q w s:=⟨z,H,I,R,q⟩;by_cases Z:0<=i
 ·have U:i.toNat=j:=by
   rw[seqIndex_of Z f] at h1;exact bh h1
  exact item_listR pl.isList Z (by lia) (by rw[U];simpa using Y) D V
 ·have U:(i+(its.toArray.size:Int)).toNat=j:=by
   rw[seqIndex_neg (by lia) e] at h1;rw[bj,<-g];exact bh h1
  exact subscriptTail_builtinR (x:=w) pl.isList.typeIs slot_list_getitem.lookup
   (wpAny_getItem_list_neg (Q:=λr s'=>r=w/\EP X pins σ Q r s') pl.isList (by lia) (by rw[bj] <;> lia) (by lia) (by rw[U];simpa using Y) ⟨rfl,D⟩) V
theorem z3h:IxR X (rIxT X.K):=by
 intro value D pins s σ H x y v u Q I U V h Y;obtain⟨p,xs,i,z,rfl,rfl,Z,a,q⟩:=h;cases U;obtain⟨t,rfl⟩:=V;obtain⟨its,r,pl,d⟩:=I.tuple Z;obtain⟨j,h1,h2,e,f,g⟩:=zpr a;obtain⟨w,b,J⟩:=r.get h2;have c:=r.length;have k:=xp;have R:EP X pins σ Q w s:=⟨z,H,I,J,q⟩;exact subscriptTail_builtinR (x:=w) pl.typeIs slot_tuple_getitem.lookup
  (getItem_tuple (j:=j) (Q:=λr s'=>r=w/\EP X pins σ Q r s') pl (by lia) (by lia) (by rw[bj,<-c];exact h1) (by simpa using b) ⟨rfl,R⟩) Y
theorem z3i:IxR X rIxS:=by
 intro value D pins s σ H x y v u Q I J R h U;obtain⟨z,i,c,rfl,rfl,e,V,q⟩:=h;obtain⟨t,rfl⟩:=J;obtain⟨t',rfl⟩:=R;obtain⟨j,h1,h2,f,Y,Z⟩:=zpr V;have a:z.cps.toList.length=z.length:=by simp[Str.length]
 rw[a] at h1 Y Z;have g:=xp;exact tail_any (typeIs_str s z t) slot_str_getitem.lookup (getItem_str (c:=c) (by
  have b:decide (i < -(2 ^ 63:Int))=false:=decide_eq_false (by lia);have d:decide (i >= 2 ^ 63)=false:=decide_eq_false (by lia);rw[b,d,Bool.or_false]) (by rw[h1];simpa using h2) ⟨.str ⟨#[c]⟩,H,I.tok _,⟨_,rfl⟩,q⟩) U
def rIx(K:kf):R2:=λx y H Q=>rIxL K x y H Q\/rIxT K x y H Q\/rIxS x y H Q
def ztu:IxR X (rIx X.K):=zm0.or (z3h.or z3i)
def zsm(its:g8)(n j:Nat)(u:Value):Obj.mapSeq (·.setIfInBounds j u) { cls:=.type "list",data:=.seq its.toArray n }={ cls:=.type "list",data:=.seq (its.set j u).toArray n }:=by
 simp[Obj.mapSeq]
def Inv.lst{pins:k4}{σ:St}{H:Hp}{s:Shared}{p:Addr}{xs:k7}(I:Inv X pins σ H s)(h:H p=some (.lst xs)) :
  ∃(its:g8) (n:Nat),Vals xs its/\s.heap.get? p=some { cls:=.type "list",data:=.seq its.toArray n }/\xs.length<=sizeLine:=by
 obtain⟨z,its,n,r,e⟩:=I.hok p _ h;exact⟨its,n,r,e,z⟩
variable{pins:k4}{σ:St}{H:Hp}{s:Shared}{xs ys:k7}{its its':g8}
def Inv.lstUpd{p:Addr}{D:Nat}{f:Obj->Obj}(I:Inv X pins σ H s)(h:H p=some (.lst xs))(R:s.heap.get? p=some { cls:=.type "list",data:=.seq its.toArray n })(J:f { cls:=.type "list",data:=.seq its.toArray n }={ cls:=.type "list",data:=.seq its'.toArray D })(r:Vals ys its')(U:ys.length<=sizeLine)(t:Nat) :
  Inv X pins σ (upd H p (.lst ys)) { s with heap:=s.heap.update p f,toks:=t }:=by
 have e:(s.heap.update p f).get? p=some { cls:=.type "list",data:=.seq its'.toArray D }:=by
  rw[ft f R (by rw[J] <;> rfl),J]
 refine I.write (x:=p) (e:=p) (by rw[h];trivial) (.inl rfl) (λb u V q=>(cj _ _ (Ne.symm V)).trans q) ⟨_,e⟩ ?_;exact⟨U,its',D,r,e⟩
def z3j:V->V->V->Hp->(Hp->Prop)->Prop:=λo i v H Q=>∃p xs k j,o=.ref p/\i=.int k/\H p=some (.lst xs)/\ixN xs.length k=some j/\Q (upd H p (.lst (xs.set j v)))
theorem ya:PSet X z3j:=by
 intro pins s σ H o i v f g u Q I ro b c h;obtain⟨p,xs,k,j,rfl,rfl,U,d,q⟩:=h;cases ro;obtain⟨t,rfl⟩:=b;obtain⟨its,n,r,D,e⟩:=I.lst U;obtain⟨h1,h2,V,Y⟩:=zmz d;have J:=r.length;have l:=xp;have Z:Inv X pins σ (upd H p (.lst (xs.set j v))) { s with heap:=s.heap.update p (Obj.mapSeq (·.setIfInBounds j u)) } :=
  I.lstUpd U D (zsm its n j u) (r.set c j) (by rw[dq];exact e) s.toks
 by_cases a:0<=k
 ·have R:k.toNat=j:=by
   rw[seqIndex_of a Y] at h1;exact bh h1
  exact PySem.W.ki_setAt D a (by lia) (by rw[bj,<-J];exact Y) (by rw[R];exact⟨_,Z,q⟩)
 ·have R:(k+(its.toArray.size:Int)).toNat=j:=by
   rw[seqIndex_neg (by lia) V] at h1;rw[bj,<-J];exact bh h1
  exact PySem.W.ki_setBack D (by lia) (by rw[bj,<-J];exact V) (by lia) (by rw[R];exact⟨_,Z,q⟩)
theorem zoj(lo hi:kb)(n:Nat):(sliceBounds lo hi none n).1=((HT.sIx n 0 lo:Nat):Int)/\(sliceBounds lo hi none n).2.1=((HT.sIx n n hi:Nat):Int)/\(sliceBounds lo hi none n).2.2=1:=by
 refine⟨?_,?_,rfl⟩
 ·cases lo with
  | none=>simp[sliceBounds,HT.sIx]
  | some i =>
    simp only[sliceBounds,HT.sIx,Option.getD_none,show(1:Int) > 0 by decide,if_true];by_cases h:i<0
    ·simp only[h,if_true] <;> lia
    ·simp only[h,if_false] <;> lia
 ·cases hi with
  | none=>simp[sliceBounds,HT.sIx]
  | some i =>
    simp only[sliceBounds,HT.sIx,Option.getD_none,show(1:Int) > 0 by decide,if_true];by_cases h:i<0
    ·simp only[h,if_true] <;> lia
    ·simp only[h,if_false] <;> lia
def zm1(its:g8)(lo hi:kb):slicePick its.toArray lo hi none=((its.drop (HT.sIx its.length 0 lo)).take (HT.sIx its.length its.length hi-HT.sIx its.length 0 lo)).toArray:=by
 obtain⟨h1,h2,D⟩:=zoj lo hi its.toArray.size;unfold slicePick;rw[h1,h2,D];simp only[sliceRange_one,pick_run,bj] <;> rfl
def rSlL(K:kf):V->kb->kb->Hp->VK->Prop:=λx lo hi H Q=>∃a xs,x=.ref a/\SqL K H a xs/\∀p,H p=none->Q (.ref p) (upd H p (.lst (cutV xs lo hi)))
theorem z0k:SlR X (rSlL X.K):=by
 intro pins s σ H x v c d lo hi sl Q I R U pl V h;obtain⟨a,xs,rfl,Y,q⟩:=h;cases R;obtain⟨its,r,J,Z⟩:=I.list Y;have D:=r.length;refine⟨"list",_,slot_list_getitem.lookup,J.isList.typeIs,?_⟩;refine wpAny_getItem_list_slice J.isList U pl V .none (by simp) ?_ (by rw[bj] <;> lia);rw[zm1,<-D];refine⟨.ref s.heap.objs.size,_,I.laid (t':=s.toks) (o:=.lst (cutV xs lo hi)) (λb e q=>aq _ q) (b7 _) ?_,rfl,q _ (I.hok.fresh (b7 _))⟩;exact⟨df (zpq xs lo hi) Z,_,0,(r.drop (HT.sIx xs.length 0 lo)).take (HT.sIx xs.length xs.length hi-HT.sIx xs.length 0 lo),cf _ rfl⟩
theorem zia:oo X (.builtin "len") (λxs H Q=>∃p ys,xs=[.ref p]/\(SqL X.K H p ys\/SqT X.K H p ys)/\Q (.int ys.length) H):=by
 intro pins s σ H xs us Q I r h;obtain⟨p,ys,rfl,hq,q⟩:=h;obtain⟨u,rfl,R⟩:=vi r;cases R;have V:=xp;rcases hq with hq | hq
 ·obtain⟨its,J,pl,U⟩:=I.list hq
  have D:=J.length;exact Calls.call_len_list pl.isList (by simp only[bj] <;> lia) ⟨.int ys.length,H,I.tok _,⟨s.toks+1,by rw[bj,D]⟩,q⟩
 ·obtain⟨its,J,pl,U⟩:=I.tuple hq
  have D:=J.length;exact len_tuple pl (by simp only[bj] <;> lia) ⟨.int ys.length,H,I.tok _,⟨s.toks+1,by rw[bj,D]⟩,q⟩
theorem zok:oo X (.type "list") (λxs H Q=>∃p ys,xs=[.ref p]/\(SqL X.K H p ys\/SqT X.K H p ys)/\∀l,H l=none->Q (.ref l) (upd H l (.lst ys))):=by
 intro pins s σ H xs us Q I r h;obtain⟨p,ys,rfl,hq,q⟩:=h;obtain⟨u,rfl,c⟩:=vi r;cases c;have R:∀(its:g8),Vals ys its->ys.length<=sizeLine->∀(h':Heap) (D:Nat),(∀b o',s.heap.get? b=some o'->h'.get? b=some o') ->
   h'.get? s.heap.objs.size=some { cls:=.type "list",dict:=none,data:=.seq its.toArray D,slots:=#[] }->EP X pins σ Q (.ref s.heap.objs.size) { s with heap:=h' }:=λits J U h' D kp e =>
  ⟨.ref s.heap.objs.size,_,I.laid (t':=s.toks) kp (b7 _) (show ObjOk X.prog X.w _ h' _ (.lst ys) from⟨U,its,D,J,e⟩),rfl,q _ (I.hok.fresh (b7 _))⟩
 rcases hq with hq | hq
 ·obtain⟨its,J,pl,U⟩:=I.list hq
  have V:=J.length;obtain⟨o,Y,Z,n,a⟩:=pl.isList;exact call_list_seq p (.inl rfl) Y Z a (λh' D kp e=>R its J U h' D kp e) (by simp only[bj] <;> lia)
 ·obtain⟨its,J,pl,U⟩:=I.tuple hq
  have V:=J.length;obtain⟨o,Y,Z,n,a⟩:=pl;exact call_list_seq p (.inr rfl) Y Z a (λh' D kp e=>R its J U h' D kp e) (by simp only[bj] <;> lia)
theorem zm2:oo X (.type "tuple") (λxs H Q=>∃p ys,xs=[.ref p]/\((SqL X.K H p ys/\∀l,H l=none->Q (.ref l) (upd H l (.tup ys)))\/(SqT X.K H p ys/\Q (.ref p) H))):=by
 intro pins s σ H xs us Q I r h;obtain⟨p,ys,rfl,h⟩:=h;obtain⟨u,rfl,Y⟩:=vi r;cases Y;rcases h with⟨D,q⟩ | ⟨D,q⟩
 ·obtain⟨its,J,pl,R⟩:=I.list D
  have U:=J.length;refine call_tuple_list pl.isList (λh' kp=>?_) (by simp only[bj] <;> lia);have V:Inv X pins σ H { s with heap:=h' }:=I.kept (t':=s.toks) kp;have Z:Inv X pins σ (upd H h'.objs.size (.tup ys)) { s with heap:=h'.push { cls:=.type "tuple",data:=.seq its.toArray } } :=
   V.laid (t':=s.toks) (λb o e=>aq _ e) (b7 _) (show ObjOk X.prog X.w _ _ _ (.tup ys) from⟨R,its,J,IsTup.new _ _⟩)
  exact⟨.ref h'.objs.size,_,Z,rfl,q _ (V.hok.fresh (b7 _))⟩
 ·obtain⟨its,J,pl,R⟩:=I.tuple D
  exact call_tuple_same pl ⟨.ref p,H,I,rfl,q⟩
def tyV(K:kf)(T:String)(x:V)(H:Hp):Prop:=match x with
 | .str _=>T = "str"
 | .int _=>T = "int"
 | .ref p=>(T = "list"/\∃xs,SqL K H p xs)\/(T = "tuple"/\∃o,K.lookup p=some o/\o.cls=.type "tuple"/\o.dict=none) \/
    (T = "dict"/\((∃D,H p=some (.dK D))\/∃D,H p=some (.dT D)))\/(T = "set"/\∃S n,H p=some (.set S n))
 | _=>False
variable{T:String}{x:V}
def zyz{v:Value}(I:Inv X pins σ H s)(r:RelV x v)(J:tyV X.K T x H) :
  s.TypeIs v T/\∀a,v=.ref a->∃Y,s.heap.get? a=some Y/\Y.dict=none:=by
 cases x with
 | str z =>
   obtain⟨t,rfl⟩:=r;cases (show T = "str" from J);exact⟨typeIs_str s z t,λ_ e=>nomatch e⟩
 | int i =>
   obtain⟨t,rfl⟩:=r;cases (show T = "int" from J);exact⟨typeIs_int s i t,λ_ e=>nomatch e⟩
 | ref p =>
   cases r;rcases J with⟨rfl,xs,Z⟩ | ⟨rfl,o,D,hc,R⟩ | ⟨rfl,D⟩ | ⟨rfl,S,n,D⟩
   ·obtain⟨its,_,pl,_⟩:=I.list Z
    refine⟨pl.isList.typeIs,λa e=>?_⟩;cases e;obtain⟨o,n,e,c,R,_⟩:=pl;exact⟨o,e,R⟩
   ·refine⟨⟨o,I.kIn p o D,hc⟩,λa e=>?_⟩
    cases e;exact⟨o,I.kIn _ o D,R⟩
   ·have z:∃o,s.heap.get? p=some o/\o.ExactDict:=by
     rcases D with⟨U,D⟩ | ⟨U,D⟩
     ·obtain⟨_,_,_,_,o,_,_,e,ex,_⟩:=I.hok p _ D
      exact⟨o,e,ex⟩
     ·obtain⟨_,_,_,_,o,_,_,e,ex,_⟩:=I.hok p _ D
      exact⟨o,e,ex⟩
    obtain⟨o,e,ex⟩:=z;refine⟨⟨o,e,ex.1⟩,λa V=>?_⟩;cases V;exact⟨o,e,ex.2.1⟩
   ·obtain⟨o,_,_,_,e,ex,_⟩:=I.hok p _ D
    refine⟨⟨o,e,ex.1⟩,λa V=>?_⟩;cases V;exact⟨o,e,ex.2.1⟩
 | _=>exact False.elim J
def tBM0(K:kf)(T:String)(r:V->k7->Hp->VK->Prop)(to:TE):TE:=λσ H Q=>to σ H λx H1=>tyV K T x H1/\r x [] H1 Q
def tBM(K:kf)(T:String)(r:V->k7->Hp->VK->Prop)(to:TE)(t:TA):TE:=λσ H Q=>to σ H λx H1=>tyV K T x H1/\t σ H1 λxs H2=>r x xs H2 Q
variable{r:V->k7->Hp->VK->Prop}{o:Expr}{to:TE}{name:Str}{apos cpos:Pos}{id:String}
def zy0(Z:PlainAttrs T)(R:Slot T name id)(U:typeOf (.builtin id)=pure (.type "method_descriptor"))(a:MtR X id r)(b:PE X o to)(D:attributeBase o name X.env (eval o X.env)=eval o X.env:=by rfl)(J:(apos.endLine==cpos.line)=true:=by rfl):PE X (.Call (.Attribute o name apos) [] [] cpos) (tBM0 X.K T r to):=by
 intro pins s σ H Q I h;refine wpAny_Call_method0_late D J (thn (b pins s σ H _ I h) λv c d=>?_);obtain⟨x,H1,V,Y,e,f⟩:=d;obtain⟨h1,h2⟩:=zyz V Y e;exact⟨T,id,Z,R,U,h1,h2,Calls.callWith_builtin rfl (PySem.evalArgs_none (a pins c σ H1 x [] v [] Q V Y .nil f))⟩
variable{es:ik}{t:TA}
def y9(b:PlainAttrs T)(U:Slot T name id)(Y:typeOf (.builtin id)=pure (.type "method_descriptor"))(c:MtR X id r)(d:PE X o to)(f:PA X (e::es) t)(J:attributeBase o name X.env (eval o X.env)=eval o X.env:=by rfl)(V:((backTo cpos (starEach (e::es) X.env)).all (λx=>!x.1) && (backToKw cpos (keywordEach [] X.env)).all (λx=>x.1.isSome)
   && decide ((e::es).length+([]:List Keyword).length+(if ([]:List Keyword).isEmpty then 0 else 1)<30))=true:=by rfl)(R:(apos.endLine==cpos.line)=true:=by rfl)(g:starEach (e::es) X.env=(false,eval e X.env)::starEach es X.env:=by rfl)(D:(backTo cpos (starEach es X.env)).any (·.1)=false:=by rfl) :
  PE X (.Call (.Attribute o name apos) (e::es) [] cpos) (tBM X.K T r to t):=by
 intro pins s σ H Q I h;refine wpAny_Call_method_late J V R rfl (thn (d pins s σ H _ I h) λv i j=>?_);obtain⟨x,H1,Z,a,k,l⟩:=j;obtain⟨h1,h2⟩:=zyz Z a k;refine⟨T,id,b,U,Y,h1,h2,?_⟩;have hA:=f cpos pins i σ H1 _ Z l;rw[g] at hA ⊢;refine Calls.callWith_builtin (by show(false || (backTo cpos (starEach es X.env)).any (·.1))=false;rw[D] <;> rfl) (Calls.evalArgs_plain ?_);exact thn hA λus s2 ⟨vs,H2,I2,r2,q2⟩=>c pins s2 σ H2 x vs v us Q I2 a r2 q2
def MtM(X:Cx)(id:String)(r:V->k7->Hp->VK->Prop):Prop :=
 ∀(pins:k4) (s:Shared) (σ:St) (H:Hp) (x:V) (xs:k7) (v:Value) (us:g8) (Q:VK),Inv X pins σ H s->RelV x v->Vals xs us->r x xs H Q ->
  wpAny (model X.prog X.w) X.A (call (.builtin id) (v::us)) (EP X pins σ Q) X.xe s
def VInv:k7->g8->Prop
 | [],us=>us=[]
 | x::xs,us=>∃u t,us=u::t/\RelV x u/\Vals xs t
variable{us:g8}
def Vals.inv(h:Vals xs us):VInv xs us:=by
 cases h with
 | nil=>exact rfl
 | cons r t=>exact⟨_,_,rfl,r,t⟩
def Vals.one(h:Vals [x] us):∃u,us=[u]/\RelV x u:=by
 obtain⟨u,t,e,r,q⟩:=h.inv;exact⟨u,(show t=[] from q.inv) ▸ e,r⟩
def Vals.two{y:V}(h:Vals [x,y] us):∃u v,us=[u,v]/\RelV x u/\RelV y v:=by
 obtain⟨u,t,e,r,q⟩:=h.inv;obtain⟨v,f,q⟩:=q.one;exact⟨u,v,f ▸ e,r,q⟩
def Vals.zero:∀ {us:g8},Vals [] us->us=[]
 | _,.nil=>rfl
def Vals.dropLast(h:Vals xs us):Vals xs.dropLast us.dropLast:=by
 induction h with
 | nil=>exact .nil
 | cons r t ih =>
   cases t with
   | nil=>exact .nil
   | cons q t'=>exact .cons r ih
def Vals.eraseIdx:∀ {xs:k7} {us:g8} (i:Nat),Vals xs us->Vals (xs.eraseIdx i) (us.eraseIdx i)
 | _,_,_,.nil=>.nil
 | _,_,0,.cons _ t=>t
 | _,_,i+1,.cons r t=>.cons r (Vals.eraseIdx i t)
def Vals.rep{xs:k7}{us:g8}(h:Vals xs us):∀k:Nat,Vals (List.replicate k xs).flatten (List.replicate k us).flatten
 | 0=>.nil
 | k+1=>by
   rw[gh,gh,cw,cw];exact Vals.append h (Vals.rep h k)
theorem zsn(l:List α):l.eraseIdx (l.length-1)=l.dropLast:=by
 induction l with
 | nil=>rfl
 | cons a r ih =>
   cases r with
   | nil=>rfl
   | cons b r =>
     have e:(a::b::r).length-1=((b::r).length-1)+1:=by
      have h1:(a::b::r).length=r.length+2:=rfl;have h2:(b::r).length=r.length+1:=rfl
      lia
     rw[e,List.eraseIdx_cons_succ,ih];all_goals rfl
def zol{α:Type}:∀(l:List α) (i:Nat),(l.eraseIdx i).length<=l.length
 | [],_=>b7 _
 | _::_,0=>md _
 | _::r,i+1=>Nat.succ_le_succ (zol r i)
def zom(its:g8):∀(k:Nat) (D:g8),
  List.foldl (λI J=>I++J) D.toArray (List.replicate k its.toArray)=(D++(List.replicate k its).flatten).toArray
 | 0,D=>by simp
 | k+1,D=>by
   have e:D.toArray++its.toArray=(D++its).toArray:=by simp
   have R:(D++its)++(List.replicate k its).flatten=D++(List.replicate (k+1) its).flatten:=by
    rw[gh,cw,dg]
   rw[<-R,<-zom its k (D++its),<-e,gh,List.foldl_cons]
variable{t':Nat}{l:Addr}
def Inv.lset{f:k6->k6}(I:Inv X pins σ H s)(D:H l=some (.lst xs))(e:s.heap.get? l=some { cls:=.type "list",data:=.seq its.toArray n })(J:f its.toArray=its'.toArray)(R:Vals ys its')(U:ys.length<=sizeLine) :
  Inv X pins σ (upd H l (.lst ys)) { s with heap:=s.heap.update l (Obj.mapSeq f),toks:=t' }:=by
 have q:=PySem.IsL.update e f;rw[J] at q;refine I.write (x:=l) (e:=l) (by rw[D];exact trivial) (.inl rfl) (λZ u V Y=>(cj s.heap (Obj.mapSeq f) (Ne.symm V)).trans Y) ⟨_,q⟩ ?_;exact⟨U,its',_,R,q⟩
def Inv.lnew(I:Inv X pins σ H s)(D:Vals ys its)(J:ys.length<=sizeLine) :
  Inv X pins σ (upd H s.heap.objs.size (.lst ys)) { s with heap:=s.heap.push { cls:=.type "list",data:=.seq its.toArray },toks:=t' } :=
 I.laid (λ_ _ q=>aq _ q) (b7 _) ⟨J,its,0,D,cf _ rfl⟩
def Inv.fresh(I:Inv X pins σ H s):H s.heap.objs.size=none:=I.hok.fresh (b7 _)
def Inv.lstM(I:Inv X pins σ H s)(D:H l=some (.lst xs)):xs.length<=sizeLine/\∃(its:g8) (n:Nat),Vals xs its/\xs.length=its.length/\s.heap.get? l=some { cls:=.type "list",data:=.seq its.toArray n }:=by
 obtain⟨z,its,n,r,e⟩:=I.hok l _ D;exact⟨z,its,n,r,r.length,e⟩
theorem zqz(h:n<=sizeLine):Builtin.List.listTooLong n=false:=by
 unfold Builtin.List.listTooLong;exact decide_eq_false (by lia)
def z0l:V->k7->Hp->VK->Prop:=λx vs H Q=>∃l xs y,x=.ref l/\vs=[y]/\H l=some (.lst xs)/\xs.length<sizeLine/\Q .non (upd H l (.lst (xs++[y])))
theorem zon:MtM X "list.append" z0l:=by
 intro pins s σ H x vs v us Q I J R h;obtain⟨l,xs,y,rfl,rfl,D,V,q⟩:=h;cases J;obtain⟨u,rfl,U⟩:=R.one;obtain⟨z,its,n,r,Y,e⟩:=I.lstM D;refine call_meets F.slot_list_append ⟨_,e,rfl⟩ F.entry_list_append (F.args_list_append_2 _ _) (PySem.list_append l its.toArray n u (by rw[bj];lia)) ⟨e,?_⟩;refine⟨.non,_,I.lset (its':=its++[u]) D e (by simp) (r.append (.cons U .nil)) ?_,rfl,q⟩;rw[ao,jm]
 lia
def z0m:V->k7->Hp->VK->Prop:=λx vs H Q=>∃l b xs D,x=.ref l/\vs=[.ref b]/\H l=some (.lst xs)/\H b=some (.lst D)/\xs.length+D.length<=sizeLine/\Q .non (upd H l (.lst (xs++D)))
theorem ztw:MtM X "list.extend" z0m:=by
 intro pins s σ H x vs v us Q I V Y h;obtain⟨l,b,xs,g,rfl,rfl,U,Z,i,q⟩:=h;cases V;obtain⟨u,rfl,a⟩:=Y.one;cases a;obtain⟨z,its,n,r,j,e⟩:=I.lstM U;obtain⟨k,D,n2,c,d,f⟩:=I.lstM Z;have R:its.toArray.size+D.toArray.size<=sizeLine:=by rw[bj,bj];lia
 have J:¬(!its.toArray.isEmpty && Builtin.List.listTooLong (its.toArray.size+D.toArray.size))=true:=by
  rw[zqz R,Bool.and_false];exact ce
 refine call_meets F.slot_list_extend ⟨_,e,rfl⟩ F.entry_list_extend (F.args_list_extend_2 _ _)
  (AutoSeq1.list_extend_list_list_0 l its.toArray n b D.toArray n2 J (by rw[bj];lia) (by lia)) ⟨e,f,?_⟩
 refine⟨.non,_,I.lset (its':=its++D) U e (by simp) (r.append c) ?_,rfl,q⟩;rw[ao]
 lia
def rPop:V->k7->Hp->VK->Prop:=λx vs H Q=>∃l xs y,x=.ref l/\vs=[]/\H l=some (.lst xs)/\xs[xs.length-1]?=some y/\Q y (upd H l (.lst xs.dropLast))
theorem zy1:MtM X "list.pop" rPop:=by
 intro pins s σ H x vs v us Q I U V h;obtain⟨l,xs,y,rfl,rfl,R,Y,q⟩:=h;cases U;have D:=V.zero;subst D;obtain⟨z,its,n,r,Z,e⟩:=I.lstM R;obtain⟨u,a,b⟩:=r.get Y;have J:its.toArray[its.toArray.size-1]?=some u:=by
  show its.toArray[its.length-1]?=some u;rw[<-Array.getElem?_toList,<-Z];exact a
 refine call_meets F.slot_list_pop ⟨_,e,rfl⟩ F.entry_list_pop (F.args_list_pop_1 _) (MeetsSeq.list_pop_last l its.toArray n u J (by rw[bj];lia)) ⟨e,?_⟩;refine⟨y,_,I.lset (its':=its.dropLast) R e ?_ r.dropLast ?_,b,q⟩
 ·show its.toArray.eraseIdxIfInBounds (its.toArray.size-1)=its.dropLast.toArray
  rw[bj,o7,zsn]
 ·rw[List.length_dropLast]
  lia
def z3k:V->k7->Hp->VK->Prop:=λx vs H Q=>∃l xs i k y,x=.ref l/\vs=[.int i]/\H l=some (.lst xs)/\-(2 ^ 63)<=i/\i<2 ^ 63/\seqIndex? i xs.length=some k/\xs[k]?=some y/\Q y (upd H l (.lst (xs.eraseIdx k)))
theorem zwk:MtM X "list.pop" z3k:=by
 intro pins s σ H x vs v us Q I R U h;obtain⟨l,xs,i,k,y,rfl,rfl,J,h1,h2,V,Y,q⟩:=h;cases R;obtain⟨u,rfl,Z⟩:=U.one;obtain⟨t,rfl⟩:=Z;obtain⟨z,its,n,r,a,e⟩:=I.lstM J;obtain⟨w,b,D⟩:=r.get Y;refine call_meets F.slot_list_pop ⟨_,e,rfl⟩ F.entry_list_pop (F.args_list_pop_2 _ _)
  (MeetsSeq.list_pop_at l its.toArray n i t k w (fitsIndex_both h1 h2) (by rw[bj,<-a];exact V) (by rw[<-Array.getElem?_toList];exact b) (by rw[bj];lia)) ⟨e,?_⟩
 refine⟨y,_,I.lset (its':=its.eraseIdx k) J e ?_ (r.eraseIdx k) ?_,D,q⟩
 ·show its.toArray.eraseIdxIfInBounds k=(its.eraseIdx k).toArray
  rw[o7]
 ·have:=zol xs k
  lia
def rRep:R2:=λx y H Q=>∃l k xs,x=.ref l/\y=.int k/\H l=some (.lst xs)/\-(2 ^ 63)<=k/\k<2 ^ 63/\xs.length*k.toNat<=sizeLine /\
 ∀p,H p=none->Q (.ref p) (upd H p (.lst (List.replicate k.toNat xs).flatten))
def z0n(xs:List α)(k:Nat):(List.replicate k xs).flatten.length=k*xs.length:=by
 induction k with
 | zero=>simp
 | succ k ih=>rw[gh,cw,ao,ih,Nat.succ_mul,Nat.add_comm]
theorem z3l:OpR X (binaryOp .Mult) rRep:=by
 intro pins s σ H x y v u Q I d f h;obtain⟨l,k,xs,rfl,rfl,g,h1,h2,c,q⟩:=h;cases d;obtain⟨t,rfl⟩:=f;obtain⟨z,its,n,r,i,e⟩:=I.lstM g;have J:its.toArray.size*k.toNat<=sizeLine:=by rw[bj,<-i];exact c
 have R:¬its.toArray.size*k.toNat > (2 ^ 63-1) / 8:=by
  have:(sizeLine:Nat)<=(2 ^ 63-1) / 8:=by decide
  lia
 have V:¬(!Builtin.List.listFitsIndex k)=true:=by
  rw[fitsIndex_both h1 h2];exact ce
 have D:¬Builtin.List.listTooLong (its.toArray.size*k.toNat)=true:=by
  rw[zqz J];exact ce
 have Y:List.foldl (λZ b=>Z++b) #[] (List.replicate (if its.toArray.isEmpty=true then 0 else k.toNat) its.toArray)=(List.replicate k.toNat its).flatten.toArray:=by
  have j:∀m:Nat,List.foldl (λZ b=>Z++b) #[] (List.replicate m its.toArray)=(List.replicate m its).flatten.toArray:=λm=>by
   have:=zom its m [];rw[lu] at this;exact this
  rw[j];cases its with
  | nil=>simp
  | cons a r'=>rw[if_neg (by simp)]
 refine wpAny_binaryOp_repeat_ref (T:="list") (U:="int") (by decide) ⟨_,e,rfl⟩ (λs'=>typeIs_int s' k t) noFill_list_mul F.fills_int_mul F.slot_int_rmul repeat_list F.slot_int_index.lookup
  (call_meets F.slot_int_rmul (typeIs_int s k t) F.entry_int_rmul (F.args_int_rmul_2 _ _) (int___rmul___int_list k t l its.toArray n)
    ⟨e,rfl,⟨_,e,rfl⟩,call_meets F.slot_list_mul ⟨_,e,rfl⟩ F.entry_list_mul (F.args_list_mul_2 _ _) (AutoListH.list___mul___list_int_3 l its.toArray n k t V R D) ⟨e,?_⟩⟩)
 rw[Y];exact⟨.ref _,_,I.lnew (t':=s.toks) (r.rep k.toNat) (by rw[z0n,Nat.mul_comm];exact c),rfl,q _ I.fresh⟩
end L2
namespace Att
open PySem PySem.W PySem.Calls PyProof.Rows
variable{P:Params}{h:Heap}
def zlc:∀(D:ia) (vs:g8),WellAll P h vs (D.map WData.int)->IntsAre vs D:=by
 intro D;induction D with
 | nil =>
   intro vs w;rw[du] at w;cases w;exact .nil
 | cons n D ih =>
   intro vs w;rw[ci] at w;cases w with
   | cons a b =>
     cases a;exact .cons _ _ (ih _ b)
variable{l:OpenLaw}{n:Nat}
theorem ztx(c:l.most=some n){args:List WData}{I:g8}(J:l.row.toRowW.claim.pre args=true)(Y:WellAll P h I args) :
  ∃a vs D,I=[Value.ref a]/\args=[WData.list (D.map WData.int)]/\h.get? a=some { cls:=.type "list",data:=.seq vs.toArray }/\IntsAre vs D/\D.length<=n:=by
 have Z:WShape.hasAll [] args [.list .int]=true:=(pre_splitW J).1;have b:l.pre.holds [] { args:=args }=true:=(pre_splitW J).2;obtain⟨d,r,rfl,h1,h2⟩:=hasAllW_cons Z;obtain rfl:=hasAllW_nil h2;obtain⟨xs,rfl,e⟩:=hasW_list h1;obtain⟨D,rfl⟩:=items_int e;have R:D.length<=n:=by
  unfold OpenLaw.pre at b;have U:(WTm.not (.lt (.lit (.int (n:Int))) (.len (.arg 0)))).holds [] { args:=[.list (D.map .int)] }=true:=by
   have U:=(holds_andW b).1;rw[c] at U;exact U
  have V:=condW_of U (w_not (w_lt w_lit (w_len_list (w_arg rfl))));rw[ah] at V;refine kr λq=>?_;have f:(n:Int)<((D.length:Nat):Int):=by lia
  first
   | (rw[decide_eq_true f] at V;exact absurd V (by decide))
   | (simp at V;lia)
 cases Y with
 | cons w1 w2 =>
   cases w2;cases w1 with
   | list ho hall=>exact⟨_,_,D,rfl,rfl,ho,zlc D _ hall,R⟩
def zty(l:OpenLaw)(args:List WData):l.row.toRowW.claim.post args (.bool true) args=true :=
 postW_of (r:=l.row.toRowW) (X:=(true==true))
  (show WShape.has [] (.bool true) .bool=true by first | rfl | decide | simp[WShape.has,WShape.arms,WShape.armsAll])
  (show(WTm.eq .res (.lit (.bool true))).value [] { args:=args,res:=some (.bool true),after:=args }=some (.bool (true==true)) from w_eq_bool (w_res rfl) w_lit) rfl
def attach_call{q:Program}{I:g7}{m:(Str->g9)->Heap->Prop}{p:World->Heap->Prop}{d:DefRec}(v:l.most=some n)(e:d.params.defaults=[])(call:∀(w:World) (s₀ D:Shared) (mg g:Str->g9) (fa:Addr) (o:Obj) (h b J:Value) (a:Addr) (vs:g8) (c:ia),
   Ground q I [] m w s₀ mg g D.heap->p w D.heap ->
   D.heap.get? fa=some o->o.data=.func (docDef d.name d.params d.body d.scope h b J)->D.heap.CodeRec b d.name->mg d.name=some (.ref fa) ->
   D.heap.get? a=some { cls:=.type "list",data:=.seq vs.toArray }->IntsAre vs c->c.length<=n->D.gens=#[] ->
   codeAny (model l.prog w) callerA (.call (.ref fa) ⟨[.ref a],[]⟩) (λr s'=>r=.ok (.ret (.bool true))/\OldK D.heap s'.heap/\s'.os=D.os/\AllBare s'.gens) D) :
  WalkO q I m p l.row.toRowW d [] (λf vs=>PySem.call f vs):=by
 intro w s₀ D mg g G Y fa o h b J x kV y z i s j A args t as U u B k C;obtain rfl:x=.none:=Dflts.none s e;obtain rfl:kV=.none:=Dflts.noKw s;obtain⟨a,vs,c,rfl,rfl,V,R,Z⟩:=ztx v U k;refine enter_call (codeAny_mono (call w s₀ D mg g fa o h b J a vs c G Y y (fd_plain z) i j V R Z A) λr s' E=>?_);obtain⟨rfl,h2,F,H⟩:=E;exact⟨.inl ⟨.bool true,.bool true,[],rfl,λ_=>rfl,.bool true,zty l _,λ_=>⟨List.Pairwise.nil,λ_ K=>(nomatch K)⟩⟩,h2,F,H⟩
end Att
namespace L2
open PySem PySem.Spec PyProof.Rows
def zoo:∀ {vs:g8} {D:ia},IntsAre vs D->Vals (D.map V.int) vs
 | _,_,.nil=>.nil
 | _,_,.cons n t h=>.cons ⟨t,rfl⟩ (zoo h)
def Only(H:Hp):Prop:=∀b,H b=none\/∃o xs,H b=some (.frz o (.lst xs))
variable{K:kf}{k:Nat}{a:Addr}{x:Str}{vs:g8}
def zwl{P:Program}{w:World}{mg B:Str->g9}{CX:CXT}{fa:Addr}{fd:FuncData}{sp:Sp}{D:Shared}{Z:ia}(M:K.In D.heap)(c:D.heap.Ns mainGlobals mg)(J:D.heap.Ns builtinsNs B)(C:∀x:Str,x ≠ "__name__"->B x=bootBuiltins x)(f:D.heap.NoLimit)(T:D.gens=#[])(A:D.heap.get? a=some { cls:=.type "list",data:=.seq vs.toArray })(hi:IntsAre vs Z)(N:Z.length<=sizeLine)(W:Room k callerA)(F:∀base:Heap,K.In base->base.Ns mainGlobals mg->FnOk P w K mg base CX k fa fd [x] sp)(Y:∀(s:Shared) (u:Value),BindsTo s fd ⟨[u],[]⟩ [(x,u)])(E:∀H:Hp,Only H->SqL K H a (Z.map V.int)->sp [.ref a] H (λv _=>v=.bl true) λ_ _ _=>False)(G:∀H e s',CX [] H D (λ_ _ _=>False) e s'->False) :
  codeAny (model P w) callerA (.call (.ref fa) ⟨[.ref a],[]⟩) (λr s'=>r=.ok (.ret (.bool true))/\OldK D.heap s'.heap/\s'.os=D.os/\AllBare s'.gens) D:=by
 have O:=zoo hi;have g:=hi.length;have U:∀H:Hp,Only H->SqL K H a (Z.map V.int)->HOk P w H D.heap->(∀b,H b≠none->b=a)->(H a≠none->K.lookup a=none) ->
   codeAny (model P w) callerA (.call (.ref fa) ⟨[.ref a],[]⟩) (λr s'=>r=.ok (.ret (.bool true))/\OldK D.heap s'.heap/\s'.os=D.os/\AllBare s'.gens) D:=by
  intro H Q X i hA hK;have I:∀ {b:Addr} {o:Obj},D.heap.get? b=some o->H b=none->(hidT D.heap H).get? b=some o:=λe n=>zv9 e n;have L:∀ {b:Addr} {o:Obj} {es:Array DictEntry} {j:Nat},D.heap.get? b=some o->o.data=.dict es j->H b=none:=λ{b o es j} e d=>by
   cases q:H b with
   | none=>rfl
   | some u =>
     have e':b=a:=hA b (by rw[q];simp);subst e';rw[A] at e;cases e;have d':Data.seq vs.toArray _=Data.dict es j:=d;cases d'
  have R:∀ {b:Addr} {m:Str->g9},D.heap.Ns b m->(hidT D.heap H).Ns b m:=λ{b m} ⟨o,es,j,e,d,r⟩=>⟨o,es,j,I e (L e d),d,r⟩;have l:K.In (hidT D.heap H):=λb o e=>I (M b o e) (by
   cases q:H b with
   | none=>rfl
   | some u =>
     have e':b=a:=hA b (by rw[q];simp);subst e';rw[hK (by rw[q];simp)] at e;cases e)
  have hM:Mod K mg (hidT D.heap H):=⟨l,R c,⟨B,R J,C⟩,let ⟨mc,h1,h2⟩:=f;⟨mc,R h1,h2⟩⟩;have e0:Env0 P w K mg (hidT D.heap H) callerA [] D H:=⟨rfl,hM,λb o e=>zz2 e,Nat.le_of_eq (zta _ _),trivial,λb J=>absurd (show b∈([]:h7) from J) (by simp),i,.of_eq T⟩;refine codeAny_mono ((F _ l (R c)).run callerA [] D H ⟨[.ref a],[]⟩ [.ref a] [.ref a] _ _ W e0 (Y D (.ref a)) (.cons rfl .nil) (E H Q X)) λr s' h=>?_;cases r with
  | error e=>exact(G H e s' h).elim
  | ok fl =>
    cases fl with
    | next=>exact False.elim h
    | brk=>exact False.elim h
    | cont=>exact False.elim h
    | ret u =>
      obtain⟨v,H',os,p,un,t,r',q⟩:=h;have q':v=.bl true:=q;subst q';obtain rfl:u=Value.bool true:=r';refine⟨rfl,OldK.of_keep λb o e=>?_,os,p⟩;cases q:H b with
      | none=>exact un.keep b o e q (by intro z;exact absurd (show b∈([]:h7) from z) (by simp)) (by simp)
      | some u =>
        rcases Q b with z | ⟨ob,xs,z⟩
        ·rw[q] at z;cases z
        ·have z2:=un.frzs b ob _ z
         obtain⟨S,_⟩:=i b _ z;obtain⟨e2,_⟩:=t b _ z2;rw[e] at S;cases S;exact e2
 cases hk:K.lookup a with
 | some o =>
   have e:=M a o hk;rw[A] at e;cases e;refine U (λ_=>none) (λ_=>.inl rfl) (.inr ⟨_,vs.toArray,_,hk,rfl,rfl,rfl,by rw[bj,g];exact N,by simpa using O⟩) (λb u z=>by have y:(none:Option HO)=some u:=z;cases y) (λb z=>absurd rfl z) λz=>absurd rfl z
 | none =>
   refine U (λb=>if b=a then some (.frz { cls:=.type "list",data:=.seq vs.toArray } (.lst (Z.map V.int))) else none) (λb=>?_) (.inl (.inr ⟨{ cls:=.type "list",data:=.seq vs.toArray },if_pos rfl⟩)) (λb u z=>?_) (λb z=>?_) λ_=>hk
   ·by_cases J:b=a
    ·exact .inr ⟨_,_,if_pos J⟩
    ·exact .inl (if_neg J)
   ·by_cases J:b=a
    ·have y:=(if_pos J).symm.trans z
     cases y;subst J;exact⟨A,by rw[ah];exact N,vs,_,O,A⟩
    ·have y:=(if_neg J).symm.trans z
     cases y
   ·by_cases J:b=a
    ·exact J
    ·exact absurd (if_neg J) z
variable{l:Addr}{d:D}
def z0o{l:PySem.W.OpenLaw}{n:Nat}{q:Program}{I:g7}{y:(Str->g9)->Heap->Prop}{r:World->Heap->Prop}{d:DefRec}{K:Params->kf}{CX:World->CXT}{sp:World->Sp}(z:l.most=some n)(c:n<=sizeLine)(i:d.params.defaults=[])(A:Room k callerA)(B:∀(w:World) (h:Heap),r w h->(K w.params).In h)(F:∀(w:World) (mg:Str->g9) (fa:Addr) (h:Heap),(K w.params).In h->h.Ns mainGlobals mg->mg d.name=some (.ref fa) ->
   ∃fd:FuncData,(∀(s:Shared) (u:Value),BindsTo s fd ⟨[u],[]⟩ [(x,u)]) /\
    ∀base:Heap,(K w.params).In base->base.Ns mainGlobals mg->FnOk l.prog w (K w.params) mg base (CX w) k fa fd [x] (sp w))(j:∀(w:World) (H:Hp) (a:Addr) (Z:ia),Z.length<=n->Only H->SqL (K w.params) H a (Z.map V.int)->sp w [.ref a] H (λv _=>v=.bl true) λ_ _ _=>False)(m:∀(w:World) (H:Hp) (s:Shared) (e:Value) (s':Shared),CX w [] H s (λ_ _ _=>False) e s'->False) :
  PySem.W.WalkO q I y r l.row.toRowW d [] (λf vs=>PySem.call f vs):=by
 refine Att.attach_call z i λw s₀ R mg Q fa o S X C a vs Z G Y ho hd E p U J D L=>?_;have t:=B w _ Y;obtain⟨fd,M,N⟩:=F w mg fa _ t G.T.g p;exact zwl t G.T.g G.T.b G.T.builtins G.T.nolimit L U J (df D c) A N M (λH O P=>j w H a Z D O P) λH e s'=>m w H R e s'
def td(s:Stmt):Arguments:=match s with
 | .FunctionDef _ a _ _ _ _ _ _ _ _=>a
 | _=>{ posonlyargs:=[],args:=[],vararg:=none,kwonlyargs:=[],kw_defaults:=[],kwarg:=none,defaults:=[] }
def li(s:Stmt):List Stmt:=match s with
 | .FunctionDef _ _ b _ _ _ _ _ _ _=>b
 | _=>[]
def fx(s:Stmt):Scope:=match s with
 | .FunctionDef _ _ _ _ _ _ sc _ _ _=>sc
 | _=>{ kind:=.function,names:=[],isGenerator:=false,isCoroutine:=false }
abbrev CX0:CXT:=λ_ _ _ _ _ _=>False
abbrev E0:XK:=λ_ _ _=>False
variable{X:Cx}
def zwm:zts CX0 X E0:=λ_ _ _ _ _ _ _ h=>h.elim
structure Fun (K:kf) (x qual:Str) (st:Stmt) (f:Addr) (fd:FuncData):Prop where
 ex:∃(oc:Value) (od:Option Addr) (kV doc pm:Value) (an:Option Addr) (cdv ct:Value) (osl:Array g9),
  fd=PySem.W.fnOf x qual (td st) (li st) (fx st) .none kV doc pm an cdv ct/\K.lookup f=some ⟨oc,od,.func fd,osl⟩/\PySem.W.codeIn K cdv qual=true
 kp:PySem.W.keepIn K (.ref f)=true
variable{f:FE}
def ztz{qual:Str}{st:Stmt}{f:Addr}{oc:Value}{od an:Option Addr}{osl:Array g9}{kV D I cdv ct:Value}(l:K.lookup f=some ⟨oc,od,.func (PySem.W.fnOf x qual (td st) (li st) (fx st) .none kV D I an cdv ct),osl⟩)(c:PySem.W.codeIn K cdv qual=true)(k:PySem.W.keepIn K (.ref f)=true):Fun K x qual st f (PySem.W.fnOf x qual (td st) (li st) (fx st) .none kV D I an cdv ct):=⟨⟨oc,od,kV,D,I,an,cdv,ct,osl,rfl,l,c⟩,k⟩
def Same(H H':Hp):Prop:=∀b o,H b=some o->H' b=some o
def Same.refl(H:Hp):Same H H:=λ_ _ h=>h
variable{H H1 H2:Hp}
def Same.trans(a:Same H H1)(b:Same H1 H2):Same H H2:=λc o h=>b c o (a c o h)
variable{H':Hp}
def Same.free(e:Same H H')(h:H' l=Option.none):H l=Option.none:=by
 cases q:H l with
 | none=>rfl
 | some o =>
   rw[e l o q] at h;cases h
def zjd{env:Env}:∀(names:List (Str×NameKind)) (D:List (Str×Addr)),
  (∀y∈names,y.2=.free->∃c,env.cells.lookup y.1=some c)->(∀y c,D.lookup y=some c->env.cells.lookup y=some c) ->
  ∃cl,(forIn names D λ(x:Str×NameKind) (cs:List (Str×Addr))=>if (x.2==NameKind.free)=true then(do let c <-cellOf env x.1;pure (ForInStep.yield ((x.1,c)::cs)):Sem _) else pure (ForInStep.yield cs))=pure cl /\
   (∀y c,cl.lookup y=some c->env.cells.lookup y=some c)/\(∀y c,D.lookup y=some c->∃J,cl.lookup y=some J)/\∀y∈names,y.2=.free->∃c,cl.lookup y.1=some c
 | [],D,_,ha=>⟨D,rfl,ha,λy c e=>⟨c,e⟩,λ_ h=>nomatch h⟩
 | (n,k)::r,D,hn,ha=>by
   by_cases U:k=.free
   ·subst U
    obtain⟨c,Y⟩:=hn (n,.free) bq rfl;obtain⟨cl,e,h1,h2,V⟩:=zjd r ((n,c)::D) (λy hy=>hn y (ay _ hy)) (λy J e=>by
     rw[cq] at e;cases hq:y==n with
     | true=>rw[hq] at e;cases e;rw[eq_of_beq hq];exact Y
     | false=>rw[hq] at e;exact ha y J e)
    have I:List.lookup n ((n,c)::D)=some c:=by simp[cq]
    refine⟨cl,?_,h1,λy J e'=>?_,λy hy R=>?_⟩
    ·rw[List.forIn_cons]
     have Z:cellOf env n=pure c:=by unfold cellOf;rw[Y]
     simp only[beq_self_eq_true,if_true,Z,pure_bind];exact e
    ·cases hq:y==n with
     | true=>rw[eq_of_beq hq];exact h2 n c I
     | false=>exact h2 y J (by rw[cq,hq];exact e')
    ·rcases cb.mp hy with rfl | hy
     ·exact h2 n c I
     ·exact V y hy R
   ·obtain⟨cl,e,h1,h2,V⟩:=zjd r D (λy hy=>hn y (ay _ hy)) ha
    refine⟨cl,?_,h1,h2,λy hy R=>?_⟩
    ·rw[List.forIn_cons]
     have a:(k==NameKind.free)=false:=by cases k <;> first | rfl | exact absurd rfl U
     simp only[a,bz,if_false,pure_bind];exact e
    ·rcases cb.mp hy with rfl | hy
     ·exact absurd R U
     ·exact V y hy R
variable{sc:Scope}{env:DE0}
def zme{env:Env}(h:∀y∈sc.names,y.2=.free->∃c,env.cells.lookup y.1=some c) :
  ∃cl,closureFor sc env=pure cl/\(∀y c,cl.lookup y=some c->env.cells.lookup y=some c)/\∀y∈sc.names,y.2=.free->∃c,cl.lookup y.1=some c:=by
 obtain⟨cl,e,h1,_,D⟩:=zjd (env:=env) sc.names [] h (λy c e=>by simp at e);refine⟨cl,?_,h1,D⟩;unfold closureFor;rw[show(pure cl:Sem _)=(pure cl >>= λcs=>pure cs) by rw[pure_bind],<-e]
def zdw{env:Env}:∀ {names:List (Str×NameKind)} {x:Str} {k:NameKind},
  (names.map λ(n,k)=>if (k==NameKind.free && env.scope.kind==.function && env.kindOf n==some .cell) then(n,NameKind.cell) else(n,k)).lookup x=some k ->
  names.lookup x=some k\/(names.lookup x=some .free/\k=.cell)
 | (n,k0)::r,x,k,h=>by
   have I:=@zdw env r x k;have h:List.lookup x ((if (k0==NameKind.free && env.scope.kind==.function && env.kindOf n==some .cell)=true then(n,NameKind.cell) else(n,k0))::_)=_:=h;cases hx:x==n with
   | true =>
     by_cases D:(k0==NameKind.free && env.scope.kind==.function && env.kindOf n==some .cell)=true
     ·rw[if_pos D] at h
      simp only[cq,hx] at h ⊢;simp only[eg,beq_iff_eq] at D;cases h;exact .inr ⟨by rw[D.1.1],rfl⟩
     ·rw[if_neg D] at h
      simp only[cq,hx] at h ⊢;exact .inl h
   | false =>
     by_cases D:(k0==NameKind.free && env.scope.kind==.function && env.kindOf n==some .cell)=true
     ·rw[if_pos D] at h
      simp only[cq,hx] at h ⊢;exact I h
     ·rw[if_neg D] at h
      simp only[cq,hx] at h ⊢;exact I h
def zcl{env:Env}:∀ {names:List (Str×NameKind)} {x:Str},names.lookup x=some .free ->
  (names.map λ(n,k)=>if (k==NameKind.free && env.scope.kind==.function && env.kindOf n==some .cell) then(n,NameKind.cell) else(n,k)).lookup x=some .cell \/
  (names.map λ(n,k)=>if (k==NameKind.free && env.scope.kind==.function && env.kindOf n==some .cell) then(n,NameKind.cell) else(n,k)).lookup x=some .free
 | (n,k0)::r,x,h=>by
   have I:=@zcl env r x;show List.lookup x ((if (k0==NameKind.free && env.scope.kind==.function && env.kindOf n==some .cell)=true then(n,NameKind.cell) else(n,k0))::_)=_\/List.lookup x ((if (k0==NameKind.free && env.scope.kind==.function && env.kindOf n==some .cell)=true then(n,NameKind.cell) else(n,k0))::_)=_;cases hx:x==n with
   | true =>
     simp only[cq,hx] at h;cases h;by_cases D:(NameKind.free==NameKind.free && env.scope.kind==.function && env.kindOf n==some .cell)=true
     ·rw[if_pos D];simp only[cq,hx];exact .inl trivial
     ·rw[if_neg D];simp only[cq,hx];exact .inr trivial
   | false =>
     simp only[cq,hx] at h;by_cases D:(k0==NameKind.free && env.scope.kind==.function && env.kindOf n==some .cell)=true
     ·rw[if_pos D];simp only[cq,hx];exact I h
     ·rw[if_neg D];simp only[cq,hx];exact I h
def i7(X:Cx)(x:Str)(N':g7)(sc:Scope)(cl:List (Str×Addr))(C:Addr)(s₂:Shared)(H₂:Hp)(fp:h7):Cx :=
 { X with N:=x::N',s₀:=s₂,H₀:=H₂,env:=compEnvC sc cl C X.env,outer:=X.stack,stack:=X.stack,ex:=fp,fn:=λ_=>false,pn:=[],xe:=λ_ _=>False }
def PIfs(X:Cx)(ifs:ik)(tt:TT):Prop :=
 ∀(pins:k4) (s:Shared) (σ:St) (H:Hp) (Q:Bool->Hp->Prop),Inv X pins σ H s->tt σ H Q ->
  wpAny (model X.prog X.w) X.A (forIn ifs true λc r=>if r=true then do let ok <-isTrue c X.env (eval c X.env);pure (ForInStep.yield ok) else pure (ForInStep.yield r)) (TP X pins σ Q) X.xe s
def tYes:TT:=λ_ H Q=>Q true H
def zwn:PIfs X [] tYes:=λ_ _ _ H _ I h=>wpAny_tests_nil ⟨H,I,h⟩
def zwo{c:Expr}{D:TT}(h:PT X c D):PIfs X [c] D:=λpins s σ H Q I q=>wpAny_tests_one (h pins s σ H Q I q)
def wz(wi:TI)(ix:h8)(tt:TT)(te:TE):TE:=λσ H Q=>wi σ H λJ H1=>∃W:Nat->Nat->Hp->k7->Prop,(∃m,W 0 m H1 [])/\∀i m H ys,W i m H ys ->
 (J.stop i H/\ys.length<=sizeLine/\∀D,H D=none->Q (.ref D) (upd H D (.lst ys))) \/
 (J.go i H/\∀x H',J.yld i H x H'->tt (some x::ix.map (λj=>σ.getD j none)) H' λb H2 =>
   if b=true then te (some x::ix.map (λj=>σ.getD j none)) H2 λv R=>ys.length<sizeLine/\∃I,I<m/\W (i+1) I R (ys++[v]) else ∃I,I<m/\W (i+1) I H2 ys)
abbrev lobj(ys:g8):Obj:={ cls:=.type "list",data:=.seq ys.toArray ys.length }
variable{pins:k4}{σ:St}{s2:Shared}{fp:h7}{cl:List (Str×Addr)}{h₁:Heap}{m₁:Str->g9}{ix:h8}{N':g7}
def zt0{tk:Nat}(r:N'=ix.map λi=>X.N.getD i ("" : Str))(K:sc.kind=.function)(V:∀y∈sc.names,y.2≠.cell)(Y:∀y∈sc.names,y.2=.free->X.env.kindOf y.1=some .cell\/X.env.kindOf y.1=some .free)(s:∀y∈N',sc.names.lookup y=some .free)(h1:∀y c,cl.lookup y=some c->X.env.cells.lookup y=some c)(H:∀y∈sc.names,y.2=.free->∃c,cl.lookup y.1=some c)(I:Inv X pins σ H2 s2)(n:∀b∈fp,FpOk X pins H2 b)(t:∀b∈fp,∃o,s2.heap.get? b=some o)(U:∀b o,s2.heap.get? b=some o->h₁.get? b=some o)(A:h₁.Ns (s2.heap.objs.size+1) m₁)(L:h₁.get? s2.heap.objs.size=some (lobj [])) :
  Inv (i7 X x N' sc cl (s2.heap.objs.size+1) s2 H2 fp) [(s2.heap.objs.size,lobj [])] (none::ix.map (λj=>σ.getD j none)) H2 { s2 with heap:=h₁,toks:=tk }:=by
 have B:∀b∈fp,b<s2.heap.objs.size:=λb R=>by obtain⟨o,e⟩:=t b R;exact bg e
 have a:∀b,s2.heap.objs.size<=b->b∉frs X.stack:=λb R z=>by
  rcases cb.mp (I.stkSub b z) with e | z
  ·exact absurd (bc I.lt (e ▸ R)) (fo _)
  ·exact I.nofs R z
 refine⟨⟨I.ok.mod,K,I.ok.glob,I.ok.blt,md _,λy z c J D=>I.ok.inj y z c (h1 _ _ J) (h1 _ _ D),λy M=>?_,λy c z _=>(by cases z),I.ok.hd,I.ok.frames,.inl rfl,λb R=>⟨?_,λy c e=>?_⟩,I.bs,df I.ok.bsz I.sz,λb o e R=>?_,λb R z=>?_,I.stack,I.stkFree⟩,
  rfl,I.bare,Un.kept U,⟨m₁,A,λi y v J D W=>?_⟩,λy c e=>?_,I.hok.fresh (md _),λy c e=>I.freeC y c (h1 y c e),λp C=>?_,I.hok.kept U,?_⟩
 ·have E:(relabel sc X.env).names.lookup y=some .cell\/(relabel sc X.env).names.lookup y=some .free:=M
  have O:sc.names.lookup y=some .free:=by
   rcases E with q | q
   ·rcases zdw q with q | ⟨q,_⟩
    ·exact absurd rfl (V _ (eh q))
    ·exact q
   ·rcases zdw q with q | ⟨_,q⟩
    ·exact q
    ·cases q
  exact H (y,.free) (eh O) rfl
 ·exact b9 (f7 (B b R))
 ·exact(n b R).2.2.2.2.1 y c (h1 y c e)
 ·rcases(n b R).2.2.2.1 with z | z
  ·exact I.ok.noex b o e z
  ·exact absurd (bc (bg e) (df I.ok.bsz z)) (fo _)
 ·have z:b∈frs X.stack:=z
  rcases cb.mp (I.stkSub b z) with e | z
  ·exact(n b R).2.1 e
  ·exact(n b R).2.2.1 z
 ·cases i with
  | zero=>simp at D
  | succ j =>
    have J:N'[j]?=some y:=by simpa[i7] using J
    have D:(ix.map (λj=>σ.getD j none))[j]?=some (some v):=by simpa using D
    rw[r,bu] at J;rw[bu] at D;cases q:ix[j]? with
    | none=>rw[q] at J;cases J
    | some k =>
      rw[q] at J D;have J:X.N.getD k "" = y:=bh J;have D:σ.getD k none=some v:=bh D;have d:σ[k]?=some (some v):=by
       rw[bx] at D;cases q2:σ[k]? with
       | none=>rw[q2] at D;cases D
       | some z=>rw[q2] at D;rw[show z=some v from D]
      have f:k<X.N.length:=by rw[<-I.len];exact(aj.mp d).1
      have F:X.N[k]?=some y:=by
       rw[bx,av f] at J;rw[av f];exact congrArg some J
      have G:y∈N':=by
       rw[r,<-J];exact fy.mpr ⟨k,bf q,rfl⟩
      have Z:=s y G;have g:=Y (y,.free) (eh Z) rfl;have h:Vis X.env.scope y:=by
       rcases g with z | z
       ·exact .inr (.inl z)
       ·exact .inr (.inr z)
      obtain⟨m,hn,P⟩:=I.loc;obtain⟨u,Q,S⟩:=P k y v F d h;refine⟨u,Q,.inr ⟨?_,?_⟩⟩
      ·exact zcl Z
      ·rcases S with⟨z,_⟩ | ⟨_,c,hc,hcv⟩
       ·rcases g with w | w <;> rw[show X.env.kindOf y=_ from w] at z <;> cases z
       ·obtain⟨T,l⟩:=H (y,.free) (eh Z) rfl
        have:=h1 y T l;rw[hc] at this;cases this;exact⟨c,l,hcv.keeps U⟩
 ·obtain⟨v,q⟩:=I.cell y c (h1 y c e)
  exact⟨v,q.keeps U⟩
 ·have C:p∈[(s2.heap.objs.size,lobj [])]:=C
  rw[cr.mp C];exact⟨L,I.hok.fresh (b7 _),b9 (fg _),a _ (b7 _),λv z=>by cases z⟩
 ·simp[i7,r]
variable{ys:k7}{y:Str}
def Vals.snoc{y:V}{u:Value}(h:Vals ys vs)(r:RelV y u):Vals (ys++[y]) (vs++[u]):=Vals.append h (.cons r .nil)
def zt1(vs:g8)(u:Value):({ cls:=.type "list",data:=.seq (vs.toArray.push u) (vs.length+1) }:Obj)=lobj (vs++[u]):=LCg.lst_snoc vs u
def zq0{f:St}{V:Shared}{h':Heap}(I:Inv X pins σ H2 s2)(j:∀b∈fp,FpOk X pins H2 b)(k:∀b∈fp,∃o,s2.heap.get? b=some o)(J:Inv (i7 X x N' sc cl (s2.heap.objs.size+1) s2 H2 fp) [(s2.heap.objs.size,lobj vs)] f H' V)(l:Vals ys vs)(m:ys.length<=sizeLine)(a:Heap.SameBut (s2.heap.objs.size+1) V.heap h') :
  Inv X pins σ (upd H' s2.heap.objs.size (.lst ys)) { V with heap:=h' }:=by
 have i:=J.pin (s2.heap.objs.size,lobj vs) (b8 _ bq);have Y:H' s2.heap.objs.size=none:=i.2.1;have Z:H' (s2.heap.objs.size+1)=none:=J.free;have R:Un (frs X.stack) fp H2 H' s2.heap V.heap:=J.base;have d:∀b o,s2.heap.get? b=some o->b≠s2.heap.objs.size/\b≠s2.heap.objs.size+1:=λb o e=>by
  have:=bg e;exact⟨b9 this,b9 (f7 this)⟩
 have f2:∀b,s2.heap.objs.size<=b->H2 b=none:=λb D=>I.hok.fresh D;have g:∀b o,H2 b=some o->b≠s2.heap.objs.size:=λb o e z=>by rw[z,f2 _ (b7 _)] at e;cases e
 have p:Un (frs X.stack) fp H2 (upd H' s2.heap.objs.size (.lst ys)) s2.heap h':=by
  refine⟨λb o e n D U=>(a.2 b (d b o e).2).trans (R.keep b o e n D U),λb o e n D U=>?_,λb o e n U=>?_,λb o e U=>?_,λb xs e=>?_,λb o u e=>?_,λb ps e=>?_⟩
  ·obtain⟨sl,q⟩:=R.slot b o e n D U
   exact⟨sl,(a.2 b (d b o e).2).trans q⟩
  ·rw[gm (d b o e).1];exact R.free b o e n U
  ·obtain⟨o',q⟩:=R.there b o e U
   exact⟨o',(a.2 b (d b o e).2).trans q⟩
  ·rw[gm (g b _ e)];exact R.tups b xs e
  ·rw[gm (g b _ e)];exact R.frzs b o u e
  ·rw[gm (g b _ e)];exact R.tbls b ps e
 have kk:∀b u,b≠s2.heap.objs.size+1->V.heap.get? b=some u->h'.get? b=some u:=λb u D q=>(a.2 b D).trans q;have h:HOk X.prog X.w (upd H' s2.heap.objs.size (.lst ys)) h':=λb u e=>by
  by_cases D:b=s2.heap.objs.size
  ·subst D
   rw[ki] at e;cases e;exact⟨m,vs,vs.length,l,kk _ _ (b9 (fg _)) i.1⟩
  ·rw[gm D] at e
   have r:b≠s2.heap.objs.size+1:=λz=>by rw[z,Z] at e;cases e
   refine(J.hok b u e).stay (λc v hc q=>kk c v ?_ q) (λc q=>?_) λc xs q=>?_
   ·rcases hc with rfl | hc
    ·exact r
    ·intro z;rw[z,Z] at hc;cases hc
   ·rw[gm (λz=>by rw[z,Y] at q;cases q)];exact q
   ·rw[gm (λz=>by rw[z,Y] at q;cases q)];exact q
 refine I.call' (s':={ V with heap:=h' }) (ch:=fp) J.os p h J.bare λb D=>?_;obtain⟨_,s,_,t,y,A⟩:=j b D;exact⟨t,s,y,A⟩
variable{Q:Unit->Shared->Prop}{W:Addr->Prop}{Cm:Cx->Prop}{px pos:Pos}{iter elt:Expr}{ifs:ik}{tt:TT}{te:TE}
theorem zop{it:Addr}{G:Nat->Heap->Prop}{J:It}{Q:VK}{R:Result->Shared->Prop}{m0:Nat}{W:Nat->Nat->Hp->k7->Prop}(hc:∀cl C s₂ H₂ fp pins σ,Inv X pins σ H₂ s₂->(∀b∈fp,FpOk X pins H₂ b)->Cm (i7 X x N' sc cl C s₂ H₂ fp))(a4:∀cl C s₂ H₂ fp,Cm (i7 X x N' sc cl C s₂ H₂ fp)->PIfs (i7 X x N' sc cl C s₂ H₂ fp) ifs tt)(a5:∀cl C s₂ H₂ fp,Cm (i7 X x N' sc cl C s₂ H₂ fp)->PE (i7 X x N' sc cl C s₂ H₂ fp) elt te)(hN:N'=ix.map λi=>X.N.getD i ("" : Str))(a6:(x::N').Nodup)(hk:sc.kind=.function)(hx:sc.names.lookup x=some .local)(L:∀y∈sc.names,y.2≠.cell)(a3:∀y∈sc.names,y.2=.local->sc.names.lookup y.1=some .local)(M:∀y∈sc.names,y.2=.free->X.env.kindOf y.1=some .cell\/X.env.kindOf y.1=some .free)(a7:∀y∈N',sc.names.lookup y=some .free)(h1:∀y c,cl.lookup y=some c->X.env.cells.lookup y=some c)(h3:∀y∈sc.names,y.2=.free->∃c,cl.lookup y.1=some c)(g:Inv X pins σ H2 s2)(T:vj Cm X.prog X.w X.K (.Name x px) J fp it G)(aa:G 0 s2.heap)(f2:∀b∈fp,FpOk X pins H2 b)(w0:W 0 m0 H2 [])(turn:∀i m H ys,W i m H ys ->
   (J.stop i H/\ys.length<=sizeLine/\∀D,H D=none->Q (.ref D) (upd H D (.lst ys))) \/
   (J.go i H/\∀x H',J.yld i H x H'->tt (some x::ix.map (λj=>σ.getD j none)) H' λb H2 =>
     if b=true then te (some x::ix.map (λj=>σ.getD j none)) H2 λv H3=>ys.length<sizeLine/\∃h,h<m/\W (i+1) h H3 (ys++[v]) else ∃h,h<m/\W (i+1) h H2 ys))(ab:∀b o,s2.heap.get? b=some o->h₁.get? b=some o)(k:h₁.Ns (s2.heap.objs.size+1) m₁)(ae:h₁.get? s2.heap.objs.size=some (lobj []))(hR:∀S B ys vs l,Inv (i7 X x N' sc cl (s2.heap.objs.size+1) s2 H2 fp) [(s2.heap.objs.size,lobj vs)] l B S->Vals ys vs->ys.length<=sizeLine->(∀D,B D=none->Q (.ref D) (upd B D (.lst ys)))->R (.ok .next) S) :
  codeAny (model X.prog X.w) X.A (.compStart (.ListComp elt [⟨.Name x px,iter,ifs,0⟩] sc pos) 0 (.ref it) (.ref s2.heap.objs.size) (compEnvC sc cl (s2.heap.objs.size+1) X.env)) R { s2 with heap:=h₁,toks:=s2.toks+([]:List (Str×Value)).length }:=by
 have ag:∀b∈fp,∃o,s2.heap.get? b=some o:=λb I=>by obtain⟨o,e,_⟩:=T.obj _ _ aa b I;exact⟨o,e⟩
 have O:∀b∈fp,b<s2.heap.objs.size:=λb I=>by obtain⟨o,e⟩:=ag b I;exact bg e
 have I3:=zt0 (x:=x) (tk:=s2.toks+([]:List (Str×Value)).length) hN hk L M a7 h1 h3 g f2 ag ab k ae;have al:G 0 h₁:=T.keep _ _ _ aa λb I o e=>ab b o e;generalize Y:i7 X x N' sc cl (s2.heap.objs.size+1) s2 H2 fp=X' at I3;have eP:X'.prog=X.prog:=by rw[<-Y];rfl
 have eW:X'.w=X.w:=by rw[<-Y];rfl
 have eK:X'.K=X.K:=by rw[<-Y];rfl
 have eA:X'.A=X.A:=by rw[<-Y];rfl
 have E:X'.env=compEnvC sc cl (s2.heap.objs.size+1) X.env:=by rw[<-Y];rfl
 have eC:Cm X':=by rw[<-Y];exact hc _ _ _ _ _ _ _ g f2
 have an:X'.pn=[]:=by rw[<-Y];rfl
 have ap:X'.xe=λ_ _=>False:=by rw[<-Y];rfl
 have ar:X'.fs=frs X.stack:=by rw[<-Y];rfl
 have a8:X'.ex=fp:=by rw[<-Y];rfl
 have eN:X'.N=x::N':=by rw[<-Y];rfl
 have eS:X'.s₀=s2:=by rw[<-Y];rfl
 have a9:∀b∈fp,b∉frs X.stack:=λb I z=>by
  rcases cb.mp (g.stkSub b z) with e | z
  ·exact(f2 b I).2.1 e
  ·exact(f2 b I).2.2.1 z
 have a0:s2.heap.objs.size∉frs X.stack:=λz=>by
  rcases cb.mp (g.stkSub _ z) with e | z
  ·exact absurd (e ▸ g.lt) (fo _)
  ·exact g.nofs (b7 _) z
 have a:∀ {H':Hp} {vs:g8},(∀b∈fp,H' b=none)->∀b∈fp,FpOk X' [(s2.heap.objs.size,lobj vs)] H' b:=λ{H' vs} hn b I=>by
  refine⟨hn b I,?_,?_,.inl (by rw[a8];exact I),λy c e=>?_,λp s=>?_⟩
  ·rw[E];exact b9 (f7 (O b I))
  ·rw[ar];exact a9 b I
  ·rw[E] at e;exact(f2 b I).2.2.2.2.1 y c (h1 y c e)
  ·rw[an] at s
   rw[cr.mp (show p∈[(s2.heap.objs.size,lobj vs)] from s)];exact lm (O b I)
 have loop:∀U:Shared,U={ s2 with heap:=h₁,toks:=s2.toks+([]:List (Str×Value)).length } ->
   codeAny (model X.prog X.w) X.A (.compLoop (.ListComp elt [⟨.Name x px,iter,ifs,0⟩] sc pos) 0 (.ref it) (.ref s2.heap.objs.size) (compEnvC sc cl (s2.heap.objs.size+1) X.env))
    (R) U:=by
  rintro U rfl;refine codeAny_compLoop_tests (λn s'=>∃i Z H' ys vs,Inv X' [(s2.heap.objs.size,lobj vs)] (Z::ix.map (λj=>σ.getD j none)) H' s'/\Vals ys vs/\G i s'.heap/\(∀b∈fp,H' b=none)/\W i n H' ys) ?_ m0
   ⟨0,none,H2,[],[],I3,.nil,al,λb I=>(f2 b I).1,w0⟩
  rintro n s4 ⟨i,Z,B,ys,vs,I4,hv4,st4,fr4,w4⟩;rcases turn i n B ys w4 with⟨a1,hl,qn⟩ | ⟨go,step⟩
  ·have D:=T.done X' eP eW eK eC i _ s4 _ B (notedBy (model X.prog X.w) X.A (compEnvC sc cl (s2.heap.objs.size+1) X.env) λe s'=>R (.error e) s') I4 (a fr4) st4 a1
   rw[eA] at D;refine thn D λr S t=>?_;obtain⟨hr,I5⟩:=t;subst hr;exact hR S B ys vs _ (Y ▸ I5) hv4 hl qn
  ·have D:=T.item X' eP eW eK eC i _ s4 _ B (notedBy (model X.prog X.w) X.A (compEnvC sc cl (s2.heap.objs.size+1) X.env) λe s'=>R (.error e) s') I4 (a fr4) st4 go
   rw[eA] at D;refine thn D λr S t=>?_;obtain⟨u,hr,h5⟩:=t;subst hr;have ba:wpAny (model X.prog X.w) X.A (letOwnedTupleGo (.Name x px) (.ref it) u >>= λ_=>assign (.Name x px) (compEnvC sc cl (s2.heap.objs.size+1) X.env) u) (λ_ s₂ =>
     wpAny (model X.prog X.w) X.A (forIn ifs true λc r=>if r=true then do let ok <-isTrue c (compEnvC sc cl (s2.heap.objs.size+1) X.env) (eval c (compEnvC sc cl (s2.heap.objs.size+1) X.env));pure (ForInStep.yield ok) else pure (ForInStep.yield r)) (λok U =>
      if ok=true then wpAny (model X.prog X.w) X.A (eval elt (compEnvC sc cl (s2.heap.objs.size+1) X.env)) (λx a2 =>
       wpAny (model X.prog X.w) X.A (call (.builtin "list.append") [.ref s2.heap.objs.size,x]) (λ_ F=>∃m,m<n/\∃i Z H' ys vs,Inv X' [(s2.heap.objs.size,lobj vs)] (Z::ix.map (λj=>σ.getD j none)) H' F/\Vals ys vs/\G i F.heap/\(∀b∈fp,H' b=none)/\W i m H' ys)
        (notedBy (model X.prog X.w) X.A (compEnvC sc cl (s2.heap.objs.size+1) X.env) λe s'=>R (.error e) s') a2)
       (notedBy (model X.prog X.w) X.A (compEnvC sc cl (s2.heap.objs.size+1) X.env) λe s'=>R (.error e) s') U
      else ∃m,m<n/\∃i Z H' ys vs,Inv X' [(s2.heap.objs.size,lobj vs)] (Z::ix.map (λj=>σ.getD j none)) H' U/\Vals ys vs/\G i U.heap/\(∀b∈fp,H' b=none)/\W i m H' ys)
      (notedBy (model X.prog X.w) X.A (compEnvC sc cl (s2.heap.objs.size+1) X.env) λe s'=>R (.error e) s') s₂)
     (notedBy (model X.prog X.w) X.A (compEnvC sc cl (s2.heap.objs.size+1) X.env) λe s'=>R (.error e) s') S:=by
    refine wpAny_bind (thn h5 λ_ s6 t=>?_);obtain⟨z,H6,I6,r6,y6,P,bb⟩:=t;have bd:=I6.pinned (a bb) (T.obj _ _ P);have q6:=step z H6 y6;refine wpAny_assign_Name (?_:wpAny _ _ (storeName (compEnvC sc cl (s2.heap.objs.size+1) X.env) x u) _ _ s6);rw[<-E];refine zkx (i:=0) bd (by rw[eN];exact a6) (by rw[eN];rfl) (.inl (by rw[E];exact lookup_relabel_local hx)) r6 (λs7 I7=>?_) (.inr (by rw[E];exact lookup_relabel_local hx));have t7:=(Y ▸ a4 cl (s2.heap.objs.size+1) s2 H2 fp (hc _ _ _ _ _ _ _ g f2):PIfs X' ifs tt) _ s7 _ H6 _ I7 q6;rw[eP,eW,eA] at t7;refine wpAny_mono t7 (λb s8 t=>?_) (λe s' z=>by rw[ap] at z;exact z.elim);obtain⟨H8,I8,q8⟩:=t;have f:∀ {s':Shared} {H':Hp} {l:St},Inv X' ([(s2.heap.objs.size,lobj vs)]++zd fp s6.heap) l H' s'->G (i+1) s'.heap/\∀b∈fp,H' b=none:=λ{s' H' l} J'=>by
     refine⟨T.keep _ _ _ P λb I o e=>(J'.pin (b,o) (b8 _ (b8 _ (ziy I e)))).1,λb I=>?_⟩;obtain⟨o,e,d⟩:=T.obj _ _ P b I;exact(J'.pin (b,o) (b8 _ (b8 _ (ziy I e)))).2.1
    cases b with
    | false =>
      rw[if_neg ce] at q8 ⊢;obtain⟨h,hm,w8⟩:=q8;obtain⟨k1,k2⟩:=f I8;exact⟨h,hm,i+1,some z,H8,ys,vs,I8.unpinned,hv4,k1,k2,w8⟩
    | true =>
      rw[if_pos rfl] at q8 ⊢;have t8:=(Y ▸ a5 cl (s2.heap.objs.size+1) s2 H2 fp (hc _ _ _ _ _ _ _ g f2):PE X' elt te) _ s8 _ H8 _ I8 q8;rw[eP,eW,eA] at t8;refine wpAny_mono t8 (λv s9 t=>?_) (λe s' z=>by rw[ap] at z;exact z.elim);obtain⟨y,H9,I9,r9,bm,h,hm,w9⟩:=t;have pD:=I9.pin (s2.heap.objs.size,lobj vs) (b8 _ (d5 _ bq));obtain⟨k1,k2⟩:=f I9;have bo:=hv4.length;refine append_at (D:=s2.heap.objs.size) (its:=vs.toArray) (n:=vs.length) pD.1 (λh' sb hD=>?_) (by rw[bj];lia);have be:Inv X' [] (some z::ix.map (λj=>σ.getD j none)) H9 s9:=I9.pins_of λp s=>nomatch s;have cne:∀y c,X'.env.cells.lookup y=some c->c≠s2.heap.objs.size:=λy c e=>by
       rw[E] at e;obtain⟨v',q⟩:=g.cell y c (h1 y c e);exact b9 q.lt
      have bk:Inv X' [] (some z::ix.map (λj=>σ.getD j none)) H9 { s9 with heap:=h' }:=be.turned (t':=s9.toks) (it:=s2.heap.objs.size) (λb o I e=>(sb.2 b I).trans e) pD.2.1 (by rw[E];exact b9 (fg _)) (.inr (by rw[eS];exact b7 _)) cne (λp s=>by rw[an] at s;exact nomatch s);have bl:Inv X' [(s2.heap.objs.size,lobj (vs++[v]))] (some z::ix.map (λj=>σ.getD j none)) H9 { s9 with heap:=h' }:=bk.pins_of λp s=>by
       rw[cr.mp s];exact⟨hD.trans (congrArg some (zt1 vs v)),pD.2.1,by rw[E];exact b9 (fg _),by rw[ar];exact a0,λv' z'=>by cases z'⟩
      exact⟨h,hm,i+1,some z,H9,ys++[y],vs++[v],bl,hv4.snoc r9,T.keep _ _ _ k1 (λb I o e=>(sb.2 b (b9 (O b I))).trans e),k2,w9⟩
   exact ba
 exact codeAny_compStart_list (loop _ rfl) (T.self X.A 0 _ _ _ al (loop _ rfl))
variable{h:Heap}
def Heap.SameBut.rf(e:∃o,h.get? a=some o):Heap.SameBut a h h:=by
 first | exact⟨rfl,λ_ _=>rfl⟩ | exact⟨e,λ_ _=>rfl⟩
structure zt2 (X:Cx) (x:Str) (N':g7) (ix:h8) (sc:Scope):Prop where
 nm:N'=ix.map λi=>X.N.getD i ("" : Str)
 nd:(x::N').Nodup
 kind:sc.kind=.function
 hx:sc.names.lookup x=some .local
 cell:∀y∈sc.names,y.2≠.cell
 names:∀y∈sc.names,y.2=.local->sc.names.lookup y.1=some .local
 free:∀y∈sc.names,y.2=.free->X.env.kindOf y.1=some .cell\/X.env.kindOf y.1=some .free
 fv:∀y∈N',sc.names.lookup y=some .free
variable{wi:TI}
def zm3(c:zt2 X x N' ix sc)(p:∀cl C s₂ H₂ fp pins σ,Inv X pins σ H₂ s₂->(∀b∈fp,FpOk X pins H₂ b)->Cm (i7 X x N' sc cl C s₂ H₂ fp))(hi:PIC Cm X (.Name x px) iter wi)(Z:∀cl C s₂ H₂ fp,Cm (i7 X x N' sc cl C s₂ H₂ fp)->PIfs (i7 X x N' sc cl C s₂ H₂ fp) ifs tt)(a:∀cl C s₂ H₂ fp,Cm (i7 X x N' sc cl C s₂ H₂ fp)->PE (i7 X x N' sc cl C s₂ H₂ fp) elt te)(q:∀v,foldedSetIterable iter X.env v=pure v:=by intro _;rfl) :
  PE X (.ListComp elt [⟨.Name x px,iter,ifs,0⟩] sc pos) (wz wi ix tt te):=by
 intro pins s σ H Q I h;obtain⟨cl,d,h1,r⟩:=zme (sc:=sc) (env:=X.env) (λy f t=>I.ok.has y.1 (c.free y f t));rw[eval_ListComp];refine wpAny_comprehension_free (use:=none) rfl q d c.kind c.names (thn (hi pins s σ H _ I h) λv L u=>thn u λw s2 h2=>?_);obtain⟨it,fp,M,J,H2,rfl,n,T,U,f2,W,⟨N,z⟩,turn⟩:=h2;refine wpAny_newObj_type (wpAny_newFunctionEnv c.cell (by intro y f;simp at f) (λh₁ R D=>?_) c.kind);dsimp only at R D ⊢;have V:(s2.heap.push { cls:=.type "list",dict:=none,data:=.seq ([]:g8).toArray }).objs.size=s2.heap.objs.size+1:=i6 ..;rw[V] at R D ⊢;have g:∀b o,s2.heap.get? b=some o->h₁.get? b=some o:=λb o e=>D.extBut b o (b9 (f7 (bg e))) (aq _ (aq _ e));have Y:h₁.get? s2.heap.objs.size=some (lobj []):=D.extBut _ _ (b9 (fg _)) (aq _ (cf _ rfl));have i:∀b∈fp,∃o,s2.heap.get? b=some o:=λb A=>by obtain⟨o,e,_⟩:=T.obj _ _ U b A;exact⟨o,e⟩
 refine zop p Z a c.nm c.nd c.kind c.hx c.cell c.names c.free c.fv h1 r n T U f2 z turn g R Y λO P ys vs B j k E F=>?_;obtain⟨G,l,_⟩:=j.loc;refine⟨G,l,λh' K=>?_⟩;have m:=(j.pin (s2.heap.objs.size,lobj vs) (b8 _ bq)).2.1;exact⟨.ref s2.heap.objs.size,_,zq0 n f2 i j k E K,rfl,F _ m⟩
variable{i:Nat}
def zm4{py spos:Pos}(c:zt2 X x N' ix sc)(hc:∀cl C s₂ H₂ fp pins σ,Inv X pins σ H₂ s₂->(∀b∈fp,FpOk X pins H₂ b)->Cm (i7 X x N' sc cl C s₂ H₂ fp))(l:X.N.Nodup)(n:X.N[i]?=some y)(q:Loc X.env.scope y)(hi:PIC Cm X (.Name x px) iter wi)(r:∀cl C s₂ H₂ fp,Cm (i7 X x N' sc cl C s₂ H₂ fp)->PIfs (i7 X x N' sc cl C s₂ H₂ fp) ifs tt)(t:∀cl C s₂ H₂ fp,Cm (i7 X x N' sc cl C s₂ H₂ fp)->PE (i7 X x N' sc cl C s₂ H₂ fp) elt te)(u:swapsWith (.ListComp elt [⟨.Name x px,iter,ifs,0⟩] sc pos) (some (.Name y py)) spos.line X.env=pure true)(w:X.fn y=true\/X.env.scope.names.lookup y=some .local:=by first | exact .inl rfl | exact .inr rfl | assumption)(hs:∀v,foldedSetIterable iter X.env v=pure v:=by intro _;rfl) :
  PS X (.Assign [.Name y py] (.ListComp elt [⟨.Name x px,iter,ifs,0⟩] sc pos) spos) (tAsg (wz wi ix tt te) (m3 i)):=by
 intro pins s σ H Dn I h;have h:wz wi ix tt te σ H λv H1=>Dn.nx (σ.set i (some v)) H1:=h;obtain⟨cl,B,h1,h3⟩:=zme (sc:=sc) (env:=X.env) (λy E w=>I.ok.has y.1 (c.free y E w));rw[exec_Assign_Name_used _ _ _ _ u];refine wpAny_bind (wpAny_standAt (wpAny_bind ?_));show wpAny _ X.A (do let _ <-comprehension (.ListComp elt [⟨.Name x px,iter,ifs,0⟩] sc pos) sc X.env _ (newList []) false (eval iter X.env) (some (assign (.Name y py) X.env))) _ _ s;refine wpAny_bind (wpAny_mono (wpAny_comprehension_free (use:=some (assign (.Name y py) X.env)) (Q:=λ_ s'=>SP X pins Dn .next s') rfl hs B c.kind c.names
  (thn (hi pins s σ H _ I h) λv s1 g1=>thn g1 λaa s2 h2=>?_)) (λ_ s' hq=>wpAny_pure (wpAny_pure hq)) λ_ _ e=>e)
 obtain⟨it,fp,tn,J,H2,rfl,Y,T,Z,f2,W,⟨m0,w0⟩,turn⟩:=h2;refine wpAny_newObj_type (wpAny_newFunctionEnv c.cell (by intro y E;simp at E) (λh₁ R D=>?_) c.kind);dsimp only at R D ⊢;have d:(s2.heap.push { cls:=.type "list",dict:=none,data:=.seq ([]:g8).toArray }).objs.size=s2.heap.objs.size+1:=i6 ..;rw[d] at R D ⊢;have F:∀b o,s2.heap.get? b=some o->h₁.get? b=some o:=λb o e=>D.extBut b o (b9 (f7 (bg e))) (aq _ (aq _ e));have f:h₁.get? s2.heap.objs.size=some (lobj []):=D.extBut _ _ (b9 (fg _)) (aq _ (cf _ rfl));have G:∀b∈fp,∃o,s2.heap.get? b=some o:=λb K=>by obtain⟨o,e,_⟩:=T.obj _ _ Z b K;exact⟨o,e⟩
 refine zop (Q:=λv H1=>Dn.nx (σ.set i (some v)) H1) hc r t c.nm c.nd c.kind c.hx c.cell c.names c.free c.fv h1 h3 Y T Z f2 w0 turn F R f λg S ys vs ab j L hl qn=>?_;obtain⟨m5,U,_⟩:=j.loc;have U:g.heap.Ns (s2.heap.objs.size+1) m5:=U;have M:=(j.pin (s2.heap.objs.size,lobj vs) (b8 _ bq)).2.1;have oC:∃o,g.heap.get? (s2.heap.objs.size+1)=some o:=let ⟨o,_,_,e,_⟩:=U;⟨o,e⟩;have I6:Inv X pins σ (upd S s2.heap.objs.size (.lst ys)) { g with heap:=g.heap }:=zq0 Y f2 G j L hl (Heap.SameBut.rf oC);show wpAny _ X.A (assign (.Name y py) X.env (.ref s2.heap.objs.size)) _ _ g;have HC:upd S s2.heap.objs.size (.lst ys) (s2.heap.objs.size+1)=none:=by rw[gm (lm (fg _))];exact j.free
 have V:∀a o,s2.heap.get? a=some o->s2.heap.objs.size+1≠a:=λa o e=>lm (f7 (bg e));have oL:∃o,s2.heap.get? X.env.locals=some o:=let ⟨m,hn,_⟩:=Y.loc;let ⟨o,_,_,e,_⟩:=hn;⟨o,e⟩;have cL:s2.heap.objs.size+1≠X.env.locals:=let ⟨o,e⟩:=oL;V _ o e;have cC:∀z k,X.env.cells.lookup z=some k->k≠s2.heap.objs.size+1:=λz k e=>by
  obtain⟨v',o,e',_⟩:=Y.cell z k e;exact Ne.symm (V _ o e')
 refine wpAny_assign_Name (zk8 (v:=.ref s2.heap.objs.size) I6 l n q rfl (λs7 I7 zq=>?_) w);obtain⟨a,sb,ha⟩:=zq;have O:s2.heap.objs.size+1≠a:=by
  rcases ha with rfl | ha
  ·exact cL
  ·exact Ne.symm (cC _ _ ha)
 refine⟨m5,U.sameBut sb O,λh' P=>?_⟩;refine⟨_,_,I7.turned (t':=s7.toks) (it:=s2.heap.objs.size+1) (λb o K e=>(P.2 b K).trans e) HC cL (.inr ?_) cC (λp hp=>?_),qn _ M⟩
 ·exact oh Y.sz
 ·exact Ne.symm (V _ _ (Y.pin p hp).1)
def z0p(X:Cx)(xs N':g7)(sc:Scope)(cl:List (Str×Addr))(C:Addr)(s₂:Shared)(H₂:Hp)(fp:h7):Cx :=
 { X with N:=xs++N',s₀:=s₂,H₀:=H₂,env:=compEnvC sc cl C X.env,outer:=X.stack,stack:=X.stack,ex:=fp,fn:=λ_=>false,pn:=[],xe:=λ_ _=>False }
structure z6c (X:Cx) (xs N':g7) (ix:h8) (sc:Scope):Prop where
 nm:N'=ix.map λi=>X.N.getD i ("" : Str)
 nd:(xs++N').Nodup
 kind:sc.kind=.function
 hx:∀y∈xs,sc.names.lookup y=some .local
 cell:∀y∈sc.names,y.2≠.cell
 names:∀y∈sc.names,y.2=.local->sc.names.lookup y.1=some .local
 free:∀y∈sc.names,y.2=.free->X.env.kindOf y.1=some .cell\/X.env.kindOf y.1=some .free
 fv:∀y∈N',sc.names.lookup y=some .free
inductive D where
 | non | bl (b:Bool) | int (i:Int) | str (s:Str) | tup (ds:List D) | lst (ds:List D)
 | dct (ks:ia) (ds:List D)
 | exc (a:Addr)
abbrev k8:=List D
abbrev k9:=Option D
inductive Im where
 | t (vs:k7) | d (kvs:List (Key×V))
@[reducible] noncomputable def Im.out:Im->HO | .t vs=>.tup vs | .d kvs=>.dK kvs
def dkv(ks:ia)(vs:k7):List (Key×V):=ks.zipWith (λk v=>(Sum.inl k,v)) vs
def KL(K:kf)(a:Addr)(xs:k7):Prop :=
 ∃(o:Obj) (its:k6) (n:Nat),K.lookup a=some o/\o.cls=.type "list"/\o.dict=none/\o.data=.seq its n/\its.size<=sizeLine/\Vals xs its.toList
mutual
inductive Rep (K:kf) (H:Hp) (O:Addr->Prop):D->V->Prop
 | non:Rep K H O .non .non
 | bl (b:Bool):Rep K H O (.bl b) (.bl b)
 | int (i:Int):Rep K H O (.int i) (.int i)
 | str (s:Str):Rep K H O (.str s) (.str s)
 | tup {a:Addr} {vs:k7} {ds:k8}:H a=some (.tup vs)->Reps K H O ds vs->Rep K H O (.tup ds) (.ref a)
 | lst {a:Addr} {vs:k7} {ds:k8}:O a->Rd H a (.lst vs)->Reps K H O ds vs->Rep K H O (.lst ds) (.ref a)
 | klst {a:Addr} {vs:k7} {ds:k8}:KL K a vs->Reps K H O ds vs->Rep K H O (.lst ds) (.ref a)
 | dct {a:Addr} {ks:ia} {vs:k7} {ds:k8}:H a=some (.dK (dkv ks vs))->Reps K H O ds vs->Rep K H O (.dct ks ds) (.ref a)
 | exc (a:Addr):Rep K H O (.exc a) (.ref a)
inductive Reps (K:kf) (H:Hp) (O:Addr->Prop):k8->k7->Prop
 | nil:Reps K H O [] []
 | cons {d:D} {v:V} {ds:k8} {vs:k7}:Rep K H O d v->Reps K H O ds vs->Reps K H O (d::ds) (v::vs)
end
variable{vs:k7}{ds:k8}{O:Addr->Prop}
def Reps.ind{P:k8->k7->Prop}(n:P [] [])(c:∀ {d v ds vs},Rep K H O d v->Reps K H O ds vs->P ds vs->P (d::ds) (v::vs)):Reps K H O ds vs->P ds vs :=
 Reps.rec (motive_1:=λ_ _ _=>True) (motive_2:=λds vs _=>P ds vs) ⟨⟩ (λ_=>⟨⟩) (λ_=>⟨⟩) (λ_=>⟨⟩) (λ_ _ _=>⟨⟩) (λ_ _ _ _=>⟨⟩) (λ_ _ _=>⟨⟩) (λ_ _ _=>⟨⟩) (λ_=>⟨⟩) n λr t _=>c r t
variable{v:V}{O':Addr->Prop}
def Rep.mono(D:∀a (u:Im),H a=some u.out->H' a=some u.out)(I:∀a vs,O a->Rd H a (.lst vs)->O' a/\Rd H' a (.lst vs)):Rep K H O d v->Rep K H' O' d v :=
 Rep.rec (motive_1:=λd v _=>Rep K H' O' d v) (motive_2:=λds vs _=>Reps K H' O' ds vs) .non .bl .int .str (λh _=>.tup (D _ (.t _) h)) (λo h _=>.lst (I _ _ o h).1 (I _ _ o h).2) (λh _=>.klst h) (λh _=>.dct (D _ (.d _) h)) .exc .nil λ_ _=>.cons
def Reps.mono(I:∀a (u:Im),H a=some u.out->H' a=some u.out)(J:∀a vs,O a->Rd H a (.lst vs)->O' a/\Rd H' a (.lst vs)){ds:k8}{vs:k7}:Reps K H O ds vs->Reps K H' O' ds vs:=Reps.ind .nil λr _=>.cons (r.mono I J)
def Reps.length{ds:k8}{vs:k7}:Reps K H O ds vs->ds.length=vs.length:=Reps.ind (P:=λds vs=>ds.length=vs.length) rfl λ_ _=>congrArg Nat.succ
def Reps.get(h:Reps K H O ds vs):ds[i]?=some d->∃v,vs[i]?=some v/\Rep K H O d v :=
 Reps.ind (P:=λds vs=>∀ {i:Nat},ds[i]?=some d->∃v,vs[i]?=some v/\Rep K H O d v) nofun (λr _ q i e=>match i with
  | 0=>⟨_,rfl,bh e ▸ r⟩
  | i+1=>q (i:=i) e) h
def Reps.append{es:k8}{ws:k7}(h:Reps K H O ds vs)(s:Reps K H O es ws):Reps K H O (ds++es) (vs++ws):=Reps.ind (P:=λds vs=>Reps K H O (ds++es) (vs++ws)) s (λr _=>.cons r) h
def Reps.take{ds:k8}{vs:k7}(n:Nat)(h:Reps K H O ds vs):Reps K H O (ds.take n) (vs.take n) :=
 Reps.ind (P:=λds vs=>∀n,Reps K H O (ds.take n) (vs.take n)) (λn=>by cases n <;> exact .nil) (λr _ q n=>by cases n;exact .nil;exact .cons r (q _)) h n
def Reps.drop{ds:k8}{vs:k7}(n:Nat)(h:Reps K H O ds vs):Reps K H O (ds.drop n) (vs.drop n) :=
 Reps.ind (P:=λds vs=>∀n,Reps K H O (ds.drop n) (vs.drop n)) (λn=>by cases n <;> exact .nil) (λr t q n=>by cases n;exact .cons r t;exact q _) h n
def Reps.set{d:D}{v:V}(r:Rep K H O d v){ds:k8}{vs:k7}(i:Nat)(h:Reps K H O ds vs):Reps K H O (ds.set i d) (vs.set i v) :=
 Reps.ind (P:=λds vs=>∀i,Reps K H O (ds.set i d) (vs.set i v)) (λ_=>.nil) (λp t q n=>by cases n;exact .cons r t;exact .cons p (q _)) h i
def Reps.eraseIdx{ds:k8}{vs:k7}(i:Nat)(h:Reps K H O ds vs):Reps K H O (ds.eraseIdx i) (vs.eraseIdx i) :=
 Reps.ind (P:=λds vs=>∀i,Reps K H O (ds.eraseIdx i) (vs.eraseIdx i)) (λ_=>.nil) (λp t q n=>by cases n;exact t;exact .cons p (q _)) h i
def Reps.dropLast(h:Reps K H O ds vs):Reps K H O ds.dropLast vs.dropLast:=by
 rw[List.dropLast_eq_take,List.dropLast_eq_take,h.length];exact h.take _
def Rep.int_{i:Int}(h:Rep K H O (.int i) v):v=.int i:=by cases h;rfl
def Rep.bl_{i:Bool}(h:Rep K H O (.bl i) v):v=.bl i:=by cases h;rfl
def Rep.str_{i:Str}(h:Rep K H O (.str i) v):v=.str i:=by cases h;rfl
def Rep.exc_(h:Rep K H O (.exc a) v):v=.ref a:=by cases h;rfl
def Rep.non_(h:Rep K H O .non v):v=.non:=by cases h;rfl
def Rep.tup_(h:Rep K H O (.tup ds) v):∃a vs,v=.ref a/\H a=some (.tup vs)/\Reps K H O ds vs:=by cases h with | tup a b=>exact⟨_,_,rfl,a,b⟩
def LsOk(K:kf)(H:Hp)(O:Addr->Prop)(a:Addr)(vs:k7):Prop:=(O a/\Rd H a (.lst vs))\/KL K a vs
def LsOk.sq(h:LsOk K H O a vs):SqL K H a vs:=h.elim (λz=>.inl z.2) .inr
def Rep.lst_(h:Rep K H O (.lst ds) v):∃a vs,v=.ref a/\LsOk K H O a vs/\Reps K H O ds vs:=by
 cases h with
 | lst o a b=>exact⟨_,_,rfl,.inl ⟨o,a⟩,b⟩
 | klst a b=>exact⟨_,_,rfl,.inr a,b⟩
inductive Mo where
 | l (vs:k7) | i (C dx:Addr) (fs:List (Str×V))
@[reducible] noncomputable def Mo.out:Mo->HO | .l vs=>.lst vs | .i C dx fs=>.ins C dx fs
inductive Pt where
 | d (d:D) | o (ds:k8)
abbrev la:=List Pt
inductive AK where
 | ls | ins (b:Bool) (c:Str) (fs:g7)
inductive Sl where
 | sh (d:D) | ow (ds:k8) | o2 (dss:List k8) | ag (k:AK) (r:Option Nat) (ps:la) | al (r j:Nat) | ro (k:AK) (ps:la)
abbrev ll:=Option Sl
structure Gd where
 g:Addr->Prop
 r:Nat->h7
instance:CoeFun Gd (λ_=>Addr->Prop):=⟨Gd.g⟩
abbrev gd(g:Addr->Prop):Gd:=⟨g,λ_=>[]⟩
abbrev DE0:=List ll
def Ow(G:Gd)(W:Addr->Prop):Addr->Prop:=λa=>G a/\¬W a
def Inn(K:kf)(G:Gd)(W:Addr->Prop)(H:Hp)(dss:List k8)(ls:h7):Prop :=
 ls.length=dss.length/\∀(j:Nat) (ds:k8) (a:Addr),dss[j]?=some ds->ls[j]?=some a->W a/\∃vs,H a=some (.lst vs)/\Reps K H (Ow G W) ds vs
inductive PtsOk (K:kf) (G:Gd) (W:Addr->Prop) (H:Hp):la->h7->k7->Prop
 | nil:PtsOk K G W H [] [] []
 | d {d:D} {v:V} {ps:la} {as:h7} {us:k7}:Rep K H (Ow G W) d v->PtsOk K G W H ps as us->PtsOk K G W H (.d d::ps) as (v::us)
 | o {ds:k8} {a:Addr} {vs:k7} {ps:la} {as:h7} {us:k7}:W a->H a=some (.lst vs)->Reps K H (Ow G W) ds vs->PtsOk K G W H ps as us->PtsOk K G W H (.o ds::ps) (a::as) (.ref a::us)
inductive PtsRo (K:kf) (G:Gd) (W:Addr->Prop) (H:Hp):la->k7->Prop
 | nil:PtsRo K G W H [] []
 | d {d:D} {v:V} {ps:la} {us:k7}:Rep K H (Ow G W) d v->PtsRo K G W H ps us->PtsRo K G W H (.d d::ps) (v::us)
 | o {ds:k8} {a:Addr} {vs:k7} {ps:la} {us:k7}:¬W a->H a=some (.lst vs)->Reps K H (Ow G W) ds vs->PtsRo K G W H ps us->PtsRo K G W H (.o ds::ps) (.ref a::us)
def AkOk(K:kf)(H:Hp):AK->Addr->k7->Prop
 | .ls,p,us=>H p=some (.lst us)
 | .ins _ c fs,p,us=>∃C dx,PySem.W.nsIn K mainGlobals c=some (some (.ref C))/\H p=some (.ins C dx (fs.zip us))/\fs.length=us.length
def Lab:AK->h7->Addr->h7->Prop
 | .ins true _ _,l,p,_=>l=[p]
 | _,l,p,as=>l=p::as
inductive OwOk (K:kf) (G:Gd) (W:Addr->Prop) (H:Hp) (ds:k8) (v:V):Prop
 | mk (l:Addr) (vs:k7) (e:v=.ref l) (w:W l) (h:H l=some (.lst vs)) (r:Reps K H (Ow G W) ds vs):OwOk K G W H ds v
inductive O2Ok (K:kf) (G:Gd) (W:Addr->Prop) (H:Hp) (dss:List k8) (v:V):Prop
 | mk (l:Addr) (ls:h7) (e:v=.ref l) (w:W l) (h:H l=some (.lst (ls.map V.ref))) (n:(l::ls).Nodup) (r:Inn K G W H dss ls):O2Ok K G W H dss v
inductive AgOk (K:kf) (G:Gd) (W:Addr->Prop) (H:Hp) (k:AK) (r:Option Nat) (ps:la) (v:V):Prop
 | mk (p:Addr) (as:h7) (us:k7) (e:v=.ref p) (w:W p) (n:(p::as).Nodup) (l:∀n,r=some n->Lab k (G.r n) p as) (h:AkOk K H k p us) (q:PtsOk K G W H ps as us):AgOk K G W H k r ps v
def SlOk(K:kf)(G:Gd)(W:Addr->Prop)(H:Hp):Sl->V->Prop
 | .sh d,v=>Rep K H (Ow G W) d v
 | .ow ds,v=>OwOk K G W H ds v
 | .o2 dss,v=>O2Ok K G W H dss v
 | .ag k r ps,v=>AgOk K G W H k r ps v
 | .al r j,v=>∃p as a,G.r r=p::as/\as[j]?=some a/\v=.ref a
 | .ro k ps,v=>∃(p:Addr) (us:k7),v=.ref p/\¬W p/\AkOk K H k p us/\PtsRo K G W H ps us
def zwp:la->k7->Addr->Prop:=λps us a=>∃(j:Nat) (ds:k8),ps[j]?=some (.o ds)/\us[j]?=some (.ref a)
def AkH(H:Hp):AK->Addr->k7->Prop
 | .ls,p,us=>H p=some (.lst us)
 | .ins _ _ fs,p,us=>fs.length=us.length/\∃C dx,H p=some (.ins C dx (fs.zip us))
def Owns(H:Hp):Sl->V->Addr->Prop
 | .sh _,_,_=>False
 | .ow _,v,a=>v=.ref a
 | .o2 _,v,a=>v=.ref a\/∃(l:Addr) (ls:h7),v=.ref l/\H l=some (.lst (ls.map V.ref))/\a∈ls
 | .ag k _ ps,v,a=>v=.ref a\/∃(p:Addr) (us:k7),v=.ref p/\AkH H k p us/\zwp ps us a
 | .al _ _,_,_=>False
 | .ro _ _,_,_=>False
structure Ok (K:kf) (G:Gd) (H0:Hp) (W:Addr->Prop) (env:DE0) (σ:St) (H:Hp):Prop where
 stay:Same H0 H
 good:∀a,H0 a=none->G a
 wl:∀l,W l->H0 l=none/\∃m:Mo,H l=some m.out
 slot:∀(i:Nat) (s:Sl),env[i]?=some (some s)->∃v,σ[i]?=some (some v)/\SlOk K G W H s v
 uniq:∀(i j:Nat) (s s':Sl) (v v':V) (a:Addr),env[i]?=some (some s)->env[j]?=some (some s')->σ[i]?=some (some v)->σ[j]?=some (some v')->Owns H s v a->Owns H s' v' a->i=j
 len:env.length=σ.length
variable{ls:h7}
def u5{D:h7}(h:ls.map V.ref=D.map V.ref):ls=D:=by
 induction ls generalizing D with
 | nil=>cases D with | nil=>rfl | cons b r=>cases h
 | cons a t ih=>cases D with | nil=>cases h | cons b r=>simp[List.cons.injEq,V.ref.injEq] at h;rw[h.1,ih h.2]
variable{G:Gd}{ps:la}{as:h7}{us:k7}
def PtsOk.own(h:PtsOk K G W H ps as us)(ha:a∈as):W a/\∃vs,H a=some (.lst vs):=by
 induction h with
 | nil=>cases ha
 | d _ _ ih=>exact ih ha
 | o hW hl _ _ ih =>
   rcases cb.mp ha with rfl | ha
   ·exact⟨hW,_,hl⟩
   ·exact ih ha
def PtsOk.parts_iff(h:PtsOk K G W H ps as us):zwp ps us a↔a∈as:=by
 induction h with
 | nil=>exact⟨λ⟨j,ds,e,_⟩=>by simp at e,λz=>by cases z⟩
 | d _ _ ih =>
   rw[<-ih];constructor
   ·rintro⟨j,ds,I,D⟩
    cases j with
    | zero=>simp at I
    | succ j=>exact⟨j,ds,by simpa using I,by simpa using D⟩
   ·rintro⟨j,ds,I,D⟩
    exact⟨j+1,ds,by simpa using I,by simpa using D⟩
 | o _ _ _ _ ih =>
   rw[cb,<-ih];constructor
   ·rintro⟨j,ds,I,D⟩
    cases j with
    | zero=>simp at D;exact .inl D.symm
    | succ j=>exact .inr ⟨j,ds,by simpa using I,by simpa using D⟩
   ·rintro(rfl | ⟨j,ds,I,D⟩)
    ·exact⟨0,_,rfl,rfl⟩
    ·exact⟨j+1,ds,by simpa using I,by simpa using D⟩
variable{G':Gd}{W':Addr->Prop}
protected def PtsOk.step(h:PtsOk K G W H ps as us)(k:∀a vs,a∈as->H a=some (.lst vs)->W' a/\H' a=some (.lst vs))(r:∀d v,Rep K H (Ow G W) d v->Rep K H' (Ow G' W') d v)(D:∀ds vs,Reps K H (Ow G W) ds vs->Reps K H' (Ow G' W') ds vs):PtsOk K G' W' H' ps as us:=by
 induction h with
 | nil=>exact .nil
 | d q _ ih=>exact .d (r _ _ q) (ih k)
 | o hW hl q _ ih =>
   obtain⟨I,J⟩:=k _ _ bq hl;exact .o I J (D _ _ q) (ih λa vs R=>k a vs (ay _ R))
protected def PtsRo.step(h:PtsRo K G W H ps us)(k:∀a vs,¬W a->H a=some (.lst vs)->¬W' a/\H' a=some (.lst vs))(r:∀d v,Rep K H (Ow G W) d v->Rep K H' (Ow G' W') d v)(D:∀ds vs,Reps K H (Ow G W) ds vs->Reps K H' (Ow G' W') ds vs):PtsRo K G' W' H' ps us:=by
 induction h with
 | nil=>exact .nil
 | d q _ ih=>exact .d (r _ _ q) ih
 | o hW hl q _ ih=>obtain⟨I,J⟩:=k _ _ hW hl;exact .o I J (D _ _ q) ih
variable{j:Nat}
def PtsRo.get(h:PtsRo K G W H ps us)(e:ps[j]?=some (.o ds)):∃a vs,us[j]?=some (.ref a)/\¬W a/\H a=some (.lst vs)/\Reps K H (Ow G W) ds vs:=by
 induction h generalizing j with
 | nil=>simp at e
 | d _ _ ih =>
   cases j with
   | zero=>simp at e
   | succ j=>obtain⟨a,vs,h1,h2⟩:=ih (j:=j) (by simpa using e);exact⟨a,vs,by simpa using h1,h2⟩
 | @o _ a vs _ _ hW hl r _ ih =>
   cases j with
   | zero=>simp at e;subst e;exact⟨a,vs,rfl,hW,hl,r⟩
   | succ j=>obtain⟨a,vs,h1,h2⟩:=ih (j:=j) (by simpa using e);exact⟨a,vs,by simpa using h1,h2⟩
def PtsRo.getD(h:PtsRo K G W H ps us)(e:ps[j]?=some (.d d)):∃v,us[j]?=some v/\Rep K H (Ow G W) d v:=by
 induction h generalizing j with
 | nil=>simp at e
 | d q _ ih =>
   cases j with
   | zero=>simp at e;subst e;exact⟨_,rfl,q⟩
   | succ j=>obtain⟨a,h1,h2⟩:=ih (j:=j) (by simpa using e);exact⟨a,by simpa using h1,h2⟩
 | o _ _ _ _ ih =>
   cases j with
   | zero=>simp at e
   | succ j=>obtain⟨a,h1,h2⟩:=ih (j:=j) (by simpa using e);exact⟨a,by simpa using h1,h2⟩
variable{k:AK}{p:Addr}
theorem vn{D:k7}(h:AkOk K H k p us)(h':AkH H k p D):D=us:=by
 cases k with
 | ls=>have h:H p=_:=h;have h':H p=_:=h';rw[h] at h';cases h';rfl
 | ins b c fs =>
   obtain⟨C,dx,_,I,R⟩:=h;obtain⟨l',U,J,e⟩:=h';rw[I] at e;have e:fs.zip us=fs.zip D:=by injection e with e;injection e
   have:=congrArg (List.map Prod.snd) e;rw[List.map_snd_zip (by lia),List.map_snd_zip (by lia)] at this;exact this.symm
protected def AkOk.o{K:kf}{H:Hp}{k:AK}{p:Addr}{us:k7}(h:AkOk K H k p us):AkH H k p us:=by
 cases k with
 | ls=>exact h
 | ins b c fs=>obtain⟨C,dx,_,D,I⟩:=h;exact⟨I,C,dx,D⟩
def AkOk.mo(h:AkOk K H k p us):∃m:Mo,H p=some m.out/\∀H',H' p=some m.out->AkOk K H' k p us:=by
 cases k with
 | ls=>exact⟨.l us,h,λH' e=>e⟩
 | ins b c fs=>obtain⟨C,dx,D,I,J⟩:=h;exact⟨.i C dx (fs.zip us),I,λH' e=>⟨C,dx,D,e,J⟩⟩
variable{s:Sl}
def SlOk.owns(h:SlOk K G W H s v)(o:Owns H s v a):W a:=by
 cases s with
 | sh d=>exact o.elim
 | ow ds=>obtain⟨l,vs,e,D,_⟩:=h;rw[show v=.ref a from o] at e;cases e;exact D
 | o2 dss =>
   obtain⟨l,ls,e,D,U,V,hi⟩:=h;rcases o with o | ⟨l',ls',e',hl',ha⟩
   ·rw[o] at e;cases e;exact D
   ·rw[e] at e';cases e'
    rw[U] at hl';have:=u5 (by simpa using hl');subst this;obtain⟨j,J,Y⟩:=i4 ha;have I:j<dss.length:=by rw[<-hi.1];exact J
    exact(hi.2 j dss[j] a (by simp[I]) (by simp[J,Y])).1
 | ag k r ps =>
   obtain⟨p,as,us,e,D,V,b,Z,R⟩:=h;rcases o with o | ⟨p',us',e',hk',ha⟩
   ·rw[o] at e;cases e;exact D
   ·rw[e] at e';cases e'
    rw[vn Z hk'] at ha;exact(R.own (R.parts_iff.mp ha)).1
 | al _ _=>exact o.elim
 | ro _ _=>exact o.elim
def SlOk.back(h:SlOk K G W H s v)(k:∀l,v=.ref l->W l->∀m:Mo,H l=some m.out->H' l=some m.out)(o:Owns H' s v a):Owns H s v a:=by
 cases s with
 | sh d=>exact o.elim
 | ow ds=>exact o
 | o2 dss =>
   obtain⟨l,ls,e,D,I,R,hi⟩:=h;rcases o with o | ⟨l',ls',e',hl',ha⟩
   ·exact .inl o
   ·rw[e] at e';cases e'
    rw[k l e D (.l _) I] at hl';have:=u5 (by simpa using hl');subst this;exact .inr ⟨l,ls,e,I,ha⟩
 | ag q r ps =>
   obtain⟨p,as,us,e,D,R,Y,J,Z⟩:=h;rcases o with o | ⟨p',us',e',hk',ha⟩
   ·exact .inl o
   ·rw[e] at e';cases e'
    obtain⟨m,U,V⟩:=J.mo;rw[vn (V H' (k p e D m U)) hk'] at ha;exact .inr ⟨p,us,e,J.o,ha⟩
 | al _ _=>exact o.elim
 | ro _ _=>exact o.elim
structure Step (W:Addr->Prop) (H:Hp) (W':Addr->Prop) (H':Hp):Prop where
 keep:∀b o,H b=some o->¬W b->H' b=some o
 ws:∀l,W' l->W l\/H l=none
def Step.refl:Step W H W H:=⟨λ_ _ e _=>e,λ_ h=>.inl h⟩
def Step.trans{W1 D:Addr->Prop}(a:Step W H W1 H1)(b:Step W1 H1 D H2):Step W H D H2 where
 keep:=λc o e n=>b.keep c o (a.keep c o e n) λz=>(a.ws c z).elim n λq=>by rw[q] at e;cases e
 ws:=λl h=>by
  rcases b.ws l h with z | z
  ·exact a.ws l z
  ·by_cases n:W l
   ·exact .inl n
   ·cases e:H l with
    | none=>exact .inr rfl
    | some o=>rw[a.keep l o e n] at z;cases z
def Step.same(h:Same H H'):Step W H W H':=⟨λb o e _=>h b o e,λ_ h=>.inl h⟩
variable{H0:Hp}
def Ok.wkeep(ok:Ok K G H0 W env σ H)(st:Step W H W' H'):∀b o,H b=some o->(∀m:Mo,o≠m.out)->H' b=some o:=λb o e n =>
 st.keep b o e λz=>by obtain⟨_,m,q⟩:=ok.wl b z;rw[e] at q;exact n m (bh q)
def Rd.keep{u:HO}(h:Rd H a u)(k:∀o,H a=some o->H' a=some o):Rd H' a u:=by
 rcases h with h | ⟨o,h⟩
 ·exact .inl (k _ h)
 ·exact .inr ⟨o,k _ h⟩
def Ok.tstep(ok:Ok K G H0 W env σ H)(st:Step W H W' H'):∀a vs,H a=some (.tup vs)->H' a=some (.tup vs):=λ_ _ h=>ok.wkeep st _ _ h λm z=>by cases m <;> cases z
def Ok.istep(ok:Ok K G H0 W env σ H)(st:Step W H W' H'):∀a (u:Im),H a=some u.out->H' a=some u.out:=λ_ u h=>ok.wkeep st _ _ h λm z=>by cases u <;> cases m <;> cases z
def Ok.lstep(ok:Ok K G H0 W env σ H)(st:Step W H W' H'):∀a vs,Ow G W a->Rd H a (.lst vs)->Ow G W' a/\Rd H' a (.lst vs):=λa vs o h=>by
 refine⟨⟨o.1,λz=>?_⟩,h.keep λu e=>st.keep a u e o.2⟩;rcases st.ws a z with q | q
 ·exact o.2 q
 ·rcases h with h | ⟨_,h⟩ <;> rw[q] at h <;> cases h
def Ok.lsstep(ok:Ok K G H0 W env σ H)(st:Step W H W' H')(h:LsOk K H (Ow G W) a vs):LsOk K H' (Ow G W') a vs:=h.elim (λz=>.inl (ok.lstep st a vs z.1 z.2)) .inr
def Ok.rep(ok:Ok K G H0 W env σ H)(st:Step W H W' H')(r:Rep K H (Ow G W) d v):Rep K H' (Ow G W') d v:=r.mono (ok.istep st) (ok.lstep st)
def Ok.reps(ok:Ok K G H0 W env σ H)(st:Step W H W' H'){d:k8}{v:k7}(r:Reps K H (Ow G W) d v):Reps K H' (Ow G W') d v:=r.mono (ok.istep st) (ok.lstep st)
def Ok.slstep(ok:Ok K G H0 W env σ H)(st:Step W H W' H')(h:SlOk K G W H s v)(k:∀a (m:Mo),Owns H s v a->H a=some m.out->W' a/\H' a=some m.out):SlOk K G W' H' s v:=by
 cases s with
 | sh d=>exact ok.rep st h
 | ow ds =>
   obtain⟨l,vs,e,I,R,r⟩:=h;obtain⟨h1,h2⟩:=k l (.l vs) e R;exact⟨l,vs,e,h1,h2,ok.reps st r⟩
 | o2 dss =>
   obtain⟨l,ls,e,I,R,Z,hi⟩:=h;obtain⟨h1,h2⟩:=k l (.l _) (.inl e) R;have g:∀a vs,a∈ls->H a=some (.lst vs)->W' a/\H' a=some (.lst vs):=λa vs J D=>k a (.l vs) (.inr ⟨l,ls,e,R,J⟩) D;refine⟨l,ls,e,h1,h2,Z,hi.1,λj ds a i D=>?_⟩;obtain⟨_,vs,J,t⟩:=hi.2 j ds a i D;obtain⟨k1,k2⟩:=g a vs (bf D) J;exact⟨k1,vs,k2,ok.reps st t⟩
 | ag q r ps =>
   obtain⟨p,as,us,e,I,Z,u,U,V⟩:=h;obtain⟨m,Y,b⟩:=U.mo;obtain⟨h1,h2⟩:=k p m (.inl e) Y;exact⟨p,as,us,e,h1,Z,u,b H' h2,V.step (λa vs J D=>k a (.l vs) (.inr ⟨p,us,e,U.o,V.parts_iff.mpr J⟩) D) (λ_ _ r=>ok.rep st r) λ_ _ r=>ok.reps st r⟩
 | al _ _=>exact h
 | ro q ps =>
   obtain⟨p,us,e,I,U,V⟩:=h;have c:∀a o,¬W a->H a=some o->¬W' a:=λa o n e z=>(st.ws a z).elim n λy=>by rw[y] at e;cases e
   obtain⟨m,Y,b⟩:=U.mo;exact⟨p,us,e,c p _ I Y,b H' (st.keep p _ Y I),V.step (λa vs f D=>⟨c a _ f D,st.keep a _ D f⟩) (λ_ _ r=>ok.rep st r) λ_ _ r=>ok.reps st r⟩
def Ok.same(ok:Ok K G H0 W env σ H)(s:Same H H'):Ok K G H0 W env σ H':=by
 have st:Step W H W H':=Step.same s;have bk:∀ {i:Nat} {sl:Sl} {v:V} {a:Addr},env[i]?=some (some sl)->σ[i]?=some (some v)->Owns H' sl v a->Owns H sl v a:=λ{i sl v a} e I o=>by
  obtain⟨c,D,h⟩:=ok.slot i sl e;rw[I] at D;cases D;exact h.back (λl _ _ vs q=>s l _ q) o
 refine⟨ok.stay.trans s,ok.good,λl h=>?_,λi sl e=>?_,λi j U s2 v1 v2 a I D J R Y Z=>ok.uniq i j U s2 v1 v2 a I D J R (bk I J Y) (bk D R Z),ok.len⟩
 ·obtain⟨a,vs,b⟩:=ok.wl l h
  exact⟨a,vs,s _ _ b⟩
 ·obtain⟨v,I,h⟩:=ok.slot i sl e
  exact⟨v,I,ok.slstep st h λa vs o D=>⟨h.owns o,s _ _ D⟩⟩
def vz{o:HO}(h:H a=none):Same H (upd H a o):=λb u e=>by rw[gm (nt e h)];exact e
def addW(W:Addr->Prop)(l:Addr):Addr->Prop:=λa=>W a\/a=l
def Ok.fresh0(ok:Ok K G H0 W env σ H)(s:Same H H')(D:H l=none)(I:H' l=some (.lst vs)) :
  ¬W l/\H0 l=none/\Ok K G H0 (addW W l) env σ H'/\Step W H (addW W l) H':=by
 have R:H0 l=none:=ok.stay.free D;have U:¬W l:=λz=>by obtain⟨_,vs,q⟩:=ok.wl l z;rw[D] at q;cases q
 have st:Step W H (addW W l) H':=⟨λb o e _=>s b o e,λa z=>z.elim .inl λq=>.inr (by rw[q];exact D)⟩;have J:=ok.same s;refine⟨U,R,⟨ok.stay.trans s,ok.good,λa z=>?_,λi sl e=>?_,J.uniq,ok.len⟩,st⟩
 ·rcases z with z | rfl
  ·obtain⟨q,us,b⟩:=ok.wl a z
   exact⟨q,us,s _ _ b⟩
  ·exact⟨R,.l vs,I⟩
 ·obtain⟨v,V,h⟩:=ok.slot i sl e
  exact⟨v,V,ok.slstep st h λa vs o Y=>⟨.inl (h.owns o),s _ _ Y⟩⟩
def Ok.fresh(ok:Ok K G H0 W env σ H)(s:Same H H')(D:H l=none)(I:H' l=some (.lst vs))(r:Reps K H' (λa=>(Ow G W a\/H a=none)/\a≠l) ds vs) :
  ¬W l/\H0 l=none/\Ok K G H0 (addW W l) env σ H'/\Reps K H' (Ow G (addW W l)) ds vs/\Step W H (addW W l) H':=by
 have R:H0 l=none:=ok.stay.free D;have U:¬W l:=λz=>by obtain⟨_,vs,q⟩:=ok.wl l z;rw[D] at q;cases q
 have st:Step W H (addW W l) H':=⟨λb o e _=>s b o e,λa z=>z.elim .inl λq=>.inr (by rw[q];exact D)⟩;have V:∀a,W a->H a≠none:=λa z q=>by obtain⟨_,vs,e⟩:=ok.wl a z;rw[q] at e;cases e
 have J:=ok.same s;refine⟨U,R,⟨ok.stay.trans s,ok.good,λa z=>?_,λi sl e=>?_,J.uniq,ok.len⟩,r.mono (λ_ _ h=>h) λa us o h=>⟨⟨?_,?_⟩,h⟩,st⟩
 ·rcases z with z | rfl
  ·obtain⟨q,us,b⟩:=ok.wl a z
   exact⟨q,us,s _ _ b⟩
  ·exact⟨R,.l vs,I⟩
 ·obtain⟨v,Y,h⟩:=ok.slot i sl e
  exact⟨v,Y,ok.slstep st h λa vs o Z=>⟨.inl (h.owns o),s _ _ Z⟩⟩
 ·rcases o.1 with q | q
  ·exact q.1
  ·exact ok.good a (ok.stay.free q)
 ·rintro(z | z)
  ·rcases o.1 with q | q
   ·exact q.2 z
   ·exact V a z q
  ·exact o.2 z
def Ok.noOwn(ok:Ok K G H0 W env σ H)(I:¬W l):∀(j:Nat) (s:Sl) (v:V),env[j]?=some (some s)->σ[j]?=some (some v)->¬Owns H s v l:=λj s v e J o=>by
 obtain⟨R,D,h⟩:=ok.slot j s e;rw[J] at D;cases D;exact I (h.owns o)
variable{α:Type}
def zm5{N:List α}(D:N.Nodup){x:α}(a:N[i]?=some x)(b:N[j]?=some x):i=j:=by
 obtain⟨h1,I⟩:=aj.mp a;obtain⟨h2,J⟩:=aj.mp b;exact(List.getElem_inj D).mp (I.trans J.symm)
theorem nn{xs:List α}{x y:α}(h:(xs.set i x)[j]?=some y):(i=j/\y=x/\i<xs.length)\/(i≠j/\xs[j]?=some y):=by
 by_cases D:i=j
 ·subst D
  by_cases hi:i<xs.length
  ·rw[d6 hi] at h;cases h;exact .inl ⟨rfl,rfl,hi⟩
  ·rw[cz (by rw[dq];lia)] at h;cases h
 ·rw[dc D] at h;exact .inr ⟨D,h⟩
def Ok.put(ok:Ok K G H0 W env σ H)(h:SlOk K G W H s v)(b:∀(j:Nat) (s':Sl) (c:V) (a:Addr),env[j]?=some (some s')->σ[j]?=some (some c)->Owns H s v a->¬Owns H s' c a) :
  Ok K G H0 W (env.set i (some s)) (σ.set i (some v)) H:=by
 refine⟨ok.stay,ok.good,ok.wl,λj sl e=>?_,λj k d s2 v1 v2 a U f D I Y Z=>?_,by rw[dq,dq,ok.len]⟩
 ·rcases nn e with⟨rfl,q,hi⟩ | ⟨hj,q⟩
  ·cases q
   exact⟨v,d6 (by rw[<-ok.len];exact hi),h⟩
  ·obtain⟨u,U,r⟩:=ok.slot j sl q
   exact⟨u,by rw[dc hj];exact U,r⟩
 ·rcases nn U with⟨a1,b1,c1⟩ | ⟨a1,b1⟩ <;> rcases nn f with⟨J,R,g⟩ | ⟨J,R⟩
  ·rw[<-a1,<-J]
  ·subst a1
   cases b1;rw[d6 (by rw[<-ok.len];exact c1)] at D;cases D;rw[dc J] at I;exact absurd Z (b k s2 v2 a R I Y)
  ·subst J
   cases R;rw[d6 (by rw[<-ok.len];exact g)] at I;cases I;rw[dc a1] at D;exact absurd Y (b j d v1 a b1 D Z)
  ·rw[dc a1] at D
   rw[dc J] at I;exact ok.uniq j k d s2 v1 v2 a b1 R D I Y Z
def Ok.set(ok:Ok K G H0 W env σ H)(r:Rep K H (Ow G W) d v):Ok K G H0 W (env.set i (some (.sh d))) (σ.set i (some v)) H :=
 ok.put (s:=.sh d) r λ_ _ _ _ _ _ o=>o.elim
def Ok.setO(ok:Ok K G H0 W env σ H)(D:W l)(I:H l=some (.lst vs))(r:Reps K H (Ow G W) ds vs)(J:∀(j:Nat) (s:Sl) (v:V),env[j]?=some (some s)->σ[j]?=some (some v)->¬Owns H s v l) :
  Ok K G H0 W (env.set i (some (.ow ds))) (σ.set i (some (.ref l))) H :=
 ok.put (s:=.ow ds) ⟨l,vs,rfl,D,I,r⟩ λj s' R a e U o=>by
  have:l=a:=by have o:V.ref l=V.ref a:=o;simpa using o
  subst this;exact J j s' R e U
def Ok.let(ok:Ok K G H0 W env σ H)(e:env[i]?=some (some s))(V:σ[i]?=some (some v))(W':Addr->Prop)(I:∀a,W' a↔W a/\¬Owns H s v a)(r:Rep K H (Ow G W') d v) :
  Step W H W' H/\Ok K G H0 W' (env.set i (some (.sh d))) σ H:=by
 have st:Step W H W' H:=⟨λb o q _=>q,λa z=>.inl ((I a).mp z).1⟩;refine⟨st,⟨ok.stay,ok.good,λa z=>ok.wl a ((I a).mp z).1,λj sl q=>?_,λj k f s2 v1 v2 a g J l m Y Z=>?_,by rw[dq,ok.len]⟩⟩
 ·rcases nn q with⟨rfl,D,_⟩ | ⟨hj,D⟩
  ·cases D
   exact⟨v,V,r⟩
  ·obtain⟨u,c,h⟩:=ok.slot j sl D
   exact⟨u,c,ok.slstep st h λa vs o J=>⟨(I a).mpr ⟨h.owns o,λz=>hj (ok.uniq i j s sl v u a e D V c z o)⟩,J⟩⟩
 ·rcases nn g with⟨_,R,_⟩ | ⟨a1,R⟩
  ·cases R;exact Y.elim
  ·rcases nn J with⟨_,U,_⟩ | ⟨a2,U⟩
   ·cases U;exact Z.elim
   ·exact ok.uniq j k f s2 v1 v2 a R U l m Y Z
def Ok.share(ok:Ok K G H0 W env σ H)(e:env[i]?=some (some (.ow ds))) :
  ∃W' v,σ[i]?=some (some v)/\Step W H W' H/\Ok K G H0 W' (env.set i (some (.sh (.lst ds)))) σ H/\Rep K H (Ow G W') (.lst ds) v:=by
 obtain⟨v,I,l,vs,rfl,R,U,r⟩:=ok.slot i _ e;have J:Rep K H (Ow G λa=>W a/\¬Owns H (.ow ds) (.ref l) a) (.lst ds) (.ref l) :=
  .lst ⟨ok.good l (ok.wl l R).1,λz=>z.2 rfl⟩ (.inl U) (r.mono (λ_ _ h=>h) λa us o h=>⟨⟨o.1,λz=>o.2 z.1⟩,h⟩)
 obtain⟨st,D⟩:=ok.let e I _ (λa=>Iff.rfl) J;exact⟨_,.ref l,I,st,D,J⟩
def zm6:∀ {dss:List k8} {ls:h7},Inn K G W H dss ls->(∀a,a∈ls->W a->G a/\¬W' a)->(∀ds vs,Reps K H (Ow G W) ds vs->Reps K H (Ow G W') ds vs)->Reps K H (Ow G W') (dss.map D.lst) (ls.map V.ref)
 | [],[],_,_,_=>.nil
 | ds::dss,a::ls,h,g,r=>by
   obtain⟨R,vs,U,Y⟩:=h.2 0 ds a rfl rfl;refine .cons (.lst (g a bq R) (.inl U) (r _ _ Y)) (zm6 (dss:=dss) (ls:=ls) ⟨Nat.succ.inj h.1,λj ds' I Z b=>h.2 (j+1) ds' I (by simpa using Z) (by simpa using b)⟩ (λI J=>g I (ay _ J)) r)
variable{dss:List k8}
def Ok.share2(ok:Ok K G H0 W env σ H)(e:env[i]?=some (some (.o2 dss))) :
  ∃W' v,σ[i]?=some (some v)/\Step W H W' H/\Ok K G H0 W' (env.set i (some (.sh (.lst (dss.map D.lst))))) σ H/\Rep K H (Ow G W') (.lst (dss.map D.lst)) v:=by
 obtain⟨v,J,l,ls,rfl,V,R,b,hi⟩:=ok.slot i _ e;have U:Rep K H (Ow G λa=>W a/\¬Owns H (.o2 dss) (.ref l) a) (.lst (dss.map D.lst)) (.ref l) :=
  .lst ⟨ok.good l (ok.wl l V).1,λz=>z.2 (.inl rfl)⟩ (.inl R) (zm6 hi (λa Y Z=>⟨ok.good a (ok.wl a Z).1,λz=>z.2 (.inr ⟨l,ls,rfl,R,Y⟩)⟩) λds vs r=>r.mono (λ_ _ h=>h) λa us o h=>⟨⟨o.1,λz=>o.2 z.1⟩,h⟩)
 obtain⟨st,I⟩:=ok.let e J _ (λa=>Iff.rfl) U;exact⟨_,.ref l,J,st,I,U⟩
def Ok.chg(ok:Ok K G H0 W env σ H){s':Sl}(J:Mo)(e:env[i]?=some (some s))(g:σ[i]?=some (some v))(w:Owns H s v a)(x:SlOk K G W (upd H a J.out) s' v)(r:∀b,Owns (upd H a J.out) s' v b->Owns H s v b):Ok K G H0 W (env.set i (some s')) σ (upd H a J.out)/\Step W H W (upd H a J.out):=by
 have Z:W a:=by obtain⟨M,c,h⟩:=ok.slot i s e;rw[g] at c;cases c;exact h.owns w
 have st:Step W H W (upd H a J.out):=⟨λb o q n=>by rw[gm (λz:b=a=>n (by rw[z];exact Z))];exact q,λb z=>.inl z⟩;have t:∀ {j:Nat} {sl:Sl} {u:V} {b:Addr},i≠j->env[j]?=some (some sl)->σ[j]?=some (some u)->Owns H sl u b->b≠a:=λ{j sl u b} hj q D o z=>by
  subst z;exact hj (ok.uniq i j s sl v u b e q g D w o)
 have bk:∀ {j:Nat} {sl:Sl} {u:V} {b:Addr},i≠j->env[j]?=some (some sl)->σ[j]?=some (some u)->Owns (upd H a J.out) sl u b->Owns H sl u b:=λ{j sl u b} hj q D o=>by
  obtain⟨N,R,h⟩:=ok.slot j sl q;rw[D] at R;cases R;cases sl with
  | sh d=>exact o.elim
  | ow ds=>exact o
  | o2 dss=>exact h.back (λl U _ vs Y=>by rw[gm (t hj q D (.inl U))];exact Y) o
  | ag k p ps=>exact h.back (λl U _ vs Y=>by rw[gm (t hj q D (.inl U))];exact Y) o
  | al _ _=>exact o.elim
  | ro _ _=>exact o.elim
 refine⟨⟨λb o q=>?_,ok.good,λb z=>?_,λj sl q=>?_,λj k O s2 v1 v2 b D R U Y y o2=>?_,by rw[dq,ok.len]⟩,st⟩
 ·rw[gm (λz=>by rw[z,(ok.wl a Z).1] at q;cases q)];exact ok.stay b o q
 ·obtain⟨q,us,r⟩:=ok.wl b z
  by_cases h:b=a
  ·exact⟨q,J,by rw[h,ki]⟩
  ·exact⟨q,us,by rw[gm h];exact r⟩
 ·rcases nn q with⟨rfl,I,_⟩ | ⟨hj,I⟩
  ·cases I
   exact⟨v,g,x⟩
  ·obtain⟨u,c,h⟩:=ok.slot j sl I
   exact⟨u,c,ok.slstep st h λb vs o R=>⟨h.owns o,by rw[gm (t hj I c o)];exact R⟩⟩
 ·have back:∀ {m:Nat} {sl:Sl} {u:V},(env.set i (some s'))[m]?=some (some sl)->σ[m]?=some (some u)->Owns (upd H a J.out) sl u b->∃f,env[m]?=some (some f)/\Owns H f u b:=λ{m sl u} q D o=>by
   rcases nn q with⟨rfl,I,_⟩ | ⟨hj,I⟩
   ·cases I
    rw[g] at D;cases D;exact⟨s,e,r b o⟩
   ·exact⟨sl,I,bk hj I D o⟩
  obtain⟨A,B,C⟩:=back D U y;obtain⟨E,F,L⟩:=back R Y o2;exact ok.uniq j k A E v1 v2 b B F U Y C L
variable{ds':k8}{vs':k7}
def Ok.turn(ok:Ok K G H0 W env σ H)(e:env[i]?=some (some (.ow ds)))(I:σ[i]?=some (some (.ref l)))(r:Reps K H (Ow G W) ds' vs') :
  Ok K G H0 W (env.set i (some (.ow ds'))) σ (upd H l (.lst vs'))/\Step W H W (upd H l (.lst vs')):=by
 obtain⟨v,D,l',vs,rfl,J,R,_⟩:=ok.slot i _ e;rw[I] at D;cases D;have st:Step W H W (upd H l (.lst vs')):=⟨λb o q n=>by rw[gm (λz:b=l=>n (by rw[z];exact J))];exact q,λb z=>.inl z⟩;exact ok.chg (.l vs') e I (show Owns H (.ow ds) (.ref l) l from rfl) ⟨l,vs',rfl,J,ki,ok.reps st r⟩ λb o=>o
def Ok.turn2(ok:Ok K G H0 W env σ H)(e:env[i]?=some (some (.o2 dss)))(p:σ[i]?=some (some (.ref l)))(U:H l=some (.lst (ls.map V.ref)))(t:dss[j]?=some ds)(Y:ls[j]?=some a)(r:Reps K H (Ow G W) ds' vs'):Ok K G H0 W (env.set i (some (.o2 (dss.set j ds')))) σ (upd H a (.lst vs'))/\Step W H W (upd H a (.lst vs')):=by
 obtain⟨v,D,l',c,rfl,u,I,d,hi⟩:=ok.slot i _ e;rw[p] at D;cases D;rw[U] at I;have:=u5 (by simpa using I);subst this;have s:a∈ls:=bf Y;have J:W a:=(hi.2 j ds a t Y).1;have st:Step W H W (upd H a (.lst vs')):=⟨λb o q n=>by rw[gm (λz:b=a=>n (by rw[z];exact J))];exact q,λb z=>.inl z⟩;have f:l≠a:=λz=>by subst z;exact(bw.mp d).1 s
 have R:upd H a (.lst vs') l=some (.lst (ls.map V.ref)):=by rw[gm f];exact U
 refine ok.chg (.l vs') e p (.inr ⟨l,ls,rfl,U,s⟩) ⟨l,ls,rfl,u,R,d,by rw[dq];exact hi.1,λk es b w Z=>?_⟩ λb o=>?_
 ·rcases nn w with⟨rfl,z,_⟩ | ⟨hk,q'⟩
  ·cases z
   rw[Y] at Z;cases Z;exact⟨J,vs',ki,ok.reps st r⟩
  ·obtain⟨g,us,h,x⟩:=hi.2 k es b q' Z
   refine⟨g,us,?_,ok.reps st x⟩;have m:b≠a:=λz=>hk (by
    subst z;exact zm5 (bw.mp d).2 Y Z)
   rw[gm m];exact h
 ·rcases o with o | ⟨l',c,z,q,h⟩
  ·exact .inl o
  ·cases z
   rw[R] at q;have:=u5 (by simpa using q);subst this;exact .inr ⟨l,ls,rfl,U,h⟩
def PtsOk.get(h:PtsOk K G W H ps as us)(e:ps[j]?=some (.o ds)):∃a vs,us[j]?=some (.ref a)/\a∈as/\W a/\H a=some (.lst vs)/\Reps K H (Ow G W) ds vs:=by
 induction h generalizing j with
 | nil=>simp at e
 | d _ _ ih =>
   cases j with
   | zero=>simp at e
   | succ j=>obtain⟨a,vs,h1,h2⟩:=ih (j:=j) (by simpa using e);exact⟨a,vs,by simpa using h1,h2⟩
 | @o _ a vs _ _ _ hW hl r _ ih =>
   cases j with
   | zero=>simp at e;subst e;exact⟨a,vs,rfl,bq,hW,hl,r⟩
   | succ j=>obtain⟨a,vs,h1,h2,D⟩:=ih (j:=j) (by simpa using e);exact⟨a,vs,by simpa using h1,ay _ h2,D⟩
def PtsOk.getD(h:PtsOk K G W H ps as us)(e:ps[j]?=some (.d d)):∃v,us[j]?=some v/\Rep K H (Ow G W) d v:=by
 induction h generalizing j with
 | nil=>simp at e
 | d q _ ih =>
   cases j with
   | zero=>simp at e;subst e;exact⟨_,rfl,q⟩
   | succ j=>obtain⟨a,h1,h2⟩:=ih (j:=j) (by simpa using e);exact⟨a,by simpa using h1,h2⟩
 | o _ _ _ _ ih =>
   cases j with
   | zero=>simp at e
   | succ j=>obtain⟨a,h1,h2⟩:=ih (j:=j) (by simpa using e);exact⟨a,by simpa using h1,h2⟩
def PtsOk.set(st:Step W H W (upd H a (.lst vs')))(ok:Ok K G H0 W env σ H)(h:PtsOk K G W H ps as us)(I:as.Nodup)(e:ps[j]?=some (.o ds))(D:us[j]?=some (.ref a))(r:Reps K H (Ow G W) ds' vs') :
  PtsOk K G W (upd H a (.lst vs')) (ps.set j (.o ds')) as us:=by
 induction h generalizing j with
 | nil=>simp at e
 | d q t ih =>
   cases j with
   | zero=>simp at e
   | succ j=>exact .d (ok.rep st q) (ih I (by simpa using e) (by simpa using D))
 | @o es b vs ps' as' us' hW hl q t ih =>
   cases j with
   | zero =>
     simp at D;subst D;refine .o hW ki (ok.reps st r) (t.step (λb vs J D=>⟨(t.own J).1,?_⟩) (λ_ _ r=>ok.rep st r) λ_ _ r=>ok.reps st r);rw[gm (λz:b=_=>by subst z;exact(bw.mp I).1 J)];exact D
   | succ j =>
     have R:a∈as':=t.parts_iff.mp ⟨j,ds,e,D⟩;have U:b≠a:=λz=>by subst z;exact(bw.mp I).1 R
     exact .o hW (by rw[gm U];exact hl) (ok.reps st q) (ih (bw.mp I).2 e D)
variable{b:Expr}
def zt3{b:Addr}(e:ps[j]?=some (.o ds))(h:zwp (ps.set j (.o ds')) us b):zwp ps us b:=by
 obtain⟨i,es,h1,h2⟩:=h;rcases nn h1 with⟨rfl,_,_⟩ | ⟨_,z⟩
 ·exact⟨j,ds,e,h2⟩
 ·exact⟨i,es,z,h2⟩
variable{r:Option Nat}
def Ok.turnP(ok:Ok K G H0 W env σ H)(e:env[i]?=some (some (.ag k r ps)))(h:σ[i]?=some (some (.ref p)))(J:AkOk K H k p us)(R:ps[j]?=some (.o ds))(U:us[j]?=some (.ref a))(t:Reps K H (Ow G W) ds' vs') :
  Ok K G H0 W (env.set i (some (.ag k r (ps.set j (.o ds'))))) σ (upd H a (.lst vs'))/\Step W H W (upd H a (.lst vs')):=by
 obtain⟨v,D,p',as,V,rfl,u,Y,w,Z,c⟩:=ok.slot i _ e;rw[h] at D;cases D;have:=vn Z J.o;subst this;have s:a∈as:=c.parts_iff.mp ⟨j,ds,R,U⟩;have d:=(c.own s).1;have st:Step W H W (upd H a (.lst vs')):=⟨λb o q n=>by rw[gm (λz:b=a=>n (by rw[z];exact d))];exact q,λb z=>.inl z⟩;have f:p≠a:=λz=>by subst z;exact(bw.mp Y).1 s
 have g:=PtsOk.set st ok c (bw.mp Y).2 R U t;obtain⟨m,x,y⟩:=J.mo;have I:AkOk K (upd H a (.lst vs')) k p us:=y _ (by rw[gm f];exact x);refine ok.chg (.l vs') e h (.inr ⟨p,us,rfl,J.o,j,ds,R,U⟩) ⟨p,as,us,rfl,u,Y,w,I,g⟩ λb o=>?_;rcases o with o | ⟨p',V,z,q,hb⟩
 ·exact .inl o
 ·cases z
  rw[vn I q] at hb;exact .inr ⟨p,us,rfl,J.o,zt3 R hb⟩
def Ok.turnD(ok:Ok K G H0 W env σ H){d':D}{I:V}(e:env[i]?=some (some (.ag .ls r ps)))(s:σ[i]?=some (some (.ref p)))(u:H p=some (.lst us))(x:ps[j]?=some (.d d))(y:Rep K H (Ow G W) d' I) :
  Ok K G H0 W (env.set i (some (.ag .ls r (ps.set j (.d d'))))) σ (upd H p (.lst (us.set j I)))/\Step W H W (upd H p (.lst (us.set j I))):=by
 obtain⟨v,U,p',as,R,rfl,Z,w,A,J,f⟩:=ok.slot i _ e;rw[s] at U;cases U;have J:H p=some (.lst R):=J;rw[u] at J;cases J;have st:Step W H W (upd H p (.lst (us.set j I))):=⟨λb o q n=>by rw[gm (λz:b=p=>n (by rw[z];exact Z))];exact q,λb z=>.inl z⟩;have g:=ok.rep st y;have k:PtsOk K G W (upd H p (.lst (us.set j I))) ps as us:=f.step (λb vs a B=>⟨(f.own a).1,by rw[gm (λz:b=p=>by subst z;exact(bw.mp w).1 a)];exact B⟩) (λ_ _ r=>ok.rep st r) λ_ _ r=>ok.reps st r;have go:∀ {c:la} {bs:h7} {ws:k7} (m:Nat),PtsOk K G W (upd H p (.lst (us.set j I))) c bs ws->c[m]?=some (.d d)->PtsOk K G W (upd H p (.lst (us.set j I))) (c.set m (.d d')) bs (ws.set m I):=by
  intro c bs ws m h;induction h generalizing m with
  | nil=>intro e;simp at e
  | d q t ih =>
    intro e;cases m with
    | zero=>exact .d g t
    | succ m=>exact .d q (ih m (by simpa using e))
  | o Z hl q t ih =>
    intro e;cases m with
    | zero=>simp at e
    | succ m=>exact .o Z hl q (ih m (by simpa using e))
 have Y:=go j k x;refine ok.chg (.l (us.set j I)) e s (.inl rfl) ⟨p,as,us.set j I,rfl,Z,w,A,ki,Y⟩ λb o=>?_;rcases o with o | ⟨p',R,z,q,a⟩
 ·exact .inl o
 ·cases z
  have q:upd H p (.lst (us.set j I)) p=some (.lst R):=q;rw[ki] at q;cases q;exact .inr ⟨p,us,rfl,u,f.parts_iff.mpr (Y.parts_iff.mp a)⟩
structure At (X:Cx) (i:Nat) (x:Str):Prop where
 n:X.N[i]?=some x
 v:Vis X.env.scope x
 d:(x==("__debug__" : Str))=false
 c:(x==("__classdict__" : Str))=false
def At.pe(h:At X i x):PE X (.Name x pos) (tVar i):=z2m h.n h.v h.d h.c
structure To (X:Cx) (i:Nat) (x:Str):Prop where
 nd:X.N.Nodup
 n:X.N[i]?=some x
 l:Loc X.env.scope x
 f:X.fn x=true\/X.env.scope.names.lookup x=some .local
structure Bn (X:Cx) (x:Str):Prop where
 g:Gl X x
 m:X.mg x=none
structure Ats (N cs:g7) (X:Cx):Prop where
 n:X.N=N
 get:∀i x,N[i]?=some x->At X i x
 ck:∀u∈cs,X.env.kindOf u=some .cell\/X.env.kindOf u=some .free
structure Tos (N:g7) (X:Cx):Prop where
 to:∀i x,N[i]?=some x->To X i x
variable{N cs:g7}
protected def Ats.a(h:Ats N cs X)(e:N[i]?=some x):At X i x:=h.get i x e
protected def Tos.t(h:Tos N X)(e:N[i]?=some x):To X i x:=h.to i x e
def Ats.nox(h:Ats N cs X):Ats N cs X.nox:=⟨h.n,λi x e=>let z:=h.get i x e;⟨z.n,z.v,z.d,z.c⟩,h.ck⟩
def Tos.nox(h:Tos N X):Tos N X.nox:=⟨λi x e=>let z:=h.to i x e;⟨z.nd,z.n,z.l,z.f⟩⟩
def okN(x:Str):Bool:=!(x==("__debug__" : Str)) && !(x==("__classdict__" : Str))
def qp(h:okN x=true):(x==("__debug__" : Str))=false/\(x==("__classdict__" : Str))=false:=by
 unfold okN at h;rwa [eg,ke,ke] at h
def ud{o:Option NameKind}{k:NameKind}(h:(o==some k)=true):o=some k:=by
 cases o with
 | none=>cases h
 | some a=>cases a <;> cases k <;> first | rfl | cases h
def subN(N:g7)(ix:h8):g7:=ix.map λi=>N.getD i ("" : Str)
def pi(N cs:g7)(ix:h8)(y:Str)(sc:Scope):Bool:=decide ((y::subN N ix).Nodup) && decide (sc.kind=.function) && (sc.names.lookup y==some .local) && decide (∀z∈sc.names,z.2≠.cell) && decide (∀z∈sc.names,z.2=.local->sc.names.lookup z.1=some .local) && decide (∀z∈sc.names,z.2=.free->z.1∈subN N ix) && (subN N ix).all (λu=>(sc.names.lookup u==some .free) && cs.elem u) && (y::subN N ix).all okN
def gl_d(h:X.env.scope.names.lookup x=some .globalImplicit):Gl X x:=h
variable{s:Shared}{C:Addr}
def z3m(h:sc.names.lookup x=some .local):Vis (i7 X y N' sc cl C s H fp).env.scope x:=.inl (lookup_relabel_local h)
def z3n(h:sc.names.lookup x=some .free):Vis (i7 X y N' sc cl C s H fp).env.scope x:=.inr (zcl h)
def uv(hA:Ats N cs X)(h:pi N cs ix y sc=true):zt2 X y (subN N ix) ix sc:=by
 unfold pi at h;simp only[eg,decide_eq_true_eq,gk] at h;obtain⟨⟨⟨⟨⟨⟨⟨h1,h2⟩,I⟩,J⟩,R⟩,U⟩,D⟩,_⟩:=h;exact⟨by rw[hA.n];rfl,h1,h2,ud I,J,R,λz V Y=>hA.ck z.1 (List.mem_of_elem_eq_true (D z.1 (U z V Y)).2),λu Z=>ud (D u Z).1⟩
variable{s₂:Shared}{H₂:Hp}
def rd(h:pi N cs ix y sc=true):Ats (y::subN N ix) (subN N ix) (i7 X y (subN N ix) sc cl C s₂ H₂ fp):=by
 unfold pi at h;simp only[eg,decide_eq_true_eq,gk] at h;obtain⟨⟨⟨⟨⟨⟨⟨h1,h2⟩,J⟩,U⟩,V⟩,Y⟩,D⟩,I⟩:=h;refine⟨rfl,λi x e=>⟨e,?_,(qp (I x (bf e))).1,(qp (I x (bf e))).2⟩,λu R=>?_⟩
 ·rcases cb.mp (bf e) with rfl | hm
  ·exact z3m (ud J)
  ·exact z3n (ud (D x hm).1)
 ·exact zcl (env:=X.env) (ud (D u R).1)
abbrev FE:=DE0->Option (D×DE0)
abbrev FT:=DE0->Option (Bool×DE0)
abbrev FA:=DE0->Option (k8×DE0)
inductive DP (K:kf) (G:Gd) (H0:Hp) {β:Type} (f:DE0->Option (β×DE0)) (P:(Addr->Prop)->DE0->β->DE0->Prop) (σ:St) (H:Hp):Prop
 | mk (W:Addr->Prop) (env:DE0) (d:β) (env':DE0) (ok:Ok K G H0 W env σ H) (q:f env=some (d,env')) (k:P W env d env'):DP K G H0 f P σ H
def tD(K:kf)(G:Gd)(H0:Hp)(f:FE):TE:=λσ H Q=>DP K G H0 f (λW env d env' =>
 ∀W' v H',Step W H W' H'->Ok K G H0 W' env' σ H'->Rep K H' (Ow G W') d v->Q v H') σ H
def tDT(K:kf)(G:Gd)(H0:Hp)(f:FT):TT:=λσ H Q=>DP K G H0 f (λW env b env' =>
 ∀W' H',Step W H W' H'->Ok K G H0 W' env' σ H'->Q b H') σ H
def tDA(K:kf)(G:Gd)(H0:Hp)(f:FA):TA:=λσ H Q=>DP K G H0 f (λW env ds env' =>
 ∀W' vs H',Step W H W' H'->Ok K G H0 W' env' σ H'->Reps K H' (Ow G W') ds vs->Q vs H') σ H
def tDF(K:kf)(G:Gd)(H0:Hp)(f:FA):TE:=λσ H Q=>DP K G H0 f (λW env ds env' =>
 ∀W' l vs H',Step W H (addW W' l) H'->Ok K G H0 W' env' σ H'->Ok K G H0 (addW W' l) env' σ H'->¬W' l->H' l=some (.lst vs)->Reps K H' (Ow G (addW W' l)) ds vs->Q (.ref l) H') σ H
structure DEx (X:Cx) (G:Gd) (H0:Hp) (e:Expr) (f:FE):Prop where
 out:PE X e (tD X.K G H0 f)
structure DTx (X:Cx) (G:Gd) (H0:Hp) (e:Expr) (f:FT):Prop where
 out:PT X e (tDT X.K G H0 f)
structure DAx (X:Cx) (G:Gd) (H0:Hp) (es:ik) (f:FA):Prop where
 out:PA X es (tDA X.K G H0 f)
structure DFx (X:Cx) (G:Gd) (H0:Hp) (e:Expr) (f:FA):Prop where
 out:PE X e (tDF X.K G H0 f)
variable{e:Expr}{t:TE}
def PE.imp{t':TE}(h:PE X e t)(i:∀σ H Q,t' σ H Q->t σ H Q):PE X e t':=λpins s σ H Q I q=>h pins s σ H Q I (i σ H Q q)
def PT.imp{t t':TT}(h:PT X e t)(i:∀σ H Q,t' σ H Q->t σ H Q):PT X e t':=λpins s σ H Q I q=>h pins s σ H Q I (i σ H Q q)
def PA.imp{e:ik}{t t':TA}(h:PA X e t)(i:∀σ H Q,t' σ H Q->t σ H Q):PA X e t':=λpos pins s σ H Q I q=>h pos pins s σ H Q I (i σ H Q q)
@[simp] noncomputable def fVar(i:Nat):FE:=λe=>match e[i]? with
 | some (some (.sh d))=>some (d,e)
 | some (some (.ow ds))=>some (.lst ds,e.set i (some (.sh (.lst ds))))
 | some (some (.o2 dss))=>some (.lst (dss.map D.lst),e.set i (some (.sh (.lst (dss.map D.lst)))))
 | _=>none
@[simp] noncomputable def fC(d:D):FE:=λe=>some (d,e)
@[simp] noncomputable def fBin(op:D->D->k9)(f g:FE):FE:=λe=>(f e).bind λr=>(g r.2).bind λq=>(op r.1 q.1).map λd=>(d,q.2)
@[simp] noncomputable def fUn(op:D->k9)(f:FE):FE:=λe=>(f e).bind λr=>(op r.1).map λd=>(d,r.2)
@[simp] noncomputable def fAnd(f g:FT):FT:=λe=>(f e).bind λr=>if r.1=true then g r.2 else some (false,r.2)
@[simp] noncomputable def fOr(f g:FT):FT:=λe=>(f e).bind λr=>if r.1=true then some (true,r.2) else g r.2
@[simp] noncomputable def fNot(f:FT):FT:=λe=>(f e).map λr=>(!r.1,r.2)
@[simp] noncomputable def fTst(f:FE):FT:=λe=>(f e).bind λr=>match r.1 with | .bl b=>some (b,r.2) | _=>none
@[simp] noncomputable def wy(f g:FE):FE:=λe=>(f e).bind λr=>match r.1 with | .bl true=>g r.2 | .bl false=>some (.bl false,r.2) | _=>none
@[simp] noncomputable def z0q(f:FE):FE:=λe=>(f e).bind λr=>match r.1 with | .bl b=>some (.bl (!b),r.2) | _=>none
@[simp] noncomputable def fNil:FA:=λe=>some ([],e)
@[simp] noncomputable def au(f:FE)(g:FA):FA:=λe=>(f e).bind λr=>(g r.2).bind λq=>some (r.1::q.1,q.2)
@[simp] noncomputable def fTup(g:FA):FE:=λe=>(g e).bind λr=>if r.1.length<=64 then some (.tup r.1,r.2) else none
@[simp] noncomputable def fz(g:FA):FA:=λe=>(g e).bind λr=>if r.1.length<=64 then some (r.1,r.2) else none
@[simp] noncomputable def fLst(g:FA):FE:=λe=>(g e).map λr=>(.lst r.1,r.2)
@[simp] noncomputable def ja:D->D->k9 | .int i,.int j=>some (.int (i+j)) | _,_=>none
@[simp] noncomputable def dSub:D->D->k9 | .int i,.int j=>some (.int (i-j)) | _,_=>none
def ml(i:Int):Prop:=-(2 ^ 64)<i/\i<2 ^ 64
noncomputable instance (i:Int):Decidable (ml i):=Classical.propDecidable _
def Few(n:Nat):Prop:=n<=2 ^ 20
noncomputable instance (n:Nat):Decidable (Few n):=Classical.propDecidable _
def Bnd(lo hi i:Int):Prop:=lo<=i/\i<hi
noncomputable instance (lo hi i:Int):Decidable (Bnd lo hi i):=Classical.propDecidable _
def dMul:D->D->k9 | .int i,.int j=>if ml i\/ml j then some (.int (i*j)) else none | _,_=>none
def dMod:D->D->k9 | .int i,.int j=>if 0<j then some (.int (i % j)) else none | _,_=>none
def dDiv:D->D->k9 | .int i,.int j=>if Bnd 1 1073741824 j then some (.int (i / j)) else none | _,_=>none
@[simp] noncomputable def dNeg:D->k9 | .int i=>some (.int (-i)) | _=>none
@[simp] noncomputable def dLt:D->D->k9 | .int i,.int j=>some (.bl (decide (i<j))) | _,_=>none
@[simp] noncomputable def dLe:D->D->k9 | .int i,.int j=>some (.bl (decide (i<=j))) | _,_=>none
@[simp] noncomputable def dGt:D->D->k9 | .int i,.int j=>some (.bl (decide (j<i))) | _,_=>none
@[simp] noncomputable def dGe:D->D->k9 | .int i,.int j=>some (.bl (decide (j<=i))) | _,_=>none
@[simp] noncomputable def dEq:D->D->k9
 | .int i,.int j=>some (.bl (decide (i=j))) | .str i,.str j=>some (.bl (decide (i=j))) | .bl i,.bl j=>some (.bl (decide (i=j))) | _,_=>none
@[simp] noncomputable def dNe:D->D->k9
 | .int i,.int j=>some (.bl (!decide (i=j))) | .str i,.str j=>some (.bl (!decide (i=j))) | .bl i,.bl j=>some (.bl (!decide (i=j))) | _,_=>none
@[simp] noncomputable def dIx:D->D->k9 | .tup ds,.int i=>atI ds i | .lst ds,.int i=>atI ds i | _,_=>none
def OpD(X:Cx)(G:Gd)(H0:Hp)(r:R2)(op:D->D->k9):Prop :=
 ∀W env σ H x y d1 d2 d (Q:VK),Ok X.K G H0 W env σ H->Rep X.K H (Ow G W) d1 x->Rep X.K H (Ow G W) d2 y->op d1 d2=some d ->
  (∀v H',Step W H W H'->Ok X.K G H0 W env σ H'->Rep X.K H' (Ow G W) d v->Q v H')->r x y H Q
variable{r:R2}{op:D->D->k9}{g:FE}
def zwq(U:OpD X G H0 r op):∀σ H Q,tD X.K G H0 (fBin op f g) σ H Q->tOp r (tD X.K G H0 f) (tD X.K G H0 g) σ H Q:=by
 rintro σ H Q ⟨W,env,d,env',ok,e,k⟩;cases e1:f env with
 | none=>simp[e1] at e
 | some r1 =>
   cases e2:g r1.2 with
   | none=>simp[e1,e2] at e
   | some r2 =>
     have e:(op r1.1 r2.1).map (λd=>(d,r2.2))=some (d,env'):=by simpa[fBin,e1,e2] using e
     cases e3:op r1.1 r2.1 with
     | none=>rw[e3] at e;cases e
     | some d' =>
       rw[e3] at e;have V:(d',r2.2)=(d,env'):=bh e;cases V;refine⟨W,env,r1.1,r1.2,ok,e1,λW1 v1 H1 Y D p1=>⟨W1,r1.2,r2.1,r2.2,D,e2,λR v2 H2 s2 I p2=>?_⟩⟩;exact U R _ σ H2 v1 v2 _ _ _ Q I (D.rep s2 p1) p2 e3 λv Z a J b=>k R v Z ((Y.trans s2).trans a) J b
variable{a:Expr}{p:D->D->k9}
def xo{op:Operator}(D:OpR X (binaryOp op) r)(I:OpD X G H0 r p)(J:DEx X G H0 a f)(R:DEx X G H0 b g):DEx X G H0 (.BinOp a op b pos) (fBin p f g) :=
 ⟨(zz8 D J.out R.out).imp (zwq I)⟩
def zy2{op:CmpOp}(D:OpR X (compareOp op) r)(I:OpD X G H0 r p)(J:DEx X G H0 a f)(R:DEx X G H0 b g)(U:behindInMarks op b=false):DEx X G H0 (.Compare a [op] [b] pos) (fBin p f g) :=
 ⟨(z0a D J.out R.out U).imp (zwq I)⟩
def z3o(D:IxR X r)(I:OpD X G H0 r p)(J:DEx X G H0 a f)(R:DEx X G H0 b g)(U:uw b):DEx X G H0 (.Subscript a b pos) (fBin p f g) :=
 ⟨(xb D J.out R.out U).imp (zwq I)⟩
def z3p(h:∀σ H Q,tD X.K G H0 f σ H Q->t σ H Q):∀σ H Q,tDT X.K G H0 (fTst f) σ H Q->z3b t σ H Q:=by
 rintro σ H Q ⟨W,env,b,env',ok,e,k⟩;refine h σ H _ ?_;cases e1:f env with
 | none=>simp[e1] at e
 | some r1 =>
   obtain⟨d,D⟩:=r1;cases d with
   | bl b' =>
     have e:some (b',D)=some (b,env'):=by simpa[fTst,e1] using e
     cases e;exact⟨W,env,_,_,ok,e1,λW1 v1 H1 J I p1=>⟨_,p1.bl_,k W1 H1 J I⟩⟩
   | _=>simp[e1] at e
def xn{op:CmpOp}(D:OpR X (compareOp op) r)(I:OpD X G H0 r p)(J:DEx X G H0 a f)(R:DEx X G H0 b g)(U:behindInMarks op b=false):DTx X G H0 (.Compare a [op] [b] pos) (fTst (fBin p f g)) :=
 ⟨(z0b D J.out R.out U).imp (z3p (zwq I))⟩
variable{g:Int->Int->Int}
def od_I{C:Int->Int->Prop}(h:∀D I d,op D I=some d->∃i j,D=.int i/\I=.int j/\C i j/\d=.int (g i j)):OpD X G H0 (rI C λi j=>.int (g i j)) op:=by
 intro W env σ H x y D I d Q ok p1 p2 e k;obtain⟨i,j,rfl,rfl,J,rfl⟩:=h _ _ _ e;exact⟨i,j,p1.int_,p2.int_,J,k _ H Step.refl ok (.int _)⟩
def z3q(h:∀D I d,op D I=some d->∃i j,D=.int i/\I=.int j/\d=.int (g i j)):OpD X G H0 (rI0 λi j=>.int (g i j)) op:=by
 intro W env σ H x y D I d Q ok p1 p2 e k;obtain⟨i,j,rfl,rfl,rfl⟩:=h _ _ _ e;exact⟨i,j,p1.int_,p2.int_,k _ H Step.refl ok (.int _)⟩
variable{g:FE}
def zwr{g:Int->Int->Bool}(h:∀D I d,op D I=some d->∃i j,D=.int i/\I=.int j/\d=.bl (g i j)):OpD X G H0 (rI0 λi j=>.bl (g i j)) op:=by
 intro W env σ H x y D I d Q ok p1 p2 e k;obtain⟨i,j,rfl,rfl,rfl⟩:=h _ _ _ e;exact⟨i,j,p1.int_,p2.int_,k _ H Step.refl ok (.bl _)⟩
def z3r:OpD X G H0 (rI0 λi j=>.int (i+j)) ja:=z3q λD I d e=>by
 cases D <;> try (cases e;done)
 all_goals cases I <;> first | (cases e;done) | exact⟨_,_,rfl,rfl,(bh e).symm⟩
def z3s:OpD X G H0 (rI0 λi j=>.int (i-j)) dSub:=z3q λD I d e=>by
 cases D <;> try (cases e;done)
 all_goals cases I <;> first | (cases e;done) | exact⟨_,_,rfl,rfl,(bh e).symm⟩
def z3t:OpD X G H0 (rI CMul λi j=>.int (i*j)) dMul:=od_I λD I d e=>by
 cases D <;> try (cases e;done)
 all_goals cases I <;> first
  | (cases e;done)
  | (rename_i i j
     by_cases h:ml i\/ml j
     ·simp only[dMul,if_pos h] at e;exact⟨_,_,rfl,rfl,h,(bh e).symm⟩
     ·simp only[dMul,if_neg h] at e;cases e)
def z3u:OpD X G H0 (rI (λ_ j=>0<j) λi j=>.int (i % j)) dMod:=od_I λD I d e=>by
 cases D <;> try (cases e;done)
 all_goals cases I <;> first
  | (cases e;done)
  | (rename_i i j
     by_cases h:0<j
     ·simp only[dMod,if_pos h] at e;exact⟨_,_,rfl,rfl,h,(bh e).symm⟩
     ·simp only[dMod,if_neg h] at e;cases e)
theorem z3v:OpD X G H0 (rI CDiv λi j=>.int (i / j)) dDiv:=od_I λD I d e=>by
 cases D <;> try (cases e;done)
 all_goals cases I <;> first
  | (cases e;done)
  | (rename_i i j
     by_cases h:Bnd 1 1073741824 j
     ·simp only[dDiv,if_pos h] at e;exact⟨_,_,rfl,rfl,⟨by have:=h.1;lia,h.2⟩,(bh e).symm⟩
     ·simp only[dDiv,if_neg h] at e;cases e)
def z6d:OpD X G H0 (rI0 λi j=>.bl (decide (i<j))) dLt:=zwr λD I d e=>by
 cases D <;> try (cases e;done)
 all_goals cases I <;> first | (cases e;done) | exact⟨_,_,rfl,rfl,(bh e).symm⟩
def z6e:OpD X G H0 (rI0 λi j=>.bl (decide (i<=j))) dLe:=zwr λD I d e=>by
 cases D <;> try (cases e;done)
 all_goals cases I <;> first | (cases e;done) | exact⟨_,_,rfl,rfl,(bh e).symm⟩
def z3w:OpD X G H0 (rI0 λi j=>.bl (decide (j<i))) dGt:=zwr λD I d e=>by
 cases D <;> try (cases e;done)
 all_goals cases I <;> first | (cases e;done) | exact⟨_,_,rfl,rfl,(bh e).symm⟩
def z6f:OpD X G H0 (rI0 λi j=>.bl (decide (j<=i))) dGe:=zwr λD I d e=>by
 cases D <;> try (cases e;done)
 all_goals cases I <;> first | (cases e;done) | exact⟨_,_,rfl,rfl,(bh e).symm⟩
def zy3(i j:Int):decide (V.int i=V.int j)=decide (i=j):=by simp
def zy4(i j:Str):decide (V.str i=V.str j)=decide (i=j):=by simp
def z3x(i j:Bool):decide (V.bl i=V.bl j)=decide (i=j):=by simp
def z3y:OpD X G H0 rEq dEq:=by
 intro W env σ H x y D I d Q ok p1 p2 e k;cases D <;> try (cases e;done)
 all_goals cases I <;> first
  | (cases e;done)
  | (cases p1.int_;cases p2.int_;cases e;refine⟨rfl,?_⟩;rw[zy3];exact k _ H Step.refl ok (.bl _))
  | (cases p1.str_;cases p2.str_;cases e;refine⟨rfl,?_⟩;rw[zy4];exact k _ H Step.refl ok (.bl _))
  | (cases p1.bl_;cases p2.bl_;cases e;refine⟨rfl,?_⟩;rw[z3x];exact k _ H Step.refl ok (.bl _))
def z6g:OpD X G H0 rNe dNe:=by
 intro W env σ H x y D I d Q ok p1 p2 e k;cases D <;> try (cases e;done)
 all_goals cases I <;> first
  | (cases e;done)
  | (cases p1.int_;cases p2.int_;cases e;refine⟨rfl,?_⟩;rw[zy3];exact k _ H Step.refl ok (.bl _))
  | (cases p1.str_;cases p2.str_;cases e;refine⟨rfl,?_⟩;rw[zy4];exact k _ H Step.refl ok (.bl _))
  | (cases p1.bl_;cases p2.bl_;cases e;refine⟨rfl,?_⟩;rw[z3x];exact k _ H Step.refl ok (.bl _))
def xz{i:Int}(r:Reps K H O ds vs)(h:atI ds i=some d):∃v,atI vs i=some v/\Rep K H O d v:=by
 unfold atI at h ⊢;rw[<-r.length];cases q:ixN ds.length i with
 | none=>rw[q] at h;cases h
 | some j=>rw[q] at h;exact r.get h
def z6h:OpD X G H0 (rIx X.K) dIx:=by
 intro W env σ H x y J R d Q ok p1 p2 e k;cases J <;> first
  | (cases e;done)
  | (cases R <;> first
      | (cases e;done)
      | (cases p2
         first
          | (obtain⟨a, vs, rfl, h, r⟩ := p1.tup_
             obtain⟨v,D,I⟩:=xz r e;exact .inr (.inl ⟨a,vs,_,v,rfl,rfl,SqT.of h,D,k _ H Step.refl ok I⟩))
          | (obtain⟨a, vs, rfl, h, r⟩ := p1.lst_
             obtain⟨v,D,I⟩:=xz r e;exact .inl ⟨a,vs,_,v,rfl,rfl,h.sq,D,k _ H Step.refl ok I⟩)))
def lf(D:DEx X G H0 a f)(I:DEx X G H0 b g):DEx X G H0 (.BinOp a .Add b pos) (fBin ja f g):=xo z24 z3r D I
def kq(D:DEx X G H0 a f)(I:DEx X G H0 b g):DEx X G H0 (.BinOp a .Sub b pos) (fBin dSub f g):=xo z25 z3s D I
def ul(D:DEx X G H0 a f)(I:DEx X G H0 b g):DEx X G H0 (.BinOp a .Mult b pos) (fBin dMul f g):=xo z26 z3t D I
def m4(D:DEx X G H0 a f)(I:DEx X G H0 b g):DEx X G H0 (.BinOp a .Mod b pos) (fBin dMod f g):=xo z27 z3u D I
def uk(D:DEx X G H0 a f)(I:DEx X G H0 b g):DEx X G H0 (.BinOp a .FloorDiv b pos) (fBin dDiv f g):=xo zz9 z3v D I
def z6i(D:DEx X G H0 a f)(I:DEx X G H0 b g):DEx X G H0 (.Compare a [.Gt] [b] pos) (fBin dGt f g):=zy2 z3a z3w D I (um _)
def z3z(D:DEx X G H0 a f)(I:DEx X G H0 b g):DEx X G H0 (.Compare a [.Eq] [b] pos) (fBin dEq f g):=zy2 z29 z3y D I (um _)
def n4(D:DEx X G H0 a f)(I:DEx X G H0 b g):DTx X G H0 (.Compare a [.Lt] [b] pos) (fTst (fBin dLt f g)):=xn z57 z6d D I (um _)
def z30(D:DEx X G H0 a f)(I:DEx X G H0 b g):DTx X G H0 (.Compare a [.LtE] [b] pos) (fTst (fBin dLe f g)):=xn z58 z6e D I (um _)
def mj(D:DEx X G H0 a f)(I:DEx X G H0 b g):DTx X G H0 (.Compare a [.Gt] [b] pos) (fTst (fBin dGt f g)):=xn z3a z3w D I (um _)
def wx(D:DEx X G H0 a f)(I:DEx X G H0 b g):DTx X G H0 (.Compare a [.GtE] [b] pos) (fTst (fBin dGe f g)):=xn z59 z6f D I (um _)
def jv(D:DEx X G H0 a f)(I:DEx X G H0 b g):DTx X G H0 (.Compare a [.Eq] [b] pos) (fTst (fBin dEq f g)):=xn z29 z3y D I (um _)
def om(D:DEx X G H0 a f)(I:DEx X G H0 b g):DTx X G H0 (.Compare a [.NotEq] [b] pos) (fTst (fBin dNe f g)):=xn z56 z6g D I (um _)
def j5(D:DEx X G H0 a f)(I:DEx X G H0 b g)(J:uw b:=by intro _ _;rfl):DEx X G H0 (.Subscript a b pos) (fBin dIx f g):=z3o ztu z6h D I J
def bn{Nn Cn:g7}(an:Ats Nn Cn X)(J:Nn[i]?=some x:=by rfl):DEx X G H0 (.Name x pos) (fVar i):=⟨((an.a J).pe).imp λσ H Q R=>by
 obtain⟨W,env,d,env',ok,e,k⟩:=R;unfold fVar at e;cases q:env[i]? with
 | none=>rw[q] at e;cases e
 | some o =>
   cases o with
   | none=>rw[q] at e;cases e
   | some sl =>
     cases sl with
     | sh d' =>
       rw[q] at e;cases e;obtain⟨v,I,r⟩:=ok.slot i _ q;exact⟨v,I,k W v H Step.refl ok r⟩
     | ow ds =>
       rw[q] at e;cases e;obtain⟨W',v,I,st,D,r⟩:=ok.share q;exact⟨v,I,k W' v H st D r⟩
     | o2 dss =>
       rw[q] at e;cases e;obtain⟨W',v,I,st,D,r⟩:=ok.share2 q;exact⟨v,I,k W' v H st D r⟩
     | ag _ _ _=>rw[q] at e;cases e
     | al _ _=>rw[q] at e;cases e
     | ro _ _=>rw[q] at e;cases e⟩
def de_c(h:PE X e (tC v))(r:∀H O,Rep X.K H O d v):DEx X G H0 e (fC d):=⟨h.imp λσ H Q D=>by
 obtain⟨W,env,d',env',ok,q,k⟩:=D;cases q;exact k W v H Step.refl ok (r _ _)⟩
def cg{i:Int}:DEx X G H0 (.Constant (.int i) j pos) (fC (.int i)):=de_c zf λ_ _=>.int _
def kz{i:Bool}:DEx X G H0 (.Constant (.bool i) j pos) (fC (.bl i)):=de_c z5x λ_ _=>.bl _
def f9{i:Str}:DEx X G H0 (.Constant (.str i) j pos) (fC (.str i)):=de_c zyt λ_ _=>.str _
def sy(R:DEx X G H0 a f):DEx X G H0 (.UnaryOp .USub a pos) (fUn dNeg f):=⟨(z23 zyv R.out).imp λσ H Q U=>by
 obtain⟨W,env,d',env',ok,q,k⟩:=U;cases e1:f env with
 | none=>simp[e1] at q
 | some r =>
   obtain⟨d,I⟩:=r;cases d with
   | int i =>
     have q:some (D.int (-i),I)=some (d',env'):=by simpa[fUn,e1,dNeg] using q
     cases q;exact⟨W,env,_,_,ok,e1,λW1 v1 H1 V J p1=>⟨i,p1.int_,k W1 _ H1 V J (.int _)⟩⟩
   | _=>simp[e1] at q⟩
section
variable {X:Cx} {G:Gd} {H0:Hp} {a b c e:Expr} {es rest:ik} {f g:FE} {F:FA} {p q:FT} {pos:Pos}
structure DWx (X:Cx) (G:Gd) (H0:Hp) (e:Expr) (f:FT):Prop where
 out:PW X e (tDT X.K G H0 f)
def PW.imp{X:Cx}{e:Expr}{t t':TT}(h:PW X e t)(i:∀σ H Q,t' σ H Q->t σ H Q):PW X e t':=λw pins s σ H Q I q=>h w pins s σ H Q I (i σ H Q q)
def dt_w(h:DWx X G H0 e p):DTx X G H0 e p:=⟨PW.pt h.out⟩
def qc(h:DTx X G H0 a p):DWx X G H0 (.BoolOp .And [a] pos) p:=⟨zz4 h.out⟩
def lz(h:DTx X G H0 a p):DWx X G H0 (.BoolOp .Or [a] pos) p:=⟨z2o h.out⟩
def qb(h:DTx X G H0 a p)(h2:DWx X G H0 (.BoolOp .And (b::rest) pos) q):DWx X G H0 (.BoolOp .And (a::b::rest) pos) (fAnd p q):=⟨(z2p h.out h2.out).imp λσ H Q U=>by
 obtain⟨W,env,d,env',ok,e,k⟩:=U;cases e1:p env with
 | none=>simp[e1] at e
 | some r =>
   obtain⟨t,D⟩:=r;refine⟨W,env,t,D,ok,e1,λW1 H1 R I=>?_⟩;cases t with
   | true =>
     exact⟨W1,D,d,env',I,by simpa[fAnd,e1] using e,λV H2 s2 J=>k V H2 (R.trans s2) J⟩
   | false =>
     have e:some (false,D)=some (d,env'):=by simpa[fAnd,e1] using e
     cases e;exact k W1 H1 R I⟩
def kn(h:DTx X G H0 a p)(h2:DWx X G H0 (.BoolOp .Or (b::rest) pos) q):DWx X G H0 (.BoolOp .Or (a::b::rest) pos) (fOr p q):=⟨(z5y h.out h2.out).imp λσ H Q U=>by
 obtain⟨W,env,d,env',ok,e,k⟩:=U;cases e1:p env with
 | none=>simp[e1] at e
 | some r =>
   obtain⟨t,D⟩:=r;refine⟨W,env,t,D,ok,e1,λW1 H1 R I=>?_⟩;cases t with
   | false =>
     exact⟨W1,D,d,env',I,by simpa[fOr,e1] using e,λV H2 s2 J=>k V H2 (R.trans s2) J⟩
   | true =>
     have e:some (true,D)=some (d,env'):=by simpa[fOr,e1] using e
     cases e;exact k W1 H1 R I⟩
def lq(h:DTx X G H0 a p):DTx X G H0 (.UnaryOp .Not a pos) (fNot p):=⟨(z2q h.out).imp λσ H Q I=>by
 obtain⟨W,env,d,env',ok,e,k⟩:=I;cases e1:p env with
 | none=>simp[e1] at e
 | some r =>
   have e:some (!r.1,r.2)=some (d,env'):=by simpa[fNot,e1] using e
   cases e;exact⟨W,env,_,_,ok,e1,λW1 H1 J D=>k W1 H1 J D⟩⟩
def km(h:DEx X G H0 a f)(D:∀whole,isTrue a X.env whole=(do let v <-whole;standAt a.pos;holding [v] (truthy v)):=by intro _;rfl):DTx X G H0 a (fTst f):=⟨(z2n h.out D).imp (z3p λ_ _ _ z=>z)⟩
def zy5{op:BoolOp}(h:DEx X G H0 a f):DEx X G H0 (.BoolOp op [a] pos) f:=⟨z2r h.out⟩
def zy6(h:DEx X G H0 a f)(h2:DEx X G H0 (.BoolOp .And (b::rest) pos) g):DEx X G H0 (.BoolOp .And (a::b::rest) pos) (wy f g):=⟨(z2s h.out h2.out).imp λσ H Q V=>by
 obtain⟨W,env,d,env',ok,e,k⟩:=V;cases e1:f env with
 | none=>simp[e1] at e
 | some r =>
   obtain⟨t,I⟩:=r;refine⟨W,env,t,I,ok,e1,λW1 v1 H1 U J p1=>?_⟩;cases t with
   | bl t =>
     refine⟨t,p1.bl_,?_⟩;cases t with
     | true =>
       exact⟨W1,I,d,env',J,by simpa[wy,e1] using e,λY v2 H2 s2 R p2=>k Y v2 H2 (U.trans s2) R p2⟩
     | false =>
       have e:some (D.bl false,I)=some (d,env'):=by simpa[wy,e1] using e
       cases e;exact k W1 _ H1 U J (.bl _)
   | _=>simp[e1] at e⟩
def z31(h:DEx X G H0 a f):DEx X G H0 (.UnaryOp .Not a pos) (z0q f):=⟨(z2t h.out).imp λσ H Q R=>by
 obtain⟨W,env,d,env',ok,e,k⟩:=R;cases e1:f env with
 | none=>simp[e1] at e
 | some r =>
   obtain⟨t,I⟩:=r;refine⟨W,env,t,I,ok,e1,λW1 v1 H1 U J p1=>?_⟩;cases t with
   | bl t =>
     have e:some (D.bl (!t),I)=some (d,env'):=by simpa[z0q,e1] using e
     cases e;exact⟨t,p1.bl_,k W1 _ H1 U J (.bl _)⟩
   | _=>simp[e1] at e⟩
def cy  : DAx X G H0 [] fNil:=⟨o5.imp λσ H Q D=>by
 obtain⟨W,env,ds,env',ok,e,k⟩:=D;cases e;exact k W [] H Step.refl ok .nil⟩
def bi(R:DEx X G H0 e f)(U:DAx X G H0 es F)(V:starEach (e::es) X.env=(false,eval e X.env)::starEach es X.env:=by rfl):DAx X G H0 (e::es) (au f F):=⟨(mr R.out U.out V).imp λσ H Q Y=>by
 obtain⟨W,env,ds,env',ok,q,k⟩:=Y;cases e1:f env with
 | none=>simp[e1] at q
 | some r =>
   obtain⟨d,D⟩:=r;cases e2:F D with
   | none=>simp[e1,e2] at q
   | some r2 =>
     have q:some (d::r2.1,r2.2)=some (ds,env'):=by simpa[au,e1,e2] using q
     cases q;exact⟨W,env,d,D,ok,e1,λW1 v1 H1 Z I p1=>⟨W1,D,_,_,I,e2,λa vs H2 s2 J p2=>k a _ H2 (Z.trans s2) J (.cons (I.rep s2 p1) p2)⟩⟩⟩
def le64{n:Nat}(h:n<=64):n<=sizeLine:=df h (by rw[sizeLine_eq];decide)
def kh{k1}(h:DAx X G H0 es F):DEx X G H0 (.Tuple es k1 pos) (fTup F):=⟨(z3e h.out).imp λσ H Q U=>by
 obtain⟨W,env,d,env',ok,q,k⟩:=U;cases e1:F env with
 | none=>simp[e1] at q
 | some r =>
   obtain⟨ds,I⟩:=r;by_cases R:ds.length<=64
   ·have q:some (D.tup ds,I)=some (d,env'):=by simpa[fTup,e1,R] using q
    cases q;refine⟨W,env,ds,_,ok,e1,λW1 vs H1 V J p1=>⟨by rw[<-p1.length];exact le64 R,λl Y=>?_⟩⟩;have sm:Same H1 (upd H1 l (.tup vs)):=vz Y;have st:Step W1 H1 W1 (upd H1 l (.tup vs)):=Step.same sm;exact k W1 _ _ (V.trans st) (J.same sm) (.tup ki (J.reps st p1))
   ·simp[e1,R] at q⟩
def uj{W:Addr->Prop}{env:DE0}{σ:St}{H:Hp}{l:Addr}{vs:k7}{ds:k8}(ok:Ok X.K G H0 W env σ H)(r:Reps X.K H (Ow G W) ds vs)(I:H l=none) :
  Step W H (addW W l) (upd H l (.lst vs))/\Ok X.K G H0 W env σ (upd H l (.lst vs))/\Ok X.K G H0 (addW W l) env σ (upd H l (.lst vs))/\¬W l/\upd H l (.lst vs) l=some (.lst vs)/\Reps X.K (upd H l (.lst vs)) (Ow G (addW W l)) ds vs:=by
 have sm:Same H (upd H l (.lst vs)):=vz I;obtain⟨h1,h2,J,R,U⟩:=ok.fresh (l:=l) (vs:=vs) (ds:=ds) sm I ki ((r.mono (O':=λa=>(Ow G W a\/H a=none)/\a≠l) (λ_ _ h=>sm _ _ h) λa us o h=>⟨⟨.inl o,λz=>by
  subst z;have h2:Rd H a (.lst us):=h;rcases h2 with h2 | ⟨_,h2⟩ <;> rw[I] at h2 <;> cases h2⟩,h.keep λo e=>sm _ o e⟩))
 exact⟨U,ok.same sm,J,h1,ki,R⟩
def je(h:DAx X G H0 es F):DFx X G H0 (.List es pos) (fz F):=⟨(zyy h.out).imp λσ H Q R=>by
 obtain⟨W,env,d,env',ok,q,k⟩:=R;cases e1:F env with
 | none=>simp[e1] at q
 | some r =>
   obtain⟨ds,D⟩:=r;by_cases I:ds.length<=64
   ·have q:some (ds,D)=some (d,env'):=by simpa[fz,e1,I] using q
    cases q;refine⟨W,env,_,_,ok,e1,λW1 vs H1 U J p1=>⟨by rw[<-p1.length];exact le64 I,λl V=>?_⟩⟩;obtain⟨h1,h2,Y,Z,a,b⟩:=uj J p1 V;exact k W1 l vs _ (U.trans h1) h2 Y Z a b
   ·simp[e1,I] at q⟩
def f6(h:DFx X G H0 e F):DEx X G H0 e (fLst F):=⟨h.out.imp λσ H Q U=>by
 obtain⟨W,env,d,env',ok,q,k⟩:=U;cases e1:F env with
 | none=>simp[e1] at q
 | some r =>
   have q:some (D.lst r.1,r.2)=some (d,env'):=by simpa[fLst,e1] using q
   cases q;refine⟨W,env,_,_,ok,e1,λW1 l vs H1 R I J V Y Z=>k W1 _ H1 ⟨R.keep,λa z=>R.ws a (.inl z)⟩ I (.lst ⟨I.good l (J.wl l (.inr rfl)).1,V⟩ (.inl Y) (Z.mono (λ_ _ h=>h) λa us o h=>⟨⟨o.1,λz=>o.2 (.inl z)⟩,h⟩))⟩⟩
def Cal(P:Program)(w:World)(K:kf)(mg:Str->g9)(base:Heap)(CX:CXT)(x:Str)(k:Nat)(sp:Sp):Prop :=
 ∃fa fd ps,FnOk P w K mg base CX k fa fd ps sp/\mg x=some (.ref fa)/\PySem.W.keepIn K (.ref fa)=true/\Binds K fd ps []/\(x==("__debug__" : Str))=false
def dSp(K:kf)(m:k8->k9):Sp:=λvs H Q _=>∃O ds d,Reps K H O ds vs/\m ds=some d/\∀v H',Same H H'->Rep K H' (λa=>O a\/H a=none) d v->Q v H'
def fSp(K:kf)(m:k8->Option k8):Sp:=λvs H Q _=>∃O ds I,Reps K H O ds vs/\m ds=some I/\∀l us H',Same H H'->H l=none->H' l=some (.lst us)->Reps K H' (λa=>(O a\/H a=none)/\a≠l) I us->Q (.ref l) H'
@[simp] noncomputable def d7(m:k8->k9)(F:FA):FE:=λe=>(F e).bind λr=>(m r.1).map λd=>(d,r.2)
@[simp] noncomputable def i5(m:k8->Option k8)(F:FA):FA:=λe=>(F e).bind λr=>(m r.1).map λd=>(d,r.2)
def z32{m:k8->k9}{E:XK}:∀σ H Q,tD X.K G H0 (d7 m F) σ H Q->za (dSp X.K m) [] E (tDA X.K G H0 F) σ H Q:=λσ H Q R=>by
 obtain⟨W,env,d,env',ok,q,k⟩:=R;cases e1:F env with
 | none=>simp[e1] at q
 | some r =>
   obtain⟨ds,J⟩:=r;cases e2:m ds with
   | none=>simp[e1,e2] at q
   | some d' =>
     have q:some (d',J)=some (d,env'):=by simpa[d7,e1,e2] using q
     cases q;refine⟨W,env,ds,_,ok,e1,λW1 vs H1 U I p1=>?_⟩;show dSp X.K m (vs++[]) H1 Q E;rw[de];refine⟨Ow G W1,ds,_,p1,e2,λv H2 sm V=>?_⟩;refine k W1 v H2 (U.trans (Step.same sm)) (I.same sm) (V.mono (λ_ _ h=>h) λa us o h=>⟨?_,h⟩);rcases o with o | o
     ·exact o
     ·exact⟨I.good a (I.stay.free o),λz=>by obtain⟨_,us,q⟩:=I.wl a z;rw[o] at q;cases q⟩
def z0r{m:k8->Option k8}{E:XK}:∀σ H Q,tDF X.K G H0 (i5 m F) σ H Q->za (fSp X.K m) [] E (tDA X.K G H0 F) σ H Q:=λσ H Q U=>by
 obtain⟨W,env,d,env',ok,q,k⟩:=U;cases e1:F env with
 | none=>simp[e1] at q
 | some r =>
   obtain⟨ds,I⟩:=r;cases e2:m ds with
   | none=>simp[e1,e2] at q
   | some d' =>
     have q:some (d',I)=some (d,env'):=by simpa[i5,e1,e2] using q
     cases q;refine⟨W,env,ds,_,ok,e1,λW1 vs H1 V J p1=>?_⟩;show fSp X.K m (vs++[]) H1 Q E;rw[de];refine⟨Ow G W1,ds,_,p1,e2,λl us H2 sm Y R Z=>?_⟩;obtain⟨h1,h2,a,b,c⟩:=J.fresh sm Y R Z;exact k W1 l us H2 (V.trans c) (J.same sm) a h1 R b
variable {CX:CXT} {k:Nat} {fa:Addr} {fd:FuncData} {ps:g7} {m:k8->k9} {mF:k8->Option k8} {x:Str} {p':Pos} {E:XK}
def gn{jr:Nat}(c:Cal X.prog X.w X.K X.mg X.base CX0 x k (dSp X.K m))(R:Room jr X.A)(U:DAx X G H0 (e::es) F)(D:k<=jr:=by decide)(V:Gl X x:=by walk_at "g")(Y:starEach (e::es) X.env=(false,eval e X.env)::starEach es X.env:=by rfl)(I:(backTo pos (starEach es X.env)).any (·.1)=false:=by rfl) :
  DEx X G H0 (.Call (.Name x p') (e::es) [] pos) (d7 m F):=let ⟨_,_,_,Z,a,b,d,J⟩:=c;⟨(zmy Z (R.mono D) V a b d .nil zwm U.out J Y I).imp z32⟩
def zt4{jr:Nat}(c:Cal X.prog X.w X.K X.mg X.base CX0 x k (fSp X.K mF))(R:Room jr X.A)(U:DAx X G H0 (e::es) F)(D:k<=jr:=by decide)(V:Gl X x:=by walk_at "g")(Y:starEach (e::es) X.env=(false,eval e X.env)::starEach es X.env:=by rfl)(I:(backTo pos (starEach es X.env)).any (·.1)=false:=by rfl) :
  DFx X G H0 (.Call (.Name x p') (e::es) [] pos) (i5 mF F):=let ⟨_,_,_,Z,a,b,d,J⟩:=c;⟨(zmy Z (R.mono D) V a b d .nil zwm U.out J Y I).imp z0r⟩
end
section
variable {X:Cx} {G:Gd} {H0:Hp} {a b c e:Expr} {es rest:ik} {f g:FE} {F:FA} {p q:FT} {pos p':Pos} {x:Str}
def uc(X:Cx)(G:Gd)(H0:Hp)(r:k7->Hp->VK->Prop)(op:k8->k9):Prop :=
 ∀W env σ H vs ds d (Q:VK),Ok X.K G H0 W env σ H->Reps X.K H (Ow G W) ds vs->op ds=some d ->
  (∀v H',Step W H W H'->Ok X.K G H0 W env σ H'->Rep X.K H' (Ow G W) d v->Q v H')->r vs H Q
def zt5(X:Cx)(G:Gd)(H0:Hp)(r:k7->Hp->VK->Prop)(op:k8->Option k8):Prop :=
 ∀W env σ H vs ds rs (Q:VK),Ok X.K G H0 W env σ H->Reps X.K H (Ow G W) ds vs->op ds=some rs ->
  (∀l us H',Step W H (addW W l) H'->Ok X.K G H0 W env σ H'->Ok X.K G H0 (addW W l) env σ H'->¬W l->H' l=some (.lst us)->Reps X.K H' (Ow G (addW W l)) rs us->Q (.ref l) H')->r vs H Q
def z33{r:k7->Hp->VK->Prop}{op:k8->k9}(U:uc X G H0 r op):∀σ H Q,tD X.K G H0 (d7 op F) σ H Q->tCB r (tDA X.K G H0 F) σ H Q:=λσ H Q Y=>by
 obtain⟨W,env,d,env',ok,q,k⟩:=Y;cases e1:F env with
 | none=>simp[e1] at q
 | some z =>
   obtain⟨ds,I⟩:=z;cases e2:op ds with
   | none=>simp[e1,e2] at q
   | some d' =>
     have q:some (d',I)=some (d,env'):=by simpa[d7,e1,e2] using q
     cases q;exact⟨W,env,ds,_,ok,e1,λW1 vs H1 Z J p1=>U W1 _ σ H1 vs ds _ Q J p1 e2 λv H2 s2 R p2=>k W1 v H2 (Z.trans s2) R p2⟩
def z34{r:k7->Hp->VK->Prop}{op:k8->Option k8}(Y:zt5 X G H0 r op):∀σ H Q,tDF X.K G H0 (i5 op F) σ H Q->tCB r (tDA X.K G H0 F) σ H Q:=λσ H Q Z=>by
 obtain⟨W,env,d,env',ok,q,k⟩:=Z;cases e1:F env with
 | none=>simp[e1] at q
 | some z =>
   obtain⟨ds,I⟩:=z;cases e2:op ds with
   | none=>simp[e1,e2] at q
   | some d' =>
     have q:some (d',I)=some (d,env'):=by simpa[i5,e1,e2] using q
     cases q;exact⟨W,env,ds,_,ok,e1,λW1 vs H1 a J p1=>Y W1 _ σ H1 vs ds _ Q J p1 e2 λl us H2 s2 R U b c e=>k W1 l us H2 (a.trans s2) R U b c e⟩
variable {id T:String} {r:k7->Hp->VK->Prop} {op:k8->k9} {opF:k8->Option k8}
def zm7(J:oo X (.builtin id) r)(R:uc X G H0 r op)(U:Gl X x)(V:X.mg x=none)(Y:bootBuiltins x=some (.builtin id))(Z:DAx X G H0 (e::es) F)(a:x ≠ "__name__":=by decide)(D:(x==("__debug__" : Str))=false:=by decide)(b:starEach (e::es) X.env=(false,eval e X.env)::starEach es X.env:=by rfl)(I:(backTo pos (starEach es X.env)).any (·.1)=false:=by rfl):DEx X G H0 (.Call (.Name x p') (e::es) [] pos) (d7 op F):=⟨(x0 J U V Y Z.out a D b I).imp (z33 R)⟩
def zq1(J:oo X (.type T) r)(R:uc X G H0 r op)(U:Gl X x)(V:X.mg x=none)(Y:bootBuiltins x=some (.type T))(Z:DAx X G H0 (e::es) F)(a:x ≠ "__name__":=by decide)(D:(x==("__debug__" : Str))=false:=by decide)(b:starEach (e::es) X.env=(false,eval e X.env)::starEach es X.env:=by rfl)(I:(backTo pos (starEach es X.env)).any (·.1)=false:=by rfl):DEx X G H0 (.Call (.Name x p') (e::es) [] pos) (d7 op F):=⟨(zoi J U V Y Z.out a D b I).imp (z33 R)⟩
def zws(J:oo X (.type T) r)(R:zt5 X G H0 r opF)(U:Gl X x)(V:X.mg x=none)(Y:bootBuiltins x=some (.type T))(Z:DAx X G H0 (e::es) F)(a:x ≠ "__name__":=by decide)(D:(x==("__debug__" : Str))=false:=by decide)(b:starEach (e::es) X.env=(false,eval e X.env)::starEach es X.env:=by rfl)(I:(backTo pos (starEach es X.env)).any (·.1)=false:=by rfl):DFx X G H0 (.Call (.Name x p') (e::es) [] pos) (i5 opF F):=⟨(zoi J U V Y Z.out a D b I).imp (z34 R)⟩
def ql{K:kf}{H:Hp}{O:Addr->Prop}{d:D}{vs:k7}(h:Reps K H O [d] vs):∃v,vs=[v]/\Rep K H O d v:=by
 cases h with | cons r t=>cases t;exact⟨_,rfl,r⟩
def z35{K:kf}{H:Hp}{O:Addr->Prop}{d d':D}{vs:k7}(h:Reps K H O [d,d'] vs):∃v I,vs=[v,I]/\Rep K H O d v/\Rep K H O d' I:=by
 cases h with | cons r t=>cases t with | cons r' t=>cases t;exact⟨_,_,rfl,r,r'⟩
@[simp] noncomputable def bLen:k8->k9 | [.tup ds]=>some (.int ds.length) | [.lst ds]=>some (.int ds.length) | _=>none
def z36:uc X G H0 (λxs H Q=>∃p ys,xs=[.ref p]/\(SqL X.K H p ys\/SqT X.K H p ys)/\Q (.int ys.length) H) bLen:=by
 intro W env σ H vs ds d Q ok r e k;unfold bLen at e;split at e
 ·rename_i ds
  cases e;obtain⟨v,rfl,D⟩:=ql r;have r:=D;obtain⟨a,us,rfl,h,r⟩:=r.tup_;exact⟨a,us,rfl,.inr (SqT.of h),by rw[<-r.length];exact k _ H Step.refl ok (.int _)⟩
 ·rename_i ds
  cases e;obtain⟨v,rfl,D⟩:=ql r;have r:=D;obtain⟨a,us,rfl,h,r⟩:=r.lst_;exact⟨a,us,rfl,.inl h.sq,by rw[<-r.length];exact k _ H Step.refl ok (.int _)⟩
 ·cases e
def sx(I:DAx X G H0 [e] F)(D:Bn X "len":=by walk_at "b")(J:starEach [e] X.env=(false,eval e X.env)::starEach [] X.env:=by rfl):DEx X G H0 (.Call (.Name "len" p') [e] [] pos) (d7 bLen F) :=
 zm7 zia z36 D.g D.m va I (by decide) (by decide) J rfl
@[simp] noncomputable def bInt:k8->k9 | [.int i]=>some (.int i) | [.bl k]=>some (.int (if k then 1 else 0)) | _=>none
def z37:uc X G H0 (λxs H Q=>(∃i,xs=[.int i]/\Q (.int i) H)\/∃k,xs=[.bl k]/\Q (.int (if k then 1 else 0)) H) bInt:=by
 intro W env σ H vs ds d Q ok r e k;unfold bInt at e;split at e
 ·cases e
  obtain⟨v,rfl,D⟩:=ql r;have r:=D;exact .inl ⟨_,by rw[r.int_],k _ H Step.refl ok (.int _)⟩
 ·cases e
  obtain⟨v,rfl,D⟩:=ql r;have r:=D;exact .inr ⟨_,by rw[r.bl_],k _ H Step.refl ok (.int _)⟩
 ·cases e
def zt6:bootBuiltins "int" = some (.type "int"):=by decide +kernel
def z0s(I:DAx X G H0 [e] F)(D:Bn X "int":=by walk_at "b")(J:starEach [e] X.env=(false,eval e X.env)::starEach [] X.env:=by rfl):DEx X G H0 (.Call (.Name "int" p') [e] [] pos) (d7 bInt F) :=
 zq1 ztn z37 D.g D.m zt6 I (by decide) (by decide) J rfl
@[simp] noncomputable def bMax:k8->k9 | [.int i,.int j]=>some (.int (if j > i then j else i)) | _=>none
def z38:uc X G H0 (λxs H Q=>∃i j,xs=[.int i,.int j]/\Q (.int (if j > i then j else i)) H) bMax:=by
 intro W env σ H vs ds d Q ok r e k;unfold bMax at e;split at e
 ·cases e
  obtain⟨v,J,rfl,D,I⟩:=z35 r;have r:=D;exact⟨_,_,by rw[r.int_,I.int_],k _ H Step.refl ok (.int _)⟩
 ·cases e
def zy7(J:DAx X G H0 [a,b] F)(R:X.calm=true:=by rfl)(I:Bn X "max":=by walk_at "b")(U:starEach [a,b] X.env=(false,eval a X.env)::starEach [b] X.env:=by rfl)(D:(backTo pos (starEach [b] X.env)).any (·.1)=false:=by rfl):DEx X G H0 (.Call (.Name "max" p') [a,b] [] pos) (d7 bMax F) :=
 zm7 (ztm R) z38 I.g I.m boot_max J (by decide) (by decide) U D
def ints?:k8->Option ia
 | []=>some []
 | .int i::r=>(ints? r).map (i::·)
 | _::_=>none
def zky:∀ {ds:k8} {I:ia},ints? ds=some I->ds=I.map D.int
 | [],I,h=>by cases h;rfl
 | .int i::r,I,h=>by
   unfold ints? at h;cases q:ints? r with
   | none=>rw[q] at h;cases h
   | some ms=>rw[q] at h;cases h;rw[zky q];rfl
 | .str _::_,_,h=>by cases h
def zt7(I:ia):ints? (I.map D.int)=some I:=by
 induction I with
 | nil=>rfl
 | cons n r ih=>show(ints? (r.map D.int)).map (n::·)=_;rw[ih];rfl
def zjp{K:kf}{H:Hp}{O:Addr->Prop}:∀ {I:ia} {vs:k7},Reps K H O (I.map D.int) vs->vs=I.map V.int
 | [],_,h=>by cases h;rfl
 | n::r,_,h=>by cases h with | cons a t=>rw[zjp t,a.int_];rfl
def zos(Y:X.calm=true):oo X (.builtin "sum") (λxs H Q=>∃p,∃D:ia,xs=[.ref p]/\SqL X.K H p (D.map V.int)/\Q (.int D.sum) H):=by
 intro pins s σ H xs us Q I r h;obtain⟨p,D,rfl,Z,q⟩:=h;obtain⟨u,rfl,a⟩:=vi r;cases a;obtain⟨its,b,pl,e⟩:=I.list Z;have hi:IntsAre its D:=zsk b;have R:=pl.isList;obtain⟨xs,J⟩:=hi.allInts.items;rw[J] at R;refine sum_intListG (I.ok.hd Y) R λh' tk t' c=>⟨.int D.sum,H,I.kept c,⟨t',?_⟩,q⟩;have d:numsOf its=D:=hi.numsOf;have U:numsOf (intItems xs).toList=D:=by rw[<-J];exact d
 rw[nums_intItems] at U;rw[preSum_eq,jh (by simp),U]
def bSum:k8->k9 | [.lst ds]=>(ints? ds).map λI=>.int I.sum | _=>none
def z39:uc X G H0 (λxs H Q=>∃p,∃D:ia,xs=[.ref p]/\SqL X.K H p (D.map V.int)/\Q (.int D.sum) H) bSum:=by
 intro W env σ H vs ds d Q ok r e k;unfold bSum at e;split at e
 ·rename_i ds
  cases q:ints? ds with
  | none=>rw[q] at e;cases e
  | some D =>
    rw[q] at e;cases e;obtain⟨v,rfl,I⟩:=ql r;have r:=I;obtain⟨a,us,rfl,h,r⟩:=r.lst_;rw[zky q] at r;rw[zjp r] at h;exact⟨a,D,rfl,h.sq,k _ H Step.refl ok (.int _)⟩
 ·cases e
def vm(I:DAx X G H0 [e] F)(J:X.calm=true:=by rfl)(D:Bn X "sum":=by walk_at "b")(R:starEach [e] X.env=(false,eval e X.env)::starEach [] X.env:=by rfl):DEx X G H0 (.Call (.Name "sum" p') [e] [] pos) (d7 bSum F) :=
 zm7 (zos J) z39 D.g D.m boot_sum I (by decide) (by decide) R rfl
@[simp] noncomputable def nz:k8->Option k8 | [.lst ds]=>some ds | [.tup ds]=>some ds | _=>none
def z0t:zt5 X G H0 (λxs H Q=>∃p ys,xs=[.ref p]/\(SqL X.K H p ys\/SqT X.K H p ys)/\∀l,H l=none->Q (.ref l) (upd H l (.lst ys))) nz:=by
 intro W env σ H vs ds Y Q ok r e k;unfold nz at e;split at e
 ·cases e
  obtain⟨v,rfl,D⟩:=ql r;have r:=D;obtain⟨a,us,rfl,h,r⟩:=r.lst_;refine⟨a,us,rfl,.inl h.sq,λl I=>?_⟩;obtain⟨h1,h2,J,R,U,V⟩:=uj ok r I;exact k l us _ h1 h2 J R U V
 ·cases e
  obtain⟨v,rfl,D⟩:=ql r;have r:=D;obtain⟨a,us,rfl,h,r⟩:=r.tup_;refine⟨a,us,rfl,.inr (SqT.of h),λl I=>?_⟩;obtain⟨h1,h2,J,R,U,V⟩:=uj ok r I;exact k l us _ h1 h2 J R U V
 ·cases e
def zsr:bootBuiltins "list" = some (.type "list"):=by decide +kernel
def zk(I:DAx X G H0 [e] F)(D:Bn X "list":=by walk_at "b")(J:starEach [e] X.env=(false,eval e X.env)::starEach [] X.env:=by rfl):DFx X G H0 (.Call (.Name "list" p') [e] [] pos) (i5 nz F) :=
 zws zok z0t D.g D.m zsr I (by decide) (by decide) J rfl
end
section
variable {X:Cx} {G:Gd} {H0:Hp} {a b c e:Expr} {es rest:ik} {f g:FE} {F:FA} {p q:FT} {pos p' p1 pos1:Pos} {x:Str}
def rngL(lo hi:Int):ia:=(List.range (hi-lo).toNat).map λ(k:Nat)=>lo+(k:Int)
def z7i(ds:k8):Option k8:=match ds with
 | [.int j]=>if Bnd (-(2 ^ 62)) (2 ^ 20+1) j then some ((rngL 0 j).map D.int) else none
 | _=>none
def zid{K:kf}{H:Hp}{O:Addr->Prop}:∀(I:ia),Reps K H O (I.map D.int) (I.map V.int)
 | []=>.nil
 | n::r=>.cons (.int n) (zid r)
abbrev FO:=DE0->Option (kb×DE0)
def tDO(K:kf)(G:Gd)(H0:Hp)(f:FO):TO:=λσ H Q=>DP K G H0 f (λW env o env'=> ∀W' H',Step W H W' H'->Ok K G H0 W' env' σ H'->Q o H') σ H
structure DOx (X:Cx) (G:Gd) (H0:Hp) (e:Option Expr) (f:FO):Prop where
 out:PO X e (tDO X.K G H0 f)
def PO.imp{X:Cx}{e:Option Expr}{t t':TO}(h:PO X e t)(i:∀σ H Q,t' σ H Q->t σ H Q):PO X e t':=λpins s σ H Q I q=>h pins s σ H Q I (i σ H Q q)
@[simp] noncomputable def fO0:FO:=λe=>some (none,e)
@[simp] noncomputable def fO1(f:FE):FO:=λe=>(f e).bind λr=>match r.1 with | .int i=>some (some i,r.2) | _=>none
def uu  : DOx X G H0 none fO0:=⟨z0i.imp λσ H Q ⟨W,env,o,env',ok,q,k⟩=>by cases q;exact k W H Step.refl ok⟩
def qx(h:DEx X G H0 e f):DOx X G H0 (some e) (fO1 f):=⟨(z0j h.out).imp λσ H Q J=>by
 obtain⟨W,env,o,env',ok,q,k⟩:=J;cases e1:f env with
 | none=>simp[e1] at q
 | some r =>
   obtain⟨d,D⟩:=r;cases d with
   | int i =>
     have q:some (some i,D)=some (o,env'):=by simpa[fO1,e1] using q
     cases q;exact⟨W,env,_,_,ok,e1,λW1 v1 H1 R I p1=>⟨i,p1.int_,k W1 H1 R I⟩⟩
   | _=>simp[e1] at q⟩
def cutD(xs:k8)(lo hi:kb):k8:=(xs.drop (HT.sIx xs.length 0 lo)).take (HT.sIx xs.length xs.length hi-HT.sIx xs.length 0 lo)
def Reps.cut{K:kf}{H:Hp}{O:Addr->Prop}{ds:k8}{vs:k7}(r:Reps K H O ds vs)(lo hi:kb):Reps K H O (cutD ds lo hi) (cutV vs lo hi):=by
 unfold cutD cutV;rw[r.length];exact(r.drop _).take _
@[simp] noncomputable def fSl(f:FE)(l h:FO):FA:=λe=>(f e).bind λr=>(l r.2).bind λD=>(h D.2).bind λI=>match r.1 with | .lst ds=>some (cutD ds D.1 I.1,I.2) | _=>none
def sv{lo hi:Option Expr}{fl U:FO}{sp:Pos}(e:DEx X G H0 a f)(g:DOx X G H0 lo fl)(i:DOx X G H0 hi U) :
  DFx X G H0 (.Subscript a (.Slice lo hi none sp) pos) (fSl f fl U):=⟨(zwi z0k e.out g.out i.out).imp λσ H Q j=>by
 obtain⟨W,env,d,env',ok,q,k⟩:=j;cases e1:f env with
 | none=>simp[e1] at q
 | some r =>
   obtain⟨m,D⟩:=r;cases e2:fl D with
   | none=>simp[e1,e2] at q
   | some r2 =>
     obtain⟨Z,I⟩:=r2;cases e3:U I with
     | none=>simp[e1,e2,e3] at q
     | some r3 =>
       obtain⟨b,J⟩:=r3;cases m with
       | lst ds =>
         have q:some (cutD ds Z b,J)=some (d,env'):=by simpa[fSl,e1,e2,e3] using q
         cases q;refine⟨W,env,_,_,ok,e1,λW1 v1 H1 n R p1=>⟨W1,D,_,_,R,e2,λo H2 s2 V=>⟨o,I,_,_,V,e3,λp x c Y=>?_⟩⟩⟩;obtain⟨l,us,rfl,h,r⟩:=(R.rep (s2.trans c) p1).lst_;refine⟨l,us,rfl,h.sq,λl' s=>?_⟩;obtain⟨h1,h2,t,u,v,w⟩:=uj Y (r.cut Z b) s;exact k p l' _ _ (((n.trans s2).trans c).trans h1) h2 t u v w
       | _=>simp[e1,e2,e3] at q⟩
def z6j(K:kf):R2:=λx y H Q=>∃l b xs D,x=.ref l/\y=.ref b/\SqL K H l xs/\SqL K H b D/\xs.length+D.length<=sizeLine/\∀p,H p=none->Q (.ref p) (upd H p (.lst (xs++D)))
theorem z0u:OpR X (binaryOp .Add) (z6j X.K):=by
 intro pins s σ H x y v u Q I e f h;obtain⟨l,b,xs,p,rfl,rfl,g,i,t,q⟩:=h;cases e;cases f;obtain⟨its,r,⟨⟨cls,dd,data,sl⟩,n,a,j,U,k⟩,z⟩:=I.list g;obtain⟨D,c,⟨⟨d,m,data2,V⟩,n2,J,Y,R,Z⟩,w⟩:=I.list i;subst j k Y Z U R;have A:=r.length;have o:=c.length;refine concat_meets ⟨_,a,rfl⟩ ⟨_,J,rfl⟩ noFill_list_add seq_list_add PySem.F.slot_list_add PySem.F.entry_list_add (PySem.F.args_list_add_2 _ _) (list_addW l b its.toArray D.toArray n n2 none none sl V (by simp;lia)) ⟨a,J,?_⟩;have ea:its.toArray++D.toArray=(its++D).toArray:=by simp
 rw[ea];exact⟨.ref _,_,I.lnew (t':=s.toks) (r.append c) (by rw[ao];lia),rfl,q _ I.fresh⟩
@[simp] noncomputable def fCat(f g:FE):FA:=λe=>(f e).bind λr=>(g r.2).bind λq=>match r.1,q.1 with | .lst ds,.lst es=>if Few (ds.length+es.length) then some (ds++es,q.2) else none | _,_=>none
def mq(Z:DEx X G H0 a f)(c:DEx X G H0 b g):DFx X G H0 (.BinOp a .Add b pos) (fCat f g):=⟨(zz8 z0u Z.out c.out).imp λσ H Q e=>by
 obtain⟨W,env,d,env',ok,q,k⟩:=e;cases e1:f env with
 | none=>simp[e1] at q
 | some r =>
   obtain⟨i,D⟩:=r;cases e2:g D with
   | none=>simp[e1,e2] at q
   | some r2 =>
     obtain⟨j,I⟩:=r2;cases i with
     | lst ds =>
       cases j with
       | lst es =>
         by_cases R:Few (ds.length+es.length)
         ·have q:some (ds++es,I)=some (d,env'):=by simpa only[fCat,e1,e2,ac,if_pos R] using q
          cases q;refine⟨W,env,_,_,ok,e1,λW1 v1 H1 m J p1=>⟨W1,D,_,_,J,e2,λo v2 H2 s2 U p2=>?_⟩⟩;obtain⟨l,us,rfl,h,r⟩:=(J.rep s2 p1).lst_;obtain⟨l',V,rfl,h',Y⟩:=p2.lst_;refine⟨l,l',us,V,rfl,rfl,h.sq,h'.sq,?_,λn p=>?_⟩
          ·rw[<-r.length,<-Y.length];exact df R (by rw[sizeLine_eq];decide)
          ·obtain⟨h1,h2,s,t,u,v⟩:=uj U (r.append Y) p
           exact k o n _ _ ((m.trans s2).trans h1) h2 s t u v
         ·simp only[fCat,e1,e2,ac,if_neg R] at q;cases q
       | _=>simp[e1,e2] at q
     | _=>simp[e1,e2] at q⟩
@[simp] noncomputable def ii(i:Nat):FE:=λe=>match e[i]? with
 | some (some (.ow ds))=>some (.int ds.length,e)
 | some (some (.sh (.lst ds)))=>some (.int ds.length,e)
 | some (some (.sh (.tup ds)))=>some (.int ds.length,e)
 | _=>none
def jq{Nn Cn:g7}{i:Nat}(an:Ats Nn Cn X)(R:Bn X "len":=by walk_at "b")(J:Nn[i]?=some x:=by rfl)(U:starEach [.Name x p1] X.env=(false,eval (.Name x p1) X.env)::starEach [] X.env:=by rfl):DEx X G H0 (.Call (.Name "len" p') [.Name x p1] [] pos) (ii i) :=
 ⟨(x0 zia R.g R.m va (mr ((an.a J).pe) o5 U) (by decide) (by decide) U rfl).imp λσ H Q V=>by
  obtain⟨W,env,d,env',ok,q,k⟩:=V;unfold ii at q;split at q
  ·rename_i ds D
   cases q;obtain⟨v,I,l,vs,rfl,Z,Y,r⟩:=ok.slot i _ D;exact⟨_,I,l,vs,rfl,.inl (.inl (.inl Y)),by rw[<-r.length];exact k W _ H Step.refl ok (.int _)⟩
  ·rename_i ds D
   cases q;obtain⟨v,I,r⟩:=ok.slot i _ D;obtain⟨l,us,rfl,h,r⟩:=Rep.lst_ r;exact⟨_,I,l,us,rfl,.inl h.sq,by rw[<-r.length];exact k W _ H Step.refl ok (.int _)⟩
  ·rename_i ds D
   cases q;obtain⟨v,I,r⟩:=ok.slot i _ D;obtain⟨l,us,rfl,h,r⟩:=Rep.tup_ r;exact⟨_,I,l,us,rfl,.inr (SqT.of h),by rw[<-r.length];exact k W _ H Step.refl ok (.int _)⟩
  ·cases q⟩
@[simp] noncomputable def ixSl:D->Option ll->k9
 | .int k,some (some (.ow ds))=>atI ds k
 | .int k,some (some (.sh (.lst ds)))=>atI ds k
 | .int k,some (some (.sh (.tup ds)))=>atI ds k
 | _,_=>none
@[simp] noncomputable def fIxV(i:Nat)(g:FE):FE:=λe=>match e[i]? with
 | some (some _)=>(g e).bind λr=>(ixSl r.1 r.2[i]?).map λd=>(d,r.2)
 | _=>none
def em{Nn Cn:g7}{i:Nat}(m:DEx X G H0 b g)(an:Ats Nn Cn X)(n:uw b:=by intro _ _;rfl)(Z:Nn[i]?=some x:=by rfl):DEx X G H0 (.Subscript (.Name x p1) b pos) (fIxV i g) :=
 ⟨(xb ztu ((an.a Z).pe) m.out n).imp λσ H Q o=>by
  obtain⟨W,env,d,env',ok,q,k⟩:=o;unfold fIxV at q;split at q;case h_2=>cases q
  rename_i s c;obtain⟨v,Y,_⟩:=ok.slot i _ c;cases e1:g env with
  | none=>rw[e1] at q;cases q
  | some r =>
    obtain⟨f,J⟩:=r;rw[e1,ac] at q;cases e3:ixSl f J[i]? with
    | none=>rw[e3] at q;cases q
    | some d' =>
      rw[e3] at q;cases q;refine⟨v,Y,W,env,f,_,ok,e1,λW1 v1 H1 e D p1=>?_⟩;unfold ixSl at e3;split at e3
      ·rename_i kk ds R
       obtain⟨j,I,l,vs,rfl,t,p,r⟩:=D.slot i _ R;rw[Y] at I;cases I;obtain⟨u,U,V⟩:=xz r e3;exact .inl ⟨l,vs,kk,u,rfl,p1.int_,.inl (.inl p),U,k W1 _ H1 e D V⟩
      ·rename_i kk ds R
       obtain⟨j,I,r⟩:=D.slot i _ R;rw[Y] at I;cases I;obtain⟨l,us,rfl,h,r⟩:=Rep.lst_ r;obtain⟨u,U,V⟩:=xz r e3;exact .inl ⟨l,us,kk,u,rfl,p1.int_,h.sq,U,k W1 _ H1 e D V⟩
      ·rename_i kk ds R
       obtain⟨j,I,r⟩:=D.slot i _ R;rw[Y] at I;cases I;obtain⟨l,us,rfl,h,r⟩:=Rep.tup_ r;obtain⟨u,U,V⟩:=xz r e3;exact .inr (.inl ⟨l,us,kk,u,rfl,p1.int_,SqT.of h,U,k W1 _ H1 e D V⟩)
      ·cases e3⟩
end
section
variable {X:Cx} {G:Gd} {H0:Hp} {a b c e:Expr} {es rest:ik} {f g:FE} {F:FA} {p q:FT} {pos p' p1 pos1:Pos} {x:Str}
@[simp] noncomputable def tyD:D->String | .non=>"NoneType" | .bl _=>"bool" | .int _=>"int" | .str _=>"str" | .tup _=>"tuple" | .lst _=>"list" | .dct _ _=>"dict" | .exc _=>"exc"
@[simp] noncomputable def isiT(t T:String):Bool:=t==T || (t=="bool" && T=="int")
def zt8(T:String):Bool:=T=="int" || T=="bool" || T=="str" || T=="tuple" || T=="list"
def zwt(K:kf)(d:D)(T:String)(h:zt8 T=true)(I:∀a,d≠.exc a):PySem.W.kitOne K (.type (tyD d)) (.type T)=some (isiT (tyD d) T):=by
 simp only[zt8,Bool.or_eq_true,beq_iff_eq] at h;rcases h with(((rfl | rfl) | rfl) | rfl) | rfl <;> cases d <;> first | rfl | exact absurd rfl (I _)
def zwu:oo X (.builtin "isinstance") (λxs H Q=>∃x T t b,xs=[x,.ty T]/\(TyOf X.K H x t\/(t=.type "list"/\∃a us,x=.ref a/\SqL X.K H a us))/\PySem.W.kitOne X.K t (.type T)=some b/\Q (.bl b) H):=by
 intro pins s σ H xs us Q I r h;obtain⟨x,T,t,b,rfl,D,e,q⟩:=h;obtain⟨u,R,rfl,J,rt⟩:=z0c r;cases (show R=Value.type T from rt);rcases D with D | ⟨rfl,a,ws,rfl,hq⟩
 ·exact ztq I J D e λtk=>⟨.bl b,H,I.tok tk,rfl,q⟩
 ·cases (show u=Value.ref a from J)
  obtain⟨its,_,⟨o,n,h1,h2,_⟩,_⟩:=I.list hq;exact d8 oa I.kIn ⟨o,h1,h2⟩ e (λz=>nomatch z) λtk=>⟨.bl b,H,I.tok tk,rfl,q⟩
def z4a{K:kf}{H:Hp}{O:Addr->Prop}{d:D}{v:V}(r:Rep K H O d v)(I:∀a,d≠.exc a):TyOf K H v (.type (tyD d))\/(Value.type (tyD d)=.type "list"/\∃a us,v=.ref a/\SqL K H a us):=by
 cases r with
 | non=>exact .inl .non
 | bl b=>exact .inl (.bl b)
 | int i=>exact .inl (.int i)
 | str s=>exact .inl (.str s)
 | tup h _=>exact .inl (.tup h)
 | lst o h _=>exact .inr ⟨rfl,_,_,rfl,.inl h⟩
 | klst h _=>exact .inr ⟨rfl,_,_,rfl,.inr h⟩
 | dct h _=>exact .inl (.dK h)
 | exc a=>exact absurd rfl (I a)
def zq2:bootBuiltins "isinstance" = some (.builtin "isinstance"):=by decide +kernel
@[simp] noncomputable def fIsi(T:String)(f:FE):FE:=λe=>(f e).bind λr=>match r.1 with | .exc _=>none | d=>some (.bl (isiT (tyD d) T),r.2)
structure Ty (x:Str) (T:String):Prop where
 b:bootBuiltins x=some (.type T)
 k:zt8 T=true
 d:(x==("__debug__" : Str))=false
 n:x ≠ "__name__"
def oz{T:String}(D:Ty x T)(e:DEx X G H0 a f)(Y:Bn X "isinstance":=by walk_at "b")(I:Gl X x:=by walk_at "g")(J:X.mg x=none:=by assumption)(Z:starEach [a,.Name x p1] X.env=(false,eval a X.env)::starEach [.Name x p1] X.env:=by rfl)(R:starEach [.Name x p1] X.env=(false,eval (.Name x p1) X.env)::starEach [] X.env:=by rfl)(U:(backTo pos (starEach [.Name x p1] X.env)).any (·.1)=false:=by rfl) :
  DEx X G H0 (.Call (.Name "isinstance" p') [a,.Name x p1] [] pos) (fIsi T f) :=
 ⟨(x0 zwu Y.g Y.m zq2 (mr e.out (mr (ztc (v:=.ty T) I J D.b rfl D.n D.d) o5 R) Z) (by decide) (by decide) Z U).imp λσ H Q h=>by
  obtain⟨W,env,d,env',ok,q,k⟩:=h;cases e1:f env with
  | none=>simp[e1] at q
  | some r =>
    unfold fIsi at q;rw[e1,ac] at q;split at q
    ·cases q
    ·rename_i c
     cases q;exact⟨W,env,_,_,ok,e1,λW1 v1 H1 i V p1=>⟨v1,T,_,_,rfl,z4a p1 c,zwt X.K _ T D.k c,k W1 _ H1 i V (.bl _)⟩⟩⟩
abbrev FI:=DE0->Option (k8×DE0)
structure Walk (K:kf) (G:Gd) (J:It) (W:Addr->Prop) (H:Hp) (ds:k8):Prop where
 go:∀W' H' (i:Nat) d,Step W H W' H'->ds[i]?=some d->J.go i H'/\∀x H'',J.yld i H' x H''->H''=H'/\Rep K H' (Ow G W') d x
 stop:∀W' H',Step W H W' H'->J.stop ds.length H'
def tDI(K:kf)(G:Gd)(H0:Hp)(f:FI):TI:=λσ H R=>DP K G H0 f (λW env ds env' =>
 ∀W' J H',Step W H W' H'->Ok K G H0 W' env' σ H'->Walk K G J W' H' ds->R J H') σ H
structure DIC (Cm:Cx->Prop) (X:Cx) (G:Gd) (H0:Hp) (tg:Expr) (e:Expr) (f:FI):Prop where
 out:PIC Cm X tg e (tDI X.K G H0 f)
abbrev DIx:=DIC λX=>X.calm=true
def PI.imp{X:Cx}{tg e:Expr}{t t':TI}(h:PI X tg e t)(i:∀σ H Q,t' σ H Q->t σ H Q):PI X tg e t':=λpins s σ H Q I q=>h pins s σ H Q I (i σ H Q q)
def PIC.imp{Cm:Cx->Prop}{X:Cx}{tg e:Expr}{t t':TI}(h:PIC Cm X tg e t)(i:∀σ H Q,t' σ H Q->t σ H Q):PIC Cm X tg e t':=λpins s σ H Q I q=>h pins s σ H Q I (i σ H Q q)
def zot{W:Addr->Prop}{H:Hp}{a:Addr}{vs:k7}{ds:k8}{env:DE0}{σ:St}(ok:Ok X.K G H0 W env σ H)(h:LsOk X.K H (Ow G W) a vs)(r:Reps X.K H (Ow G W) ds vs):Walk X.K G (Itl X.K a) W H ds where
 go:=λW' H' i d st e=>by
  obtain⟨v,I,J⟩:=(ok.reps st r).get e;have h':=(ok.lsstep st h).sq;exact⟨⟨vs,v,h',I⟩,λx H'' ⟨e2,y⟩=>⟨e2,by have:=y vs h';rw[I] at this;cases this;exact J⟩⟩
 stop:=λW' H' st=>⟨vs,(ok.lsstep st h).sq,by rw[r.length];exact b7 _⟩
def zwv{W:Addr->Prop}{H:Hp}{a:Addr}{vs:k7}{ds:k8}{env:DE0}{σ:St}(ok:Ok X.K G H0 W env σ H)(h:H a=some (.tup vs))(r:Reps X.K H (Ow G W) ds vs):Walk X.K G (Itt X.K a) W H ds where
 go:=λW' H' i d st e=>by
  obtain⟨v,I,J⟩:=(ok.reps st r).get e;have h':=ok.tstep st a vs h;exact⟨⟨vs,v,SqT.of h',I⟩,λx H'' ⟨e2,y⟩=>⟨e2,by have:=y vs (SqT.of h');rw[I] at this;cases this;exact J⟩⟩
 stop:=λW' H' st=>⟨vs,SqT.of (ok.tstep st a vs h),by rw[r.length];exact b7 _⟩
def zww{W:Addr->Prop}{H:Hp}{lo:Int}{n:Nat}:Walk X.K G (Itr lo n) W H ((List.range n).map λ(k:Nat)=>D.int (lo+(k:Int))) where
 go:=λW' H' i d st e=>by
  rw[bu] at e;have hi:i<n:=by
   have:=(aj.mp (show((List.range n).map λ(k:Nat)=>D.int (lo+(k:Int)))[i]?=some d by rw[bu];exact e)).1;simpa using this
  rw[mz hi] at e;cases e;exact⟨hi,λx H'' ⟨e2,y⟩=>⟨e2,by rw[y];exact .int _⟩⟩
 stop:=λW' H' st=>by rw[ah,j9];exact b7 _
@[simp] noncomputable def fiS(f:FE):FI:=λe=>(f e).bind λr=>match r.1 with | .lst ds=>some (ds,r.2) | .tup ds=>some (ds,r.2) | _=>none
def PI.or{tg:Expr}{t t':TI}(h:PI X tg e t)(h':PI X tg e t'):PI X tg e (λσ H R=>t σ H R\/t' σ H R):=λpins s σ H R I q=>q.elim (h pins s σ H R I) (h' pins s σ H R I)
def ko{tg:Expr}(h:DEx X G H0 e f):DIx X G H0 tg e (fiS f):=⟨((zth h.out).or (z21 h.out)).imp λσ H R U=>by
 obtain⟨W,env,ds,env',ok,q,k⟩:=U;cases e1:f env with
 | none=>simp[e1] at q
 | some r =>
   obtain⟨d,I⟩:=r;cases d with
   | lst ds' =>
     have q:some (ds',I)=some (ds,env'):=by simpa[fiS,e1] using q
     cases q;refine .inl ⟨W,env,_,_,ok,e1,λW1 v1 H1 J D p1=>?_⟩;obtain⟨a,vs,rfl,h.out,r⟩:=p1.lst_;exact⟨a,rfl,⟨vs,h.out.sq⟩,k W1 _ H1 J D (zot D h.out r)⟩
   | tup ds' =>
     have q:some (ds',I)=some (ds,env'):=by simpa[fiS,e1] using q
     cases q;refine .inr ⟨W,env,_,_,ok,e1,λW1 v1 H1 J D p1=>?_⟩;obtain⟨a,vs,rfl,h.out,r⟩:=p1.tup_;exact⟨a,rfl,⟨vs,SqT.of h.out⟩,k W1 _ H1 J D (zwv D h.out r)⟩
   | _=>simp[e1] at q⟩
def rngD(lo:Int)(n:Nat):k8:=(List.range n).map λ(k:Nat)=>D.int (lo+(k:Int))
def iR1(ds:k8):Option k8:=match ds with | [.int j]=>if Bnd (-(2 ^ 62)) (2 ^ 62) j then some (rngD 0 j.toNat) else none | _=>none
def zmh{Cm:Cx->Prop}{tg:Expr}(hT:∀(it:Addr) (lo:Int) (n:Nat),vj Cm X.prog X.w X.K tg (Itr lo n) [it] it (λi h=>IsRangeIter h it (lo+(i:Nat)*1) ((n:Int)-(i:Nat)) 1))(V:DAx X G H0 [a] F)(J:Bn X "range":=by walk_at "b")(Y:starEach [a] X.env=[(false,eval a X.env)]:=by rfl):DIC Cm X G H0 tg (.Call (.Name "range" p') [a] [] pos) (i5 iR1 F) :=
 ⟨PIC.imp (zsf hT J.g J.m V.out Y) λσ H R Z=>by
  obtain⟨W,env,ds,env',ok,q,k⟩:=Z;cases e1:F env with
  | none=>simp[e1] at q
  | some z =>
    obtain⟨as,D⟩:=z;cases e2:iR1 as with
    | none=>simp[e1,e2] at q
    | some d' =>
      have q:some (d',D)=some (ds,env'):=by simpa[i5,e1,e2] using q
      cases q;refine⟨W,env,as,_,ok,e1,λW1 vs H1 b I p1=>?_⟩;unfold iR1 at e2;split at e2
      ·rename_i j
       split at e2
       ·rename_i U
        cases e2;obtain⟨v,rfl,c⟩:=ql p1;cases c;exact⟨j,rfl,U.1,U.2,k W1 _ H1 b I zww⟩
       ·cases e2
      ·cases e2⟩
def qe{tg:Expr}(D:DAx X G H0 [a] F)(I:Bn X "range":=by walk_at "b")(J:starEach [a] X.env=[(false,eval a X.env)]:=by rfl):DIx X G H0 tg (.Call (.Name "range" p') [a] [] pos) (i5 iR1 F):=zmh (λit lo n=>zix it lo n) D I J
def capt:ll->ll | some (.sh d)=>some (.sh d) | _=>none
def m8(tt:FT)(te:FE)(base:DE0):k8->Option k8
 | []=>some []
 | d::r=>(tt (some (.sh d)::base)).bind λb=>if b.1=true then(te b.2).bind λv=>(m8 tt te base r).map (v.1::·) else m8 tt te base r
def ip(fi:FI)(ix:h8)(tt:FT)(te:FE):FA:=λe=>(fi e).bind λr=>if Few r.1.length then(m8 tt te (ix.map λj=>capt (r.2.getD j none)) r.1).map λds=>(ds,r.2) else none
@[simp] noncomputable def fYes:FT:=λe=>some (true,e)
def tDxT(K:kf)(f:FT):TT:=λσ H Q=>∃G H0,tDT K G H0 f σ H Q
def tDx(K:kf)(f:FE):TE:=λσ H Q=>∃G H0,tD K G H0 f σ H Q
def NoW:Addr->Prop:=λ_=>False
def zm9{W:Addr->Prop}{env:DE0}{σ:St}{H:Hp}{ix:h8}{d:D}{v:V}(ok:Ok X.K G H0 W env σ H)(r:Rep X.K H (Ow G W) d v) :
  Ok X.K (gd λa=>Ow G W a\/H a=none) H NoW (some (.sh d)::ix.map λj=>capt (env.getD j none)) (some v::ix.map λj=>σ.getD j none) H:=by
 have R:∀ {d:D} {v:V},Rep X.K H (Ow G W) d v->Rep X.K H (Ow (gd λa=>Ow G W a\/H a=none) NoW) d v:=λr=>r.mono (λ_ _ h=>h) λa us o h=>⟨⟨.inl o,λz=>z⟩,h⟩;have I:∀(i:Nat) (s:Sl),(some (Sl.sh d)::ix.map λj=>capt (env.getD j none))[i]?=some (some s)->∃d',s=.sh d':=λi s z=>by
  cases i with
  | zero=>exact⟨d,by simpa using z.symm⟩
  | succ i =>
    simp only[ai,bu] at z;cases q:ix[i]? with
    | none=>rw[q] at z;cases z
    | some j =>
      rw[q] at z;have z:capt (env.getD j none)=some s:=bh z;unfold capt at z;split at z
      ·cases z;exact⟨_,rfl⟩
      ·cases z
 refine⟨Same.refl _,λa z=>.inr z,λl z=>z.elim,λi s e=>?_,λi j U s2 v1 v2 a J _ _ _ o _=>by obtain⟨d',rfl⟩:=I i U J;exact o.elim,by simp⟩;cases i with
 | zero =>
   cases e;exact⟨v,rfl,R r⟩
 | succ i =>
   simp only[ai,bu] at e ⊢;cases q:ix[i]? with
   | none=>rw[q] at e;cases e
   | some j =>
     rw[q] at e;have e:capt (env.getD j none)=some s:=bh e;rw[bx] at e;cases q2:env[j]? with
     | none=>rw[q2] at e;cases e
     | some o =>
       rw[q2] at e;have e:capt o=some s:=e;unfold capt at e;split at e
       ·rename_i d'
        cases e;obtain⟨u,J,Y⟩:=ok.slot j _ q2;exact⟨u,by simp only[ak];rw[bx,J];rfl,R Y⟩
       ·cases e
inductive CInv (K:kf) (O:Addr->Prop) (H1:Hp) (ds d:k8) (f:k8->Option k8) (i m:Nat) (H':Hp) (ys:k7):Prop
 | mk (rest done:k8) (hm:m=ds.length-i) (hi:i<=ds.length) (sm:Same H1 H') (rp:Reps K H' O done ys) (hd:done.length<=i) (ec:f (ds.drop i)=some rest) (hz:d=done++rest):CInv K O H1 ds d f i m H' ys
def zkz:2 ^ 20<=sizeLine:=by rw[sizeLine_eq];decide
def zq3{fi:FI}{ix:h8}{tt:FT}{te:FE}:∀σ H Q,tDF X.K G H0 (ip fi ix tt te) σ H Q->wz (tDI X.K G H0 fi) ix (tDxT X.K tt) (tDx X.K te) σ H Q:=λσ H Q z=>by
 obtain⟨W,env,d,env',ok,q,k⟩:=z;obtain⟨⟨ds,c⟩,F,q⟩:=dn.mp q;by_cases p:Few ds.length;case neg=>cases (if_neg p).symm.trans q
 obtain⟨B,L,q⟩:=gv.mp ((if_pos p).symm.trans q);cases q;refine⟨W,env,ds,_,ok,F,λW1 J H1 M t C=>⟨CInv X.K (Ow G W1) H1 ds d (m8 tt te (ix.map λj=>capt (c.getD j none))),⟨ds.length,d,[],rfl,gp _,Same.refl _,.nil,b7 _,L,rfl⟩,λi m H' ys z=>?_⟩⟩;obtain⟨rest,U,N,hi,sm,f,r,R,u⟩:=z;subst N;have D:=t.same sm;by_cases I:i<ds.length
 ·rw[fm I] at R
  obtain⟨⟨b,V⟩,O,R⟩:=dn.mp R;obtain⟨P,S⟩:=C.go W1 H' i ds[i] (Step.same sm) (av I);refine .inr ⟨P,λx A y=>?_⟩;obtain⟨e,T⟩:=S x A y;subst e;refine⟨_,_,NoW,_,b,V,zm9 (ix:=ix) D T,O,λW2 H2 s2 Y=>?_⟩;have s:ds.length-(i+1)<ds.length-i:=ma _ _ I;cases b with
  | false=>exact⟨_,s,rest,U,rfl,I,sm.trans Y.stay,D.reps (Step.same Y.stay) f,oh r,R,u⟩
  | true =>
    obtain⟨⟨E,g⟩,e4,R⟩:=dn.mp R;obtain⟨Z,e5,e6⟩:=gv.mp R;refine⟨_,_,W2,V,E,g,Y,e4,λW3 v H3 s3 n r3=>⟨?_,_,s,Z,U++[E],rfl,I,sm.trans n.stay,(D.reps (Step.same n.stay) f).append (.cons (r3.mono (λ_ _ h=>h) λa us o h=>⟨?_,h⟩) .nil),?_,e5,?_⟩⟩
    ·rw[<-f.length];exact bc (Nat.lt_of_le_of_lt r (bc I p)) zkz
    ·rcases o.1 with z | z
     ·exact z
     ·exact⟨D.good a (D.stay.free z),λw=>by obtain⟨_,us,q⟩:=D.wl a w;rw[z] at q;cases q⟩
    ·rw[ao];exact Nat.succ_le_succ r
    ·rw[u,<-e6,dg];rfl
 ·cases r8 hi (kr I)
  rw[kx] at R;cases R;refine .inl ⟨C.stop W1 H' (Step.same sm),by rw[<-f.length];exact df r (df p zkz),λl s=>?_⟩;obtain⟨h1,h2,h3,h4,h5,h6⟩:=uj D f s;rw[u,de] at k;exact k W1 l _ _ ((M.trans (Step.same sm)).trans h1) h2 h3 h4 h5 h6
def ww{D:Cx}(R:D.K=X.K):PIfs D [] (tDxT X.K fYes):=λpins s σ H Q I J=>by
 obtain⟨G,H0,W,env,b,env',ok,e,k⟩:=J;cases e;exact zwn pins s σ H Q I (k W H Step.refl ok)
def if_x{D:Cx}{tt:FT}(J:D.K=X.K)(h:∀G H0,DTx D G H0 c tt):PIfs D [c] (tDxT X.K tt):=λpins s σ H Q I ⟨G,H0,q⟩=>zwo (h G H0).out pins s σ H Q I (by rw[J];exact q)
def el_x{D:Cx}{te:FE}(J:D.K=X.K)(h:∀G H0,DEx D G H0 e te):PE D e (tDx X.K te):=λpins s σ H Q I ⟨G,H0,q⟩=>(h G H0).out pins s σ H Q I (by rw[J];exact q)
def qw{Nn Cn:g7}{ix:h8}{sc:Scope}{px:Pos}{fi:FI}{te:FE}(an:Ats Nn Cn X)(hi:DIx X G H0 (.Name x px) a fi)(I:∀cl C s₂ H₂ fp G H0,Ats (x::(subN Nn ix)) (subN Nn ix) (i7 X x (subN Nn ix) sc cl C s₂ H₂ fp)->DEx (i7 X x (subN Nn ix) sc cl C s₂ H₂ fp) G H0 e te)(D:pi Nn Cn ix x sc=true:=by decide +kernel)(J:X.calm=true:=by rfl)(R:∀v,foldedSetIterable a X.env v=pure v:=by intro _;rfl) :
  DFx X G H0 (.ListComp e [⟨.Name x px,a,[],0⟩] sc pos) (ip fi ix fYes te) :=
 ⟨(zm3 (uv an D) (λ_ _ _ _ _ _ _ _ _=>J) hi.out (λcl C s₂ H₂ fp _=>ww (X:=X) rfl) (λcl C s₂ H₂ fp _=>el_x (X:=X) rfl (λG H0=>I cl C s₂ H₂ fp G H0 (rd D))) R).imp zq3⟩
def zou{Nn Cn:g7}{ix:h8}{sc:Scope}{px:Pos}{fi:FI}{te:FE}{tt:FT}{R:Expr}(an:Ats Nn Cn X)(hi:DIx X G H0 (.Name x px) a fi)(I:∀cl C s₂ H₂ fp G H0,Ats (x::(subN Nn ix)) (subN Nn ix) (i7 X x (subN Nn ix) sc cl C s₂ H₂ fp)->DTx (i7 X x (subN Nn ix) sc cl C s₂ H₂ fp) G H0 R tt)(J:∀cl C s₂ H₂ fp G H0,Ats (x::(subN Nn ix)) (subN Nn ix) (i7 X x (subN Nn ix) sc cl C s₂ H₂ fp)->DEx (i7 X x (subN Nn ix) sc cl C s₂ H₂ fp) G H0 e te)(D:pi Nn Cn ix x sc=true:=by decide +kernel)(U:X.calm=true:=by rfl)(V:∀v,foldedSetIterable a X.env v=pure v:=by intro _;rfl) :
  DFx X G H0 (.ListComp e [⟨.Name x px,a,[R],0⟩] sc pos) (ip fi ix tt te) :=
 ⟨(zm3 (uv an D) (λ_ _ _ _ _ _ _ _ _=>U) hi.out (λcl C s₂ H₂ fp _=>if_x (X:=X) rfl (λG H0=>I cl C s₂ H₂ fp G H0 (rd D))) (λcl C s₂ H₂ fp _=>el_x (X:=X) rfl (λG H0=>J cl C s₂ H₂ fp G H0 (rd D))) V).imp zq3⟩
end
def Here(h h':Heap):Prop:=∀b o,h.get? b=some o->∃o',h'.get? b=some o'
def Here.trans{a b c:Heap}(x:Here a b)(y:Here b c):Here a c:=λp o q=>let ⟨o',e⟩:=x p o q;y p o' e
def zna{a:Addr}{f:Obj->Obj}(D:∀o,h.get? a=some o->(h.update a f).get? a=some (f o)):Here h (h.update a f):=λb o q=>by
 by_cases e:a=b
 ·subst e;exact⟨_,D o q⟩
 ·exact⟨o,(cj _ _ e).trans q⟩
structure XOk (B:Heap) (l:ic) (e:Addr) (cls fl:Value) (h:Heap):Prop where
 stay:B.StaysIn h
 new:B.get? e=none
 fr:h.FunFrames B l
 tr:∃oe vs T oT ts,h.get? e=some oe/\oe.cls=cls/\oe.dict=none/\oe.data=.fields vs/\vs[1]?=some (.ref T)/\vs[2]?=some .none/\B.get? T=none/\T≠e/\h.get? T=some oT/\oT.data=.fields ts/\ts[3]?=some fl
def zt9(o:Obj)(f:k6->k6):(o.mapFields f).dict=o.dict:=by obtain⟨c,d,D,sl⟩:=o;cases D <;> rfl
variable{env:Env}{e L:Addr}{M:Model}{A:Around}{E:Value->Shared->Prop}{B:Heap}{outer:ic}
def zy8{D:Obj}{vs:k6}{g:Value}{nx:Bool}(p:A.frames=some (env::outer))(f2:s.heap.FunFrames B (env::outer))(r:env.frame=some L)(V:s.heap.get? e=some D)(gd:D.dict=none)(I:D.data=.fields vs)(i:1<vs.size)(t:vs[2]?=some .none)(k1:B.StaysIn s.heap)(k2:B.get? e=none)(h:∀h',XOk B (env::outer) e D.cls (rawInt L) h'->s.heap.UpToSlots h'->Here s.heap h'->Q () { s with heap:=h' }) :
  wpAny M A (do let a <-frameOf env;let pl <-entryPlaceOf L nx;let b <-EntryCells.newEntry g a .none (rawInt L) .none pl;setField (.ref e) 1 b) Q E s:=by
 have Y:e∉(env::outer).filterMap (·.frame):=λz=>by
  obtain⟨_,o,j,u⟩:=f2.mem z;rw[V] at j;cases j;exact u vs I
 refine wpAny_bind (wpAny_frameOf_fun p f2 r λh1 J=>?_);refine wpAny_bind (wpAny_entryPlaceOf λpl R=>?_);refine wpAny_bind (wpAny_newObj_type ?_ (R.sizeOk5 _ _ _ _ _));have k:h1.get? e=some D:=(J.2.1 e Y).trans V;have l:B.StaysIn h1:=λb o q=>(J.2.1 b λz=>by rw[(f2.mem z).1] at q;cases q).trans (k1 b o q);generalize U:({ cls:=.type "traceback",dict:=none,data:=.fields ([g,.ref L,.none,rawInt L,.none]++(if pl.isEmpty then List.replicate 6 Value.none else pl)).toArray }:Obj)=ob;have Z:∃ts,ob.data=.fields ts/\ts[3]?=some (rawInt L):=by subst U;exact⟨_,rfl,by first | (simp;done) | (rcases R with rfl | ⟨_,_,_,_,_,_,_,rfl⟩ <;> simp)⟩
 have c:ob.isFreed=false:=by subst U;rfl
 have d:=aq (h:=h1) ob k;have m:h1.objs.size≠e:=lm (bg k);have f:=Obj.data_mapFields I (·.setIfInBounds 1 (Value.ref h1.objs.size));refine wpAny_setField d I i (h _ ?_ ?_ ?_)
 ·refine⟨λb o q=>?_,k2,f2.of_keeps λb o q n=>?_,?_⟩
  ·rw[cj _ _ (λz:e=b=>by rw[<-z,k2] at q;cases q)]
   exact aq _ (l b o q)
  ·obtain⟨sl,z⟩:=J.2.2 b o q
   refine⟨{ o with slots:=sl },?_,rfl⟩;rw[cj _ _ (λy:e=b=>by rw[<-y,V] at q;cases q;exact n vs I)];exact aq _ z
  ·obtain⟨ts,v,w⟩:=Z
   refine⟨_,_,h1.objs.size,ob,ts,ft _ d (Obj.isFreed_of_fields f),Obj.cls_mapFields _ _,(zt9 _ _).trans gd,f,by simp[i],by rw[Array.getElem?_setIfInBounds_ne (by decide)];exact t,l.fresh,m,?_,v,w⟩;rw[cj _ _ (Ne.symm m)];exact cf h1 c
 ·intro b o q n
  obtain⟨sl,z⟩:=J.2.2 b o q;refine⟨sl,?_⟩;rw[cj _ _ (λy:e=b=>by rw[<-y,V] at q;cases q;exact n vs I)];exact aq _ z
 ·intro b o q
  obtain⟨sl,z⟩:=J.2.2 b o q;exact zna (λo q=>ft _ q (by rw[d] at q;cases q;exact Obj.isFreed_of_fields f)) b _ (aq _ z)
variable{l:ic}{cls fl:Value}
def zps(x:XOk B l e cls fl s.heap)(h:∀h',XOk B l e cls .none h'->s.heap.UpToSlots h'->Here s.heap h'->Q () { s with heap:=h' }):wpAny M A (setFlight (.ref e) none) Q E s:=by
 obtain⟨g,vs,T,i,ts,R,a,gd,U,V,c,Y,Z,D,I,d⟩:=x.tr;have sz:3<ts.size:=(j4.mp d).1;unfold setFlight;refine wpAny_bind (wpAny_field R U V ?_);have J:=Obj.data_mapFields I (·.setIfInBounds 3 ((none:Option Addr).elim Value.none λf=>rawInt f));refine wpAny_setField D I sz (h _ ⟨λb o q=>?_,x.new,x.fr.of_keeps λb o q n=>⟨o,?_,rfl⟩,_,vs,T,_,_,(cj _ _ Z).trans R,a,gd,U,V,c,Y,Z,ft _ D (Obj.isFreed_of_fields J),J,by simp[sz]⟩ (λb o q n=>⟨o.slots,?_⟩) (zna λo q=>ft _ q (by rw[D] at q;cases q;exact Obj.isFreed_of_fields J)))
 ·exact(cj _ _ λz=>by rw[<-z,Y] at q;cases q).trans (x.stay b o q)
 ·exact(cj _ _ λz=>by rw[<-z,D] at q;cases q;exact n ts I).trans q
 ·exact(cj _ _ λz=>by rw[<-z,D] at q;cases q;exact n ts I).trans q
def z6k(a:A.frames=some (env::outer))(J:env.frame=some L)(x:XOk B (env::outer) e cls .none s.heap)(h:∀h',XOk B (env::outer) e cls (rawInt L) h'->s.heap.UpToSlots h'->Here s.heap h'->Q () { s with heap:=h' }):wpAny M A (noteFrame (.ref e) env) Q E s:=by
 obtain⟨i,vs,T,j,ts,R,c,gd,U,V,d,f,g,D,I,Y⟩:=x.tr;subst c;unfold noteFrame;simp only[J];refine wpAny_bind (wpAny_field R U V ?_);refine wpAny_bind (wpAny_field D I Y ?_);refine wpAny_bind (wpAny_setField D I (j4.mp Y).1 ?_);have Z:∀b o,s.heap.get? b=some o->(∀vs,o.data≠.fields vs)->(s.heap.update T (Obj.mapFields (·.setIfInBounds 3 Value.none))).get? b=some o:=λb o q n =>
  (cj _ _ λz=>by rw[<-z,D] at q;cases q;exact n ts I).trans q
 refine zy8 a (x.fr.of_keeps λb o q n=>⟨o,Z b o q n,rfl⟩) J ((cj _ _ g).trans R) gd U (j4.mp V).1 d (λb o q=>(cj _ _ λz=>by rw[<-z,f] at q;cases q).trans (x.stay b o q)) x.new λh' y u w=>h h' y (λb o q n=>u b o (Z b o q n) n) (Here.trans (zna λo q=>ft _ q (by rw[D] at q;cases q;exact Obj.isFreed_of_fields (Obj.data_mapFields I _))) w)
def z6l(D:A.frames=some (env::outer))(I:env.frame=some L)(x:XOk B (env::outer) e cls .none s.heap)(h:∀h',XOk B (env::outer) e cls .none h'->s.heap.UpToSlots h'->Here s.heap h'->Q () { s with heap:=h' }):wpAny M A (noteFrame (.ref e) env) (λ_ J=>wpAny M A (setFlight (.ref e) none) Q E J) E s :=
 z6k D I x λh1 R U V=>zps R λh2 Y Z a=>h h2 Y (U.trans Z) (V.trans a)
def z4b{D:Heap}{args:g8}(R:A.frames=some (env::outer))(f2:D.FunFrames B (env::outer))(I:env.frame=some L)(k1:B.StaysIn D)(m:Heap.MadeExcOf D s.heap e cls args)(h:∀h',XOk B (env::outer) e cls .none h'->s.heap.UpToSlots h'->Here s.heap h'->Q () { s with heap:=h' }):wpAny M A (noteFrame (.ref e) env) (λ_ U=>wpAny M A (setFlight (.ref e) none) Q E U) E s:=by
 obtain⟨t,J,_,_⟩:=m.there;have k2:B.get? e=none:=by
  cases q:B.get? e with
  | none=>rfl
  | some o=>have:=k1 e o q;rw[m.new] at this;cases this
 unfold noteFrame;simp only[I];refine wpAny_bind (wpAny_field J rfl (x:=Value.none) rfl ?_);exact zy8 R (f2.of_keeps λb o q _=>⟨o,m.keeps b o q,rfl⟩) I J rfl rfl (by simp) rfl (λb o q=>m.keeps b o (k1 b o q)) k2 λh1 V Y Z=>zps V λh2 a c d=>h h2 a (Y.trans c) (Z.trans d)
end L2
namespace L2
open PySem PySem.Spec PyProof.Rows PySem.W
def Cl(K:kf)(c:Str)(C:Addr):Prop:=PySem.W.nsIn K mainGlobals c=some (some (.ref C))
def Fly(P:Program)(w:World)(l:ic)(H:Hp)(s:Shared)(C e:Addr)(H':Hp)(s':Shared):Prop :=
 ∃B,XOk B l e (.ref C) .none s'.heap/\(∀b o,s.heap.get? b=some o->H b=none->b∉frs l->B.get? b=some o)/\HOk P w H' B/\Un (frs l) [] H H' s.heap s'.heap/\s'.os=s.os/\AllBare s'.gens
abbrev CXr(P:Program)(w:World):CXT:=λl H s E e s'=>∃ea C H',e=.ref ea/\Fly P w l H s C ea H' s'/\E (.ref C) none H'
def XS(X:Cx)(pins:k4)(σ:St)(H:Hp)(C e:Addr)(s':Shared):Prop :=
 (∃s H1,Inv X pins σ H1 s/\Fly X.prog X.w X.stack H1 s C e H s')\/∃s args,Inv X pins σ H s/\Heap.MadeExcOf s.heap s'.heap e (.ref C) args/\s'={ s with heap:=s'.heap }
variable{CX:CXT}{P:Program}{w:World}{K:kf}{mg:Str->g9}{base:Heap}{x qual:Str}{st:Stmt}{f:Addr}{fd:FuncData}{N ps:g7}{k:Nat}{sp:Sp}
theorem Fun.okX(F:Fun K x qual st f fd)(S:pj N ps (fx st))(len:∀vs H Q E,sp vs H Q E->vs.length=ps.length)(D:∀(cdv:Value) (A:Around) (outer:ic) (s:Shared) (H:Hp) (vs:k7) (Q:VK) (E:XK),Room k (A.deeper (envOfC qual (fx st) s.heap.objs.size f cdv))->sp vs H Q E ->
   ∃t,PSs (cxOf CX P w K mg base N qual (fx st) f cdv A outer s H E) (li st) t/\t { nx:=λ_ H'=>Q .non H',rt:=Q } (start N vs) H):FnOk P w K mg base CX (k+1) f fd ps sp:=by
 obtain⟨oc,od,kV,R,Z,an,cdv,ct,osl,rfl,U,I⟩:=F.ex;exact z6a U I S len λA outer s H vs Q E Y J=>D cdv A outer s H vs Q E Y J
theorem Fun.okC(F:Fun K x qual st f fd)(S:pj N ps (fx st))(len:∀vs H Q E,sp vs H Q E->vs.length=ps.length)(D:∀(cdv:Value) (A:Around) (outer:ic) (s:Shared) (H:Hp) (vs:k7) (Q:VK) (E:XK),Room k (A.deeper (envOfC qual (fx st) s.heap.objs.size f cdv))->sp vs H Q E ->
   ∃t,PSs (cxOf CX P w K mg base N qual (fx st) f cdv A outer s H E).nox (li st) t/\t { nx:=λ_ H'=>Q .non H',rt:=Q } (start N vs) H):FnOk P w K mg base CX (k+1) f fd ps sp :=
 F.okX S len λcdv A outer s H vs Q E I h=>let ⟨t,p,q⟩:=D cdv A outer s H vs Q E I h;⟨t,p.nox,q⟩
variable{X:Cx}{pins:k4}{σ:St}{H H':Hp}{s s':Shared}{C e:Addr}
def Fly.inv(I:Inv X pins σ H s)(f:Fly X.prog X.w X.stack H s C e H' s'):Inv X pins σ H' s':=by
 obtain⟨B,x,_,D,un,os,J⟩:=f;exact I.call' (ch:=[]) os un (D.kept x.stay) J λb z=>absurd z (by simp)
def XS.come{E:Value->Shared->Prop}{Q:Unit->Shared->Prop}(h:XS X pins σ H' C e s')(R:X.stack=X.env::X.outer)(k:X.env.frame=some X.env.locals)(l:∀h2 D H1,Inv X pins σ H1 D->Fly X.prog X.w X.stack H1 D C e H' { s' with heap:=h2 }->Q () { s' with heap:=h2 }):wpAny (model X.prog X.w) X.A (noteFrame (.ref e) X.env) (λ_ D=>wpAny (model X.prog X.w) X.A (setFlight (.ref e) none) Q E D) E s':=by
 rcases h with⟨D,H1,I,f⟩ | ⟨D,args,I,m,es⟩
 ·obtain⟨B,x,p,r,un,os,s⟩:=f
  have st:=I.stack;rw[R] at x st;refine z6l (I.ok.frames.trans (by rw[R])) k x λh2 U Z V=>l h2 D H1 I ⟨B,R ▸ U,p,r,⟨λb o q n J _=>U.stay b o (p b o q n J),λb o q n J d=>?_,un.free,λb o q d=>?_,un.tups,un.frzs,un.tbls⟩,os,s⟩
  ·obtain⟨sl,z⟩:=un.slot b o q n J d
   rw[R] at J;obtain⟨_,t,y,g⟩:=st.mem J;rw[q] at y;cases y;obtain⟨i,v⟩:=Z b _ z g;exact⟨i,v⟩
  ·obtain⟨o',z⟩:=un.there b o q d
   exact V b o' z
 ·have st:=I.stack
  have F:∀b∈frs X.stack,H' b=none:=I.stkFree;have Y:∀b o,H' b=some o->b∉frs X.stack:=λb o q z=>by rw[F b z] at q;cases q
  have j:HOk X.prog X.w H' (hideAll D.heap (frs X.stack)):=λb o q =>
   (I.hok b o q).stay (λc u hc z=>hideAll_get _ z (by rcases hc with rfl | hc;exact Y _ _ q;exact Y _ _ hc)) (λ_ z=>z) λ_ _ z=>z
  have f2:D.heap.FunFrames (hideAll D.heap (frs X.stack)) (X.env::X.outer):=R ▸ funFrames_hide (as:=frs X.stack) st λenv V a G=>ni.mpr ⟨env,V,G⟩;refine z4b (B:=hideAll D.heap (frs X.stack)) (I.ok.frames.trans (by rw[R])) f2 k (λb o q=>of_hideAll _ q) m λh2 U Z V=>l h2 D H' I ⟨_,R ▸ U,λb o q n J=>hideAll_get _ q J,j,⟨λb o q n J _=>U.stay b o (hideAll_get _ q J),λb o q n J _=>?_,λ_ _ _ n _=>n,λb o q _=>V b o (m.keeps b o q),λ_ _ z=>z,λ_ _ _ z=>z,λ_ ps z=>⟨#[],by rw[Array.append_empty];exact z⟩⟩,by rw[es],by rw[es];exact I.bare⟩;obtain⟨_,t,y,g⟩:=st.mem J;rw[q] at y;cases y;exact Z b o (m.keeps b o q) g
def zj6{scope:Scope}{D:Value}{A:Around}{outer:ic}{s₀:Shared}{H₀:Hp}{E:XK}(h:XS (cxOf (CXr P w) P w K mg base N qual scope f D A outer s₀ H₀ E) pins σ H' C e s')(U:E (.ref C) none H'):(cxOf (CXr P w) P w K mg base N qual scope f D A outer s₀ H₀ E).xe (.ref e) s':=by
 refine wpAny_bind (h.come rfl rfl λh2 Z H1 I f=>⟨e,C,H',rfl,?_,U⟩);have J:=f.inv I;obtain⟨B,x,V,Y,_⟩:=f;refine⟨B,⟨x.stay,x.new,x.fr.2.2,x.tr⟩,λb o q n R=>?_,Y,J.base,J.os,J.bare⟩;refine V b o (I.base.keep b o q n R (by simp[cxOf])) (I.base.free b o q n (by simp[cxOf])) λz=>?_;rcases cb.mp (show b∈s₀.heap.objs.size::frs outer from z) with z | z
 ·rw[z] at q;exact absurd (bg q) (fo _)
 ·exact R z
end L2
namespace L2
open PySem PySem.Spec PyProof.Rows
inductive Fl where
 | nx | bk | ct | rt (d:D) | rf (ds:k8) | r2 (dss:List k8) | xc (c:Str) | ra (k:AK) (ps:la)
abbrev FS:=DE0->Option (Fl×DE0)
structure N2 (K:kf) (G:Gd) (H0 H:Hp) (l:Addr) (ls:h7) (dss:List k8):Prop where
 nd:(l::ls).Nodup
 new:∀a∈l::ls,H0 a=none
 top:H l=some (.lst (ls.map V.ref))
 len:ls.length=dss.length
 inn:∀(j:Nat) (ds:k8) (a:Addr),dss[j]?=some ds->ls[j]?=some a->∃vs,H a=some (.lst vs)/\Reps K H (λb=>G b/\b∉l::ls) ds vs
def EndOk(X:Cx)(G:Gd)(H0:Hp)(W:Addr->Prop)(H:Hp)(Dn:Ends)(env':DE0):Fl->Prop
 | .nx=>∀W' D H',Step W H W' H'->Ok X.K G H0 W' env' D H'->Dn.nx D H'
 | .bk=>∀W' D H',Step W H W' H'->Ok X.K G H0 W' env' D H'->Dn.bk D H'
 | .ct=>∀W' D H',Step W H W' H'->Ok X.K G H0 W' env' D H'->Dn.ct D H'
 | .rt d=>∀W' D v H',Step W H W' H'->Ok X.K G H0 W' env' D H'->Rep X.K H' (Ow G W') d v->Dn.rt v H'
 | .rf ds=>∀l vs H',Same H0 H'->H0 l=none->H' l=some (.lst vs)->Reps X.K H' (λa=>G a/\a≠l) ds vs->Dn.rt (.ref l) H'
 | .r2 dss=>∀l ls H',Same H0 H'->N2 X.K G H0 H' l ls dss->Dn.rt (.ref l) H'
 | .xc c=>∀W' D H' C,Cl X.K c C->Step W H W' H'->Ok X.K G H0 W' env' D H'->∀pins e s',XS X pins D H' C e s'->X.xe (.ref e) s'
 | .ra k ps=>∀W' D p H',Step W H W' H'->Ok X.K G H0 W' env' D H'->SlOk X.K G W' H' (.ag k none ps) (.ref p)->Dn.rt (.ref p) H'
def tDS(X:Cx)(G:Gd)(H0:Hp)(g:FS):TS:=λDn σ H=>DP X.K G H0 g (λW env fl env'=> EndOk X G H0 W H Dn env' fl) σ H
structure DSx (X:Cx) (G:Gd) (H0:Hp) (s:Stmt) (g:FS):Prop where
 out:PS X s (tDS X G H0 g)
structure DBx (X:Cx) (G:Gd) (H0:Hp) (s:List Stmt) (g:FS):Prop where
 out:PSs X s (tDS X G H0 g)
variable{X:Cx}{e:Expr}{t t':TS}
def PS.imp{e:Stmt}(h:PS X e t)(i:∀D σ H,t' D σ H->t D σ H):PS X e t':=λpins s σ H D I q=>h pins s σ H D I (i D σ H q)
def PSs.imp{e:List Stmt}(h:PSs X e t)(i:∀D σ H,t' D σ H->t D σ H):PSs X e t':=λpins s σ H D I q=>h pins s σ H D I (i D σ H q)
variable{G:Gd}{W W1:Addr->Prop}{H0 H H1:Hp}{Dn:Ends}{env':DE0}{fl:Fl}
protected def EndOk.step(st:Step W H W1 H1)(h:EndOk X G H0 W H Dn env' fl):EndOk X G H0 W1 H1 Dn env' fl:=by
 cases fl with
 | nx=>exact λW' D H' s o=>h W' D H' (st.trans s) o
 | bk=>exact λW' D H' s o=>h W' D H' (st.trans s) o
 | ct=>exact λW' D H' s o=>h W' D H' (st.trans s) o
 | rt d=>exact λW' D v H' s o=>h W' D v H' (st.trans s) o
 | rf ds=>exact h
 | r2 dss=>exact h
 | xc c=>exact λW' D H' C z s o=>h W' D H' C z (st.trans s) o
 | ra k ps=>exact λW' D p H' s o=>h W' D p H' (st.trans s) o
def Fl.out:Fl->Bool | .rt _=>true | .rf _=>true | .r2 _=>true | .xc _=>true | .ra _ _=>true | _=>false
variable{Dn':Ends}
protected def EndOk.go(I:fl.out=true)(h:EndOk X G H0 W H Dn env' fl)(e:Dn'.rt=Dn.rt)(st:Step W H W1 H1):EndOk X G H0 W1 H1 Dn' env' fl:=by
 cases fl with
 | nx=>cases I
 | bk=>cases I
 | ct=>cases I
 | rt d=>intro W' D v H' s o r;rw[e];exact h W' D v H' (st.trans s) o r
 | rf ds=>intro v vs H' s n l r;rw[e];exact h v vs H' s n l r
 | r2 dss=>intro v ls H' s n;rw[e];exact h v ls H' s n
 | xc c=>exact λW' D H' C z s o=>h W' D H' C z (st.trans s) o
 | ra k ps=>intro W' D p H' s o r;rw[e];exact h W' D p H' (st.trans s) o r
@[simp] noncomputable def sNil:FS:=λe=>some (.nx,e)
@[simp] noncomputable def sSeq(g h:FS):FS:=λe=>(g e).bind λr=>match r.1 with | .nx=>h r.2 | _=>some r
@[simp] noncomputable def sSet(i:Nat)(f:FE):FS:=λe=>(f e).map λr=>(.nx,r.2.set i (some (.sh r.1)))
@[simp] noncomputable def sOwn(i:Nat)(f:FA):FS:=λe=>(f e).map λr=>(.nx,r.2.set i (some (.ow r.1)))
@[simp] noncomputable def sRet(f:FE):FS:=λe=>(f e).map λr=>(.rt r.1,r.2)
@[simp] noncomputable def z0v(f:FA):FS:=λe=>(f e).map λr=>(.rf r.1,r.2)
@[simp] noncomputable def sIf(c:FT)(g h:FS):FS:=λe=>(c e).bind λr=>if r.1=true then g r.2 else h r.2
@[simp] noncomputable def jg(f:FE):FS:=λe=>(f e).map λr=>(.nx,r.2)
@[simp] noncomputable def zq4:FS:=λ_=>none
def forL(i:Nat)(g:FS):k8->DE0->Option (Fl×DE0)
 | [],e=>some (.nx,e)
 | d::r,e=>(g (e.set i (some (.sh d)))).bind λq=>match q.1 with | .nx=>forL i g r q.2 | .ct=>forL i g r q.2 | .bk=>some (.nx,q.2) | .rt d=>some (.rt d,q.2) | .rf ds=>some (.rf ds,q.2) | .r2 ds=>some (.r2 ds,q.2) | .xc c=>some (.xc c,q.2) | .ra k ps=>some (.ra k ps,q.2)
@[simp] noncomputable def sFor(i:Nat)(fi:FI)(g:FS):FS:=λe=>(fi e).bind λr=>forL i g r.1 r.2
def mn(c:FT)(g:FS):Nat->DE0->Option (Fl×DE0)
 | 0,_=>none
 | n+1,e=>(c e).bind λr=>if r.1=true then(g r.2).bind λq=>match q.1 with | .nx=>mn c g n q.2 | .ct=>mn c g n q.2 | .bk=>some (.nx,q.2) | .rt d=>some (.rt d,q.2) | .rf ds=>some (.rf ds,q.2) | .r2 ds=>some (.r2 ds,q.2) | .xc c=>some (.xc c,q.2) | .ra k ps=>some (.ra k ps,q.2) else some (.nx,r.2)
section
variable {X:Cx} {G:Gd} {H0:Hp} {a b c e:Expr} {es rest:ik} {f g:FE} {F:FA} {p q:FT} {s:Stmt} {ss:List Stmt} {u v:FS} {pos p' p1 pos1:Pos} {x:Str} {i:Nat}
def gg  : DBx X G H0 [] sNil:=⟨zz5.imp λDn σ H D=>by
 obtain⟨W,env,fl,env',ok,q,k⟩:=D;cases q;exact k W σ H Step.refl ok⟩
def dm(h1:DSx X G H0 s u)(h2:DBx X G H0 ss v):DBx X G H0 (s::ss) (sSeq u v):=⟨(zwa h1.out h2.out).imp λDn σ H R=>by
 obtain⟨W,env,fl,env',ok,q,k⟩:=R;cases e1:u env with
 | none=>simp[e1] at q
 | some r =>
   obtain⟨I,D⟩:=r;refine⟨W,env,I,D,ok,e1,?_⟩;cases I with
   | nx =>
     have q:v D=some (fl,env'):=by simpa[sSeq,e1] using q
     exact λW1 U H1 V J=>⟨W1,D,fl,env',J,q,k.step V⟩
   | bk =>
     have q:some (Fl.bk,D)=some (fl,env'):=by simpa[sSeq,e1] using q
     cases q;exact k
   | ct =>
     have q:some (Fl.ct,D)=some (fl,env'):=by simpa[sSeq,e1] using q
     cases q;exact k
   | rt d =>
     have q:some (Fl.rt d,D)=some (fl,env'):=by simpa[sSeq,e1] using q
     cases q;exact k
   | rf d =>
     have q:some (Fl.rf d,D)=some (fl,env'):=by simpa[sSeq,e1] using q
     cases q;exact k
   | r2 d =>
     have q:some (Fl.r2 d,D)=some (fl,env'):=by simpa[sSeq,e1] using q
     cases q;exact k
   | xc d =>
     have q:some (Fl.xc d,D)=some (fl,env'):=by simpa[sSeq,e1] using q
     cases q;exact k
   | ra d d' =>
     have q:some (Fl.ra d d',D)=some (fl,env'):=by simpa[sSeq,e1] using q
     cases q;exact k⟩
def dw(h:DSx X G H0 s u):DBx X G H0 [s] u:=⟨zz6 h.out⟩
def z4c(R:X.N.Nodup)(hi:X.N[i]?=some x:=by rfl)(U:DEx X G H0 e f)(ps:PS X (.Assign [.Name x p'] e pos) (tAsg (tD X.K G H0 f) (m3 i))):DSx X G H0 (.Assign [.Name x p'] e pos) (sSet i f):=⟨ps.imp λDn σ H I=>by
 obtain⟨W,env,fl,env',ok,q,k⟩:=I;cases e1:f env with
 | none=>simp[e1] at q
 | some r =>
   have q:some (Fl.nx,r.2.set i (some (Sl.sh r.1)))=some (fl,env'):=by simpa[sSet,e1] using q
   cases q;exact⟨W,env,_,_,ok,e1,λW1 v1 H1 J D p1=>k W1 _ H1 J (D.set p1)⟩⟩
def qa(ps:PS X (.Assign [.Name x p'] e pos) (tAsg (tDF X.K G H0 F) (m3 i))):DSx X G H0 (.Assign [.Name x p'] e pos) (sOwn i F):=⟨ps.imp λDn σ H J=>by
 obtain⟨W,env,fl,env',ok,q,k⟩:=J;cases e1:F env with
 | none=>simp[e1] at q
 | some r =>
   have q:some (Fl.nx,r.2.set i (some (Sl.ow r.1)))=some (fl,env'):=by simpa[sOwn,e1] using q
   cases q;exact⟨W,env,_,_,ok,e1,λW1 l vs H1 R D I U V Y=>k (addW W1 l) _ H1 R (I.setO (.inr rfl) V Y (D.noOwn U))⟩⟩
def fj(I:DEx X G H0 e f):DSx X G H0 (.Return (some e) pos) (sRet f):=⟨(xq I.out).imp λDn σ H J=>by
 obtain⟨W,env,fl,env',ok,q,k⟩:=J;cases e1:f env with
 | none=>simp[e1] at q
 | some r =>
   have q:some (Fl.rt r.1,r.2)=some (fl,env'):=by simpa[sRet,e1] using q
   cases q;exact⟨W,env,_,_,ok,e1,λW1 v1 H1 R D p1=>k W1 σ v1 H1 R D p1⟩⟩
def z0w(J:DFx X G H0 e F):DSx X G H0 (.Return (some e) pos) (z0v F):=⟨(xq J.out).imp λDn σ H R=>by
 obtain⟨W,env,fl,env',ok,q,k⟩:=R;cases e1:F env with
 | none=>simp[e1] at q
 | some r =>
   have q:some (Fl.rf r.1,r.2)=some (fl,env'):=by simpa[z0v,e1] using q
   cases q;exact⟨W,env,_,_,ok,e1,λW1 l vs H1 Y D I Z U V=>k l vs H1 D.stay (I.wl l (.inr rfl)).1 U (V.mono (λ_ _ h=>h) λa us o h=>⟨⟨o.1,λz=>o.2 (.inr z)⟩,h⟩)⟩⟩
def fOwn(i:Nat):FA:=λe=>match e[i]? with | some (some (.ow ds))=>some (ds,e.set i none) | _=>none
@[simp] noncomputable def zwx(i:Nat):FS:=λe=>match e[i]? with | some (some (.ow ds))=>some (.rf ds,e) | _=>none
def z0x{Nn Cn:g7}{i:Nat}(an:Ats Nn Cn X)(D:Nn[i]?=some x:=by rfl):DSx X G H0 (.Return (some (.Name x p')) pos) (zwx i):=⟨(xq ((an.a D).pe)).imp λDn σ H J=>by
 obtain⟨W,env,fl,env',ok,q,k⟩:=J;unfold zwx at q;split at q
 ·rename_i ds R
  cases q;obtain⟨v,U,l,vs,rfl,I,V,r⟩:=ok.slot i _ R;exact⟨_,U,k l vs H ok.stay (ok.wl l I).1 V (r.mono (λ_ _ h=>h) λa us o h=>⟨⟨o.1,λz=>o.2 (z ▸ I)⟩,h⟩)⟩
 ·cases q⟩
def gf{J R:List Stmt}(V:DTx X G H0 c p)(Y:DBx X G H0 J u)(Z:DBx X G H0 R v):DSx X G H0 (.If c J R pos) (sIf p u v):=⟨(z53 V.out Y.out Z.out).imp λDn σ H a=>by
 obtain⟨W,env,fl,env',ok,q,k⟩:=a;cases e1:p env with
 | none=>simp[e1] at q
 | some r =>
   obtain⟨t,D⟩:=r;refine⟨W,env,t,D,ok,e1,λW1 H1 U I=>?_⟩;cases t with
   | true=>rw[if_pos rfl];exact⟨W1,D,fl,env',I,by simpa[sIf,e1] using q,k.step U⟩
   | false=>rw[if_neg ce];exact⟨W1,D,fl,env',I,by simpa[sIf,e1] using q,k.step U⟩⟩
def znb  : DSx X G H0 s zq4:=⟨zwb.imp λDn σ H ⟨W,env,fl,env',ok,q,k⟩=>by cases q⟩
def jt(I:DEx X G H0 e f)(J:swapsWith e none pos.line X.env=pure false:=by rfl):DSx X G H0 (.Expr e pos) (jg f):=⟨(ztd I.out J).imp λDn σ H R=>by
 obtain⟨W,env,fl,env',ok,q,k⟩:=R;cases e1:f env with
 | none=>simp[e1] at q
 | some r =>
   have q:some (Fl.nx,r.2)=some (fl,env'):=by simpa[jg,e1] using q
   cases q;exact⟨W,env,_,_,ok,e1,λW1 v1 H1 U D p1=>k W1 σ H1 U D⟩⟩
structure z0y (K:kf) (G:Gd) (J:It) (W:Addr->Prop) (H:Hp) (ds:k8):Prop where
 go:∀W' H' (i:Nat) d,Step W H W' H'->ds[i]?=some d->J.go i H'/\∀x H'',J.yld i H' x H''->Same H' H''/\Rep K H'' (Ow G W') d x
 stop:∀W' H',Step W H W' H'->J.stop ds.length H'
def tDJ(K:kf)(G:Gd)(H0:Hp)(f:FI):TI:=λσ H R=>DP K G H0 f (λW env ds env' =>
 ∀W' J H',Step W H W' H'->Ok K G H0 W' env' σ H'->z0y K G J W' H' ds->R J H') σ H
structure DJx (X:Cx) (G:Gd) (H0:Hp) (tg:Expr) (e:Expr) (f:FI):Prop where
 out:PI X tg e (tDJ X.K G H0 f)
def DIC.dj{tg:Expr}{f:FI}(h:DIx X G H0 tg a f):DJx X G H0 tg a f:=⟨h.out.imp λσ H R z=>by
 obtain⟨W,env,ds,env',ok,q,k⟩:=z;exact⟨W,env,ds,env',ok,q,λW' J H' st D w=>k W' J H' st D ⟨λI H2 i d s e=>⟨(w.go I H2 i d s e).1,λx U y=>by
  obtain⟨V,r⟩:=(w.go I H2 i d s e).2 x U y;cases V;exact⟨Same.refl _,r⟩⟩,w.stop⟩⟩⟩
def forK(k:DE0->Option (Fl×DE0))(q:Fl×DE0):Option (Fl×DE0):=match q.1 with | .nx=>k q.2 | .ct=>k q.2 | .bk=>some (.nx,q.2) | .rt d=>some (.rt d,q.2) | .rf ds=>some (.rf ds,q.2) | .r2 ds=>some (.r2 ds,q.2) | .xc c=>some (.xc c,q.2) | .ra k ps=>some (.ra k ps,q.2)
def EndOk.loop{Dn:Ends}{W W':Addr->Prop}{H H':Hp}{fl U:Fl}{I env':DE0}{N:St->Hp->Prop}{kk:DE0->Option (Fl×DE0)}(k:EndOk X G H0 W H Dn env' fl)(st:Step W H W' H')(V:forK kk (U,I)=some (fl,env'))(Y:∀R D H2,Step W' H' R H2->Ok X.K G H0 R I D H2->kk I=some (fl,env')->N D H2) :
  EndOk X G H0 W' H' { Dn with nx:=N,ct:=N,bk:=Dn.nx } I U:=by
 cases U with
 | nx=>exact λR D H2 s2 J=>Y R D H2 s2 J V
 | ct=>exact λR D H2 s2 J=>Y R D H2 s2 J V
 | bk=>cases V;exact λR D H2 s2 J=>k R D H2 (st.trans s2) J
 | _=>cases V;exact k.go rfl rfl st
inductive FInv (X:Cx) (G:Gd) (H0:Hp) (W1:Addr->Prop) (H1:Hp) (ds:k8) (L:k8->DE0->Option (Fl×DE0)) (r:Option (Fl×DE0)) (n m:Nat) (σ:St) (H:Hp):Prop
 | mk (W:Addr->Prop) (env:DE0) (hm:m=ds.length-n) (hn:n<=ds.length) (st:Step W1 H1 W H) (ok:Ok X.K G H0 W env σ H) (ef:L (ds.drop n) env=r):FInv X G H0 W1 H1 ds L r n m σ H
def zua{tg:Expr}{g:TG}{body:List Stmt}{fi:FI}{b:D->DE0->Option DE0}{L:k8->DE0->Option (Fl×DE0)}(hi:DJx X G H0 tg a fi)(i:PG X tg g)(E:DBx X G H0 body u)(F:∀ {W env env' σ H d x} {Q:St->Hp->Prop},Ok X.K G H0 W env σ H->Rep X.K H (Ow G W) d x->b d env=some env'->(∀R,Ok X.K G H0 W env' R H->Q R H)->g x σ H Q)(M:∀e,L [] e=some (.nx,e))(h1:∀d r e,L (d::r) e=(b d e).bind λe'=>(u e').bind λq=>forK (L r) q)(N:PassesOwn (model X.prog X.w) X.A X.env X.xe)(O:X.calm=true)(P:∀x,foldedSetIterable a X.env x=pure x):DSx X G H0 (.For tg a body [] pos) (λe=>(fi e).bind λr=>L r.1 r.2):=⟨(z22 N O hi.out i E.out P).imp λDn σ H z=>by
 obtain⟨W,env,fl,env',ok,q,k⟩:=z;obtain⟨⟨ds,U⟩,S,q⟩:=dn.mp q;refine⟨W,env,ds,U,ok,S,λW1 J H1 t j v=>⟨FInv X G H0 W1 H1 ds L (some (fl,env')),⟨ds.length,W1,U,rfl,gp _,Step.refl,j,q⟩,λn m R H' z=>?_⟩⟩;obtain⟨W',B,T,hn,st,Z,V⟩:=z;subst T;by_cases I:n<ds.length
 ·rw[fm I,h1] at V
  obtain⟨c,e2,V⟩:=dn.mp V;obtain⟨⟨l,Y⟩,e3,V⟩:=dn.mp V;obtain⟨i,hy⟩:=v.go W' H' n ds[n] st (av I);refine .inr ⟨i,λf H2=>∃C,C<ds.length-n/\FInv X G H0 W1 H1 ds L (some (fl,env')) (n+1) C f H2,λ_ _ h=>h,λx o y=>?_⟩;obtain⟨sm,rx⟩:=hy x o y;have sn:=st.trans (Step.same sm);exact F (Z.same sm) rx e2 λaa p=>⟨W',c,l,Y,p,e3,k.loop (t.trans sn) V λW2 f H2 s2 s e=>⟨_,ma _ _ I,W2,Y,rfl,I,sn.trans s2,s,e⟩⟩
 ·cases r8 hn (kr I)
  rw[kx,M] at V;cases V;exact .inl ⟨v.stop W' H' st,k W' R H' (t.trans st) Z⟩⟩
def m9{tg:Str}{px:Pos}{body:List Stmt}{fi:FI}(hi:DIx X G H0 (.Name tg px) a fi)(D:PG X (.Name tg px) (m3 i))(I:DBx X G H0 body u)(J:PassesOwn (model X.prog X.w) X.A X.env X.xe:=by passes_own)(R:X.calm=true:=by rfl)(U:∀x,foldedSetIterable a X.env x=pure x:=by intro _;rfl):DSx X G H0 (.For (.Name tg px) a body [] pos) (sFor i fi u) :=
 zua (b:=λd e=>some (e.set i (some (.sh d)))) (L:=forL i u) hi.dj D I (λok r e k=>by cases e;exact k _ (ok.set r)) (λ_=>rfl) (λ_ _ _=>rfl) J R U
inductive WInv (X:Cx) (G:Gd) (H0:Hp) (W1:Addr->Prop) (H1:Hp) (L:Nat->DE0->Option (Fl×DE0)) (r:Option (Fl×DE0)) (m:Nat) (σ:St) (H:Hp):Prop
 | mk (W:Addr->Prop) (env:DE0) (st:Step W1 H1 W H) (ok:Ok X.K G H0 W env σ H) (ef:L m env=r):WInv X G H0 W1 H1 L r m σ H
def znc{body:List Stmt}{n:Nat}(i:DTx X G H0 c p)(j:DBx X G H0 body u)(l:PassesOwn (model X.prog X.w) X.A X.env X.xe:=by passes_own):DSx X G H0 (.While c body [] pos) (mn p u n):=⟨(zwd l i.out j.out).imp λDn σ H z=>by
 obtain⟨W,env,fl,env',ok,q,k⟩:=z;refine⟨WInv X G H0 W H (mn p u) (some (fl,env')),⟨n,W,env,Step.refl,ok,q⟩,λm Y H' z=>?_⟩;obtain⟨W',R,st,Z,J⟩:=z;cases m with
 | zero=>cases J
 | succ m =>
   obtain⟨⟨t,D⟩,o,J⟩:=dn.mp J;refine⟨W',R,t,D,Z,o,λd H2 s2 U=>?_⟩;cases t with
   | false =>
     cases J;exact k d Y H2 (st.trans s2) U
   | true =>
     obtain⟨⟨a,I⟩,r,J⟩:=dn.mp J;exact⟨λV f=>∃g,g<m+1/\WInv X G H0 W H (mn p u) (some (fl,env')) g V f,λ_ _ h=>h,d,D,a,I,U,r,k.loop (kk:=mn p u m) (st.trans s2) J λs V f v b e=>⟨m,fg _,s,I,(st.trans s2).trans v,b,e⟩⟩⟩
end
variable{n:Nat}
def lt20(h:n<2 ^ 20):n<sizeLine:=bc h (by rw[sizeLine_eq];decide)
@[simp] noncomputable def y8(d:D)(e:DE0)(i:Nat):Option (D×DE0):=match e[i]? with
 | some (some (.ow ds))=>if Few (ds.length+1) then some (.non,e.set i (some (.ow (ds++[d])))) else none
 | _=>none
@[simp] noncomputable def qv(i:Nat)(f:FE):FE:=λe=>match e[i]? with
 | some (some (.ow _))=>(f e).bind λr=>y8 r.1 r.2 i
 | _=>none
variable{Nn Cn:g7}{i:Nat}{a:Expr}{f:FE}{pos p' p1:Pos}{x:Str}
def zt(j:DEx X G H0 a f)(an:Ats Nn Cn X)(Y:Nn[i]?=some x:=by rfl)(D:attributeBase (.Name x p') "append" X.env (eval (.Name x p') X.env)=eval (.Name x p') X.env:=by rfl)(J:((backTo pos (starEach [a] X.env)).all (λx=>!x.1) && (backToKw pos (keywordEach [] X.env)).all (λx=>x.1.isSome)
   && decide ([a].length+([]:List Keyword).length+(if ([]:List Keyword).isEmpty then 0 else 1)<30))=true:=by rfl)(I:(p1.endLine==pos.line)=true:=by rfl)(e:starEach [a] X.env=(false,eval a X.env)::starEach [] X.env:=by rfl) :
  DEx X G H0 (.Call (.Attribute (.Name x p') "append" p1) [a] [] pos) (qv i f):=⟨(y9 ff yu yt zon ((an.a Y).pe) (mr j.out o5 e) D J I e rfl).imp λσ H Q m=>by
 obtain⟨W,env,d,env',ok,q,k⟩:=m;unfold qv at q;split at q;case h_2=>cases q
 rename_i n Z;obtain⟨v,b,l,o,rfl,p,c,_⟩:=ok.slot i _ Z;cases e1:f env with
 | none=>rw[e1] at q;cases q
 | some r =>
   obtain⟨s,R⟩:=r;rw[e1,ac] at q;unfold y8 at q;split at q;case h_2=>cases q
   rename_i ds g;split at q;case isFalse=>cases q
   rename_i U;cases q;refine⟨_,b,.inl ⟨rfl,_,.inl (.inl c)⟩,W,env,s,R,ok,e1,λW1 v1 H1 t V u=>?_⟩;obtain⟨B,h,l',vs,w,C,y,r⟩:=V.slot i _ g;rw[b] at h;cases h;cases w;obtain⟨z,A⟩:=V.turn g b (r.append (.cons u .nil));exact⟨l,vs,v1,rfl,rfl,y,by rw[<-r.length];exact lt20 (og U),k W1 _ _ (t.trans A) z .non⟩⟩
@[simp] noncomputable def fPop(i:Nat):FE:=λe=>match e[i]? with
 | some (some (.ow ds))=>(ds[ds.length-1]?).map λd=>(d,e.set i (some (.ow ds.dropLast)))
 | _=>none
def z4d(an:Ats Nn Cn X)(J:Nn[i]?=some x:=by rfl)(D:attributeBase (.Name x p') "pop" X.env (eval (.Name x p') X.env)=eval (.Name x p') X.env:=by rfl)(I:(p1.endLine==pos.line)=true:=by rfl) :
  DEx X G H0 (.Call (.Attribute (.Name x p') "pop" p1) [] [] pos) (fPop i):=⟨(zy0 ff l4 l3 zy1 ((an.a J).pe) D I).imp λσ H Q Z=>by
 obtain⟨W,env,d,env',ok,q,k⟩:=Z;unfold fPop at q;split at q;case h_2=>cases q
 rename_i ds R;obtain⟨v,U,l,vs,rfl,f,V,r⟩:=ok.slot i _ R;cases e1:ds[ds.length-1]? with
 | none=>rw[e1] at q;cases q
 | some d' =>
   rw[e1] at q;cases q;obtain⟨u,b,c⟩:=r.get e1;obtain⟨e,Y⟩:=ok.turn R U r.dropLast;exact⟨_,U,.inl ⟨rfl,_,.inl (.inl V)⟩,l,vs,u,rfl,rfl,V,by rw[<-r.length];exact b,k W _ _ Y e (ok.rep Y c)⟩⟩
def z6m(k:D)(e:DE0)(i:Nat):Option (D×DE0):=match k,e[i]? with
 | .int k,some (some (.ow ds))=>if Few ds.length then(ixN ds.length k).bind λj=>(ds[j]?).map λd=>(d,e.set i (some (.ow (ds.eraseIdx j)))) else none
 | _,_=>none
def z4e(i:Nat)(f:FE):FE:=λe=>match e[i]? with
 | some (some (.ow _))=>(f e).bind λr=>z6m r.1 r.2 i
 | _=>none
@[simp] noncomputable def zwy(d k:D)(e:DE0)(i:Nat):Option (Fl×DE0):=match k,e[i]? with
 | .int k,some (some (.ow ds))=>(ixN ds.length k).map λj=>(.nx,e.set i (some (.ow (ds.set j d))))
 | _,_=>none
@[simp] noncomputable def xm(i:Nat)(D I:FE):FS:=λe=>(I e).bind λr=>match r.2[i]? with
 | some (some (.ow _))=>(D r.2).bind λq=>zwy r.1 q.1 q.2 i
 | _=>none
variable{b:Expr}{g:FE}
def zq5(m:DEx X G H0 b g)(n:DEx X G H0 e f)(an:Ats Nn Cn X)(V:Nn[i]?=some x:=by rfl)(o:swapsWithSole [.Subscript (.Name x p') b p1] e pos.line X.env=pure false:=by rfl)(p:swappedStores [.Subscript (.Name x p') b p1] e X.env=pure none:=by rfl)(h1:(assignEach [.Subscript (.Name x p') b p1] X.env).map (·.2)=[assign (.Subscript (.Name x p') b p1) X.env]:=by rfl)(J:∀v,assign (.Subscript (.Name x p') b p1) X.env v=(do
   let ov <-holding [v] (eval (.Name x p') X.env);let iv <-holding [v,ov] (eval b X.env)
   standAt p1
   holding [v,ov,iv] (setItem ov iv v)
   release [v,ov,iv] []):=by intro _;rfl) :
  DSx X G H0 (.Assign [.Subscript (.Name x p') b p1] e pos) (xm i g f):=⟨(ze n.out (zqw ((an.a V).pe) m.out ya J) o p h1).imp λDn σ H s=>by
 obtain⟨W,env,fl,env',ok,q,k⟩:=s;cases e1:f env with
 | none=>simp[e1] at q
 | some r =>
   obtain⟨t,D⟩:=r;simp only[xm,e1,ac] at q;split at q;case h_2=>cases q
   rename_i u Y;cases e2:g D with
   | none=>rw[e2] at q;cases q
   | some Z =>
     obtain⟨M,R⟩:=Z;rw[e2,ac] at q;unfold zwy at q;dsimp only at q;split at q;case h_2=>cases q
     rename_i kk ds d;cases e3:ixN ds.length kk with
     | none=>rw[e3] at q;cases q
     | some j =>
       rw[e3] at q;cases q;refine⟨W,env,t,D,ok,e1,λW1 v1 H1 w I y=>?_⟩;obtain⟨v,c,l,z,rfl,A,B,_⟩:=I.slot i _ Y;refine⟨_,c,W1,D,_,R,I,e2,λC v2 H2 s2 U Z=>?_⟩;obtain⟨N,h,l',vs,E,O,F,r⟩:=U.slot i _ d;rw[c] at h;cases h;cases E;obtain⟨K,L⟩:=U.turn d c (Reps.set (I.rep s2 y) j r);exact⟨l,vs,kk,j,rfl,Z.int_,F,by rw[<-r.length];exact e3,k C _ _ ((w.trans s2).trans L) K⟩⟩
def jk(n:Nat)(ds:k8):DE0:=ds.map (λd=>some (Sl.sh d))++List.replicate (n-ds.length) none
def runD(n ar:Nat)(g:FS):k8->k9:=λds=>if ds.length=ar then(match g (jk n ds) with | some (.rt d,_)=>some d | some (.nx,_)=>some .non | _=>none) else none
def runF(n ar:Nat)(g:FS):k8->Option k8:=λds=>if ds.length=ar then(match g (jk n ds) with | some (.rf d,_)=>some d | _=>none) else none
def zi1:∀ {n:Nat} {ds:k8} {i:Nat} {s:Sl},(jk n ds)[i]?=some (some s)->∃d,ds[i]?=some d/\s=.sh d:=λ{n ds i s} h=>by
 unfold jk at h;by_cases hi:i<ds.length
 ·rw[aw (by simpa using hi),bu] at h
  cases e:ds[i]? with
  | none=>rw[e] at h;cases h
  | some d=>rw[e] at h;cases h;exact⟨d,rfl,rfl⟩
 ·rw[di (by simpa using hi),List.getElem?_replicate] at h
  split at h <;> cases h
variable{O:Addr->Prop}{ds:k8}{vs:k7}{N:g7}{K:kf}
def tm(r:Reps K H O ds vs):Ok K (gd λa=>O a\/H a=none) H NoW (jk N.length ds) (start N vs) H:=by
 refine⟨Same.refl _,λa z=>.inr z,λl z=>z.elim,λi s e=>?_,λi j R s2 v1 v2 a D _ _ _ o _=>?_,?_⟩
 ·obtain⟨d,D,rfl⟩:=zi1 e
  obtain⟨v,I,J⟩:=r.get D;refine⟨v,?_,J.mono (λ_ _ h=>h) λa us o h=>⟨⟨.inl o,λz=>z⟩,h⟩⟩;unfold start;rw[aw (by simpa using(aj.mp I).1),bu,I];rfl
 ·obtain⟨d,_,z⟩:=zi1 D
  subst z;exact o.elim
 ·unfold jk start
  rw[ao,ao,ah,ah,fb,fb,r.length]
variable{f:Addr}{CX:CXT}{qual:Str}{st:Stmt}{fd:FuncData}{ps:g7}{k ar:Nat}{P:Program}{w:World}{mg:Str->g9}{base:Heap}
theorem fn_D{g:FS}(F:Fun K x qual st f fd)(S:pj N ps (fx st))(U:n=N.length)(V:ar=ps.length)(D:∀(cdv:Value) (A:Around) (outer:ic) (s:Shared) (H:Hp) (E:XK) (G:Gd) (H0:Hp),Room k (A.deeper (envOfC qual (fx st) s.heap.objs.size f cdv)) ->
   DBx (cxOf CX P w K mg base N qual (fx st) f cdv A outer s H E).nox G H0 (li st) g):FnOk P w K mg base CX (k+1) f fd ps (dSp K (runD n ar g)):=by
 subst U V;refine F.okC S (λvs H Q E h=>?_) (λcdv A outer s H vs Q E Y h=>?_)
 ·obtain⟨O,ds,d,r,e,_⟩:=h
  rw[<-r.length];unfold runD at e;split at e
  ·assumption
  ·cases e
 ·obtain⟨O,ds,d,r,e,k⟩:=h
  refine⟨_,(D cdv A outer s H E (gd λa=>O a\/H a=none) H Y).out,?_⟩;unfold runD at e;split at e;case isFalse=>cases e
  split at e
  ·rename_i d' env' J
   cases e;exact⟨NoW,_,_,env',tm r,J,λW' R v H' st I Z=>k v H' I.stay (Z.mono (λ_ _ h=>h) λa us o h=>⟨o.1,h⟩)⟩
  ·rename_i env' J
   cases e;exact⟨NoW,_,_,env',tm r,J,λW' R H' st I=>k .non H' I.stay .non⟩
  ·cases e
theorem fn_F{g:FS}(F:Fun K x qual st f fd)(S:pj N ps (fx st))(I:n=N.length)(J:ar=ps.length)(D:∀(cdv:Value) (A:Around) (outer:ic) (s:Shared) (H:Hp) (E:XK) (G:Gd) (H0:Hp),Room k (A.deeper (envOfC qual (fx st) s.heap.objs.size f cdv)) ->
   DBx (cxOf CX P w K mg base N qual (fx st) f cdv A outer s H E).nox G H0 (li st) g):FnOk P w K mg base CX (k+1) f fd ps (fSp K (runF n ar g)):=by
 subst I J;refine F.okC S (λvs H Q E h=>?_) (λcdv A outer s H vs Q E R h=>?_)
 ·obtain⟨O,ds,d,r,e,_⟩:=h
  rw[<-r.length];unfold runF at e;split at e
  ·assumption
  ·cases e
 ·obtain⟨O,ds,d,r,e,k⟩:=h
  refine⟨_,(D cdv A outer s H E (gd λa=>O a\/H a=none) H R).out,?_⟩;unfold runF at e;split at e;case isFalse=>cases e
  split at e
  ·rename_i d' env' U
   cases e;exact⟨NoW,_,_,env',tm r,U,λl vs' H' sm V Y Z=>k l vs' H' sm V Y Z⟩
  ·cases e
def zq6(K:kf):Sp:=λvs H Q _=>∃(a:Addr) (D:ia),vs=[.ref a]/\SqL K H a (D.map V.int)/\D.length<=63/\∀H',Q (.bl true) H'
theorem z6n{m:k8->k9}(F:FnOk P w K mg base CX k f fd ps (dSp K m))(h:∀I:ia,I.length<=63->m [.lst (I.map D.int)]=some (.bl true)) :
  FnOk P w K mg base CX k f fd ps (zq6 K):=F.imp λvs H Q E J=>by
 obtain⟨a,I,e,R,U,q⟩:=J;subst e;exact⟨λ_=>True,[.lst (I.map D.int)],.bl true,.cons (R.elim (λz=>.lst trivial z (zid I)) λz=>.klst z (zid I)) .nil,h I U,λv H' _ r=>by rw[r.bl_];exact q H'⟩
variable{F:FA}
def fr_D:∀σ H Q,tD X.K G H0 (fLst F) σ H Q->tDF X.K G H0 F σ H Q:=λσ H Q U=>by
 obtain⟨W,env,d,env',ok,q,k⟩:=U;cases e1:F env with
 | none=>simp[e1] at q
 | some r =>
   have q:some (D.lst r.1,r.2)=some (d,env'):=by simpa[fLst,e1] using q
   cases q;refine⟨W,env,_,_,ok,e1,λW1 l vs H1 R I J V Y Z=>k W1 _ H1 ⟨R.keep,λa z=>R.ws a (.inl z)⟩ I (.lst ⟨I.good l (J.wl l (.inr rfl)).1,V⟩ (.inl Y) (Z.mono (λ_ _ h=>h) λa us o h=>⟨⟨o.1,λz=>o.2 (.inl z)⟩,h⟩))⟩
variable{f:FE}
def fu(I:Tos Nn X)(J:DEx X G H0 e f)(D:Nn[i]?=some x:=by rfl)(R:swapsWith e (some (.Name x p')) pos.line X.env=pure false:=by rfl):DSx X G H0 (.Assign [.Name x p'] e pos) (sSet i f):=z4c (I.t D).nd (I.t D).n J (zqx (I.t D).nd (I.t D).n (I.t D).l J.out R (I.t D).f)
def zuc(ps:PS X (.Assign [.Name x p'] e pos) (tAsg (tDF X.K G H0 F) (m3 i))):DSx X G H0 (.Assign [.Name x p'] e pos) (sSet i (fLst F)):=⟨(PS.imp ps (t':=tAsg (tD X.K G H0 (fLst F)) (m3 i)) λDn σ H h=>fr_D σ H _ h).imp λDn σ H I=>by
 obtain⟨W,env,fl,env',ok,q,k⟩:=I;cases e1:fLst F env with
 | none=>simp only[sSet,e1,lr] at q;cases q
 | some r =>
   have q:some (Fl.nx,r.2.set i (some (Sl.sh r.1)))=some (fl,env'):=by simpa only[sSet,e1,ak] using q
   cases q;exact⟨W,env,_,_,ok,e1,λW1 v1 H1 J D p1=>k W1 _ H1 J (D.set p1)⟩⟩
variable{y:Str}{ix:h8}{sc:Scope}{px py spos:Pos}{fi:FI}{te:FE}
def zk0(an:Ats Nn Cn X)(R:Tos Nn X)(hi:DIx X G H0 (.Name x px) a fi)(U:∀cl C s₂ H₂ fp G H0,Ats (x::(subN Nn ix)) (subN Nn ix) (i7 X x (subN Nn ix) sc cl C s₂ H₂ fp)->DEx (i7 X x (subN Nn ix) sc cl C s₂ H₂ fp) G H0 e te)(J:pi Nn Cn ix x sc=true:=by decide +kernel)(Y:X.calm=true:=by rfl)(I:Nn[i]?=some y:=by rfl)(V:swapsWith (.ListComp e [⟨.Name x px,a,[],0⟩] sc pos) (some (.Name y py)) spos.line X.env=pure true:=by rfl)(Z:∀v,foldedSetIterable a X.env v=pure v:=by intro _;rfl) :
  PS X (.Assign [.Name y py] (.ListComp e [⟨.Name x px,a,[],0⟩] sc pos) spos) (tAsg (tDF X.K G H0 (ip fi ix fYes te)) (m3 i)) :=
 (zm4 (uv an J) (λ_ _ _ _ _ _ _ _ _=>Y) (R.t I).nd (R.t I).n (R.t I).l hi.out (λcl C s₂ H₂ fp _=>ww (X:=X) rfl) (λcl C s₂ H₂ fp _=>el_x (X:=X) rfl (λG H0=>U cl C s₂ H₂ fp G H0 (rd J))) V (R.t I).f Z).imp λD σ H h=>zq3 σ H _ h
variable{tt:FT}
def zpt{Cm:Cx->Prop}{U:Expr}(d:∀cl C s₂ H₂ fp pins σ,Inv X pins σ H₂ s₂->(∀b∈fp,FpOk X pins H₂ b)->Cm (i7 X x (subN Nn ix) sc cl C s₂ H₂ fp))(an:Ats Nn Cn X)(R:Tos Nn X)(hi:DIC Cm X G H0 (.Name x px) a fi)(V:∀cl C s₂ H₂ fp G H0,Cm (i7 X x (subN Nn ix) sc cl C s₂ H₂ fp)->Ats (x::(subN Nn ix)) (subN Nn ix) (i7 X x (subN Nn ix) sc cl C s₂ H₂ fp)->DTx (i7 X x (subN Nn ix) sc cl C s₂ H₂ fp) G H0 U tt)(Y:∀cl C s₂ H₂ fp G H0,Cm (i7 X x (subN Nn ix) sc cl C s₂ H₂ fp)->Ats (x::(subN Nn ix)) (subN Nn ix) (i7 X x (subN Nn ix) sc cl C s₂ H₂ fp)->DEx (i7 X x (subN Nn ix) sc cl C s₂ H₂ fp) G H0 e te)(J:pi Nn Cn ix x sc=true:=by decide +kernel)(I:Nn[i]?=some y:=by rfl)(Z:swapsWith (.ListComp e [⟨.Name x px,a,[U],0⟩] sc pos) (some (.Name y py)) spos.line X.env=pure true:=by rfl)(g:∀v,foldedSetIterable a X.env v=pure v:=by intro _;rfl) :
  PS X (.Assign [.Name y py] (.ListComp e [⟨.Name x px,a,[U],0⟩] sc pos) spos) (tAsg (tDF X.K G H0 (ip fi ix tt te)) (m3 i)) :=
 (zm4 (uv an J) d (R.t I).nd (R.t I).n (R.t I).l hi.out (λcl C s₂ H₂ fp c=>if_x (X:=X) rfl (λG H0=>V cl C s₂ H₂ fp G H0 c (rd J))) (λcl C s₂ H₂ fp c=>el_x (X:=X) rfl (λG H0=>Y cl C s₂ H₂ fp G H0 c (rd J))) Z (R.t I).f g).imp λD σ H h=>zq3 σ H _ h
abbrev FA2:=DE0->Option (List k8×DE0)
def tDF2(K:kf)(G:Gd)(H0:Hp)(f:FA2):TE:=λσ H Q=>DP K G H0 f (λW env dss env' =>
 ∀W' l H',Step W H W' H'->Ok K G H0 W' env' σ H'->SlOk K G W' H' (.o2 dss) (.ref l) ->
  (∀(j:Nat) (s:Sl) (v:V) (a:Addr),env'[j]?=some (some s)->σ[j]?=some (some v)->Owns H' (.o2 dss) (.ref l) a->¬Owns H' s v a)->Q (.ref l) H') σ H
structure DF2x (X:Cx) (G:Gd) (H0:Hp) (e:Expr) (f:FA2):Prop where
 out:PE X e (tDF2 X.K G H0 f)
@[simp] noncomputable def vh(i:Nat)(f:FA2):FS:=λe=>(f e).map λr=>(.nx,r.2.set i (some (.o2 r.1)))
variable{f2:FA2}
def zud(ps:PS X (.Assign [.Name x p'] e pos) (tAsg (tDF2 X.K G H0 f2) (m3 i))):DSx X G H0 (.Assign [.Name x p'] e pos) (vh i f2):=⟨ps.imp λDn σ H I=>by
 obtain⟨W,env,fl,env',ok,q,k⟩:=I;cases e1:f2 env with
 | none=>simp[e1] at q
 | some r =>
   have q:some (Fl.nx,r.2.set i (some (Sl.o2 r.1)))=some (fl,env'):=by simpa[vh,e1] using q
   cases q;exact⟨W,env,_,_,ok,e1,λW1 l H1 J D h1 R=>k W1 _ H1 J (D.put h1 R)⟩⟩
def zc(te:FA)(base:DE0):k8->Option (List k8)
 | []=>some []
 | d::r=>(te (some (.sh d)::base)).bind λv=>(zc te base r).map (v.1::·)
def ui(fi:FI)(ix:h8)(te:FA):FA2:=λe=>(fi e).bind λr=>if Few r.1.length then(zc te (ix.map λj=>capt (r.2.getD j none)) r.1).map λds=>(ds,r.2) else none
def tDxF(K:kf)(f:FA):TE:=λσ H Q=>∃G H0,tDF K G H0 f σ H Q
variable{te:FA}
def z4f{D:Cx}(J:D.K=X.K)(h:∀G H0,DFx D G H0 e te):PE D e (tDxF X.K te):=λpins s σ H Q I ⟨G,H0,q⟩=>(h G H0).out pins s σ H Q I (by rw[J];exact q)
inductive z4g (X:Cx) (G:Gd) (H0:Hp) (env:DE0) (σ:St) (W1:Addr->Prop) (H1:Hp) (ds:k8) (d:List k8) (f:k8->Option (List k8)) (i m:Nat) (H':Hp) (ys:k7):Prop
 | mk (Wi:Addr->Prop) (rest done:List k8) (ls:h7) (hm:m=ds.length-i) (hi:i<=ds.length) (sm:Same H1 H') (st:Step W1 H1 Wi H') (ok:Ok X.K G H0 Wi env σ H') (hy:ys=ls.map V.ref) (inn:Inn X.K G Wi H' done ls) (nd:ls.Nodup) (fr:∀a∈ls,H1 a=none) (hd:done.length<=i) (ec:f (ds.drop i)=some rest) (hz:d=done++rest):z4g X G H0 env σ W1 H1 ds d f i m H' ys
theorem zue:∀σ H Q,tDF2 X.K G H0 (ui fi ix te) σ H Q->wz (tDI X.K G H0 fi) ix (tDxT X.K fYes) (tDxF X.K te) σ H Q:=λσ H Q z=>by
 obtain⟨W,env,d,env',ok,q,k⟩:=z;obtain⟨⟨ds,c⟩,e1,q⟩:=dn.mp q;by_cases P:Few ds.length;case neg=>cases (if_neg P).symm.trans q
 obtain⟨al,e2,q⟩:=gv.mp ((if_pos P).symm.trans q);cases q;refine⟨W,env,ds,_,ok,e1,λW1 J H1 s1 n wk=>⟨z4g X G H0 c σ W1 H1 ds d (zc te (ix.map λj=>capt (c.getD j none))),⟨ds.length,W1,d,[],[],rfl,gp _,Same.refl _,Step.refl,n,rfl,⟨rfl,λj ds a e=>by cases e⟩,List.nodup_nil,(λa h=>by cases h),b7 _,e2,rfl⟩,λi m H' ys z=>?_⟩⟩;obtain⟨B,rest,D,ls,hm,hi,sm,st,U,hy,Y,nd,fr,hd,A,S⟩:=z;subst hm hy;have I:ls.length=D.length:=Y.1;have C:∀a∈ls,∃vs,H' a=some (.lst vs):=λa E=>by
  obtain⟨j,T,e⟩:=i4 E;obtain⟨_,vs,h,_⟩:=Y.2 j (D[j]'(I ▸ T)) a (av _) (e ▸ av T);exact⟨vs,h⟩
 by_cases R:i<ds.length
 ·rw[fm R] at A
  obtain⟨⟨dv,F⟩,e4,A⟩:=dn.mp A;obtain⟨p,e5,e6⟩:=gv.mp A;obtain⟨hg,hy⟩:=wk.go B H' i ds[i] st (av R);refine .inr ⟨hg,λx Z y=>?_⟩;obtain⟨e,rx⟩:=hy x Z y;subst e;refine⟨_,_,NoW,_,true,_,zm9 (ix:=ix) U rx,rfl,λW2 H2 s2 aa=>?_⟩;refine⟨_,_,W2,_,dv,F,aa,e4,λW3 l vs H3 s3 ab L nW M rp=>⟨?_,ds.length-(i+1),ma _ _ R,?_⟩⟩
  ·rw[ah,I];exact bc (Nat.lt_of_le_of_lt hd (bc R P)) zkz
  ·have t:Same Z H3:=ab.stay
   have f:Z l=none:=(L.wl l (.inr rfl)).1;obtain⟨q1,q2,q3,q4,q5⟩:=U.fresh t f M (rp.mono (O':=λa=>(Ow G B a\/Z a=none)/\a≠l) (λ_ _ h=>h) λa us o h=>⟨⟨o.1,λz=>o.2 (.inr z)⟩,h⟩);have nl:l∉ls:=λz=>by obtain⟨us,h⟩:=C l z;rw[f] at h;cases h
   refine⟨addW B l,p,D++[dv],ls++[l],rfl,R,sm.trans t,st.trans q5,q3,by simp,⟨by simp[I],λj es a ea g=>?_⟩,?_,λa E=>?_,by rw[ao,jm];lia,e5,by rw[S,<-e6,dg];rfl⟩
   ·by_cases T:j<D.length
    ·rw[aw T] at ea
     rw[aw (by lia)] at g;obtain⟨w,us,h,r⟩:=Y.2 j es a ea g;exact⟨.inl w,us,t _ _ h,U.reps q5 r⟩
    ·rw[di (by lia)] at ea
     rw[di (by lia),I] at g;have S:j-D.length=0:=by
      have:=(aj.mp ea).1;simp at this;lia
     rw[S] at ea g;simp[Option.some.injEq] at ea g;subst ea g;exact⟨.inr rfl,vs,M,q4⟩
   ·rw[List.nodup_append]
    exact⟨nd,by simp,λa E b hb=>by simp only[cr] at hb;subst hb;intro z;subst z;exact nl E⟩
   ·rcases db.mp E with z | z
    ·exact fr a z
    ·rw[cr.mp z];exact sm.free f
 ·cases r8 hi (kr R)
  rw[kx] at A;cases A;refine .inl ⟨wk.stop B H' st,by rw[ah,I];exact df hd (df P zkz),λl f=>?_⟩;have u:Same H' (upd H' l (.lst (ls.map V.ref))):=vz f;obtain⟨q1,q2,q3,q4⟩:=U.fresh0 (vs:=ls.map V.ref) u f ki;have nl:l∉ls:=λz=>by obtain⟨us,h⟩:=C l z;rw[f] at h;cases h
  have ae:Same H1 (upd H' l (.lst (ls.map V.ref))):=sm.trans u;rw[S,de] at k;refine k (addW B l) l _ ((s1.trans st).trans q4) q3 ⟨l,ls,rfl,.inr rfl,ki,bw.mpr ⟨nl,nd⟩,Y.1,λj es a ea g=>?_⟩ λj s v a ej ev o1 o2=>?_
  ·obtain⟨w,us,h,r⟩:=Y.2 j es a ea g
   exact⟨.inl w,us,u _ _ h,U.reps q4 r⟩
  ·obtain⟨v',N,hs⟩:=n.slot j s ej
   rw[ev] at N;cases N;have ag:Owns H1 s v a:=hs.back (λl' _ _ vs q=>ae _ _ q) o2;have wa:W1 a:=hs.owns ag;have O:H1 a≠none:=λz=>by obtain⟨_,us,q⟩:=n.wl a wa;rw[z] at q;cases q
   rcases o1 with o1 | ⟨l',ls',z,q,hb⟩
   ·cases o1;exact O (sm.free f)
   ·cases z
    rw[ki] at q;have:=u5 (by simpa using q);subst this;exact O (fr a hb)
def zwz(an:Ats Nn Cn X)(R:Tos Nn X)(hi:DIx X G H0 (.Name x px) a fi)(U:∀cl C s₂ H₂ fp G H0,Ats (x::(subN Nn ix)) (subN Nn ix) (i7 X x (subN Nn ix) sc cl C s₂ H₂ fp)->DFx (i7 X x (subN Nn ix) sc cl C s₂ H₂ fp) G H0 e te)(J:pi Nn Cn ix x sc=true:=by decide +kernel)(Y:X.calm=true:=by rfl)(I:Nn[i]?=some y:=by rfl)(V:swapsWith (.ListComp e [⟨.Name x px,a,[],0⟩] sc pos) (some (.Name y py)) spos.line X.env=pure true:=by rfl)(Z:∀v,foldedSetIterable a X.env v=pure v:=by intro _;rfl) :
  PS X (.Assign [.Name y py] (.ListComp e [⟨.Name x px,a,[],0⟩] sc pos) spos) (tAsg (tDF2 X.K G H0 (ui fi ix te)) (m3 i)) :=
 (zm4 (uv an J) (λ_ _ _ _ _ _ _ _ _=>Y) (R.t I).nd (R.t I).n (R.t I).l hi.out (λcl C s₂ H₂ fp _=>ww (X:=X) rfl) (λcl C s₂ H₂ fp _=>z4f (X:=X) rfl (λG H0=>U cl C s₂ H₂ fp G H0 (rd J))) V (R.t I).f Z).imp λD σ H h=>zue σ H _ h
def zw0(an:Ats Nn Cn X)(hi:DIx X G H0 (.Name x px) a fi)(I:∀cl C s₂ H₂ fp G H0,Ats (x::(subN Nn ix)) (subN Nn ix) (i7 X x (subN Nn ix) sc cl C s₂ H₂ fp)->DFx (i7 X x (subN Nn ix) sc cl C s₂ H₂ fp) G H0 e te)(D:pi Nn Cn ix x sc=true:=by decide +kernel)(J:X.calm=true:=by rfl)(R:∀v,foldedSetIterable a X.env v=pure v:=by intro _;rfl) :
  DF2x X G H0 (.ListComp e [⟨.Name x px,a,[],0⟩] sc pos) (ui fi ix te) :=
 ⟨(zm3 (uv an D) (λ_ _ _ _ _ _ _ _ _=>J) hi.out (λcl C s₂ H₂ fp _=>ww (X:=X) rfl) (λcl C s₂ H₂ fp _=>z4f (X:=X) rfl (λG H0=>I cl C s₂ H₂ fp G H0 (rd D))) R).imp zue⟩
variable{env:DE0}{σ:St}
def z0z(ok:Ok X.K G H0 W env σ H):Ok X.K (gd λa=>Ow G W a\/H a=none) H NoW (env.map capt) σ H:=by
 have R:∀ {d:D} {v:V},Rep X.K H (Ow G W) d v->Rep X.K H (Ow (gd λa=>Ow G W a\/H a=none) NoW) d v:=λr=>r.mono (λ_ _ h=>h) λa us o h=>⟨⟨.inl o,λz=>z⟩,h⟩;have I:∀(i:Nat) (s:Sl),(env.map capt)[i]?=some (some s)->∃d',s=.sh d'/\env[i]?=some (some (.sh d')):=λi s z=>by
  rw[bu] at z;cases q:env[i]? with
  | none=>rw[q] at z;cases z
  | some o =>
    rw[q] at z;have z:capt o=some s:=bh z;unfold capt at z;split at z
    ·cases z;exact⟨_,rfl,rfl⟩
    ·cases z
 refine⟨Same.refl _,λa z=>.inr z,λl z=>z.elim,λi s e=>?_,λi j U s2 v1 v2 a J _ _ _ o _=>by obtain⟨d',rfl,_⟩:=I i U J;exact o.elim,by rw[ah];exact ok.len⟩;obtain⟨d',rfl,e'⟩:=I i s e;obtain⟨v,J,r⟩:=ok.slot i _ e';exact⟨v,J,R r⟩
variable{α:Type}{j:Nat}
def z4h{xs:List α}{k:Int}{y:α}(h:ixN xs.length k=some j)(h2:xs[j]?=some y):atI xs k=some y:=by
 unfold atI;rw[h];exact h2
variable{dss:List k8}{v:V}
def zq7{k:Int}(ok:Ok X.K G H0 W env σ H)(R:env[i]?=some (some (.o2 dss)))(U:σ[i]?=some (some v))(Y:ixN dss.length k=some j)(I:dss[j]?=some ds) :
  ∃(l:Addr) (ls:h7) (a:Addr) (vs:k7),v=.ref l/\H l=some (.lst (ls.map V.ref))/\ls[j]?=some a/\atI (ls.map V.ref) k=some (.ref a)/\H a=some (.lst vs)/\Reps X.K H (Ow G W) ds vs:=by
 obtain⟨b,J,l,ls,rfl,c,Z,d,hi⟩:=ok.slot i _ R;rw[U] at J;cases J;have D:j<ls.length:=by rw[hi.1];exact(aj.mp I).1
 obtain⟨_,vs,h,r⟩:=hi.2 j ds ls[j] I (by simp[D]);exact⟨l,ls,ls[j],vs,rfl,Z,by simp[D],z4h (j:=j) (by rw[ah,hi.1];exact Y) (by simp[D]),h,r⟩
@[simp] noncomputable def app2(k d:D)(e:DE0)(i:Nat):Option (D×DE0):=match k,e[i]? with
 | .int k,some (some (.o2 dss))=>(ixN dss.length k).bind λj=>(dss[j]?).bind λds=>if Few (ds.length+1) then some (.non,e.set i (some (.o2 (dss.set j (ds++[d]))))) else none
 | _,_=>none
@[simp] noncomputable def zw1(i:Nat)(g f:FE):FE:=λe=>match e[i]? with
 | some (some (.o2 _))=>(g e).bind λr=>(f (r.2.map capt)).bind λq=>app2 r.1 q.1 r.2 i
 | _=>none
@[simp] noncomputable def pop2(k m:D)(e:DE0)(i:Nat):Option (D×DE0):=match k,m,e[i]? with
 | .int k,.int m,some (some (.o2 dss))=>(ixN dss.length k).bind λj=>(dss[j]?).bind λds=>if Few ds.length then(ixN ds.length m).bind λn=>(ds[n]?).map λd=>(d,e.set i (some (.o2 (dss.set j (ds.eraseIdx n))))) else none
 | _,_,_=>none
@[simp] noncomputable def zpv(i:Nat)(g f:FE):FE:=λe=>match e[i]? with
 | some (some (.o2 _))=>(g e).bind λr=>(f (r.2.map capt)).bind λq=>pop2 r.1 q.1 r.2 i
 | _=>none
variable{p2:Pos}
theorem zuf(E:DEx X G H0 b g)(F:∀G H0,DEx X G H0 a f)(an:Ats Nn Cn X)(e:uw b:=by intro _ _;rfl)(h:Nn[i]?=some x:=by rfl)(U:attributeBase (.Subscript (.Name x p') b p2) "pop" X.env (eval (.Subscript (.Name x p') b p2) X.env)=eval (.Subscript (.Name x p') b p2) X.env:=by rfl)(Y:((backTo pos (starEach [a] X.env)).all (λx=>!x.1) && (backToKw pos (keywordEach [] X.env)).all (λx=>x.1.isSome)
   && decide ([a].length+([]:List Keyword).length+(if ([]:List Keyword).isEmpty then 0 else 1)<30))=true:=by rfl)(V:(p1.endLine==pos.line)=true:=by rfl)(w:starEach [a] X.env=(false,eval a X.env)::starEach [] X.env:=by rfl) :
  DEx X G H0 (.Call (.Attribute (.Subscript (.Name x p') b p2) "pop" p1) [a] [] pos) (zpv i g f) :=
 ⟨(y9 ff l4 l3 zwk (xb ztu ((an.a h).pe) E.out e) (mr (el_x (X:=X) rfl F) o5 w) U Y V w rfl).imp λσ H Q K=>by
  obtain⟨W,env,d,env',ok,q,k⟩:=K;unfold zpv at q;split at q;case h_2=>cases q
  rename_i L m;obtain⟨v,o,_⟩:=ok.slot i _ m;cases e1:g env with
  | none=>rw[e1] at q;cases q
  | some r =>
    obtain⟨dk,J⟩:=r;rw[e1,ac] at q;cases e2:f (J.map capt) with
    | none=>rw[e2] at q;cases q
    | some p =>
      obtain⟨da,Z⟩:=p;rw[e2,ac] at q;unfold pop2 at q;dsimp only at q;split at q;case h_2=>cases q
      rename_i kk mm dss y;cases e3:ixN dss.length kk with
      | none=>rw[e3] at q;cases q
      | some j =>
        rw[e3,ac] at q;cases e4:dss[j]? with
        | none=>rw[e4] at q;cases q
        | some ds =>
          rw[e4,ac] at q;split at q;case isFalse=>cases q
          rename_i c;cases e5:ixN ds.length mm with
          | none=>rw[e5] at q;cases q
          | some n =>
            rw[e5,ac] at q;cases e6:ds[n]? with
            | none=>rw[e6] at q;cases q
            | some d' =>
              rw[e6] at q;cases q;obtain⟨M,z2,z3,z4⟩:=zmz e5;refine⟨v,o,W,env,_,J,ok,e1,λW1 v1 H1 N I O=>?_⟩;obtain⟨l,ls,a,vs,rfl,z,s,t,A,r⟩:=zq7 I y o e3 e4;refine .inl ⟨l,_,kk,.ref a,rfl,O.int_,.inl (.inl z),t,.inl ⟨rfl,vs,.inl (.inl A)⟩,?_⟩;refine⟨_,_,NoW,_,_,Z,z0z I,e2,λW2 v2 H2 s2 D p=>?_⟩;have R:=I.same D.stay;have B:=I.reps (Step.same D.stay) r;obtain⟨u,P,S⟩:=B.get e6;obtain⟨T,C⟩:=R.turn2 y o (D.stay _ _ z) e4 s (B.eraseIdx n);have aa:ds.length<=2 ^ 20:=c;exact⟨a,vs,mm,n,u,rfl,by rw[p.int_],D.stay _ _ A,by lia,by lia,by rw[<-r.length];exact M,P,k W1 _ _ ((N.trans (Step.same D.stay)).trans C) T (R.rep C S)⟩⟩
def zdy{env:Env}:∀ {names:List (Str×NameKind)} {x:Str},names.lookup x=some .globalImplicit ->
  (names.map λ(n,k)=>if (k==NameKind.free && env.scope.kind==.function && env.kindOf n==some .cell) then(n,NameKind.cell) else(n,k)).lookup x=some .globalImplicit
 | (n,k)::r,x,h=>by
   have D:=@zdy env r x;show List.lookup x ((if (k==NameKind.free && env.scope.kind==.function && env.kindOf n==some .cell)=true then(n,NameKind.cell) else(n,k))::_)=_;cases hx:x==n with
   | true =>
     simp only[cq,hx] at h;cases h;simp[cq,hx]
   | false =>
     simp only[cq,hx] at h;by_cases I:(k==NameKind.free && env.scope.kind==.function && env.kindOf n==some .cell)=true
     ·rw[if_pos I];simp only[cq,hx];exact D h
     ·rw[if_neg I];simp only[cq,hx];exact D h
variable{N':g7}{cl:List (Str×Addr)}{C:Addr}{s:Shared}{fp:h7}
def gl_c(h:sc.names.lookup x=some .globalImplicit):Gl (i7 X y N' sc cl C s H fp) x:=zdy h
def z4i:Ty "int" "int":=⟨by decide +kernel,by decide +kernel,by decide +kernel,by decide +kernel⟩
def z00:Ty "bool" "bool":=⟨by decide +kernel,by decide +kernel,by decide +kernel,by decide +kernel⟩
def zug:Ty "str" "str":=⟨by decide +kernel,by decide +kernel,by decide +kernel,by decide +kernel⟩
def zj:Ty "list" "list":=⟨by decide +kernel,by decide +kernel,by decide +kernel,by decide +kernel⟩
def znd:Ty "tuple" "tuple":=⟨by decide +kernel,by decide +kernel,by decide +kernel,by decide +kernel⟩
def z01(l:List α)(k:Nat)(y:α):(l.toArray.extract 0 k).push y++l.toArray.extract k=(l.take k++y::l.drop k).toArray:=by
 simp;exact jh (by simp)
def z02:V->k7->Hp->VK->Prop:=λx vs H Q=>∃(l:Addr) (xs:k7) (i:Int) (y:V),x=.ref l/\vs=[.int i,y]/\H l=some (.lst xs)/\0<=i/\i<=xs.length/\i<2 ^ 62/\xs.length<sizeLine/\Q .non (upd H l (.lst (xs.take i.toNat++y::xs.drop i.toNat)))
def Vals.ins{xs:k7}{its:g8}{y:V}{u:Value}(r:Vals xs its)(D:Vals [y] [u])(k:Nat):Vals (xs.take k++y::xs.drop k) (its.take k++u::its.drop k):=by
 have:=(r.take k).append (D.append (r.drop k));simpa using this
theorem zuh:MtM X "list.insert" z02:=by
 intro pins s σ H x vs v us Q I V Y h;obtain⟨l,xs,i,y,rfl,rfl,R,a,h1,h2,b,q⟩:=h;cases V;obtain⟨c,U,rfl,D,J⟩:=Y.two;obtain⟨t,rfl⟩:=D;obtain⟨z,its,n,r,d,e⟩:=I.lstM R;refine call_meets F.slot_list_insert ⟨_,e,rfl⟩ F.entry_list_insert (F.args_list_insert_3 _ _ _) (PySem.AutoSeq1.list_insert_list_int_val_1 l its.toArray n i t U (by rw[fitsIndex_both (k:=i) (by lia) (by lia)];decide) (by rw[bj];lia)) ⟨e,?_⟩;refine⟨.non,_,I.lset (its':=its.take i.toNat++U::its.drop i.toNat) R e ?_ (Vals.ins r (.cons J .nil) _) ?_,rfl,q⟩
 ·have Z:(if i<0 then(i+(its.toArray.size:Int)).toNat else min i.toNat its.toArray.size)=i.toNat:=by
   rw[if_neg (by lia),bj]
   lia
  rw[Z,z01]
 ·rw[ao,am,dy,d9]
  lia
def z03(k d:D)(e:DE0)(i:Nat):Option (D×DE0):=match k,e[i]? with
 | .int k,some (some (.ow ds))=>if 0<=k/\k<=ds.length/\Few (ds.length+1) then some (.non,e.set i (some (.ow (ds.take k.toNat++d::ds.drop k.toNat)))) else none
 | _,_=>none
def znf(i:Nat)(f g:FE):FE:=λe=>match e[i]? with
 | some (some (.ow _))=>(au f (au g fNil) e).bind λr=>match r.1 with | [k,d]=>z03 k d r.2 i | _=>none
 | _=>none
theorem zui(s:DEx X G H0 a f)(t:DEx X G H0 b g)(an:Ats Nn Cn X)(Y:Nn[i]?=some x:=by rfl)(I:attributeBase (.Name x p') "insert" X.env (eval (.Name x p') X.env)=eval (.Name x p') X.env:=by rfl)(R:((backTo pos (starEach [a,b] X.env)).all (λx=>!x.1) && (backToKw pos (keywordEach [] X.env)).all (λx=>x.1.isSome)
   && decide ([a,b].length+([]:List Keyword).length+(if ([]:List Keyword).isEmpty then 0 else 1)<30))=true:=by rfl)(J:(p1.endLine==pos.line)=true:=by rfl)(m:starEach [a,b] X.env=(false,eval a X.env)::starEach [b] X.env:=by rfl)(Z:starEach [b] X.env=(false,eval b X.env)::starEach [] X.env:=by rfl)(c:(backTo pos (starEach [b] X.env)).any (·.1)=false:=by rfl) :
  DEx X G H0 (.Call (.Attribute (.Name x p') "insert" p1) [a,b] [] pos) (znf i f g):=⟨(y9 ff PySem.F.slot_list_insert PySem.F.type_list_insert zuh ((an.a Y).pe) (bi s (bi t cy Z) m).out I R J m c).imp λσ H Q u=>by
 obtain⟨W,env,d,env',ok,q,k⟩:=u;unfold znf at q;split at q;case h_2=>cases q
 rename_i w e;obtain⟨v,h,l,y,rfl,z,j,_⟩:=ok.slot i _ e;cases e1:au f (au g fNil) env with
 | none=>rw[e1] at q;cases q
 | some r =>
   obtain⟨A,U⟩:=r;rw[e1,ac] at q;dsimp only at q;split at q;case h_2=>cases q
   unfold z03 at q;split at q;case h_2=>cases q
   rename_i kk ds n;split at q;case isFalse=>cases q
   rename_i B;obtain⟨C,E,o⟩:=B;cases q;refine⟨_,h,.inl ⟨rfl,_,.inl (.inl j)⟩,W,env,_,U,ok,e1,λW1 K H1 L V M=>?_⟩;obtain⟨v',p,l',vs,N,hW,O,r⟩:=V.slot i _ n;rw[h] at p;cases p;cases N;cases M with
   | cons q1 r2 =>
   cases r2 with
   | cons q2 r3 =>
   cases r3;cases q1;obtain⟨P,S⟩:=V.turn n h ((r.take kk.toNat).append (.cons q2 (r.drop kk.toNat)));have D:=r.length;have T:ds.length<sizeLine:=lt20 (og o);have c4:ds.length+1<=2 ^ 20:=o;exact⟨l,vs,kk,_,rfl,rfl,O,C,by rw[<-D];exact E,by lia,by rw[<-D];exact T,k W1 _ _ (L.trans S) P .non⟩⟩
def sw:h8->k8->DE0->DE0
 | i::ix,d::ds,e=>sw ix ds (e.set i (some (.sh d)))
 | _,_,e=>e
def gIs:h8->TGs
 | []=>gNil
 | i::ix=>z2v (m3 i) (gIs ix)
def sUnp(ix:h8)(f:FE):FS:=λe=>(f e).bind λr=>match r.1 with
 | .tup ds=>if ds.length=ix.length then some (.nx,sw ix ds r.2) else none
 | _=>none
def unp(ix:h8)(d:D)(e:DE0):Option DE0:=match d with
 | .tup ds=>if ds.length=ix.length then some (sw ix ds e) else none
 | _=>none
def forU(ix:h8)(g:FS):k8->DE0->Option (Fl×DE0)
 | [],e=>some (.nx,e)
 | d::r,e=>(unp ix d e).bind λI=>(g I).bind λq=>match q.1 with | .nx=>forU ix g r q.2 | .ct=>forU ix g r q.2 | .bk=>some (.nx,q.2) | .rt d=>some (.rt d,q.2) | .rf ds=>some (.rf ds,q.2) | .r2 ds=>some (.r2 ds,q.2) | .xc c=>some (.xc c,q.2) | .ra k ps=>some (.ra k ps,q.2)
@[simp] noncomputable def qk(ix:h8)(fi:FI)(g:FS):FS:=λe=>(fi e).bind λr=>forU ix g r.1 r.2
def zy9{K:kf}{W:Addr->Prop}{H:Hp}:∀(ix:h8) (ds:k8) (vs:k7) (env:DE0) (σ:St) (Q:St->Hp->Prop),Ok K G H0 W env σ H->Reps K H (Ow G W) ds vs->ds.length=ix.length ->
  (∀I,Ok K G H0 W (sw ix ds env) I H->Q I H)->gIs ix vs σ H Q
 | [],ds,vs,env,σ,Q,ok,r,hl,k=>by
   cases r with
   | nil=>exact⟨rfl,k σ ok⟩
   | cons _ _=>cases hl
 | i::ix,ds,vs,env,σ,Q,ok,r,hl,k=>by
   cases r with
   | nil=>cases hl
   | @cons d v ds vs r0 r =>
     refine⟨v,vs,rfl,?_⟩;exact zy9 ix ds vs _ _ Q (ok.set r0) r (Nat.succ.inj hl) k
def xl  : PGs X [] (gIs []):=zz7
variable{es:ik}
def mw(I:Tos Nn X)(h:PGs X es (gIs ix))(D:Nn[i]?=some x:=by rfl)(J:(assignEach (.Name x pos::es) X.env).map (·.2)=assign (.Name x pos) X.env::(assignEach es X.env).map (·.2):=by rfl):PGs X (.Name x pos::es) (gIs (i::ix)):=zwc (zte (I.t D).nd (I.t D).n (I.t D).l (I.t D).f) h J
variable{body:List Stmt}{u:FS}
def zpw(hi:DJx X G H0 (.Tuple es k p1) a fi)(h:PGs X es (gIs ix))(R:DBx X G H0 body u)(U:PassesOwn (model X.prog X.w) X.A X.env X.xe:=by passes_own)(I:X.calm=true:=by rfl)(V:(assignEach es X.env).length=ix.length:=by rfl)(D:(assignEach es X.env).findIdx? (·.1)=none:=by rfl)(Y:∀x,foldedSetIterable a X.env x=pure x:=by intro _;rfl):DSx X G H0 (.For (.Tuple es k p1) a body [] pos) (qk ix fi u) :=
 zua (b:=unp ix) (L:=forU ix u) hi (z2w (n:=ix.length) I h V D) R (λ{W env env' σ H d x Q} ok r e k=>by
  unfold unp at e;split at e;case h_2=>cases e
  split at e;case isFalse=>cases e
  rename_i J;cases e;cases r with
  | @tup a vs _ ht rr=>exact⟨a,vs,rfl,.inl (.inl ht),by rw[<-rr.length];exact J,zy9 ix _ vs _ σ _ ok rr J k⟩) (λ_=>rfl) (λ_ _ _=>rfl) U I Y
def zpx(hi:DIx X G H0 (.Tuple es k p1) a fi)(h:PGs X es (gIs ix))(I:DBx X G H0 body u)(J:PassesOwn (model X.prog X.w) X.A X.env X.xe:=by passes_own)(R:X.calm=true:=by rfl)(U:(assignEach es X.env).length=ix.length:=by rfl)(D:(assignEach es X.env).findIdx? (·.1)=none:=by rfl)(V:∀x,foldedSetIterable a X.env x=pure x:=by intro _;rfl):DSx X G H0 (.For (.Tuple es k p1) a body [] pos) (qk ix fi u):=zpw hi.dj h I J R U D V
def fRep(F:FA)(g:FE):FA:=λe=>(F e).bind λr=>(g r.2).bind λq=>match q.1 with
 | .int k=>if Few (r.1.length*k.toNat)/\Bnd (-(2 ^ 62)) (2 ^ 62) k then some ((List.replicate k.toNat r.1).flatten,q.2) else none
 | _=>none
def Reps.rep{K:kf}{H:Hp}{O:Addr->Prop}{ds:k8}{vs:k7}(r:Reps K H O ds vs):∀k:Nat,Reps K H O (List.replicate k ds).flatten (List.replicate k vs).flatten
 | 0=>.nil
 | k+1=>by
   exact r.append (Reps.rep r k)
theorem zza(i:DFx X G H0 a F)(j:DEx X G H0 b g):DFx X G H0 (.BinOp a .Mult b pos) (fRep F g):=⟨(zz8 z3l i.out j.out).imp λσ H Q m=>by
 obtain⟨W,env,d,env',ok,q,k⟩:=m;unfold fRep at q;cases e1:F env with
 | none=>rw[e1] at q;cases q
 | some r =>
   obtain⟨ds,D⟩:=r;rw[e1,ac] at q;cases e2:g D with
   | none=>rw[e2] at q;cases q
   | some r2 =>
     obtain⟨L,Z⟩:=r2;rw[e2,ac] at q;dsimp only at q;split at q;case h_2=>cases q
     rename_i kk;split at q;case isFalse=>cases q
     rename_i p;obtain⟨s,t,u⟩:=p;cases q;refine⟨W,env,_,_,ok,e1,λW1 l vs H1 c I e v w f=>⟨W1,D,_,_,I,e2,λx v2 H2 s2 J p2=>?_⟩⟩;have R:Step W H W1 H1:=⟨c.keep,λa h=>c.ws a (.inl h)⟩;have U:Reps X.K H1 (Ow G W1) ds vs:=f.mono (λ_ _ h=>h) λa us o h=>⟨⟨o.1,λz=>o.2 (.inl z)⟩,h⟩;have V:=I.reps s2 U;have Y:H2 l=some (.lst vs):=s2.keep l _ w v;cases p2;refine⟨l,kk,vs,rfl,rfl,Y,by lia,by lia,?_,λn y=>?_⟩
     ·rw[<-f.length];exact df s (by rw[sizeLine_eq];decide)
     ·obtain⟨h1,h2,A,B,C,E⟩:=uj J (Reps.rep V kk.toNat) y
      exact k x n _ _ ((R.trans s2).trans h1) h2 A B C E⟩
def fSp2(K:kf)(m:k8->Option (List k8)):Sp:=λvs H Q _=>∃O ds I,Reps K H O ds vs/\m ds=some I/\∀l ls H',Same H H'->N2 K (gd λa=>O a\/H a=none) H H' l ls I->Q (.ref l) H'
def zi(m:k8->Option (List k8))(F:FA):FA2:=λe=>(F e).bind λr=>(m r.1).map λd=>(d,r.2)
def zq8(f:FA2):FS:=λe=>(f e).map λr=>(.r2 r.1,r.2)
def z7g(i:Nat):FS:=λe=>match e[i]? with | some (some (.o2 dss))=>some (.r2 dss,e) | _=>none
def wv(n ar:Nat)(g:FS):k8->Option (List k8):=λds=>if ds.length=ar then(match g (jk n ds) with | some (.r2 d,_)=>some d | _=>none) else none
def SlOk.n2(ok:Ok K G H0 W env σ H)(h:SlOk K G W H (.o2 dss) v):∃l ls,v=.ref l/\N2 K G H0 H l ls dss:=by
 obtain⟨l,ls,rfl,U,V,Y,hi⟩:=h;have D:∀a∈l::ls,W a:=λa ha=>by
  rcases cb.mp ha with rfl | ha
  ·exact U
  ·obtain⟨j,R,I⟩:=i4 ha
   have J:j<dss.length:=by rw[<-hi.1];exact R
   exact(hi.2 j dss[j] a (by simp[J]) (by simp[R,I])).1
 refine⟨l,ls,rfl,Y,λa ha=>(ok.wl a (D a ha)).1,V,hi.1,λj ds a Z I=>?_⟩;obtain⟨_,vs,h1,r⟩:=hi.2 j ds a Z I;exact⟨vs,h1,r.mono (λ_ _ h=>h) λb us o h=>⟨⟨o.1,λz=>o.2 (D b z)⟩,h⟩⟩
def zw2(I:DF2x X G H0 e f2):DSx X G H0 (.Return (some e) pos) (zq8 f2):=⟨(xq I.out).imp λDn σ H J=>by
 obtain⟨W,env,fl,env',ok,q,k⟩:=J;unfold zq8 at q;cases e1:f2 env with
 | none=>rw[e1] at q;cases q
 | some r =>
   rw[e1] at q;cases q;refine⟨W,env,_,_,ok,e1,λW1 l H1 R D h1 _=>?_⟩;obtain⟨l',ls,z,n2⟩:=h1.n2 D;cases z;exact k l ls H1 D.stay n2⟩
variable{H':Hp}{l:Addr}
def Ok.fresh2{ls:h7}(ok:Ok K G H0 W env σ H)(s:Same H H')(n:N2 K (gd λa=>Ow G W a\/H a=none) H H' l ls dss) :
  ∃W',Ok K G H0 W' env σ H'/\Step W H W' H'/\SlOk K G W' H' (.o2 dss) (.ref l) /\
   ∀(j:Nat) (s:Sl) (v:V) (a:Addr),env[j]?=some (some s)->σ[j]?=some (some v)->Owns H' (.o2 dss) (.ref l) a->¬Owns H' s v a:=by
 have R:∀a∈l::ls,∃vs,H' a=some (.lst vs):=λa ha=>by
  rcases cb.mp ha with rfl | ha
  ·exact⟨_,n.top⟩
  ·obtain⟨j,d,D⟩:=i4 ha
   have U:j<dss.length:=by rw[<-n.len];exact d
   obtain⟨vs,h,_⟩:=n.inn j dss[j] a (by simp[U]) (by simp[d,D]);exact⟨vs,h⟩
 have f:∀a,W a->H a≠none:=λa z q=>by obtain⟨_,vs,e⟩:=ok.wl a z;rw[q] at e;cases e
 have st:Step W H (λa=>W a\/a∈l::ls) H':=⟨λb o e _=>s b o e,λa z=>z.elim .inl λq=>.inr (n.new a q)⟩;have I:=ok.same s;have Y:Ok K G H0 (λa=>W a\/a∈l::ls) env σ H':=by
  refine⟨ok.stay.trans s,ok.good,λa z=>?_,λi sl e=>?_,I.uniq,ok.len⟩
  ·rcases z with z | z
   ·obtain⟨q,us,b⟩:=ok.wl a z
    exact⟨q,us,s _ _ b⟩
   ·obtain⟨vs,h⟩:=R a z
    exact⟨ok.stay.free (n.new a z),.l vs,h⟩
  ·obtain⟨v,Z,h⟩:=ok.slot i sl e
   exact⟨v,Z,ok.slstep st h λa vs o D=>⟨.inl (h.owns o),s _ _ D⟩⟩
 refine⟨_,Y,st,⟨l,ls,rfl,.inr (bq),n.top,n.nd,n.len,λj ds a Z D=>?_⟩,λj sl v a g k c m=>?_⟩
 ·obtain⟨vs,h,r⟩:=n.inn j ds a Z D
  refine⟨.inr (ay _ (bf D)),vs,h,r.mono (λ_ _ h=>h) λb us o h=>⟨⟨?_,?_⟩,h⟩⟩
  ·rcases o.1 with q | q
   ·exact q.1
   ·exact ok.good b (ok.stay.free q)
  ·rintro(z | z)
   ·rcases o.1 with q | q
    ·exact q.2 z
    ·exact f b z q
   ·exact o.2 z
 ·obtain⟨w,J,p⟩:=I.slot j sl g
  rw[k] at J;cases J;have t:W a:=p.owns m;have u:a∈l::ls:=by
   rcases c with c | ⟨l',ls',z,q,hb⟩
   ·cases c;exact bq
   ·cases z
    rw[n.top] at q;have:=u5 (by simpa using q);subst this;exact ay _ hb
  exact f a t (n.new a u)
variable{E:Value->Shared->Prop}
def zw3{m:k8->Option (List k8)}{E:XK}:∀σ H Q,tDF2 X.K G H0 (zi m F) σ H Q->za (fSp2 X.K m) [] E (tDA X.K G H0 F) σ H Q:=λσ H Q R=>by
 obtain⟨W,env,d,env',ok,q,k⟩:=R;unfold zi at q;cases e1:F env with
 | none=>rw[e1] at q;cases q
 | some r =>
   obtain⟨ds,J⟩:=r;rw[e1,ac] at q;cases e2:m ds with
   | none=>rw[e2] at q;cases q
   | some d' =>
     rw[e2] at q;cases q;refine⟨W,env,ds,_,ok,e1,λW1 vs H1 U I p1=>?_⟩;show fSp2 X.K m (vs++[]) H1 Q E;rw[de];refine⟨Ow G W1,ds,_,p1,e2,λl ls H2 sm n2=>?_⟩;obtain⟨V,h1,h2,Y,Z⟩:=I.fresh2 sm n2;exact k V l H2 (U.trans h2) h1 Y Z
variable{mF2:k8->Option (List k8)}
def zw4{jr:Nat}(c:Cal X.prog X.w X.K X.mg X.base CX0 x k (fSp2 X.K mF2))(R:Room jr X.A)(U:DAx X G H0 (e::es) F)(D:k<=jr:=by decide)(V:Gl X x:=by walk_at "g")(Y:starEach (e::es) X.env=(false,eval e X.env)::starEach es X.env:=by rfl)(I:(backTo pos (starEach es X.env)).any (·.1)=false:=by rfl) :
  DF2x X G H0 (.Call (.Name x p') (e::es) [] pos) (zi mF2 F):=let ⟨_,_,_,Z,a,b,d,J⟩:=c;⟨(zmy Z (R.mono D) V a b d .nil zwm U.out J Y I).imp zw3⟩
theorem z6o{f:Addr}{g:FS}(F:Fun K x qual st f fd)(S:pj N ps (fx st))(I:n=N.length)(J:ar=ps.length)(D:∀(cdv:Value) (A:Around) (outer:ic) (s:Shared) (H:Hp) (E:XK) (G:Gd) (H0:Hp),Room k (A.deeper (envOfC qual (fx st) s.heap.objs.size f cdv)) ->
   DBx (cxOf CX P w K mg base N qual (fx st) f cdv A outer s H E).nox G H0 (li st) g):FnOk P w K mg base CX (k+1) f fd ps (fSp2 K (wv n ar g)):=by
 subst I J;refine F.okC S (λvs H Q E h=>?_) (λcdv A outer s H vs Q E R h=>?_)
 ·obtain⟨O,ds,d,r,e,_⟩:=h
  rw[<-r.length];unfold wv at e;split at e
  ·assumption
  ·cases e
 ·obtain⟨O,ds,d,r,e,k⟩:=h
  refine⟨_,(D cdv A outer s H E (gd λa=>O a\/H a=none) H R).out,?_⟩;unfold wv at e;split at e;case isFalse=>cases e
  split at e
  ·rename_i d' env' U
   cases e;exact⟨NoW,_,_,env',tm r,U,λl ls H' sm n2=>k l ls H' sm n2⟩
  ·cases e
variable{wr:h7}{pins:k4}{h2:Heap}
def Inv.tupled{tk:Nat}{T:Addr}{us:k6}(I:Inv X pins σ H s)(R:∀b∈wr,FpOk X pins H b)(hT:s.heap.objs.size<=T)(h:T∉wr)(k:∀b o,b∉wr->s.heap.get? b=some o->h2.get? b=some o)(Y:h2.IsTuple T us)(Z:Vals vs us.toList)(a:vs.length<=sizeLine) :
  Inv X pins σ (upd H T (.tup vs)) { s with heap:=h2,toks:=tk }:=by
 have U:H T=none:=I.hok.fresh hT;have V:∀b u,H b=some u->b∉wr:=λb u e z=>by rw[(R b z).1] at e;cases e
 have neT:∀b o,s.heap.get? b=some o->b≠T:=λb o e=>b9 (bc (bg e) hT);refine I.step (g':=s.gens) (d':=s.drawn) (ch:=wr) (λb D=>⟨(R b D).2.2.2.1,(R b D).2.1,(R b D).2.2.2.2.1,(R b D).2.2.2.2.2⟩) (λb o _ _ J e _=>k b o J e) (λb o _ _ J e _=>⟨o.slots,k b o J e⟩)
  (λb o _ e n=>by rw[gm (neT b o e)];exact n) (λb o J e=>⟨o,k b o J e⟩) (λb xs e=>by rw[gm (nt e U)];exact e) (λb o u e=>by rw[gm (nt e U)];exact e)
  (λb ps e=>⟨#[],by rw[gm (nt e U),e];simp⟩) (λm d=>?_) (λb u e=>?_) I.bare
 ·obtain⟨o,es,f,g,r⟩:=d
  exact⟨o,es,f,k _ o (λz=>(R _ z).2.1 rfl) g,r⟩
 ·by_cases D:b=T
  ·subst D
   rw[ki] at e;cases e;exact⟨a,us.toList,Z,by rw[Array.toArray_toList];exact Y⟩
  ·rw[gm D] at e
   refine(I.hok b u e).stay (λc v J q=>k c v ?_ q) (λc q=>by rw[gm (nt q U)];exact q) λc xs q=>by rw[gm (nt q U)];exact q
   rcases J with z | z
   ·rw[z];exact V b u e
   ·exact V c _ z
def Inv.turnedL{tk:Nat}(I:Inv X pins σ H s)(J:∀b∈wr,FpOk X pins H b)(k:∀b o,b∉wr->s.heap.get? b=some o->h2.get? b=some o) :
  Inv X pins σ H { s with heap:=h2,toks:=tk }:=by
 have R:∀b u,H b=some u->b∉wr:=λb u e z=>by rw[(J b z).1] at e;cases e
 refine I.step (g':=s.gens) (d':=s.drawn) (ch:=wr) (λb U=>⟨(J b U).2.2.2.1,(J b U).2.1,(J b U).2.2.2.2.1,(J b U).2.2.2.2.2⟩) (λb o _ _ D e _=>k b o D e) (λb o _ _ D e _=>⟨o.slots,k b o D e⟩)
  (λ_ _ _ _ n=>n) (λb o D e=>⟨o,k b o D e⟩) (λ_ _ e=>e) (λ_ _ _ e=>e) (λb ps e=>⟨#[],by rw[e];simp⟩) (λm V=>?_) (λb u e=>?_) I.bare
 ·obtain⟨o,es,Y,Z,r⟩:=V
  exact⟨o,es,Y,k _ o (λz=>(J _ z).2.1 rfl) Z,r⟩
 ·refine(I.hok b u e).stay (λc v D q=>k c v ?_ q) (λ_ q=>q) λ_ _ q=>q
  rcases D with z | z
  ·rw[z];exact R b u e
  ·exact R c _ z
def Itp(go:Nat->Hp->Prop)(I:Nat->Hp->k7->Prop)(D:Nat->Hp->Prop):It :=
 ⟨go,λi H x H'=>∃t vs,H t=none/\x=.ref t/\H'=upd H t (.tup vs)/\I i H vs,D⟩
variable{it:Addr}
def zzb{U:Nat->Heap->Prop}{go:Nat->Hp->Prop}{x:Nat->Hp->k7->Prop}{J:Nat->Hp->Prop}(mem:it∈fp)(obj:∀i h,U i h->∀b∈fp,∃o,h.get? b=some o/\∀v,o.data≠.cell v)(keep:∀i h h',U i h->(∀b∈fp,∀o,h.get? b=some o->h'.get? b=some o)->U i h')(y:∀(X:Cx),X.prog=P->X.w=w->X.K=K->X.A.handled=none->∀(i:Nat) (pins:k4) (s:Shared) (σ:St) (H:Hp),Inv X pins σ H s->(∀b∈fp,FpOk X pins H b)->U i s.heap->(go i H\/J i H) ->
   ∃Y wr n Pt St Z j,WalksT P w X.A it Y wr n Pt St Z/\St j s.heap/\(∀b∈wr,b∈fp)/\(∀h,St (j+1) h->U (i+1) h)/\(go i H->j<n)/\(J i H->j=n) /\
    (go i H->∀D,Pt j D->∃vs,Vals vs D.toList/\vs.length<=sizeLine/\x i H vs))(self:∀(A:Around) (i:Nat) (s:Shared) (Q:Value->Shared->Prop) (E:Value->Shared->Prop),U i s.heap->Q (.ref it) s->wpAny (model P w) A (pyIter (.ref it)) Q E s) :
  Turn P w K (.Tuple es k pos) (Itp go x J) fp it U where
 mem:=mem
 obj:=obj
 keep:=keep
 item:=by
  intro X hP p q r i pins s σ H E I c st d;obtain⟨Y,wr,n,Pt,St,Z,j,W,t,a,f,lt,_,u⟩:=y X hP p q (I.ok.hd r) i pins s σ H I c st (.inl d);refine W.item j s _ _ (lt d) t λT D h1 tk z hT B g kk=>⟨_,rfl,?_⟩;obtain⟨vs,C,F,G⟩:=u d D z;have l:T∉wr:=W.apart j T h1 g;refine W.go es k pos j T _ _ _ g λh2 s2 m=>?_;refine⟨.ref T,upd H T (.tup vs),?_,rfl,⟨T,vs,I.hok.fresh hT,rfl,rfl,G⟩,f h2 s2,λb R=>?_⟩
  ·exact I.tupled (λb R=>c b (a b R)) hT l (λb o R e=>m b o R (kk b o R e)) (B.at λo e=>m T o l e) C F
  ·obtain⟨o,L,_⟩:=obj i _ st b R
   rw[gm (b9 (bc (bg L) hT))];exact(c b R).1
 done:=by
  intro X hP p q r i pins s σ H E I c st d;obtain⟨Y,wr,n,Pt,St,Z,j,W,t,a,f,_,M,_⟩:=y X hP p q (I.ok.hd r) i pins s σ H I c st (.inr d);cases M d;exact W.done s _ _ t λh1 tk kk=>⟨rfl,I.turnedL (λb R=>c b (a b R)) kk⟩
 self:=self
variable{A:Around}
theorem zsu(I:A.handled=none)(J:l≠it)(c:Nat)(its:k6) :
  Draws P w A.in1 it [it,l] (c+its.size) (λj x=>∃i,j=c+i/\its[i]?=some x) (λj h=>∃i,j=c+i/\i<=its.size/\h.IsListIter it l i/\h.IsList l its) where
 live:=λj h ⟨i,_,_,⟨o,e,_⟩,_⟩=>⟨o,e⟩
 frame:=λj h h' ⟨i,e,hi,a,b⟩ k=>⟨i,e,hi,a.at λo e=>k it (by simp) o e,b.at λo e=>k l (by simp) o e⟩
 item:=λj s Q E hj ⟨i,e,hi,a,b⟩ hQ=>by
  subst e;have hi:i<its.size:=by lia
  refine wpAny_nextOf_list_item a b (x:=its[i]) (by simp[hi]) λh' R D=>?_;exact hQ _ h' s.toks ⟨i,rfl,by simp[hi]⟩ ⟨i+1,by lia,hi,R,b.extBut D.extBut J⟩ D
 done:=λs Q E ⟨i,e,hi,a,b⟩ hE=>by
  have hi:i=its.size:=by lia
  subst hi;exact wpAny_nextOf_list_end I a b (by simp) hE
def Ite(K:kf)(a:Addr)(c:Nat):It :=
 Itp (λi H=>∃xs x,SqL K H a xs/\xs[i]?=some x) (λi H vs=>∃y,vs=[.int (c+i:Nat),y]/\∀xs,SqL K H a xs->xs[i]?=some y) (λi H=>∃xs,SqL K H a xs/\xs.length=i)
theorem zuj(a it e:Addr)(c:Nat)(O:e≠it) :
  Turn P w K (.Tuple es k pos) (Ite K a c) [e,it] e (λi h=>(∃J,IsEnum h e it (c+i:Nat) J)/\h.IsListIter it a i):=by
 refine zzb (by simp) (λi h st b C=>?_) (λi h h' st kk=>?_) ?_ λA i s Q E st W=>?_
 ·obtain⟨⟨J,R⟩,o,ho,_,hd⟩:=st
  rcases cb.mp C with z | z
  ·subst z
   exact⟨_,R,λv z=>by cases (show Data.fields _=Data.cell v from z)⟩
  ·cases cr.mp z
   exact⟨o,ho,λv z=>by rw[hd] at z;cases z⟩
 ·exact⟨st.1.imp λJ R=>kk e (by simp) _ R,st.2.at λo x=>kk it (by simp) o x⟩
 ·intro X hP hw hK hh i pins s σ H I hf st Y
  subst hP hw hK;obtain⟨⟨J,R⟩,Z⟩:=st;have F:∃xs,SqL X.K H a xs/\i<=xs.length:=by
   rcases Y with⟨xs,x,q,d⟩ | ⟨xs,q,d⟩
   ·exact⟨xs,q,jz (aj.mp d).1⟩
   ·exact⟨xs,q,Nat.le_of_eq d.symm⟩
  obtain⟨xs,q,G⟩:=F;obtain⟨its,S,p,hz⟩:=I.list q;have hl:=S.length;obtain⟨ol,V,f,_⟩:=id p.isList;obtain⟨oi,g,j,_⟩:=id Z;have L:a≠it:=λz=>by
   subst z;rw[V] at g;cases g;rw[f] at j;exact absurd j (by decide)
  have M:e≠a:=λz=>by
   subst z;rw[R] at V;cases V;exact absurd (show Value.type "enumerate" = Value.type "list" from f) (by decide)
  have D:=zsu (P:=X.prog) (w:=X.w) hh L c its.toArray;refine⟨_,_,_,_,_,_,c+i,WalksT.enumerateD D e O (by simp[O,M]) (by simp),⟨⟨J,R⟩,i,rfl,by simpa[<-hl] using G,Z,p.isList⟩,λb C=>C,λh st=>?_,λY=>?_,λhs=>?_,λY T hv=>?_⟩
  ·obtain⟨⟨l,N⟩,m,e',_,n,_⟩:=st
   have:m=i+1:=by lia
   subst this;exact⟨⟨l,N⟩,n⟩
  ·obtain⟨ys,y,r,U⟩:=Y
   rw[I.list_inj r q] at U;have:=(aj.mp U).1;simp
   lia
  ·obtain⟨ys,r,U⟩:=hs
   rw[I.list_inj r q] at U;simp
   lia
  ·obtain⟨t,x,⟨m,e',d⟩,rfl⟩:=hv
   have:m=i:=by lia
   subst this;obtain⟨ys,y,r,U⟩:=Y;rw[I.list_inj r q] at U;obtain⟨u,hu,ru⟩:=S.get U;have:u=x:=by
    have B:its[m]?=some x:=by simpa using d
    rw[hu] at B;cases B;rfl
   subst this;exact⟨[.int (c+m:Nat),y],.cons ⟨t,rfl⟩ (.cons ru .nil),by show 2<=sizeLine;rw[sizeLine_eq];decide,y,rfl,λzs F=>by rw[I.list_inj F q];exact U⟩
 ·obtain⟨⟨J,R⟩,_⟩:=st
  exact wpAny_pyIter_enum R W
def Itz(K:kf)(a b:Addr):It :=
 Itp (λi H=>∃xs ys x y,SqL K H a xs/\SqL K H b ys/\xs[i]?=some x/\ys[i]?=some y) (λi H vs=>∃x y,vs=[x,y]/\(∀xs,SqL K H a xs->xs[i]?=some x)/\∀ys,SqL K H b ys->ys[i]?=some y)
  (λi H=>∃xs ys,SqL K H a xs/\SqL K H b ys/\min xs.length ys.length=i)
structure ZNe (z ti to i1 i2:Addr):Prop where
 a1:ti≠z
 a2:to≠z
 a3:i1≠z
 a4:i2≠z
 a5:ti≠to
 a6:ti≠i1
 a7:ti≠i2
 a8:to≠i1
 a9:to≠i2
 aA:i1≠i2
variable{o:Int->Int->Int}
def z4j{h:Heap}{a b:Addr}{o o':Obj}(e:h.get? a=some o)(e':h.get? b=some o')(n:o.cls≠o'.cls):a≠b:=λz=>by
 subst z;rw[e] at e';cases e';exact n rfl
theorem zw5(a b z ti to t B:Addr)(V:ZNe z ti to t B) :
  Turn P w K (.Tuple es k pos) (Itz K a b) [z,ti,to,t,B] z (λi h=>IsZip h z ti to .none/\IsPair h ti (.ref t) (.ref B)/\(∃u v,IsPair h to u v)/\h.IsListIter t a i/\h.IsListIter B b i):=by
 refine zzb (by simp) (λi h st c C=>?_) (λi h h' st kk=>?_) ?_ λA i s Q E st hQ=>?_
 ·obtain⟨Y,h1,⟨u,v,h2⟩,⟨o3,g,_,d3⟩,o4,j,_,d4⟩:=st
  simp at C;rcases C with rfl | rfl | rfl | rfl | rfl
  ·exact⟨_,Y,λv q=>by cases (show Data.fields _=Data.cell v from q)⟩
  ·exact⟨_,h1,λv q=>by cases (show Data.seq _ _=Data.cell v from q)⟩
  ·exact⟨_,h2,λv q=>by cases (show Data.seq _ _=Data.cell v from q)⟩
  ·exact⟨_,g,λv q=>by rw[d3] at q;cases q⟩
  ·exact⟨_,j,λv q=>by rw[d4] at q;cases q⟩
 ·obtain⟨Y,h1,⟨u,v,h2⟩,g,j⟩:=st
  exact⟨kk z (by simp) _ Y,kk ti (by simp) _ h1,⟨u,v,kk to (by simp) _ h2⟩,g.at λo e=>kk t (by simp) o e,j.at λo e=>kk B (by simp) o e⟩
 ·intro X hP hw hK hh i pins s σ H I hf st F
  subst hP hw hK;obtain⟨Y,h1,⟨u,v,h2⟩,g,j⟩:=st;have G:∃xs ys,SqL X.K H a xs/\SqL X.K H b ys/\i<=xs.length/\i<=ys.length:=by
   rcases F with⟨xs,ys,x,y,q,Z,U,m⟩ | ⟨xs,ys,q,Z,U⟩
   ·exact⟨xs,ys,q,Z,jz (aj.mp U).1,jz (aj.mp m).1⟩
   ·exact⟨xs,ys,q,Z,by lia,by lia⟩
  obtain⟨xs,ys,q,Z,ag,ab⟩:=G;obtain⟨its,rv,p,_⟩:=I.list q;obtain⟨its',L,p',_⟩:=I.list Z;have hl:=rv.length;have al:=L.length;obtain⟨ol,d,f,_⟩:=id p.isList;obtain⟨an,J,R,_⟩:=id p'.isList;obtain⟨o3,M,N,_⟩:=id g;obtain⟨o4,O,S,_⟩:=id j;have r:∀ {l o T c o'},s.heap.get? l=some o->o.cls=.type "list"->s.heap.get? c=some o'->o'.cls=.type T->T ≠ "list"->l≠c:=λe1 e2 e3 e4 n=>z4j e1 e3 (by rw[e2,e4];intro z;cases z;exact n rfl);have D:ZipApart z ti to t B a b:=⟨V.a1,V.a2,V.a3,V.a4,V.a5,V.a6,V.a7,V.a8,V.a9,V.aA,r (T:="zip") d f Y rfl (by decide),r (T:="tuple") d f h2 rfl (by decide),r d f M N (by decide),r d f O S (by decide),r (T:="zip") J R Y rfl (by decide),r (T:="tuple") J R h2 rfl (by decide),r J R M N (by decide),r J R O S (by decide)⟩;refine⟨_,_,_,_,_,_,i,WalksT.zip2 hh z ti to t B a b D its.toArray its'.toArray,⟨Y,h1,⟨u,v,h2⟩,g,j,p.isList,p'.isList⟩,λc C=>?_,λh st=>?_,λF=>?_,λhs=>?_,λF ae hv=>?_⟩
  ·simp at C ⊢
   rcases C with rfl | rfl | rfl | rfl <;> simp
  ·obtain⟨Y,h1,h2,g,j,_,_⟩:=st
   exact⟨Y,h1,h2,g,j⟩
  ·obtain⟨W,aa,x,y,q1,q2,U,m⟩:=F
   rw[I.list_inj q1 q] at U;rw[I.list_inj q2 Z] at m;have:=(aj.mp U).1;have:=(aj.mp m).1;simp
   lia
  ·obtain⟨W,aa,q1,q2,U⟩:=hs
   rw[I.list_inj q1 q,I.list_inj q2 Z] at U;simp
   lia
  ·obtain⟨W,aa,x,y,q1,q2,U,m⟩:=F
   rw[I.list_inj q1 q] at U;rw[I.list_inj q2 Z] at m;obtain⟨ux,uy,eu,ew,rfl⟩:=hv;obtain⟨u1,e1,r1⟩:=rv.get U;obtain⟨u2,e2,r2⟩:=L.get m;have t1:u1=ux:=by
    have z:its[i]?=some ux:=by simpa using eu
    rw[e1] at z;cases z;rfl
   have t2:u2=uy:=by
    have z:its'[i]?=some uy:=by simpa using ew
    rw[e2] at z;cases z;rfl
   subst t1;subst t2;exact⟨[x,y],.cons r1 (.cons r2 .nil),by show 2<=sizeLine;rw[sizeLine_eq];decide,x,y,rfl,λzs G=>by rw[I.list_inj G q];exact U,λzs G=>by rw[I.list_inj G Z];exact m⟩
 ·exact wpAny_pyIter_zip st.1 hQ
abbrev enH(h:Heap)(l:Addr):Heap:=h.push { cls:=.type "list_iterator",data:=.fields #[.ref l,.int 0 0] }
abbrev enHs(h:Heap)(l:Addr):Heap:=(enH h l).push { cls:=.type "enumerate",data:=.fields #[.none,.bool false,.ref h.objs.size,rawInt 1,.none,.none] }
def zsv(v:Value)(t:Tok):checkTypeCall "enumerate" ⟨[v],[("start",.int 1 t)]⟩=pure ():=by kernel_rfl
def zuk(v:Value)(t:Tok):checkBuiltinCall "enumerate.__new__" ⟨[.type "enumerate",v],[("start",.int 1 t)]⟩=pure ():=by kernel_rfl
def zul(l:Addr)(D:k6)(n:Nat)(J:Option Addr)(sl:Array g9)(t:Tok) :
  Meets (Builtin.«enumerate.__new__» ⟨[.type "enumerate",.ref l],[("start",.int 1 t)]⟩) (λ_ R s=>s.heap.get? l=some ⟨.type "list",J,.seq D n,sl⟩/\R (.ok (.ret (.ref (enH s.heap l).objs.size))) { s with heap:=enHs s.heap l }) :=
 .of_wp λprog w A R s h=>by
  obtain⟨Y,g,d,tk,os⟩:=s;obtain⟨I,h⟩:=h;have U:=sub_enumerate;have V:Heap.IsList (Shared.heap ⟨Y,g,d,tk,os⟩) l D:=⟨_,I,rfl,n,rfl⟩
  wp_walk using AutoSeq1.wpAny_loadPart' I
  refine wpAny_stack_any λst=>wpAny_pure ?_;split
  ·rename_i c _ _ _ _ _
   cases (c==Value.type "enumerate") <;> (refine wpAny_bind (wpAny_of_eq (a:=(Value.ref l,some (Value.int 1 t))) (by rfl) ?_);wp_walk using AutoSeq1.wpAny_loadPart' I,wpAny_pyIter_list V;exact⟨_,rfl,h⟩)
  ·refine wpAny_bind (wpAny_of_eq (a:=(Value.ref l,some (Value.int 1 t))) (by rfl) ?_);wp_walk using AutoSeq1.wpAny_loadPart' I,wpAny_pyIter_list V;exact⟨_,rfl,h⟩
variable{t:Tok}
theorem zw6{v x:Value}:Meets (Builtin.«object.__init__» ⟨[v,x],[("start",.int 1 t)]⟩) (λ_ R s=>s.TypeIs v "enumerate"/\R (.ok (.ret .none)) s) :=
 .of_wp λprog w A R s D=>by
  obtain⟨hT,h⟩:=D;have I:=F.called_enumerate.made;have J:=F.called_enumerate.init.lookup;repeat (any_goals (first | assumption | wp_step))
  exact⟨_,rfl,h⟩
theorem zw7(a b:Value)(t:Tok):argsOk "object.__init__" ⟨[a,b],[("start",.int 1 t)]⟩:=by
 unfold argsOk;rw[signature?_of (id:="object.__init__") (n:=['_','_','t','i','n','i','_','_']) (o:=['t','c','e','j','b','o']) (by kernel_rfl) F.owner_object];kernel_rfl
variable{prog:Program}
theorem zw8{D:k6}{Q:Value->Shared->Prop}(b:s.heap.IsList l D)(h:Q (.ref (enH s.heap l).objs.size) { s with heap:=enHs s.heap l }):wpAny (model prog w) A (call (.type "enumerate") [.ref l] [("start",.int 1 t)]) Q E s:=by
 obtain⟨⟨c,J,d,sl⟩,e,U,n,V⟩:=b;replace U:c=.type "list":=U;replace V:d=.seq D n:=V;subst U V;have Y:=F.called_enumerate.made;have a:=F.called_enumerate.sub;have f:=zsv (.ref l) t;refine wpAny_call (codeAny_of_tree (show wpAny _ _ (callAny (.type "enumerate") _) _ _ _ from wpAny_pure ⟨Code.quiet_builtin _ (by decide +kernel),codeAny_builtin F.entry_type_call ?_⟩));repeat (any_goals (first | assumption | wp_step))
 refine codeAny_mono (codeAny_call_builtin (R:=λr I=>r=.ok (.ret (.ref (enH s.heap l).objs.size))/\I={ s with heap:=enHs s.heap l }) F.called_enumerate.plain F.entry_enumerate_new (wpAny_of_eq (zuk _ t) (zul l D n J sl t prog w A.in1 (λr I=>r=.ok (.ret (.ref (enH s.heap l).objs.size))/\I={ s with heap:=enHs s.heap l }) s ⟨e,rfl,rfl⟩))) λr I g=>?_;obtain⟨rfl,rfl⟩:=g;have hT:Shared.TypeIs { s with heap:=enHs s.heap l } (.ref (enH s.heap l).objs.size) "enumerate":=⟨_,cf _ rfl,rfl⟩;have i:=F.called_enumerate.init.lookup;have j:=F.called_enumerate.init.bind (.ref (enH s.heap l).objs.size);repeat (any_goals (first | assumption | wp_step))
 refine codeAny_mono (codeAny_call_builtin (R:=λr s2=>r=.ok (.ret .none)/\s2={ s with heap:=enHs s.heap l }) F.called_enumerate.init.plain F.entry_object_init (F.called_enumerate.init.check _ _ _ _ _ _ _ _ hT (zw7 _ _ t) (zw6 prog w A.in1 (λr s2=>r=.ok (.ret .none)/\s2={ s with heap:=enHs s.heap l }) _ ⟨hT,rfl,rfl⟩))) λk s2 Z=>?_;obtain⟨rfl,rfl⟩:=Z;repeat (any_goals (first | assumption | wp_step))
theorem zne(n:Nat):ZNe (n+4) (n+2) (n+3) n (n+1):=by
 have h:∀i j:Nat,i≠j->n+i≠n+j:=λi j z=>by lia
 exact⟨h 2 4 (by decide),h 3 4 (by decide),h 0 4 (by decide),h 1 4 (by decide),h 2 3 (by decide),h 2 0 (by decide),h 2 1 (by decide),h 3 0 (by decide),h 3 1 (by decide),h 0 1 (by decide)⟩
variable{c:Nat}
theorem mem2(h:c∈[n+1,n]):n<=c:=by simp at h;lia
theorem mem5(h:c∈[n+4,n+2,n+3,n,n+1]):n<=c:=by simp at h;lia
def zum:bootBuiltins "enumerate" = some (.type "enumerate"):=by decide +kernel
def zw9:bootBuiltins "zip" = some (.type "zip"):=by decide +kernel
def z4k(K:kf)(c:Nat)(ta:TA):TI:=λσ H R=>ta σ H λvs H1=>∃l xs,vs=[.ref l]/\SqL K H1 l xs/\R (Ite K l c) H1
def iZip(K:kf)(ta:TA):TI:=λσ H R=>ta σ H λvs H1=>∃l l' xs ys,vs=[.ref l,.ref l']/\SqL K H1 l xs/\SqL K H1 l' ys/\R (Itz K l l') H1
variable{p kp:Pos}{ta:TA}
def zxa(Z:Bn X "enumerate")(d:PA X [a] ta)(f:starEach [a] X.env=(false,eval a X.env)::starEach [] X.env:=by rfl)(V:(backTo pos (starEach [a] X.env)).any (·.1)=false:=by rfl) :
  PI X (.Tuple es k p1) (.Call (.Name "enumerate" p) [a] [⟨some "start",.Constant (.int 1) j p2,kp⟩] pos) (z4k X.K 1 ta):=by
 intro pins s σ H R I h;refine wpAny_Call_Name_kw (xr I Z.g Z.m zum ?_);refine PySem.W.callWith_of (P:=λ_=>True) (by rw[V];rfl) (λ_ _=>⟨Keeper.machine,.inr (.inl rfl),PySem.W.Looks.of_pure rfl⟩) (evalArgs_kw2 rfl (thn (d pos pins s σ H _ I h) λus n Y=>?_) f);obtain⟨vs,H1,u,v,w⟩:=Y;refine thn (z0g (nm:=some "start") (kpos:=kp) (zf (i:=1) (j:=j) (pos:=p2)) z3g pos pins n σ H1 (λws H2=>H2=H1/\ws=[.int 1]) u ⟨rfl,rfl⟩) λws s2 Y=>?_;obtain⟨B,H2,U,x,y,z⟩:=Y;refine⟨trivial,?_⟩;subst y z;obtain⟨l,xs,e,A,q⟩:=w;subst e;cases v with
 | cons r rr =>
   cases rr;cases r;cases x with
   | cons r' rr' =>
   obtain⟨t,rfl⟩:=r';obtain⟨its,C,pl,E⟩:=U.list A;refine zw8 (t:=t) pl.isList ?_;have b:IsEnum (enHs s2.heap l) (enH s2.heap l).objs.size s2.heap.objs.size 1 .none:=cf _ rfl;have D:(enH s2.heap l).objs.size=s2.heap.objs.size+1:=i6 ..;refine wpAny_pyIter_enum b ?_;refine⟨(enH s2.heap l).objs.size,[(enH s2.heap l).objs.size,s2.heap.objs.size],_,_,H2,rfl,U.kept (t':=s2.toks) (λc o e=>aq _ (aq _ e)),zuj l _ _ 1 (by rw[D];exact Nat.succ_ne_self _),⟨⟨.none,b⟩,⟨_,aq _ (cf _ rfl),rfl,rfl⟩⟩,λc J=>?_,q⟩;have J:s2.heap.objs.size<=c:=by rw[D] at J;exact mem2 J
   exact U.fpOk J (U.hok.fresh J)
def z4l(d:Bn X "zip")(i:PA X [a,b] ta)(j:starEach [a,b] X.env=[(false,eval a X.env),(false,eval b X.env)]:=by rfl)(J:starEach [b] X.env=[(false,eval b X.env)]:=by rfl) :
  PI X (.Tuple es k p1) (.Call (.Name "zip" p) [a,b] [] pos) (iZip X.K ta):=by
 intro pins s σ H R I h;refine Call_ (xr I d.g d.m zw9 (jx (thn (i pos pins s σ H _ I h) λus D n=>?_) (by rw[j,J]) (by rw[J];rfl)));obtain⟨vs,H1,U,o,t⟩:=n;obtain⟨l,l',xs,ys,e,u,Y,q⟩:=t;subst e;cases o with
 | cons r rr =>
   cases rr with
   | cons r' rr =>
   cases rr;cases r;cases r';obtain⟨its,E,pl,F⟩:=U.list u;obtain⟨its',v,Z,w⟩:=U.list Y;refine call_zip_2 pl.isList Z.isList λh' f x y z A B C=>wpAny_pyIter_zip f ?_;refine⟨_,[D.heap.objs.size+4,D.heap.objs.size+2,D.heap.objs.size+3,D.heap.objs.size,D.heap.objs.size+1],_,_,H1,rfl,U.kept (t':=D.toks) C,zw5 l l' _ _ _ _ _ (zne _),⟨f,x,⟨_,_,y⟩,z,A⟩,λc V=>?_,q⟩;have V:D.heap.objs.size<=c:=mem5 V;exact U.fpOk V (U.hok.fresh V)
def ph:Nat->k8->k8
 | _,[]=>[]
 | c,d::r=>.tup [.int c,d]::ph (c+1) r
def zipD:k8->k8->k8
 | d::r,d'::r'=>.tup [d,d']::zipD r r'
 | _,_=>[]
theorem zow:∀(ds:k8) (c i:Nat),(ph c ds)[i]?=ds[i]?.map λd=>.tup [.int (c+i:Nat),d]
 | [],c,i=>by simp[ph]
 | d::r,c,0=>by simp[ph]
 | d::r,c,i+1=>by
   simp only[ph,ai];rw[zow r (c+1) i];rw[show c+1+i=c+(i+1) by lia]
def zox:∀(ds:k8) (c:Nat),(ph c ds).length=ds.length
 | [],_=>rfl
 | d::r,c=>by simp[ph,zox r]
def zq9:∀(ds es:k8) (i:Nat) (p:D),(zipD ds es)[i]?=some p->∃d e,ds[i]?=some d/\es[i]?=some e/\p=.tup [d,e]
 | d::r,e::r',0,p,h=>by simp[zipD] at h;exact⟨d,e,by simp,by simp,h.symm⟩
 | d::r,e::r',i+1,p,h=>by
   exact zq9 r r' i p h
def zra:∀(ds es:k8),(zipD ds es).length=min ds.length es.length
 | [],es=>by simp[zipD]
 | d::r,[]=>by simp[zipD]
 | d::r,e::r'=>by simp[zipD,zra r r']
@[simp] noncomputable def iEn(c:Nat)(ds:k8):Option k8:=match ds with | [.lst ds]=>some (ph c ds) | _=>none
@[simp] noncomputable def iZp(ds:k8):Option k8:=match ds with | [.lst ds,.lst es]=>some (zipD ds es) | _=>none
def zun{W':Addr->Prop}{t:Addr}(r:Reps K H' (Ow G W') ds vs)(D:H' t=none):Rep K (upd H' t (.tup vs)) (Ow G W') (.tup ds) (.ref t):=by
 refine .tup (ki ..) (r.mono (λa us e=>by rw[gm (nt e D)];exact e) λa us o h=>⟨o,?_⟩);exact h.keep λo e=>by rw[gm (nt e D)];exact e
def zuo(c:Nat)(ok:Ok X.K G H0 W env σ H)(h:LsOk X.K H (Ow G W) l vs)(r:Reps X.K H (Ow G W) ds vs):z0y X.K G (Ite X.K l c) W H (ph c ds) where
 go:=λW' H' i d st e=>by
  rw[zow] at e;cases e0:ds[i]? with
  | none=>rw[e0] at e;cases e
  | some d0 =>
    rw[e0] at e;cases e;obtain⟨v,D,I⟩:=(ok.reps st r).get e0;have h':=(ok.lsstep st h).sq;refine⟨⟨vs,v,h',D⟩,λx H'' ⟨t,us,hn,ex,eH,y,eu,hy⟩=>?_⟩;subst ex eH eu;have:=hy vs h';rw[D] at this;cases this;exact⟨vz hn,zun (.cons (.int _) (.cons I .nil)) hn⟩
 stop:=λW' H' st=>⟨vs,(ok.lsstep st h).sq,by rw[zox,r.length]⟩
def zxb{l':Addr}{vs':k7}{es:k8}(ok:Ok X.K G H0 W env σ H)(h:LsOk X.K H (Ow G W) l vs)(h':LsOk X.K H (Ow G W) l' vs')(r:Reps X.K H (Ow G W) ds vs)(I:Reps X.K H (Ow G W) es vs'):z0y X.K G (Itz X.K l l') W H (zipD ds es) where
 go:=λW' H' i d st e=>by
  obtain⟨j,k,b,c,rfl⟩:=zq9 _ _ _ _ e;obtain⟨v1,J,f⟩:=(ok.reps st r).get b;obtain⟨v2,R,g⟩:=(ok.reps st I).get c;have U:=(ok.lsstep st h).sq;have Y:=(ok.lsstep st h').sq;refine⟨⟨vs,vs',v1,v2,U,Y,J,R⟩,λx H'' ⟨t,us,hn,ex,eH,y1,y2,eu,hy1,hy2⟩=>?_⟩;subst ex eH eu;have Z:=hy1 vs U;have a:=hy2 vs' Y;rw[J] at Z;cases Z;rw[R] at a;cases a;exact⟨vz hn,zun (.cons f (.cons g .nil)) hn⟩
 stop:=λW' H' st=>⟨vs,vs',(ok.lsstep st h).sq,(ok.lsstep st h').sq,by rw[zra,r.length,I.length]⟩
variable{tg:Expr}
def zxc(J:PI X tg e (z4k X.K c (tDA X.K G H0 F))):DJx X G H0 tg e (i5 (iEn c) F):=⟨J.imp λσ H R U=>by
 obtain⟨W,env,ds,env',ok,q,k⟩:=U;cases e1:F env with
 | none=>simp[e1] at q
 | some z =>
   obtain⟨as,D⟩:=z;cases e2:iEn c as with
   | none=>rw[i5,e1] at q;simp only[ac,e2] at q;cases q
   | some d' =>
     have q:some (d',D)=some (ds,env'):=by rw[i5,e1] at q;simp only[ac,e2] at q;exact q
     cases q;refine⟨W,env,as,_,ok,e1,λW1 vs H1 V I p1=>?_⟩;unfold iEn at e2;split at e2
     ·rename_i xs
      cases e2;obtain⟨v,rfl,Y⟩:=ql p1;obtain⟨l,us,rfl,h,r⟩:=Y.lst_;exact⟨l,us,rfl,h.sq,k W1 _ H1 V I (zuo c I h r)⟩
     ·cases e2⟩
def zxd(I:DAx X G H0 [a] F)(J:Bn X "enumerate":=by walk_at "b")(R:starEach [a] X.env=(false,eval a X.env)::starEach [] X.env:=by rfl)(D:(backTo pos (starEach [a] X.env)).any (·.1)=false:=by rfl) :
  DJx X G H0 (.Tuple es k p1) (.Call (.Name "enumerate" p) [a] [⟨some "start",.Constant (.int 1) j p2,kp⟩] pos) (i5 (iEn 1) F):=zxc (zxa J I.out R D)
def z4m(V:DAx X G H0 [a,b] F)(Y:Bn X "zip":=by walk_at "b")(Z:starEach [a,b] X.env=[(false,eval a X.env),(false,eval b X.env)]:=by rfl)(J:starEach [b] X.env=[(false,eval b X.env)]:=by rfl) :
  DJx X G H0 (.Tuple es k p1) (.Call (.Name "zip" p) [a,b] [] pos) (i5 iZp F):=⟨(z4l Y V.out Z J).imp λσ H R c=>by
 obtain⟨W,env,ds,env',ok,q,k⟩:=c;cases e1:F env with
 | none=>simp[e1] at q
 | some z =>
   obtain⟨as,D⟩:=z;cases e2:iZp as with
   | none=>rw[i5,e1] at q;simp only[ac,e2] at q;cases q
   | some d' =>
     have q:some (d',D)=some (ds,env'):=by rw[i5,e1] at q;simp only[ac,e2] at q;exact q
     cases q;refine⟨W,env,as,_,ok,e1,λW1 vs H1 d I p1=>?_⟩;unfold iZp at e2;split at e2
     ·rename_i xs ys
      cases e2;obtain⟨v,i,rfl,e,f⟩:=z35 p1;obtain⟨l,us,rfl,h,r⟩:=e.lst_;obtain⟨l',U,rfl,h',g⟩:=f.lst_;exact⟨l,l',us,U,rfl,h.sq,h'.sq,k W1 _ H1 d I (zxb I h h' r g)⟩
     ·cases e2⟩
def zxe{env0:DE0}{z:Int}(h:fVar i env=some (.int z,env0)):env[i]?=some (some (.sh (.int z)))/\env0=env:=by
 unfold fVar at h;split at h
 ·rename_i d D
  cases h;exact⟨D,rfl⟩
 all_goals cases h
variable{op:D->D->k9}
def z6p(V:∀D I d,op D I=some d->∃u v,D=.int u/\I=.int v/\d=.int (o u v)):∀Dn σ H,tDS X G H0 (sSet i (fBin op (fVar i) f)) Dn σ H->tAug i (tD X.K G H0 f) (ipI o) Dn σ H :=
 λDn σ H Y=>by
 obtain⟨W,env,fl,env',ok,q,k⟩:=Y;unfold sSet fBin at q;cases e0:fVar i env with
 | none=>rw[e0] at q;cases q
 | some r0 =>
   obtain⟨Z,env0⟩:=r0;rw[e0,ac] at q;cases e1:f env0 with
   | none=>rw[e1] at q;cases q
   | some J =>
     obtain⟨D,U⟩:=J;rw[e1,ac] at q;cases e2:op Z D with
     | none=>rw[e2] at q;cases q
     | some I =>
       rw[e2] at q;cases q;obtain⟨u,v,rfl,rfl,rfl⟩:=V _ _ _ e2;obtain⟨a,rfl⟩:=zxe e0;obtain⟨y,b,c⟩:=ok.slot i _ a;refine⟨y,b,W,env0,_,_,ok,e1,λW1 v1 H1 e R J=>⟨u,v,Rep.int_ c,J.int_,k W1 _ H1 e (R.set (.int _))⟩⟩
def zup(I:Tos Nn X)(J:DEx X G H0 e f)(D:Nn[i]?=some x:=by rfl) :
  DSx X G H0 (.AugAssign (.Name x p') .Add e pos) (sSet i (fBin ja (fVar i) f)):=⟨(z2x (I.t D).nd (I.t D).n (I.t D).l J.out zyu (I.t D).f).imp (z6p λR U d h=>by
 cases R <;> try (cases h;done)
 all_goals cases U <;> first | (cases h;done) | exact⟨_,_,rfl,rfl,(bh h).symm⟩)⟩
def z4n:V->V->Hp->VK->Prop:=λo i H Q=>∃l xs k v,o=.ref l/\i=.int k/\H l=some (.lst xs)/\0<=k/\xs[k.toNat]?=some v/\Q v H
theorem zrb:PGet X z4n:=by
 intro pins s σ H o i Z a Q I ro R h;obtain⟨l,xs,k,v,rfl,rfl,U,V,J,q⟩:=h;cases ro;obtain⟨t,rfl⟩:=R;obtain⟨its,r,pl,b⟩:=I.list (.inl (.inl U));obtain⟨w,Y,D⟩:=r.get J;have c:=(aj.mp J).1;have d:=xp;exact wpAny_getItem_list pl.isList V (by lia) (by simpa using Y) ⟨v,H,I,D,q⟩
def zxf(i:Nat)(op:D->D->k9)(k:Int)(d v:D)(e:DE0):Option (Fl×DE0):=match e[i]? with
 | some (some (.ow ds))=>if k.toNat<ds.length then(op d v).map λr=>(.nx,e.set i (some (.ow (ds.set k.toNat r)))) else none
 | _=>none
def uh(i:Nat)(op:D->D->k9)(R U:FE):FS:=λe=>match e[i]? with
 | some (some (.ow _))=>(R e).bind λI=>match I.1,I.2[i]? with
   | .int k,some (some (.ow ds))=>if 0<=k then(ds[k.toNat]?).bind λd=>(U I.2).bind λJ=>zxf i op k d J.1 J.2 else none
   | _,_=>none
 | _=>none
theorem zzc(y:∀r s d,op r s=some d->∃u v,r=.int u/\s=.int v/\d=.int (o u v)) :
  ∀Dn σ H,tDS X G H0 (uh i op g f) Dn σ H->z2y (tVar i) (tD X.K G H0 g) (tD X.K G H0 f) z4n (ipI o) z3j Dn σ H:=λDn σ H z=>by
 obtain⟨W,env,fl,env',ok,q,k⟩:=z;unfold uh at q;split at q;case h_2=>cases q
 rename_i A b;obtain⟨v,Z,l,B,rfl,C,E,_⟩:=ok.slot i _ b;cases e1:g env with
 | none=>rw[e1] at q;cases q
 | some a =>
 obtain⟨dk,I⟩:=a;rw[e1,ac] at q;dsimp only at q;split at q;case h_2=>cases q
 rename_i kk ds F;split at q;case isFalse=>cases q
 rename_i J;cases e2:ds[kk.toNat]? with
 | none=>rw[e2] at q;cases q
 | some dd =>
 rw[e2,ac] at q;cases e3:f I with
 | none=>rw[e3] at q;cases q
 | some r3 =>
 obtain⟨L,t⟩:=r3;rw[e3,ac] at q;unfold zxf at q;split at q;case h_2=>cases q
 rename_i M R;split at q;case isFalse=>cases q
 cases e4:op dd L with
 | none=>rw[e4] at q;cases q
 | some dr =>
 rw[e4] at q;cases q;obtain⟨u,w,rfl,rfl,rfl⟩:=y _ _ _ e4;refine⟨_,Z,W,env,_,_,ok,e1,λW1 v1 H1 N U a=>?_⟩;obtain⟨O,D,l',c,P,Q,e,h⟩:=U.slot i _ F;rw[Z] at D;cases D;cases P;obtain⟨S,j,m⟩:=h.get e2;refine⟨l,c,kk,S,rfl,a.int_,e,J,j,W1,I,_,_,U,e3,λT v2 H2 s2 V r2=>?_⟩;refine⟨u,w,m.int_,r2.int_,?_⟩;obtain⟨O,D,l',n,e6,aa,p,Y⟩:=V.slot i _ R;rw[Z] at D;cases D;cases e6;obtain⟨t1,t2⟩:=V.turn R Z (Reps.set (.int (o u w)) kk.toNat Y);have x:=Y.length;refine⟨l,n,kk,kk.toNat,rfl,a.int_,p,?_,k T _ _ ((N.trans s2).trans t2) t1⟩;unfold ixN;rw[if_pos J,if_pos (by lia)]
def zxg(R:DEx X G H0 b g)(U:DEx X G H0 e f)(an:Ats Nn Cn X)(J:Nn[i]?=some x:=by rfl)(V:∀D I new,augStore b D I new=(do holding [new,D,I] (setItem D I new);release [new,D,I] [];pure .next):=by intros;rfl) :
  DSx X G H0 (.AugAssign (.Subscript (.Name x p') b p1) .Add e pos) (uh i ja g f):=⟨(ztf ((an.a J).pe) R.out zrb U.out zyu ya V).imp (zzc λY Z d h=>by
 cases Y <;> try (cases h;done)
 all_goals cases Z <;> first | (cases h;done) | exact⟨_,_,rfl,rfl,(bh h).symm⟩)⟩
def zxh(R:DEx X G H0 b g)(U:DEx X G H0 e f)(an:Ats Nn Cn X)(J:Nn[i]?=some x:=by rfl)(V:∀D I new,augStore b D I new=(do holding [new,D,I] (setItem D I new);release [new,D,I] [];pure .next):=by intros;rfl) :
  DSx X G H0 (.AugAssign (.Subscript (.Name x p') b p1) .Sub e pos) (uh i dSub g f):=⟨(ztf ((an.a J).pe) R.out zrb U.out z2z ya V).imp (zzc λY Z d h=>by
 cases Y <;> try (cases h;done)
 all_goals cases Z <;> first | (cases h;done) | exact⟨_,_,rfl,rfl,(bh h).symm⟩)⟩
def z04(I:k8)(e:DE0)(i:Nat):Option (D×DE0):=match e[i]? with
 | some (some (.ow ds))=>if Few (ds.length+I.length) then some (.non,e.set i (some (.ow (ds++I)))) else none
 | _=>none
def zng(i:Nat)(F:FA):FE:=λe=>match e[i]? with
 | some (some (.ow _))=>(F e).bind λr=>z04 r.1 r.2 i
 | _=>none
def zuq(j:DFx X G H0 a F)(an:Ats Nn Cn X)(Y:Nn[i]?=some x:=by rfl)(D:attributeBase (.Name x p') "extend" X.env (eval (.Name x p') X.env)=eval (.Name x p') X.env:=by rfl)(J:((backTo pos (starEach [a] X.env)).all (λx=>!x.1) && (backToKw pos (keywordEach [] X.env)).all (λx=>x.1.isSome)
   && decide ([a].length+([]:List Keyword).length+(if ([]:List Keyword).isEmpty then 0 else 1)<30))=true:=by rfl)(I:(p1.endLine==pos.line)=true:=by rfl)(e:starEach [a] X.env=(false,eval a X.env)::starEach [] X.env:=by rfl) :
  DEx X G H0 (.Call (.Attribute (.Name x p') "extend" p1) [a] [] pos) (zng i F):=⟨(y9 ff PySem.F.slot_list_extend PySem.F.type_list_extend ztw ((an.a Y).pe) (mr j.out o5 e) D J I e rfl).imp λσ H Q m=>by
 obtain⟨W,env,d,env',ok,q,k⟩:=m;unfold zng at q;split at q;case h_2=>cases q
 rename_i o Z;obtain⟨v,b,l,p,rfl,s,c,_⟩:=ok.slot i _ Z;cases e1:F env with
 | none=>rw[e1] at q;cases q
 | some r =>
   obtain⟨t,R⟩:=r;rw[e1,ac] at q;unfold z04 at q;split at q;case h_2=>cases q
   rename_i ds f;split at q;case isFalse=>cases q
   rename_i U;cases q;refine⟨_,b,.inl ⟨rfl,_,.inl (.inl c)⟩,W,env,t,R,ok,e1,λW1 n us H1 u w V E y g=>?_⟩;obtain⟨K,h,l',vs,z,L,A,r⟩:=V.slot i _ f;rw[b] at h;cases h;cases z;obtain⟨B,C⟩:=V.turn f b (r.append g);refine⟨l,n,vs,us,rfl,rfl,A,y,?_,k _ _ _ (u.trans C) B .non⟩;rw[<-r.length,<-g.length];exact df U (by rw[sizeLine_eq];decide)⟩
def z05:D->Bool | .tup _=>false | .lst _=>false | .dct _ _=>false | _=>true
def Rep.atom{I:kf}{O':Addr->Prop}{d:D}(r:Rep K H O d v)(h:z05 d=true):Rep I H' O' d v:=by
 cases r with
 | non=>exact .non
 | bl b=>exact .bl b
 | int i=>exact .int i
 | str s=>exact .str s
 | tup _ _=>cases h
 | lst _ _ _=>cases h
 | klst _ _=>cases h
 | dct _ _=>cases h
 | exc a=>exact .exc a
structure z6q (K:kf) (G:Gd) (J:It) (W:Addr->Prop) (H:Hp) (ds:k8):Prop where
 go:∀H' (i:Nat) d,Same H H'->ds[i]?=some d->J.go i H'/\∀x H'',J.yld i H' x H''->H''=H'/\Rep K H' (Ow G W) d x
 stop:∀H',Same H H'->J.stop ds.length H'
def tDC(K:kf)(G:Gd)(H0:Hp)(f:FI):TI:=λσ H R=>DP K G H0 f (λW env ds env' =>
 ∀W' J H',Step W H W' H'->Ok K G H0 W' env' σ H'->z6q K G J W' H' ds->R J H') σ H
structure DCx (X:Cx) (G:Gd) (H0:Hp) (tg:Expr) (e:Expr) (f:FI):Prop where
 out:PI X tg e (tDC X.K G H0 f)
def fiV(i:Nat):FI:=λe=>match e[i]? with
 | some (some (.ow ds))=>some (ds,e)
 | some (some (.sh (.lst ds)))=>some (ds,e)
 | _=>none
def zzd(an:Ats Nn Cn X)(I:Nn[i]?=some x:=by rfl):DCx X G H0 tg (.Name x p1) (fiV i):=⟨(zth ((an.a I).pe)).imp λσ H R b=>by
 obtain⟨W,env,ds,env',ok,q,k⟩:=b;unfold fiV at q;split at q
 ·rename_i ds' J
  cases q;obtain⟨v,U,l,vs,rfl,f,V,r⟩:=ok.slot i _ J;refine⟨_,U,l,rfl,⟨vs,.inl (.inl V)⟩,k W _ H Step.refl ok ⟨λH' j d sm e=>?_,λH' sm=>⟨vs,.inl (.inl (sm _ _ V)),by rw[r.length];exact b7 _⟩⟩⟩;obtain⟨w,Y,c⟩:=(ok.reps (Step.same sm) r).get e;have D:SqL X.K H' l vs:=.inl (.inl (sm _ _ V));exact⟨⟨vs,w,D,Y⟩,λy H'' ⟨e3,z⟩=>⟨e3,by have:=z vs D;rw[Y] at this;cases this;exact c⟩⟩
 ·rename_i ds' J
  cases q;obtain⟨v,U,r⟩:=ok.slot i _ J;obtain⟨l,vs,rfl,h,r⟩:=Rep.lst_ r;have Z:=zot ok h r;exact⟨_,U,l,rfl,⟨vs,h.sq⟩,k W _ H Step.refl ok ⟨λH' j d sm e=>Z.go W H' j d (Step.same sm) e,λH' sm=>Z.stop W H' (Step.same sm)⟩⟩
 ·cases q⟩
theorem zze{te:FE}:∀σ H Q,tDF X.K G H0 (ip fi ix tt te) σ H Q->wz (tDC X.K G H0 fi) ix (tDxT X.K tt) (tDx X.K te) σ H Q:=λσ H Q A=>by
 obtain⟨W,env,d,env',ok,q,k⟩:=A;cases e1:fi env with
 | none=>simp[ip,e1] at q
 | some z =>
   obtain⟨ds,Y⟩:=z;by_cases f:Few ds.length
   ·simp only[ip,e1,ac,if_pos f] at q
    cases e2:m8 tt te (ix.map λj=>capt (Y.getD j none)) ds with
    | none=>rw[e2] at q;cases q
    | some outs =>
      rw[e2] at q;cases q;refine⟨W,env,ds,_,ok,e1,λW1 J H1 B g t=>?_⟩;refine⟨λi m H' ys=>∃rest D,m=ds.length-i/\i<=ds.length/\Same H1 H'/\Reps X.K H' (Ow G W1) D ys/\D.length<=i/\m8 tt te (ix.map λj=>capt (env'.getD j none)) (ds.drop i)=some rest/\d=D++rest,⟨ds.length,d,[],rfl,gp _,Same.refl _,.nil,b7 _,e2,rfl⟩,?_⟩;rintro i m H' ys ⟨rest,D,rfl,hi,sm,rp,hd,ec,rfl⟩;have st:Step W1 H1 W1 H':=Step.same sm;have I:Ok X.K G H0 W1 env' σ H':=g.same sm;by_cases U:i<ds.length
      ·have C:ds.drop i=ds[i]::ds.drop (i+1):=fm U
       rw[C] at ec;obtain⟨E,F⟩:=t.go H' i ds[i] sm (by simp[U]);refine .inr ⟨E,λx n y=>?_⟩;obtain⟨rfl,L⟩:=F x n y;have p:=zm9 (ix:=ix) I L;unfold m8 at ec;cases e3:tt (some (.sh ds[i])::ix.map λj=>capt (env'.getD j none)) with
       | none=>rw[e3] at ec;cases ec
       | some bb =>
         obtain⟨b,R⟩:=bb;rw[e3,ac] at ec;refine⟨_,_,NoW,_,b,R,p,e3,λM H2 s2 V=>?_⟩;have r:Same H1 H2:=sm.trans V.stay;have s:Reps X.K H2 (Ow G W1) D ys:=I.reps (Step.same V.stay) rp;cases b with
         | false =>
           exact⟨ds.length-(i+1),by lia,rest,D,rfl,U,r,s,by lia,ec,rfl⟩
         | true =>
           cases e4:te R with
           | none=>simp only[e4] at ec;cases ec
           | some vv =>
             obtain⟨u,Z⟩:=vv;simp only[e4,ac] at ec;cases e5:m8 tt te (ix.map λj=>capt (env'.getD j none)) (ds.drop (i+1)) with
             | none=>rw[e5] at ec;cases ec
             | some rest' =>
               rw[e5] at ec;cases ec;refine⟨_,_,M,R,u,Z,V,e4,λW3 v H3 s3 c r3=>⟨?_,ds.length-(i+1),by lia,rest',D++[u],rfl,U,sm.trans c.stay,?_,by rw[ao,jm];lia,by first | exact e5 | rfl,by simp⟩⟩
               ·have:ys.length<2 ^ 20:=by rw[<-rp.length];have:ds.length<=2 ^ 20:=f;lia
                exact bc this (by rw[sizeLine_eq];decide)
               ·refine(I.reps (Step.same c.stay) rp).append (.cons (r3.mono (λ_ _ h=>h) λa us o h=>⟨?_,h⟩) .nil)
                rcases o.1 with z | z
                ·exact z
                ·exact⟨I.good a (I.stay.free z),λw=>by obtain⟨_,us,q⟩:=I.wl a w;rw[z] at q;cases q⟩
      ·have e:i=ds.length:=by lia
       subst e;rw[kx] at ec;cases ec;refine .inl ⟨t.stop H' sm,by rw[<-rp.length];exact df hd (df f (by rw[sizeLine_eq];decide)),λl N=>?_⟩;obtain⟨h1,h2,O,P,S,T⟩:=uj I rp N;rw[de] at k;exact k W1 l _ _ ((B.trans st).trans h1) h2 O P S T
   ·simp only[ip,e1,ac,if_neg f] at q;cases q
section
variable {X:Cx} {G:Gd} {H0:Hp} {a b c e:Expr} {es rest:ik} {f g:FE} {F:FA} {u:FS} {pos p' p1 pos1:Pos} {x:Str} {i:Nat}
def zxi{Nn Cn:g7}{ix:h8}{sc:Scope}{px:Pos}{fi:FI}{te:FE}(an:Ats Nn Cn X)(hi:DCx X G H0 (.Name x px) a fi)(I:∀cl C s₂ H₂ fp G H0,Ats (x::(subN Nn ix)) (subN Nn ix) (i7 X x (subN Nn ix) sc cl C s₂ H₂ fp)->DEx (i7 X x (subN Nn ix) sc cl C s₂ H₂ fp) G H0 e te)(D:pi Nn Cn ix x sc=true:=by decide +kernel)(J:X.calm=true:=by rfl)(R:∀v,foldedSetIterable a X.env v=pure v:=by intro _;rfl) :
  DFx X G H0 (.ListComp e [⟨.Name x px,a,[],0⟩] sc pos) (ip fi ix fYes te) :=
 ⟨(zm3 (uv an D) (λ_ _ _ _ _ _ _ _ _=>J) hi.out (λcl C s₂ H₂ fp _=>ww (X:=X) rfl) (λcl C s₂ H₂ fp _=>el_x (X:=X) rfl (λG H0=>I cl C s₂ H₂ fp G H0 (rd D))) R).imp zze⟩
def zxj{Nn Cn:g7}{y:Str}{ix:h8}{sc:Scope}{px py spos:Pos}{fi:FI}{te:FE}(an:Ats Nn Cn X)(R:Tos Nn X)(hi:DCx X G H0 (.Name x px) a fi)(U:∀cl C s₂ H₂ fp G H0,Ats (x::(subN Nn ix)) (subN Nn ix) (i7 X x (subN Nn ix) sc cl C s₂ H₂ fp)->DEx (i7 X x (subN Nn ix) sc cl C s₂ H₂ fp) G H0 e te)(J:pi Nn Cn ix x sc=true:=by decide +kernel)(Y:X.calm=true:=by rfl)(I:Nn[i]?=some y:=by rfl)(V:swapsWith (.ListComp e [⟨.Name x px,a,[],0⟩] sc pos) (some (.Name y py)) spos.line X.env=pure true:=by rfl)(Z:∀v,foldedSetIterable a X.env v=pure v:=by intro _;rfl) :
  PS X (.Assign [.Name y py] (.ListComp e [⟨.Name x px,a,[],0⟩] sc pos) spos) (tAsg (tDF X.K G H0 (ip fi ix fYes te)) (m3 i)) :=
 (zm4 (uv an J) (λ_ _ _ _ _ _ _ _ _=>Y) (R.t I).nd (R.t I).n (R.t I).l hi.out (λcl C s₂ H₂ fp _=>ww (X:=X) rfl) (λcl C s₂ H₂ fp _=>el_x (X:=X) rfl (λG H0=>U cl C s₂ H₂ fp G H0 (rd J))) V (R.t I).f Z).imp λD σ H h=>zze σ H _ h
def zxk(i:Nat):FE:=λe=>match e[i]? with
 | some (some (.ow ds))=>(ints? ds).map λD=>(.int D.sum,e)
 | some (some (.sh (.lst ds)))=>(ints? ds).map λD=>(.int D.sum,e)
 | _=>none
def z06{Nn Cn:g7}{i:Nat}(an:Ats Nn Cn X)(V:X.calm=true:=by rfl)(R:Bn X "sum":=by walk_at "b")(D:Nn[i]?=some x:=by rfl)(U:starEach [.Name x p1] X.env=(false,eval (.Name x p1) X.env)::starEach [] X.env:=by rfl):DEx X G H0 (.Call (.Name "sum" p') [.Name x p1] [] pos) (zxk i) :=
 ⟨(x0 (zos V) R.g R.m boot_sum (mr ((an.a D).pe) o5 U) (by decide) (by decide) U rfl).imp λσ H Q Y=>by
  obtain⟨W,env,d,env',ok,q,k⟩:=Y;unfold zxk at q;split at q
  ·rename_i ds I
   cases e2:ints? ds with
   | none=>rw[e2] at q;cases q
   | some ns =>
   rw[e2] at q;cases q;cases zky e2;obtain⟨v,J,l,vs,rfl,b,Z,r⟩:=ok.slot i _ I;cases zjp r;exact⟨_,J,l,ns,rfl,.inl (.inl Z),k W _ H Step.refl ok (.int _)⟩
  ·rename_i ds I
   cases e2:ints? ds with
   | none=>rw[e2] at q;cases q
   | some ns =>
   rw[e2] at q;cases q;cases zky e2;obtain⟨v,J,r⟩:=ok.slot i _ I;obtain⟨l,us,rfl,h,r⟩:=Rep.lst_ r;cases zjp r;exact⟨_,J,l,ns,rfl,h.sq,k W _ H Step.refl ok (.int _)⟩
  ·cases q⟩
def tDL(K:kf)(G:Gd)(H0:Hp)(f:FA):TA:=λσ H Q=>DP K G H0 f (λW env ds env' =>
 ∀W' vs H',Step W H W' H'->Ok K G H0 W' env' σ H'->Reps K H' G ds vs->Q vs H') σ H
structure DLx (X:Cx) (G:Gd) (H0:Hp) (es:ik) (f:FA):Prop where
 out:PA X es (tDL X.K G H0 f)
def z6r(h:DAx X G H0 es F):DLx X G H0 es F:=⟨h.out.imp λσ H Q ⟨W,env,ds,env',ok,q,k⟩ =>
 ⟨W,env,ds,env',ok,q,λW' vs H' st D r=>k W' vs H' st D (r.mono (λ_ _ h=>h) λa us o h=>⟨o.1,h⟩)⟩⟩
def zxl(i:Nat)(F:FA):FA:=λe=>match e[i]? with
 | some (some (.ow _))=>(F e).bind λq=>match q.2[i]? with | some (some (.ow ds))=>some (.lst ds::q.1,q.2) | _=>none
 | _=>none
def z07{Nn Cn:g7}{i:Nat}(b:DLx X G H0 es F)(an:Ats Nn Cn X)(I:Nn[i]?=some x:=by rfl)(c:starEach (.Name x p1::es) X.env=(false,eval (.Name x p1) X.env)::starEach es X.env:=by rfl):DLx X G H0 (.Name x p1::es) (zxl i F) :=
 ⟨(mr ((an.a I).pe) b.out c).imp λσ H Q d=>by
  obtain⟨W,env,ds,env',ok,q,k⟩:=d;unfold zxl at q;split at q;case h_2=>cases q
  rename_i e J;obtain⟨v,V,l,f,rfl,g,j,_⟩:=ok.slot i _ J;cases e1:F env with
  | none=>rw[e1] at q;cases q
  | some r =>
    obtain⟨R,Y⟩:=r;rw[e1,ac] at q;split at q;case h_2=>cases q
    rename_i m U;cases q;refine⟨_,V,W,env,R,_,ok,e1,λW1 vs H1 n D p=>?_⟩;obtain⟨z,Z,l',s,t,u,w,y⟩:=D.slot i _ U;rw[V] at Z;cases Z;cases t;exact k W1 _ H1 n D (.cons (.lst (D.good l (D.wl l u).1) (.inl w) (y.mono (λ_ _ h=>h) λa us o h=>⟨o.1,h⟩)) p)⟩
def zb(m:k8->k9)(F:FA):FE:=λe=>(F e).bind λr=>(m r.1).bind λd=>if z05 d=true then some (d,r.2) else none
variable {CX:CXT} {k:Nat} {fa:Addr} {fd:FuncData} {ps:g7} {m:k8->k9} {E:XK}
def z4o:∀σ H Q,tD X.K G H0 (zb m F) σ H Q->za (dSp X.K m) [] E (tDL X.K G H0 F) σ H Q:=λσ H Q R=>by
 obtain⟨W,env,d,env',ok,q,k⟩:=R;unfold zb at q;cases e1:F env with
 | none=>rw[e1] at q;cases q
 | some r =>
   obtain⟨ds,J⟩:=r;rw[e1,ac] at q;cases e2:m ds with
   | none=>rw[e2] at q;cases q
   | some d' =>
     rw[e2,ac] at q;split at q;case isFalse=>cases q
     rename_i D;cases q;refine⟨W,env,ds,_,ok,e1,λW1 vs H1 U I p1=>?_⟩;show dSp X.K m (vs++[]) H1 Q E;rw[de];exact⟨G,ds,_,p1,e2,λv H2 sm V=>k W1 v H2 (U.trans (Step.same sm)) (I.same sm) (V.atom D)⟩
def zxm{jr:Nat}(c:Cal X.prog X.w X.K X.mg X.base CX0 x k (dSp X.K m))(R:Room jr X.A)(U:DLx X G H0 (e::es) F)(D:k<=jr:=by decide)(V:Gl X x:=by walk_at "g")(Y:starEach (e::es) X.env=(false,eval e X.env)::starEach es X.env:=by rfl)(I:(backTo pos (starEach es X.env)).any (·.1)=false:=by rfl) :
  DEx X G H0 (.Call (.Name x p') (e::es) [] pos) (zb m F):=let ⟨_,_,_,Z,a,b,d,J⟩:=c;⟨(zmy Z (R.mono D) V a b d .nil zwm U.out J Y I).imp z4o⟩
end
section
variable {X:Cx} {G:Gd} {H0:Hp} {a b c e:Expr} {es rest:ik} {f g:FE} {F:FA} {pos p' p1 pos1:Pos} {x:Str} {i:Nat}
end
variable{xs:g7}
def gl_p(h:sc.names.lookup x=some .globalImplicit):Gl (z0p X xs N' sc cl C s H fp) x:=zdy h
section
variable (P:Program) (w:World)
end
section
variable {X:Cx}
variable {a b:Expr} {ta tb:TE} {pos:Pos}
variable {tA tB':TT} {rest:ik}
end
section
variable {X:Cx} {st:Stmt} {rest:List Stmt} {t u:TS} {e:Expr} {te:TE} {pos:Pos}
end
section
variable {X:Cx} {CX:CXT} {k:Nat} {f C:Addr} {fd:FuncData} {ps ks:g7} {sp:Sp} {E:XK} {x m:Str} {p pos apos kpos:Pos} {e o:Expr} {es:ik} {kws:List Keyword} {te ta:TE} {t tk:TA} {nm:ka}
variable {g:g8->g8->g8} {gV:k7->k7->k7}
end
section
variable {κ:Type} [DecidableEq κ]
end
structure M1 (X:Cx) (o:Expr) (m:Str) (apos:Pos) (e:Expr) (cpos:Pos):Prop where
 base:attributeBase o m X.env (eval o X.env)=eval o X.env
 few:((backTo cpos (starEach [e] X.env)).all (λx=>!x.1) && (backToKw cpos (keywordEach [] X.env)).all (λx=>x.1.isSome)
  && decide (([e]:ik).length+([]:List Keyword).length+(if ([]:List Keyword).isEmpty then 0 else 1)<30))=true
 line:(apos.endLine==cpos.line)=true
 trees:backTo cpos (starEach [e] X.env)=[(false,eval e X.env)]
structure M2 (X:Cx) (o:Expr) (m:Str) (apos:Pos) (e f:Expr) (cpos:Pos):Prop where
 base:attributeBase o m X.env (eval o X.env)=eval o X.env
 few:((backTo cpos (starEach [e,f] X.env)).all (λx=>!x.1) && (backToKw cpos (keywordEach [] X.env)).all (λx=>x.1.isSome)
  && decide (([e,f]:ik).length+([]:List Keyword).length+(if ([]:List Keyword).isEmpty then 0 else 1)<30))=true
 line:(apos.endLine==cpos.line)=true
 trees:backTo cpos (starEach [e,f] X.env)=[(false,eval e X.env),(false,eval f X.env)]
end L2
namespace Att
open PySem PySem.W PySem.Calls PyProof.Rows
end Att
namespace L2
open PySem PySem.Spec PyProof.Rows
section
variable {κ:Type} [DecidableEq κ]
end
section
variable {X:Cx} {G:Gd} {H0:Hp} {a b c e:Expr} {es rest:ik} {f g:FE} {F:FA} {pos p' p1 pos1:Pos} {x:Str} {i:Nat}
end
section
variable {X:Cx} {G:Gd} {H0:Hp} {a b c e:Expr} {es rest:ik} {f g:FE} {F:FA} {pos p' p1 pos1:Pos} {x:Str} {i:Nat}
end
section
variable {X:Cx} {G:Gd} {H0:Hp} {a b c e:Expr} {es rest:ik} {f g:FE} {F:FA} {pos p' p1 pos1:Pos} {x:Str} {i:Nat}
end
end L2
namespace L2
open PySem
theorem zrc{i:Nat}{g:FS}(P:Nat->DE0->Prop):∀(ds:k8) (e:DE0) (n:Nat),P n e->(∀(k:Nat) (d:D) (e:DE0),ds[k]?=some d->P (n+k) e->∃e',g (e.set i (some (.sh d)))=some (.nx,e')/\P (n+k+1) e') ->
  ∃e',forL i g ds e=some (.nx,e')/\P (n+ds.length) e'
 | [],e,n,h,_=>⟨e,rfl,h⟩
 | d::r,e,n,h,hs=>by
   obtain⟨I,h1,p1⟩:=hs 0 d e rfl h;obtain⟨J,h2,p2⟩:=zrc P r I (n+1) p1 λk d' e' R U=>by
    have:=hs (k+1) d' e' (by simpa using R) (by rw[<-Nat.add_assoc,Nat.add_right_comm];exact U);rw[show n+(k+1)+1=n+1+k+1 by lia] at this;exact this
   refine⟨J,?_,by rw[am,show n+(r.length+1)=n+1+r.length by lia];exact p2⟩;simp[forL,h1,h2]
variable{i:Int}{g:FS}
def tu{i:Nat}(P:Nat->DE0->Prop)(ds:k8)(e:DE0)(h:P 0 e)(I:∀(k:Nat) (d:D) (e:DE0),ds[k]?=some d->P k e->∃e',g (e.set i (some (.sh d)))=some (.nx,e')/\P (k+1) e') :
  ∃e',forL i g ds e=some (.nx,e')/\P ds.length e':=by
 obtain⟨e',h1,h2⟩:=zrc P ds e 0 h λk d e J R=>by
  obtain⟨e',U,V⟩:=I k d e J (by simpa using R);exact⟨e',U,by simpa using V⟩
 exact⟨e',h1,by simpa using h2⟩
variable{lo:Int}{n:Nat}{d:D}
def tj{k:Nat}(h:(rngD lo n)[k]?=some d):d=.int (lo+k)/\k<n:=by
 unfold rngD at h;rw[bu] at h;by_cases D:k<n
 ·rw[mz D] at h
  exact⟨(bh h).symm,D⟩
 ·rw[cz (by simpa using D)] at h;cases h
def tx:(rngD lo n).length=n:=by simp[rngD]
theorem u4(h:-1000000000000<i/\i<1000000000000):ml i:=⟨by lia,by lia⟩
variable{α:Type}
theorem z4p{xs:List α}(I:0<=i)(h1:i<xs.length):∃x,atI xs i=some x/\xs[i.toNat]?=some x:=by
 have D:i.toNat<xs.length:=by lia
 exact⟨xs[i.toNat],by unfold atI ixN;rw[if_pos I,if_pos h1];simp[D],by simp[D]⟩
def j6{ar:Nat}{ds:k8}{e':DE0}(h:ds.length=ar)(I:g (jk n ds)=some (.rt d,e')):runD n ar g ds=some d:=by
 unfold runD;rw[if_pos h,I]
def few(h:n<=1000000):Few n:=df h (by decide)
theorem nk(n:Nat)(D:n<=1000000):iR1 [.int n]=some (rngD 0 n):=by
 unfold iR1;dsimp only;rw[if_pos (show Bnd _ _ _ from⟨by lia,by lia⟩),f8]
variable{j:Int}
def zzf(h:ml j):dMul (.int i) (.int j)=some (.int (i*j)):=by
 unfold dMul;dsimp only;rw[if_pos (.inr h)]
def xk(h:ml i):dMul (.int i) (.int j)=some (.int (i*j)):=by
 unfold dMul;dsimp only;rw[if_pos (.inl h)]
def z08(h:0<j):dMod (.int i) (.int j)=some (.int (i % j)):=by
 unfold dMod;dsimp only;rw[if_pos h]
theorem z09(h:0<j)(h2:j<1073741824):dDiv (.int i) (.int j)=some (.int (i / j)):=by
 unfold dDiv;dsimp only;rw[if_pos (show Bnd _ _ _ from⟨by lia,h2⟩)]
def nr{α:Type}{te:FE}{base:DE0}(φ ψ:α->D):∀(xs:List α),(∀x∈xs,∃e',te (some (.sh (φ x))::base)=some (ψ x,e'))->m8 fYes te base (xs.map φ)=some (xs.map ψ)
 | [],_=>rfl
 | x::xs,h=>by
   obtain⟨e',I⟩:=h x bq;have J:=nr φ ψ xs λy R=>h y (ay _ R);simp[m8,I,J]
def zk1{α:Type}{tt:FT}{te:FE}{base:DE0}(φ ψ:α->D)(p:α->Bool):∀(xs:List α),(∀x∈xs,∃I,tt (some (.sh (φ x))::base)=some (p x,I)/\(p x=true->∃e',te I=some (ψ x,e')))->m8 tt te base (xs.map φ)=some ((xs.filter p).map ψ)
 | [],_=>rfl
 | x::xs,h=>by
   obtain⟨I,h1,h2⟩:=h x bq;have J:=zk1 φ ψ p xs λy R=>h y (ay _ R);cases hp:p x with
   | false =>
     simp[m8,h1,J,List.filter_cons,hp]
   | true =>
     obtain⟨e',U⟩:=h2 hp;simp[m8,h1,U,J,List.filter_cons,hp]
def zj7{α:Type}{te:FA}{base:DE0}(φ:α->D)(ψ:α->k8):∀(xs:List α),(∀x∈xs,∃e',te (some (.sh (φ x))::base)=some (ψ x,e'))->zc te base (xs.map φ)=some (xs.map ψ)
 | [],_=>rfl
 | x::xs,h=>by
   obtain⟨e',I⟩:=h x bq;have J:=zj7 φ ψ xs λy R=>h y (ay _ R);simp[zc,I,J]
def z6s(a b c:D):atI [a,b,c] 0=some a:=rfl
def zxn(a b c:D):atI [a,b,c] 1=some b:=rfl
def y7(a b c:D):atI [a,b,c] 2=some c:=rfl
def z6t(a b c d:D):atI [a,b,c,d] 0=some a:=rfl
def z6u(a b c d:D):atI [a,b,c,d] 1=some b:=rfl
def z6v(a b c d:D):atI [a,b,c,d] 2=some c:=rfl
def z6w(a b c d:D):atI [a,b,c,d] 3=some d:=rfl
def zoz{α:Type}{i:Nat}{g:FS}(φ:α->D)(P:List α->DE0->Prop)(all:List α)(J:∀(p:List α) (x:α) (q:List α) (e:DE0),all=p++x::q->P p e->∃e',g (e.set i (some (.sh (φ x))))=some (.nx,e')/\P (p++[x]) e') :
  ∀(xs I:List α) (e:DE0),all=I++xs->P I e->∃e',forL i g (xs.map φ) e=some (.nx,e')/\P all e'
 | [],I,e,h,hp=>⟨e,rfl,by rw[h,de];exact hp⟩
 | x::xs,I,e,h,hp=>by
   obtain⟨R,h1,p1⟩:=J I x xs e h hp;obtain⟨U,h2,p2⟩:=zoz φ P all J xs (I++[x]) R (by rw[h];simp) p1;exact⟨U,by simp[forL,h1,h2],p2⟩
def vy{i:Nat}(φ:α->D)(P:List α->DE0->Prop)(all:List α)(e:DE0)(I:P [] e)(J:∀(p:List α) (x:α) (q:List α) (e:DE0),all=p++x::q->P p e->∃e',g (e.set i (some (.sh (φ x))))=some (.nx,e')/\P (p++[x]) e') :
  ∃e',forL i g (all.map φ) e=some (.nx,e')/\P all e':=zoz φ P all J all [] e rfl I
end L2
namespace L2
open PySem PySem.Spec PyProof.Rows PySem.W
abbrev Ag:=AK×la
abbrev ln:=List Ag
abbrev lx:=Option (D×List Ag)
def slA(x:Ag)(j:Nat):Sl:=.ag x.1 (some j) x.2
def getA(env:DE0):h8->Option ln
 | []=>some []
 | i::r=>match env[i]? with | some (some (.ag k _ ps))=>(getA env r).map λt=>(k,ps)::t | _=>none
def putA(env:DE0):h8->ln->DE0
 | i::r,x::t=>match env[i]? with | some (some (.ag _ l _))=>putA (env.set i (some (.ag x.1 l x.2))) r t | _=>putA env r t
 | _,_=>env
def ny(ags:ln):DE0:=ags.zipIdx.map λp=>some (slA p.1 p.2)
variable{env:DE0}
def vp:∀ {is:h8} {ags:ln} {j i:Nat},getA env is=some ags->is[j]?=some i->∃x l,ags[j]?=some x/\env[i]?=some (some (.ag x.1 l x.2))
 | a::r,ags,j,i,h,e=>by
   unfold getA at h;split at h
   ·rename_i k l ps q
    cases h2:getA env r with
    | none=>rw[h2] at h;cases h
    | some t =>
      rw[h2] at h;cases h;cases j with
      | zero=>simp at e;subst e;exact⟨(k,ps),l,rfl,q⟩
      | succ j=>obtain⟨x,l',D,I⟩:=vp h2 (by simpa using e);exact⟨x,l',by simpa using D,I⟩
   ·cases h
def x9:∀ {is:h8} {ags:ln},getA env is=some ags->ags.length=is.length
 | [],_,h=>by cases h;rfl
 | a::r,ags,h=>by
   unfold getA at h;split at h
   ·cases h2:getA env r with
    | none=>rw[h2] at h;cases h
    | some t=>rw[h2] at h;cases h;rw[am,am,x9 h2]
   ·cases h
def znh:∀ {is:h8} {ags:ln} {env:DE0},(putA env is ags).length=env.length
 | [],_,_=>by simp[putA]
 | a::r,[],_=>by simp[putA]
 | a::r,x::t,env=>by
   unfold putA;split
   ·rw[znh,dq]
   ·rw[znh]
def zni:∀ {is:h8} {ags:ln} {env:DE0} {i:Nat},i∉is->(putA env is ags)[i]?=env[i]?
 | [],_,_,_,_=>by simp[putA]
 | a::r,[],_,_,_=>by simp[putA]
 | a::r,x::t,env,i,h=>by
   have h1:a≠i:=λz=>h (by simp[z]);have h2:i∉r:=λz=>h (by simp[z]);unfold putA;split
   ·rw[zni h2,dc h1]
   ·rw[zni h2]
def zpy:∀ {is:h8} {ags:ln} {env:DE0} {j i:Nat} {x:Ag} {k:AK} {l:Option Nat} {ps:la},is.Nodup->is[j]?=some i->ags[j]?=some x->env[i]?=some (some (.ag k l ps))->(putA env is ags)[i]?=some (some (.ag x.1 l x.2))
 | a::r,y::t,env,j,i,x,k,l,ps,nd,e1,e2,e3=>by
   cases j with
   | zero =>
     simp at e1 e2;subst e1;subst e2;unfold putA;rw[e3];rw[zni (bw.mp nd).1,d6 (aj.mp e3).1]
   | succ j =>
     have hi:a≠i:=λz=>by subst z;exact(bw.mp nd).1 (bf (by simpa using e1))
     unfold putA;split
     ·exact zpy (bw.mp nd).2 (by simpa using e1) (by simpa using e2) (by rw[dc hi];exact e3)
     ·exact zpy (bw.mp nd).2 (by simpa using e1) (by simpa using e2) e3
variable{ags:ln}{j:Nat}{s:Stmt}
def zk2{s:Sl}(h:(ny ags)[j]?=some (some s)):∃x,ags[j]?=some x/\s=slA x j:=by
 unfold ny at h;rw[bu,List.getElem?_zipIdx] at h;cases e:ags[j]? with
 | none=>rw[e] at h;cases h
 | some x=>rw[e] at h;cases h;exact⟨x,rfl,by simp⟩
def zo0:(ny ags).length=ags.length:=by simp[ny]
def mask(H:Hp)(W:Addr->Prop):Hp:=λa=>open Classical in if W a then none else H a
variable{a:Addr}{W:Addr->Prop}{H:Hp}
def znj(h:W a):mask H W a=none:=if_pos h
def zrd(h:¬W a):mask H W a=H a:=if_neg h
variable{o:Expr}
def zo1{o:HO}(h:mask H W a=some o):¬W a/\H a=some o:=by
 by_cases z:W a
 ·rw[znj z] at h;cases h
 ·rw[zrd z] at h;exact⟨z,h⟩
def zo2(h:mask H W a=none):W a\/H a=none:=by
 by_cases z:W a
 ·exact .inl z
 ·rw[zrd z] at h;exact .inr h
def Lent(H:Hp)(env:DE0)(σ:St)(is:h8):Addr->Prop:=λa=>∃i s v,i∈is/\env[i]?=some (some s)/\σ[i]?=some (some v)/\Owns H s v a
variable{is:h8}{K:kf}{G:Gd}{H0:Hp}{σ:St}
def Ok.lentW(ok:Ok K G H0 W env σ H)(h:Lent H env σ is a):W a:=by
 obtain⟨i,s,v,_,e,I,o⟩:=h;obtain⟨J,D,q⟩:=ok.slot i s e;rw[I] at D;cases D;exact q.owns o
def su(G:Gd)(W L:Addr->Prop)(r:Nat->h7):Gd:=⟨λa=>G a/\(W a->L a),r⟩
theorem Ok.lend(ok:Ok K G H0 W env σ H)(nd:is.Nodup)(Z:getA env is=some ags) :
  ∃(r:Nat->h7) (us:k7),us.length=is.length/\(∀(j i:Nat),is[j]?=some i->∃u,us[j]?=some u/\σ[i]?=some (some u)) /\
   (∀(j i:Nat) (k:AK) (l:Option Nat) (ps:la),is[j]?=some i->env[i]?=some (some (.ag k l ps))->∃p as,us[j]?=some (.ref p)/\Lab k (r j) p as/\∀n,l=some n->Lab k (G.r n) p as) /\
   Ok K (su G W (Lent H env σ is) r) (mask H (Lent H env σ is)) (Lent H env σ is) (ny ags) (us.map some) H:=by
 have C:∀a,Lent H env σ is a->W a:=λa=>ok.lentW;have ex:∀j:Nat,∃t:h7×V,∀(i:Nat) (x:Ag) (l:Option Nat),is[j]?=some i->ags[j]?=some x->env[i]?=some (some (.ag x.1 l x.2)) ->
   σ[i]?=some (some t.2)/\∃p as us,t.2=.ref p/\Lab x.1 t.1 p as/\W p/\(p::as).Nodup/\(∀n,l=some n->Lab x.1 (G.r n) p as)/\AkOk K H x.1 p us/\PtsOk K G W H x.2 as us:=λj=>by
  cases J:is[j]? with
  | none=>exact⟨([],.non),λi x l e=>by cases e⟩
  | some i =>
    obtain⟨x,l,h1,h2⟩:=vp Z J;obtain⟨v,I,p,as,us,R,X,L,hl,E,F⟩:=ok.slot i _ h2;refine⟨(match x.1 with | .ins true _ _=>[p] | _=>p::as,v),λM N l' z1 z2 z3=>?_⟩;cases z1;rw[h1] at z2;cases z2;rw[h2] at z3;cases z3;refine⟨I,p,as,us,R,?_,X,L,hl,E,F⟩;obtain⟨k,ps⟩:=x;cases k with
    | ls=>rfl
    | ins b c fs=>cases b <;> rfl
 obtain⟨t,Y⟩:=Classical.axiomOfChoice ex;have f:=x9 Z;refine⟨λj=>(t j).1,(List.range is.length).map λj=>(t j).2,by simp,λj i e=>?_,λj i k l ps I R=>?_,?_⟩
 ·have J:=(aj.mp e).1
  obtain⟨x,l,h1,h2⟩:=vp Z e;exact⟨_,by simp[J],(Y j i x l e h1 h2).1⟩
 ·have J:=(aj.mp I).1
  obtain⟨x,l',h1,h2⟩:=vp Z I;rw[R] at h2;cases h2;obtain⟨q1,p,as,us,g,O,_,_,q4,_⟩:=Y j i x l I h1 R;exact⟨p,as,by simp[J,g],O,q4⟩
 ·have own:∀ {j i:Nat} {x:Ag} {l:Option Nat},is[j]?=some i->ags[j]?=some x->env[i]?=some (some (.ag x.1 l x.2))->∀a,Owns H (slA x j) (t j).2 a->Lent H env σ is a:=λ{j i x l} I R y a o =>
   ⟨i,_,_,bf I,y,(Y j i x l I R y).1,o⟩
  have cv:∀ {d:D} {v:V},Rep K H (Ow G W) d v->Rep K H (Ow (su G W (Lent H env σ is) λj=>(t j).1) (Lent H env σ is)) d v:=λr =>
   r.mono (λ_ _ h=>h) λa us o h=>⟨⟨⟨o.1,λz=>absurd z o.2⟩,λz=>o.2 (C a z)⟩,h⟩
  have P:∀ {d:k8} {v:k7},Reps K H (Ow G W) d v->Reps K H (Ow (su G W (Lent H env σ is) λj=>(t j).1) (Lent H env σ is)) d v:=λr =>
   r.mono (λ_ _ h=>h) λa us o h=>⟨⟨⟨o.1,λz=>absurd z o.2⟩,λz=>o.2 (C a z)⟩,h⟩
  have pos:∀ {j:Nat} {s:Sl},(ny ags)[j]?=some (some s)->∃i x l,is[j]?=some i/\ags[j]?=some x/\env[i]?=some (some (.ag x.1 l x.2))/\s=slA x j/\(((List.range is.length).map λj=>(t j).2).map some)[j]?=some (some (t j).2):=λ{j s} e=>by
   obtain⟨x,h1,rfl⟩:=zk2 e;have J:j<is.length:=by rw[<-f];exact(aj.mp h1).1
   obtain⟨N,l,h2,U⟩:=vp Z (show is[j]?=some is[j] by simp[J]);rw[h1] at h2;cases h2;exact⟨is[j],x,l,by simp[J],h1,U,rfl,by simp[J]⟩
  refine⟨λa o e=>(zo1 e).2,λa e=>?_,λa e=>⟨znj e,(ok.wl a (C a e)).2⟩,λj s e=>?_,λj j' s s' v v' a I R y e4 o1 o2=>?_,by rw[zo0,ah,ah,j9,f]⟩
  ·rcases zo2 e with z | z
   ·exact⟨ok.good a (ok.wl a (C a z)).1,λ_=>z⟩
   ·exact⟨ok.good a (ok.stay.free z),λw=>by obtain⟨_,m,q⟩:=ok.wl a w;rw[z] at q;cases q⟩
  ·obtain⟨i,x,l,h1,h2,U,rfl,Q⟩:=pos e
   obtain⟨q1,p,as,us,g,O,X,L,q4,E,F⟩:=Y j i x l h1 h2 U;refine⟨_,Q,p,as,us,g,own h1 h2 U p (.inl g),L,λn z=>by cases z;exact O,E,F.step (λa vs ha z=>⟨own h1 h2 U a (.inr ⟨p,us,g,E.o,F.parts_iff.mpr ha⟩),z⟩) (λ_ _ r=>cv r) λ_ _ r=>P r⟩
  ·obtain⟨i,x,l,h1,h2,U,rfl,Q⟩:=pos I
   obtain⟨M,N,l',A,S,B,rfl,T⟩:=pos R;rw[Q] at y;cases y;rw[T] at e4;cases e4;have:=ok.uniq i M _ _ _ _ a U B (Y j i x l h1 h2 U).1 (Y j' M N l' A S B).1 o1 o2;subst this;exact zm5 nd h1 A
variable{us:k7}{W':Addr->Prop}{H':Hp}
theorem Ok.unlend(ok:Ok K G H0 W env σ H){I:ln}{r:Nat->h7}{env':DE0}{T:St}(nd:is.Nodup)(hg:getA env is=some ags)(hu:∀(j i:Nat),is[j]?=some i->∃u,us[j]?=some u/\σ[i]?=some (some u))(X:∀(j i:Nat) (k:AK) (l:Option Nat) (ps:la),is[j]?=some i->env[i]?=some (some (.ag k l ps))->∃p as,us[j]?=some (.ref p)/\Lab k (r j) p as/\∀n,l=some n->Lab k (G.r n) p as)(hl:I.length=is.length)(ae:∀(j:Nat) (x y:Ag),ags[j]?=some x->I[j]?=some y->y.1=x.1)(st:Step (Lent H env σ is) H W' H')(C:Ok K (su G W (Lent H env σ is) r) (mask H (Lent H env σ is)) W' env' T H')(Z:∀(j:Nat) (x:Ag),I[j]?=some x->env'[j]?=some (some (slA x j))) :
  Ok K G H0 (λa=>W' a\/(W a/\¬Lent H env σ is a)) (putA env is I) σ H'/\Step W H (λa=>W' a\/(W a/\¬Lent H env σ is a)) H' /\
   (∀ {d:D} {v:V},Rep K H' (Ow (su G W (Lent H env σ is) r) W') d v->Rep K H' (Ow G (λa=>W' a\/(W a/\¬Lent H env σ is a))) d v):=by
 have lW:∀a,Lent H env σ is a->W a:=λa=>ok.lentW;have O:∀a,W' a->Lent H env σ is a\/H a=none:=st.ws;have n':∀a,W' a->W a->Lent H env σ is a:=λa h w=>(O a h).elim id λz=>by obtain⟨_,m,q⟩:=ok.wl a w;rw[z] at q;cases q
 have aa:Step W H (λa=>W' a\/(W a/\¬Lent H env σ is a)) H':=⟨λb o e n=>st.keep b o e λz=>n (lW b z),λa z=>by
  rcases z with z | z
  ·exact(O a z).imp (lW a) id
  ·exact .inl z.1⟩
 have back:∀ {j i:Nat} {y:Ag} {k:AK} {l:Option Nat} {ps:la},is[j]?=some i->I[j]?=some y->env[i]?=some (some (.ag k l ps)) ->
   ∃u p as vs,σ[i]?=some (some u)/\T[j]?=some (some u)/\u=.ref p/\W' p/\(p::as).Nodup/\(∀n,l=some n->Lab y.1 (G.r n) p as)/\AkOk K H' y.1 p vs/\PtsOk K (su G W (Lent H env σ is) r) W' H' y.2 as vs:=λ{j i y k l ps} R B E=>by
  obtain⟨x,l',h1,h2⟩:=vp hg R;rw[E] at h2;cases h2;obtain⟨v,N,p,as,vs,rfl,hW,n1,hr,hk,hp⟩:=C.slot j _ (Z j y B);obtain⟨u,L,M⟩:=hu j i R;obtain⟨p0,P,S,f,z5⟩:=X j i _ _ _ R E;rw[L] at S;cases S;have hy:=ae j x y h1 B;have U:Lab y.1 (r j) p as:=hr j rfl;have same:p=p0/\(as=P\/∃c fs,y.1=.ins true c fs):=by
   rw[<-hy] at f;generalize y.1=kk at U f;cases kk with
   | ls=>have U:r j=p::as:=U;have f:r j=p0::P:=f;rw[U] at f;cases f;exact⟨rfl,.inl rfl⟩
   | ins b c fs =>
     cases b with
     | true=>have U:r j=[p]:=U;have f:r j=[p0]:=f;rw[U] at f;cases f;exact⟨rfl,.inr ⟨c,fs,rfl⟩⟩
     | false=>have U:r j=p::as:=U;have f:r j=p0::P:=f;rw[U] at f;cases f;exact⟨rfl,.inl rfl⟩
  obtain⟨rfl,hs⟩:=same;refine⟨_,p,as,vs,M,N,rfl,hW,n1,λn hn=>?_,hk,hp⟩;have z6:=z5 n hn;rw[<-hy] at z6;rcases hs with rfl | ⟨c,fs,q⟩
  ·exact z6
  ·rw[q] at z6 ⊢;exact z6
 have up:∀(a:Addr) (us:k7),Ow (su G W (Lent H env σ is) r) W' a->Rd H' a (.lst us)->Ow G (λa=>W' a\/(W a/\¬Lent H env σ is a)) a/\Rd H' a (.lst us):=λa us o h=>⟨⟨o.1.1,λz=>z.elim o.2 λy=>y.2 (o.1.2 y.1)⟩,h⟩;have cv:∀ {d:D} {v:V},Rep K H' (Ow (su G W (Lent H env σ is) r) W') d v->Rep K H' (Ow G (λa=>W' a\/(W a/\¬Lent H env σ is a))) d v:=λrp=>rp.mono (λ_ _ h=>h) up;have an:∀ {d:k8} {v:k7},Reps K H' (Ow (su G W (Lent H env σ is) r) W') d v->Reps K H' (Ow G (λa=>W' a\/(W a/\¬Lent H env σ is a))) d v:=λrp=>rp.mono (λ_ _ h=>h) up;have g:∀ {i:Nat} {s:Sl} {v:V},i∉is->env[i]?=some (some s)->σ[i]?=some (some v)->∀a,Owns H s v a->W a/\¬Lent H env σ is a:=λ{i s v} hi e R a o=>by
  obtain⟨v',B,q⟩:=ok.slot i s e;rw[R] at B;cases B;refine⟨q.owns o,λz=>?_⟩;obtain⟨i',s',v',t,L,M,S⟩:=z;exact hi ((ok.uniq i i' s s' _ _ a e L R M o S) ▸ t)
 have Q:∀ {i:Nat} {s:Sl} {v:V},i∉is->env[i]?=some (some s)->σ[i]?=some (some v)->∀a (m:Mo),Owns H s v a->H a=some m.out->(W' a\/(W a/\¬Lent H env σ is a))/\H' a=some m.out:=λ{i s v} hi e R a m o q=>by
  have z:=g hi e R a o;exact⟨.inr z,st.keep a _ q z.2⟩
 have A:∀ {i:Nat} {s:Sl} {v:V} {a:Addr},i∉is->env[i]?=some (some s)->σ[i]?=some (some v)->Owns H' s v a->Owns H s v a:=λ{i s v a} hi e R o=>by
  obtain⟨v',B,q⟩:=ok.slot i s e;rw[R] at B;cases B;refine q.back (λl z w m M=>?_) o;refine st.keep l _ M λy=>?_;obtain⟨i',s',v',t,L,S,f⟩:=y;have ol:Owns H s v l:=by
   cases s with
   | sh d=>exact o.elim
   | ow ds=>exact z
   | o2 dss=>exact .inl z
   | ag k r ps=>exact .inl z
   | al _ _=>exact o.elim
   | ro _ _=>exact o.elim
  exact hi ((ok.uniq i i' s s' _ _ l e L R S ol f) ▸ t)
 have J:∀ {i:Nat} {s:Sl},(putA env is I)[i]?=some (some s)->(i∉is/\env[i]?=some (some s))\/∃(j:Nat) (y:Ag) (k:AK) (l:Option Nat) (ps:la),is[j]?=some i/\I[j]?=some y/\env[i]?=some (some (.ag k l ps))/\s=.ag y.1 l y.2:=λ{i s} e=>by
  by_cases hi:i∈is
  ·obtain⟨j,hj,ej⟩:=i4 hi
   have R:is[j]?=some i:=by simp[hj,ej]
   obtain⟨x,l,h1,h2⟩:=vp hg R;have h3:I[j]?=some (I[j]'(by lia)):=by simp[hl,hj]
   rw[zpy nd R h3 h2] at e;cases e;exact .inr ⟨j,_,_,l,_,R,h3,h2,rfl⟩
  ·rw[zni hi] at e;exact .inl ⟨hi,e⟩
 refine⟨⟨λb o e=>?_,ok.good,λa z=>?_,λi s e=>?_,λi i' s s' v v' a R B E N o1 o2=>?_,by rw[znh];exact ok.len⟩,aa,cv⟩
 ·exact st.keep b o (ok.stay b o e) λz=>by rw[(ok.wl b (lW b z)).1] at e;cases e
 ·rcases z with z | z
  ·refine⟨?_,(C.wl a z).2⟩
   rcases O a z with y | y
   ·exact(ok.wl a (lW a y)).1
   ·exact ok.stay.free y
  ·obtain⟨q,m,hm⟩:=ok.wl a z.1
   exact⟨q,m,st.keep a _ hm z.2⟩
 ·rcases J e with⟨hi,e⟩ | ⟨j,y,k,l,ps,R,B,E,rfl⟩
  ·obtain⟨v,R,q⟩:=ok.slot i s e
   exact⟨v,R,ok.slstep aa q (Q hi e R)⟩
  ·obtain⟨u,p,as,vs,F,_,rfl,hW,n1,ap,hk,hp⟩:=back R B E
   exact⟨_,F,p,as,vs,rfl,.inl hW,n1,ap,hk,hp.step (λa ws ha z=>⟨.inl (hp.own ha).1,z⟩) (λ_ _ r=>cv r) λ_ _ r=>an r⟩
 ·rcases J R with⟨hi,f1⟩ | ⟨j,y,k,l,ps,f1,f2,f3,rfl⟩ <;> rcases J B with⟨t,Y⟩ | ⟨j',y',k',l',ps',Y,f2',f3',rfl⟩
  ·exact ok.uniq i i' s s' v v' a f1 Y E N (A hi f1 E o1) (A t Y N o2)
  ·exfalso
   obtain⟨L,M⟩:=g hi f1 E a (A hi f1 E o1);obtain⟨u,p,as,vs,F,q2,_⟩:=back Y f2' f3';rw[N] at F;cases F;obtain⟨v0,w1,w2⟩:=C.slot j' _ (Z j' y' f2');rw[q2] at w1;cases w1;exact M (n' a (w2.owns o2) L)
  ·exfalso
   obtain⟨L,M⟩:=g t Y N a (A t Y N o2);obtain⟨u,p,as,vs,F,q2,_⟩:=back f1 f2 f3;rw[E] at F;cases F;obtain⟨v0,w1,w2⟩:=C.slot j _ (Z j y f2);rw[q2] at w1;cases w1;exact M (n' a (w2.owns o1) L)
  ·obtain⟨u,p,as,vs,F,q2,_⟩:=back f1 f2 f3
   obtain⟨u',p',a0,vs',ab,ar,_⟩:=back Y f2' f3';rw[E] at F;cases F;rw[N] at ab;cases ab;have:=C.uniq j j' _ _ _ _ a (Z j y f2) (Z j' y' f2') q2 ar o1 o2;subst this;rw[f1] at Y;cases Y;rfl
def MCal(P:Program)(w:World)(K:kf)(mg:Str->g9)(base:Heap)(cn m:Str)(k:Nat)(sp:Sp):Prop :=
 ∃C fa fd ps,Cls K C/\Meth K C m fa/\FnOk P w K mg base (CXr P w) k fa fd ps sp/\Binds K fd ps []/\Cl K cn C
def Atr(K:kf)(cn m:Str):Prop:=∃C,Cls K C/\NoAttr K C m/\Cl K cn C
def KCal(P:Program)(w:World)(K:kf)(mg:Str->g9)(base:Heap)(x:Str)(k:Nat)(sp:Sp):Prop :=
 ∃C fa fd ps,Mk K C fa/\FnOk P w K mg base (CXr P w) k fa fd ps sp/\mg x=some (.ref C)/\Binds K fd ps []/\Cl K x C/\(x==("__debug__" : Str))=false
def EXs(X:Cx)(σ:St):XK:=λcls _ H'=>∀pins H s C ea s',cls=.ref C->Inv X pins σ H s->Fly X.prog X.w X.stack H s C ea H' s'->X.xe (.ref ea) s'
variable{vs:k7}{X:Cx}{k:Nat}{f:Addr}{fd:FuncData}{ps:g7}{sp:Sp}
theorem zpz{pins:k4}{s:Shared}{Q:VK}{us:g8}(F:FnOk X.prog X.w X.K X.mg X.base (CXr X.prog X.w) k f fd ps sp)(R:Room k X.A)(U:Binds X.K fd ps [])(I:Inv X pins σ H s)(r:Vals vs us)(h:sp vs H Q (EXs X σ)):wpAny (model X.prog X.w) X.A (call (.ref f) us) (EP X pins σ Q) X.xe s:=by
 have V:(us++[]).length=ps.length:=by rw[de,<-r.length];exact F.len _ _ _ _ h
 have J:=U s us I.kIn V;rw[de] at J;refine wpAny_call (codeAny_mono (F.run X.A X.stack s H ⟨us,[]⟩ us vs Q (EXs X σ) R I.env0 J r h) λr s' D=>?_);cases r with
 | error e =>
   obtain⟨ea,C,H',rfl,fl,z⟩:=D;exact z pins H s C ea s' rfl I fl
 | ok fl =>
   cases fl with
   | ret u=>exact I.after D
   | next=>exact False.elim D
   | brk=>exact False.elim D
   | cont=>exact False.elim D
def z4q(X:Cx)(sp:Sp)(t:TA):TE:=λσ H Q=>t σ H λvs H1=>sp vs H1 Q (EXs X σ)
variable{x:Str}{p pos:Pos}{e:Expr}{es:ik}{t:TA}
def zo(F:FnOk X.prog X.w X.K X.mg X.base (CXr X.prog X.w) k f fd ps sp)(U:Room k X.A)(V:Gl X x)(Y:X.mg x=some (.ref f))(Z:PySem.W.keepIn X.K (.ref f)=true)(a:Binds X.K fd ps [])(b:PA X (e::es) t)(D:(x==("__debug__" : Str))=false:=by decide)(c:starEach (e::es) X.env=(false,eval e X.env)::starEach es X.env:=by rfl)(J:(backTo pos (starEach es X.env)).any (·.1)=false:=by rfl) :
  PE X (.Call (.Name x p) (e::es) [] pos) (z4q X sp t):=by
 intro pins s σ H Q I h;refine wpAny_Call_Name_kw (vq I V Y ?_ D);refine jb (h₀:=X.base) I.ok.mod.kin Z (thn (b pos pins s σ H _ I h) λus g d=>?_) c J;obtain⟨vs,H1,R,r,q⟩:=d;refine⟨R.kIn,?_⟩;exact zpz F U a R r q
def zre(X:Cx)(C:Addr)(m:Str)(sp:Sp)(ta:TE)(t:TA):TE:=λσ H Q=>ta σ H λx H1=>∃a dx fs,x=.ref a/\H1 a=some (.ins C dx fs)/\fs.lookup m=none/\t σ H1 λvs H2=>sp (x::vs) H2 Q (EXs X σ)
variable{C:Addr}{m:Str}{apos:Pos}{ta:TE}
def znl{pl:Sem Bool}(Z:PE X o ta)(c:Cls X.K C)(U:Meth X.K C m f)(F:FnOk X.prog X.w X.K X.mg X.base (CXr X.prog X.w) k f fd ps sp)(b:Room k X.A)(d:Binds X.K fd ps [])(g:PA X (e::es) t)(D:starEach (e::es) X.env=(false,eval e X.env)::starEach es X.env:=by rfl)(J:(backTo pos (starEach es X.env)).any (·.1)=false:=by rfl)(i:eval (.Call (.Attribute o m apos) (e::es) [] pos) X.env=(do
   let ov <-eval o X.env
   standAt apos.atName
   let (f,first) <-holding [ov] (getMethod ov m pl)
   callWith pos f first (backTo pos (starEach (e::es) X.env)) (backToKw pos (keywordEach [] X.env))):=by rfl) :
  PE X (.Call (.Attribute o m apos) (e::es) [] pos) (zre X C m sp ta t):=by
 intro pins s σ H Q I h;refine PySem.W.methodCall_KW (pl:=pl) (thn (Z pins s σ H _ I h) λu j R=>?_) i;obtain⟨x,H1,V,n,a,dx,fs,ex,ea,l,q⟩:=R;subst ex;obtain rfl:u=Value.ref a:=n;refine zmd V ea c U l ?_;refine jb (first:=[.ref a]) (h₀:=X.base) I.ok.mod.kin U.kp (thn (g pos pins j σ H1 _ V q) λus s2 R=>?_) D J;obtain⟨vs,H2,Y,r,p⟩:=R;refine⟨Y.kIn,?_⟩;exact zpz (us:=.ref a::us) (vs:=.ref a::vs) F b d Y (.cons rfl r) p
def zli{pl:Sem Bool}(R:PE X o ta)(c:Cls X.K C)(J:Meth X.K C m f)(F:FnOk X.prog X.w X.K X.mg X.base (CXr X.prog X.w) k f fd ps sp)(U:Room k X.A)(V:Binds X.K fd ps [])(Y:eval (.Call (.Attribute o m apos) [] [] pos) X.env=(do
   let ov <-eval o X.env
   standAt apos.atName
   let (f,first) <-holding [ov] (getMethod ov m pl)
   callWith pos f first (backTo pos (starEach [] X.env)) (backToKw pos (keywordEach [] X.env))):=by rfl) :
  PE X (.Call (.Attribute o m apos) [] [] pos) (zre X C m sp ta tNil):=by
 intro pins s σ H Q I h;refine PySem.W.methodCall_KW (pl:=pl) (thn (R pins s σ H _ I h) λu d Z=>?_) Y;obtain⟨x,H1,D,b,a,dx,fs,ex,ea,l,q⟩:=Z;subst ex;obtain rfl:u=Value.ref a:=b;refine zmd D ea c J l ?_;exact PySem.W.callWith_K0 (first:=[.ref a]) D.kIn J.kp (zpz (us:=[.ref a]) (vs:=[.ref a]) F U V D (.cons rfl .nil) q)
def z4r(X:Cx)(C:Addr)(sp:Sp)(t:TA):TE:=λσ H Q=>t σ H λvs H1=>∀x dx,H1 x=none->H1 dx=none->dx≠x ->
 sp (.ref x::vs) (upd (upd H1 dx (.own x)) x (.ins C dx [])) (λv H2=>v=.non/\Q (.ref x) H2) (EXs X σ)
theorem zxo(M:Mk X.K C f)(F:FnOk X.prog X.w X.K X.mg X.base (CXr X.prog X.w) k f fd ps sp)(c:Room (k+1) X.A)(d:Gl X x)(g:X.mg x=some (.ref C))(i:Binds X.K fd ps [])(j:PA X (e::es) t)(R:(x==("__debug__" : Str))=false:=by decide)(l:starEach (e::es) X.env=(false,eval e X.env)::starEach es X.env:=by rfl)(U:(backTo pos (starEach es X.env)).any (·.1)=false:=by rfl) :
  PE X (.Call (.Name x p) (e::es) [] pos) (z4r X C sp t):=by
 intro pins m σ H0 Q Y n;refine wpAny_Call_Name_kw (vq Y d g ?_ R);refine jb (h₀:=X.base) Y.ok.mod.kin M.kp (thn (j pos pins m σ H0 _ Y n) λus s o=>?_) l U;obtain⟨vs,H,I,r,h⟩:=o;refine⟨I.kIn,?_⟩;have Z:=h (s.heap.objs.size+1) s.heap.objs.size (I.hok.fresh (md _)) (I.hok.fresh (b7 _)) (b9 (fg _));have J:=Inv.made (C:=C) I;have a:Vals (V.ref (s.heap.objs.size+1)::vs) (Value.ref (s.heap.objs.size+1)::us):=.cons rfl r;have q:((Value.ref (s.heap.objs.size+1)::us)++[]).length=ps.length:=by rw[de,<-a.length];exact F.len _ _ _ _ Z
 have b:=i ⟨_,s.gens,s.drawn,s.toks,s.os⟩ (Value.ref (s.heap.objs.size+1)::us) J.kIn q;rw[de] at b;refine wpAny_call (zwh (f:=f) I.kIn M.makes M.init (beq_iff_eq.mp M.fn) (codeAny_mono (F.run _ X.stack _ _ ⟨Value.ref (s.heap.objs.size+1)::us,[]⟩ (Value.ref (s.heap.objs.size+1)::us) _ _ (EXs X σ) (c.make C us [])
  (J.env0.make C us []) b a Z) λr s' D=>?_))
 cases r with
 | error e =>
   obtain⟨ea,y,H',rfl,fl,z⟩:=D;exact z pins _ _ y ea s' rfl J fl
 | ok fl =>
   cases fl with
   | ret u =>
     obtain⟨v,H',B,E,G,L⟩:=J.after D;subst G;exact⟨E,⟨V.ref (s.heap.objs.size+1),H',B,rfl,L⟩⟩
   | next=>exact False.elim D
   | brk=>exact False.elim D
   | cont=>exact False.elim D
abbrev XF:=DE0->Option (Str×DE0)
def XEnd(X:Cx)(G:Gd)(H0:Hp)(W:Addr->Prop)(H:Hp)(σ:St)(c:Str)(env':DE0):Prop:=∀W' H' C,Cl X.K c C->Step W H W' H'->Ok X.K G H0 W' env' σ H'->∀pins e s',XS X pins σ H' C e s'->X.xe (.ref e) s'
def tDX(X:Cx)(G:Gd)(H0:Hp)(x:XF)(σ:St)(H:Hp):Prop:=DP X.K G H0 x (λW env c env'=> XEnd X G H0 W H σ c env') σ H
structure JX (X:Cx) (G:Gd) (H0:Hp) (e:Expr) (x:XF):Prop where
 out:PE X e (λσ H _=>tDX X G H0 x σ H)
structure JXA (X:Cx) (G:Gd) (H0:Hp) (es:ik) (x:XF):Prop where
 out:PA X es (λσ H _=>tDX X G H0 x σ H)
structure JXS (X:Cx) (G:Gd) (H0:Hp) (s:Stmt) (x:XF):Prop where
 out:PS X s (λ_ σ H=>tDX X G H0 x σ H)
@[simp] noncomputable def sXp(x:XF)(g:FS):FS:=λe=>match x e with | some r=>some (.xc r.1,r.2) | none=>g e
variable{x:XF}{g:FS}
def ly(R:DSx X G H0 s g)(U:JXS X G H0 s x):DSx X G H0 s (sXp x g):=⟨λpins s' σ H D I V=>by
 obtain⟨W,env,fl,env',ok,q,k⟩:=V;unfold sXp at q;cases e1:x env with
 | none=>rw[e1] at q;exact R.out pins s' σ H D I ⟨W,env,fl,env',ok,q,k⟩
 | some r =>
   rw[e1] at q;cases q;exact U.out pins s' σ H D I ⟨W,env,r.1,r.2,ok,e1,λW' H' C Y st J=>k W' σ H' C Y st J⟩⟩
def ng(h:JX X G H0 e x)(D:swapsWith e none pos.line X.env=pure false:=by rfl):JXS X G H0 (.Expr e pos) x:=⟨(ztd h.out D).imp λ_ _ _ z=>z⟩
def xy(h:JX X G H0 e x):JXS X G H0 (.Return (some e) pos) x:=⟨(xq h.out).imp λ_ _ _ z=>z⟩
variable{c:Str}
def Cl.inj{D:Addr}(h:Cl K c C)(h':Cl K c D):C=D:=by
 unfold Cl at h h';rw[h] at h';cases h';rfl
def zxp(K:kf)(O:Addr->Prop)(H:Hp)(ags:ln)(us:k7):Prop :=
 us.length=ags.length/\∀(j:Nat) (x:Ag) (u:V),ags[j]?=some x->us[j]?=some u->∃p vs,u=.ref p/\AkOk K H x.1 p vs/\PtsRo K (gd O) NoW H x.2 vs
def qSp(K:kf)(m:ln->k8->k9)(x:ln->k8->ka):Sp:=λvs H Q E =>
 ∃(O:Addr->Prop) (ags:ln) (us:k7) (ds:k8) (ws:k7),vs=us++ws/\zxp K O H ags us/\Reps K H O ds ws /\
  ((∃d,m ags ds=some d/\∀v H',Same H H'->Rep K H' (λa=>O a\/H a=none) d v->Q v H')\/∃c,x ags ds=some c/\∀C H',Cl K c C->Same H H'->E (.ref C) none H')
def j8(n:Nat)(ags:ln)(ds:k8):DE0:=ags.map (λx=>some (Sl.ro x.1 x.2))++jk (n-ags.length) ds
def runQ(n p ar:Nat)(g:FS):ln->k8->k9:=λags ds=>if ags.length=p/\ds.length=ar then(match g (j8 n ags ds) with | some (.rt d,_)=>some d | some (.nx,_)=>some .non | _=>none) else none
def xQ(n p ar:Nat)(g:FS):ln->k8->ka:=λags ds=>if ags.length=p/\ds.length=ar then(match g (j8 n ags ds) with | some (.xc c,_)=>some c | _=>none) else none
variable{O O':Addr->Prop}
def l7(h:∀a,O a->O' a):(∀(d:D) (v:V),Rep K H O d v->Rep K H O' d v)/\∀(d:k8) (v:k7),Reps K H O d v->Reps K H O' d v :=
 ⟨λd v r=>r.mono (λ_ _ h=>h) λa us o q=>⟨h a o,q⟩,λd v r=>r.mono (λ_ _ h=>h) λa us o q=>⟨h a o,q⟩⟩
variable{ws:k7}{ds:k8}{N:g7}
theorem zzg(I:zxp K O H ags us)(r:Reps K H O ds ws)(c:us.length<=N.length) :
  Ok K (gd λa=>O a\/H a=none) H NoW (j8 N.length ags ds) (start N (us++ws)) H:=by
 have R:=tm (N:=N.drop us.length) r;have J:=R.len;have es:start N (us++ws)=us.map some++start (N.drop us.length) ws:=by
  unfold start;rw[dh,dg,ao,d9,Nat.sub_sub]
 have Y:j8 N.length ags ds=ags.map (λx=>some (Sl.ro x.1 x.2))++jk (N.drop us.length).length ds:=by unfold j8;rw[d9,I.1]
 rw[es,Y];refine⟨Same.refl _,R.good,R.wl,λi s e=>?_,λi j f s2 v1 v2 a D _ g _ o _=>?_,?_⟩
 ·by_cases hi:i<ags.length
  ·rw[aw (by simpa using hi),bu] at e
   cases D:ags[i]? with
   | none=>rw[D] at e;cases e
   | some x =>
     rw[D] at e;cases e;have U:us[i]?=some (us[i]'(by rw[I.1];exact hi)):=by simp[I.1,hi]
     obtain⟨p,vs,h1,h2,Z⟩:=I.2 i x _ D U;refine⟨_,by rw[aw (by rw[ah,I.1];exact hi),bu,U];rfl,p,vs,h1,λz=>z,h2,Z.step (λa vs n z=>⟨n,z⟩) (λd v q=>(l7 λa z=>⟨.inl z.1,λz=>z⟩).1 d v q) λd v q=>(l7 λa z=>⟨.inl z.1,λz=>z⟩).2 d v q⟩
  ·rw[di (by simpa using hi),ah] at e
   obtain⟨v,V,b⟩:=R.slot _ s e;rw[<-I.1] at V;exact⟨v,by rw[di (by rw[ah,I.1];lia),ah];exact V,b⟩
 ·by_cases hi:i<ags.length
  ·rw[aw (by simpa using hi),bu] at D
   cases q:ags[i]? with
   | none=>rw[q] at D;cases D
   | some x=>rw[q] at D;cases D;exact o.elim
  ·rw[di (by simpa using hi)] at D
   obtain⟨d,_,rfl⟩:=zi1 D;exact o.elim
 ·rw[ao,ao,ah,ah,J,I.1]
variable{x qual:Str}{st:Stmt}{n ar:Nat}{P:Program}{w:World}{mg:Str->g9}{base:Heap}
theorem z4s{p:Nat}(F:Fun K x qual st f fd)(S:pj N ps (fx st))(j:n=N.length)(l:p+ar=ps.length)(R:∀(cdv:Value) (A:Around) (outer:ic) (s:Shared) (H:Hp) (E:XK) (G:Gd) (H0:Hp),Room k (A.deeper (envOfC qual (fx st) s.heap.objs.size f cdv)) ->
   DBx (cxOf (CXr P w) P w K mg base N qual (fx st) f cdv A outer s H E) G H0 (li st) g):FnOk P w K mg base (CXr P w) (k+1) f fd ps (qSp K (runQ n p ar g) (xQ n p ar g)):=by
 subst j;have m:ps.length<=N.length:=by have:=congrArg List.length S.pre;rw[dy] at this;lia
 have U:∀ {O:Addr->Prop} {H:Hp} {ags:ln} {us:k7} {ds:k8} {ws:k7},zxp K O H ags us->Reps K H O ds ws->(ags.length=p/\ds.length=ar)->(us++ws).length=ps.length:=λJ r h=>by rw[ao,J.1,h.1,<-r.length,h.2,l]
 refine F.okX S (λvs H Q E h=>?_) (λcdv A outer s H vs Q E q h=>?_)
 ·obtain⟨O,ags,us,ds,ws,rfl,J,r,h⟩:=h
  refine U J r ?_;rcases h with⟨d,e,_⟩ | ⟨c,e,_⟩
  ·unfold runQ at e;split at e
   ·assumption
   ·cases e
  ·unfold xQ at e;split at e
   ·assumption
   ·cases e
 ·obtain⟨O,ags,us,ds,ws,rfl,J,r,h⟩:=h
  refine⟨_,(R cdv A outer s H E (gd λa=>O a\/H a=none) H q).out,?_⟩;rcases h with⟨d,e,k⟩ | ⟨c,e,k⟩
  ·unfold runQ at e
   split at e;case isFalse=>cases e
   rename_i i;have b:=zzg (N:=N) J r (by rw[J.1,i.1];lia);split at e
   ·rename_i d' env' Y
    cases e;exact⟨NoW,_,_,env',b,Y,λW' Z v H' st I t=>k v H' I.stay (t.mono (λ_ _ h=>h) λa us o h=>⟨o.1,h⟩)⟩
   ·rename_i env' Y
    cases e;exact⟨NoW,_,_,env',b,Y,λW' Z H' st I=>k .non H' I.stay .non⟩
   ·cases e
  ·unfold xQ at e
   split at e;case isFalse=>cases e
   rename_i i;have b:=zzg (N:=N) J r (by rw[J.1,i.1];lia);split at e
   ·rename_i z env' Y
    cases e;exact⟨NoW,_,_,env',b,Y,λW' Z H' u y st I pins e s' xs=>zj6 xs (k u H' y I.stay)⟩
   ·cases e
def lSp(K:kf)(m:ln->k8->lx)(x:ln->k8->Option (Str×ln)):Sp:=λvs H Q E =>
 ∃(G:Gd) (W:Addr->Prop) (R:Hp) (ags:ln) (us:k7) (ds:k8) (ws:k7),vs=us++ws/\us.length=ags.length/\Ok K G R W (ny ags) (us.map some) H/\Reps K H (Ow G W) ds ws /\
  ((∃d I, m ags ds = some (d, I) /\ ∀W' env' J v H', Step W H W' H' -> Ok K G R W' env' J H' -> (∀(j : Nat) (x : Ag), I[j]? = some x -> env'[j]? = some (some (slA x j))) -> Rep K H' (Ow G W') d v -> Q v H') \/
   ∃c I,x ags ds=some (c,I)/\∀C W' env' J H',Cl K c C->Step W H W' H'->Ok K G R W' env' J H'->(∀(j:Nat) (x:Ag),I[j]?=some x->env'[j]?=some (some (slA x j)))->E (.ref C) none H')
def jw(n:Nat)(ags:ln)(ds:k8):DE0:=ny ags++jk (n-ags.length) ds
def outA(e:DE0):Nat->h8->Option ln
 | _,[]=>some []
 | j,_::r=>match e[j]? with | some (some (.ag k (some j') ps))=>if j'=j then(outA e (j+1) r).map λt=>(k,ps)::t else none | _=>none
def runL(n p ar:Nat)(g:FS):ln->k8->lx:=λags ds=>if ags.length=p/\ds.length=ar then(match g (jw n ags ds) with | some (.rt d,e)=>(outA e 0 (List.range p)).map λt=>(d,t) | some (.nx,e)=>(outA e 0 (List.range p)).map λt=>(.non,t) | _=>none) else none
def xL(n p ar:Nat)(g:FS):ln->k8->Option (Str×ln):=λags ds=>if ags.length=p/\ds.length=ar then(match g (jw n ags ds) with | some (.xc c,e)=>(outA e 0 (List.range p)).map λt=>(c,t) | _=>none) else none
theorem znm{e:DE0}:∀ {l:h8} {i:Nat} {ags:ln},outA e i l=some ags->ags.length=l.length/\∀(j:Nat) (x:Ag),ags[j]?=some x->e[i+j]?=some (some (slA x (i+j)))
 | [],_,_,h=>by cases h;exact⟨rfl,λj x z=>by simp at z⟩
 | _::r,i,ags,h=>by
   unfold outA at h;split at h
   ·rename_i k D ps q
    split at h
    ·rename_i I
     subst I;cases e2:outA e (D+1) r with
     | none=>rw[e2] at h;cases h
     | some t =>
       rw[e2] at h;cases h;obtain⟨h1,h2⟩:=znm e2;refine⟨by rw[am,am,h1],λj x z=>?_⟩;cases j with
       | zero=>simp at z;subst z;exact q
       | succ j =>
         have:=h2 j x (by simpa using z);rwa [show D+1+j=D+(j+1) by lia] at this
    ·cases h
   ·cases h
theorem z4t{I:Hp}(ok:Ok K G I W (ny ags) (us.map some) H)(J:us.length=ags.length)(r:Reps K H (Ow G W) ds ws) :
  Ok K G I W (jw N.length ags ds) (start N (us++ws)) H:=by
 have R:(ny ags).length=us.length:=by rw[zo0,J]
 have es:start N (us++ws)=us.map some++start (N.drop us.length) ws:=by
  unfold start;rw[dh,dg,ao,d9,Nat.sub_sub]
 have c:jw N.length ags ds=ny ags++jk (N.drop us.length).length ds:=by unfold jw;rw[d9,J]
 have f:=tm (N:=N.drop us.length) (O:=Ow G W) r;rw[es,c];have D:∀ {i:Nat} {s:Sl},(ny ags++jk (N.drop us.length).length ds)[i]?=some (some s)->(i<us.length/\(ny ags)[i]?=some (some s))\/(us.length<=i/\∃d,ds[i-us.length]?=some d/\s=.sh d):=λ{i s} e=>by
  by_cases hi:i<us.length
  ·rw[aw (by lia)] at e;exact .inl ⟨hi,e⟩
  ·rw[di (by lia),R] at e
   obtain⟨d,q,z⟩:=zi1 e;exact .inr ⟨by lia,d,q,z⟩
 refine⟨ok.stay,ok.good,ok.wl,λi s e=>?_,λi j g s2 v1 v2 a h k U V Y Z=>?_,?_⟩
 ·rcases D e with⟨hi,e⟩ | ⟨hi,d,q,rfl⟩
  ·obtain⟨v,h1,h2⟩:=ok.slot i s e
   exact⟨v,by rw[aw (by simpa using hi)];exact h1,h2⟩
  ·obtain⟨v,h1,h2⟩:=r.get q
   refine⟨v,?_,h2⟩;rw[di (by simpa using hi),ah];unfold start;rw[aw (by simpa using(aj.mp h1).1),bu,h1];rfl
 ·rcases D h with⟨hi,l⟩ | ⟨hi,d,q,rfl⟩
  ·rcases D k with⟨b,f2⟩ | ⟨b,d,q,rfl⟩
   ·rw[aw (by simpa using hi)] at U
    rw[aw (by simpa using b)] at V;exact ok.uniq i j g s2 v1 v2 a l f2 U V Y Z
   ·exact Z.elim
  ·exact Y.elim
 ·rw[ao,ao,R,ah,f.len]
theorem z1a{p:Nat}(F:Fun K x qual st f fd)(S:pj N ps (fx st))(Z:n=N.length)(a:p+ar=ps.length)(J:∀(cdv:Value) (A:Around) (outer:ic) (s:Shared) (H:Hp) (E:XK) (G:Gd) (H0:Hp),Room k (A.deeper (envOfC qual (fx st) s.heap.objs.size f cdv)) ->
   DBx (cxOf (CXr P w) P w K mg base N qual (fx st) f cdv A outer s H E) G H0 (li st) g):FnOk P w K mg base (CXr P w) (k+1) f fd ps (lSp K (runL n p ar g) (xL n p ar g)):=by
 subst Z;refine F.okX S (λvs H Q E h=>?_) (λcdv A outer s H vs Q E b h=>?_)
 ·obtain⟨G,W,Y,ags,us,ds,ws,rfl,U,ok,r,h⟩:=h
  have:ags.length=p/\ds.length=ar:=by
   rcases h with⟨d,t,e,_⟩ | ⟨c,t,e,_⟩
   ·unfold runL at e;split at e
    ·assumption
    ·cases e
   ·unfold xL at e;split at e
    ·assumption
    ·cases e
  rw[ao,U,this.1,<-r.length,this.2,a]
 ·obtain⟨G,W,Y,ags,us,ds,ws,rfl,U,ok,r,h⟩:=h
  refine⟨_,(J cdv A outer s H E G Y b).out,?_⟩;have V:=z4t (N:=N) ok U r;rcases h with⟨d,t,e,k⟩ | ⟨c,t,e,k⟩
  ·unfold runL at e
   split at e;case isFalse=>cases e
   split at e
   ·rename_i d' env' R
    cases e2:outA env' 0 (List.range p) with
    | none=>rw[e2] at e;cases e
    | some t' =>
      rw[e2] at e;cases e;exact⟨W,_,_,env',V,R,λW' D v H' st I i=>k W' env' D v H' st I (λj x z=>by have:=(znm e2).2 j x z;rwa [jy] at this) i⟩
   ·rename_i env' R
    cases e2:outA env' 0 (List.range p) with
    | none=>rw[e2] at e;cases e
    | some t' =>
      rw[e2] at e;cases e;exact⟨W,_,_,env',V,R,λW' D H' st I=>k W' env' D .non H' st I (λj x z=>by have:=(znm e2).2 j x z;rwa [jy] at this) .non⟩
   ·cases e
  ·unfold xL at e
   split at e;case isFalse=>cases e
   split at e
   ·rename_i o env' R
    cases e2:outA env' 0 (List.range p) with
    | none=>rw[e2] at e;cases e
    | some t' =>
      rw[e2] at e;cases e;exact⟨W,_,_,env',V,R,λW' D H' l m st I pins e s' xs=>zj6 xs (k l W' env' D H' m st I λj x z=>by have:=(znm e2).2 j x z;rwa [jy] at this)⟩
   ·cases e
def getR(env:DE0):h8->Option ln
 | []=>some []
 | i::r=>match env[i]? with
   | some (some (.ag k _ ps))=>(getR env r).map λt=>(k,ps)::t
   | some (some (.ro k ps))=>(getR env r).map λt=>(k,ps)::t
   | _=>none
def aggs(env:DE0)(is:h8):Prop:=∀i∈is,∃s,env[i]?=some (some s)
instance (env:DE0) (is:h8):Decidable (aggs env is):=Classical.propDecidable _
variable{ps:la}{as:h7}
def PtsOk.ro(h:PtsOk K G W H ps as us):PtsRo K (gd (Ow G W)) NoW H ps us:=by
 induction h with
 | nil=>exact .nil
 | d q _ ih=>exact .d ((l7 λa z=>⟨z,λz=>z⟩).1 _ _ q) ih
 | o hW hl q _ ih=>exact .o (λz=>z) hl ((l7 λa z=>⟨z,λz=>z⟩).2 _ _ q) ih
def PtsRo.ro(h:PtsRo K G W H ps us):PtsRo K (gd (Ow G W)) NoW H ps us :=
 h.step (λa vs _ z=>⟨λz=>z,z⟩) (λd v q=>(l7 λa z=>⟨z,λz=>z⟩).1 d v q) λd v q=>(l7 λa z=>⟨z,λz=>z⟩).2 d v q
def Ok.roAll(ok:Ok K G H0 W env σ H):∀ {is:h8} {ags:ln} {us:k7},getR env is=some ags->us.length=is.length->(∀(j i:Nat),is[j]?=some i->∃u,us[j]?=some u/\σ[i]?=some (some u))->zxp K (Ow G W) H ags us
 | [],_,us,h,hl,_=>by cases h;exact⟨hl,λj x u e=>by simp at e⟩
 | i::r,ags,us,h,hl,hu=>by
   cases us with
   | nil=>simp at hl
   | cons u us =>
     obtain⟨m,Z,a⟩:=hu 0 i rfl;simp at Z;subst Z;have R:∃k ps t,ags=(k,ps)::t/\getR env r=some t/\∃p vs,u=.ref p/\AkOk K H k p vs/\PtsRo K (gd (Ow G W)) NoW H ps vs:=by
      unfold getR at h;split at h
      ·rename_i k l ps q
       cases h2:getR env r with
       | none=>rw[h2] at h;cases h
       | some t =>
         rw[h2] at h;cases h;obtain⟨v,D,p,as,vs,rfl,_,_,_,I,J⟩:=ok.slot i _ q;rw[a] at D;cases D;exact⟨k,ps,t,rfl,rfl,p,vs,rfl,I,J.ro⟩
      ·rename_i k ps q
       cases h2:getR env r with
       | none=>rw[h2] at h;cases h
       | some t =>
         rw[h2] at h;cases h;obtain⟨v,D,p,vs,rfl,_,I,J⟩:=ok.slot i _ q;rw[a] at D;cases D;exact⟨k,ps,t,rfl,rfl,p,vs,rfl,I,J.ro⟩
      ·cases h
     obtain⟨k,ps,t,rfl,h2,p,vs,rfl,I,J⟩:=R;obtain⟨b,c⟩:=ok.roAll (us:=us) h2 (by simpa using hl) λj d e=>by
      obtain⟨u,f,g⟩:=hu (j+1) d (by simpa using e);exact⟨u,by simpa using f,g⟩
     refine⟨by rw[am,am,b],λj x v U Y=>?_⟩;cases j with
     | zero=>simp at U Y;subst U;subst Y;exact⟨p,vs,rfl,I,J⟩
     | succ j=>exact c j x v (by simpa using U) (by simpa using Y)
variable{v:V}
def Ok.newRep(ok:Ok K G H0 W env σ H){d:D}(r:Rep K H' (λa=>Ow G W a\/H a=none) d v):Rep K H' (Ow G W) d v :=
 r.mono (λ_ _ h=>h) λa us o h=>⟨o.elim id λz=>⟨ok.good a (ok.stay.free z),λw=>by obtain⟨_,m,q⟩:=ok.wl a w;rw[z] at q;cases q⟩,h⟩
def tLA(X:Cx)(G:Gd)(H0:Hp)(is:h8)(F:FA):TA:=λσ H Q=>∃W env ds env',Ok X.K G H0 W env σ H/\aggs env is/\F env=some (ds,env') /\
 ∀W' us ws H',Step W H W' H'->Ok X.K G H0 W' env' σ H'->us.length=is.length->(∀(j i:Nat),is[j]?=some i->∃u,us[j]?=some u/\σ[i]?=some (some u))->Reps X.K H' (Ow G W') ds ws->Q (us++ws) H'
structure JLA (X:Cx) (G:Gd) (H0:Hp) (is:h8) (es:ik) (F:FA):Prop where
 out:PA X es (tLA X G H0 is F)
variable{F:FA}
def jp(h:DAx X G H0 es F):JLA X G H0 [] es F:=⟨h.out.imp λσ H Q ⟨W,env,ds,env',ok,_,q,k⟩=>⟨W,env,ds,env',ok,q,λW' vs H' st D r=>k W' [] vs H' st D rfl (λj i e=>by simp at e) r⟩⟩
variable{Nn Cn:g7}{i:Nat}
def x8(h:JLA X G H0 is es F)(an:Ats Nn Cn X)(D:Nn[i]?=some x:=by rfl)(I:starEach (.Name x pos::es) X.env=(false,eval (.Name x pos) X.env)::starEach es X.env:=by rfl):JLA X G H0 (i::is) (.Name x pos::es) F :=
 ⟨(mr ((an.a D).pe) h.out I).imp λσ H Q Y=>by
  obtain⟨W,env,ds,env',ok,U,q,k⟩:=Y;obtain⟨s,I⟩:=U i (by simp);obtain⟨v,V,_⟩:=ok.slot i s I;refine⟨v,V,W,env,ds,env',ok,λJ hi=>U J (by simp[hi]),q,λW' us ws H' st R Z b r=>?_⟩;refine k W' (v::us) ws H' st R (by rw[am,am,Z]) (λj J e=>?_) r;cases j with
  | zero=>simp at e;subst e;exact⟨v,rfl,V⟩
  | succ j=>obtain⟨u,c,d⟩:=b j J (by simpa using e);exact⟨u,by simpa using c,d⟩⟩
def iu(m:ln->k8->k9)(is:h8)(F:FA):FE:=λe=>if aggs e is then(F e).bind λr=>(getR r.2 is).bind λags=>(m ags r.1).map λd=>(d,r.2) else none
def l6(x:ln->k8->ka)(is:h8)(F:FA):XF:=λe=>if aggs e is then(F e).bind λr=>(getR r.2 is).bind λags=>(x ags r.1).map λc=>(c,r.2) else none
variable{m:ln->k8->k9}{xx:ln->k8->ka}
def zp0:∀σ H Q,tD X.K G H0 (iu m is F) σ H Q->tLA X G H0 is F σ H λvs H1=>qSp X.K m xx vs H1 Q (EXs X σ):=λσ H Q J=>by
 obtain⟨W,env,d,env',ok,q,k⟩:=J;unfold iu at q;split at q;case isFalse=>cases q
 rename_i I;cases e1:F env with
 | none=>rw[e1] at q;cases q
 | some r =>
   rw[e1,ac] at q;cases e2:getR r.2 is with
   | none=>rw[e2] at q;cases q
   | some ags =>
     rw[e2,ac] at q;cases e3:m ags r.1 with
     | none=>rw[e3] at q;cases q
     | some d' =>
       rw[e3] at q;cases q;exact⟨W,env,r.1,r.2,ok,I,e1,λW1 us ws H1 R D U V Y=>⟨Ow G W1,ags,us,r.1,ws,rfl,D.roAll e2 U V,Y,.inl ⟨_,e3,λv H' sm Z=>k W1 v H' (R.trans (Step.same sm)) (D.same sm) (D.newRep Z)⟩⟩⟩
def zxq:∀σ H (Q:VK),tDX X G H0 (l6 xx is F) σ H->tLA X G H0 is F σ H λvs H1=>qSp X.K m xx vs H1 Q (EXs X σ):=λσ H Q R=>by
 obtain⟨W,env,c,env',ok,q,k⟩:=R;unfold l6 at q;split at q;case isFalse=>cases q
 rename_i J;cases e1:F env with
 | none=>rw[e1] at q;cases q
 | some r =>
   rw[e1,ac] at q;cases e2:getR r.2 is with
   | none=>rw[e2] at q;cases q
   | some ags =>
     rw[e2,ac] at q;cases e3:xx ags r.1 with
     | none=>rw[e3] at q;cases q
     | some c' =>
       rw[e3] at q;cases q;refine⟨W,env,r.1,r.2,ok,J,e1,λW1 us ws H1 U D V Y Z=>⟨Ow G W1,ags,us,r.1,ws,rfl,D.roAll e2 V Y,Z,.inr ⟨_,e3,λC H' a sm pins H2 s2 d ea s' b I fl=>?_⟩⟩⟩;cases b;exact k W1 H' C a (U.trans (Step.same sm)) (D.same sm) pins ea s' (.inl ⟨s2,H2,I,fl⟩)
variable{jr:Nat}{p':Pos}
def nh(c:Cal X.prog X.w X.K X.mg X.base (CXr X.prog X.w) x k (qSp X.K m xx))(R:Room jr X.A)(U:JLA X G H0 is (e::es) F)(D:k<=jr:=by decide)(V:Gl X x:=by walk_at "g")(Y:starEach (e::es) X.env=(false,eval e X.env)::starEach es X.env:=by rfl)(I:(backTo pos (starEach es X.env)).any (·.1)=false:=by rfl) :
  DEx X G H0 (.Call (.Name x p') (e::es) [] pos) (iu m is F):=let ⟨_,_,_,Z,a,b,d,J⟩:=c;⟨(zo Z (R.mono D) V a b d U.out J Y I).imp zp0⟩
def nc(c:Cal X.prog X.w X.K X.mg X.base (CXr X.prog X.w) x k (qSp X.K m xx))(R:Room jr X.A)(U:JLA X G H0 is (e::es) F)(D:k<=jr:=by decide)(V:Gl X x:=by walk_at "g")(Y:starEach (e::es) X.env=(false,eval e X.env)::starEach es X.env:=by rfl)(I:(backTo pos (starEach es X.env)).any (·.1)=false:=by rfl) :
  JX X G H0 (.Call (.Name x p') (e::es) [] pos) (l6 xx is F):=let ⟨_,_,_,Z,a,b,d,J⟩:=c;⟨(zo Z (R.mono D) V a b d U.out J Y I).imp zxq⟩
instance (a b:List AK):Decidable (a=b):=Classical.propDecidable _
def kg(m:ln->k8->lx)(is:h8)(F:FA):FE:=λe=>if aggs e is then(F e).bind λr=>(getA r.2 is).bind λags=>(m ags r.1).bind λq=>if q.2.map (·.1)=ags.map (·.1) then some (q.1,putA r.2 is q.2) else none else none
def mf(x:ln->k8->Option (Str×ln))(is:h8)(F:FA):XF:=λe=>if aggs e is then(F e).bind λr=>(getA r.2 is).bind λags=>(x ags r.1).bind λq=>if q.2.map (·.1)=ags.map (·.1) then some (q.1,putA r.2 is q.2) else none else none
variable{b:Expr}
def z4u{a b:ln}(h:b.map (·.1)=a.map (·.1)):b.length=a.length/\∀(j:Nat) (x y:Ag),a[j]?=some x->b[j]?=some y->y.1=x.1:=by
 refine⟨by simpa using congrArg List.length h,λj x y D I=>?_⟩;have:=congrArg (λl:List AK=>l[j]?) h;simp[bu,D,I,Option.some.injEq] at this;exact this
variable{m:ln->k8->lx}{xx:ln->k8->Option (Str×ln)}
theorem zp1(Y:is.Nodup):∀σ H Q,tD X.K G H0 (kg m is F) σ H Q->tLA X G H0 is F σ H λvs H1=>lSp X.K m xx vs H1 Q (EXs X σ):=λσ H Q e=>by
 obtain⟨W,env,d,env',ok,q,k⟩:=e;unfold kg at q;split at q;case isFalse=>cases q
 rename_i J;cases e1:F env with
 | none=>rw[e1] at q;cases q
 | some r =>
   rw[e1,ac] at q;cases e2:getA r.2 is with
   | none=>rw[e2] at q;cases q
   | some ags =>
     rw[e2,ac] at q;cases e3:m ags r.1 with
     | none=>rw[e3] at q;cases q
     | some z =>
       rw[e3,ac] at q;split at q;case isFalse=>cases q
       rename_i R;cases q;obtain⟨f,g⟩:=z4u R;refine⟨W,env,r.1,r.2,ok,J,e1,λW1 us ws H1 i D N l n=>?_⟩;obtain⟨O,I,p,Z,s,U⟩:=D.lend Y e2;have t:I=us:=by
        apply dz;intro j;by_cases b:j<is.length
        ·obtain⟨u,w,x⟩:=l j is[j] (by simp[b])
         obtain⟨P,y,c⟩:=Z j is[j] (by simp[b]);rw[x] at c;cases c;rw[w,y]
        ·rw[cz (by lia),cz (by lia)]
       subst t;refine⟨_,_,_,ags,I,r.1,ws,rfl,by rw[p,x9 e2],U,?_,.inl ⟨_,_,e3,λW' env' A v H' st V B C=>?_⟩⟩
       ·exact n.mono (λ_ _ h=>h) λa us o h=>⟨⟨⟨o.1,λz=>absurd z o.2⟩,λz=>o.2 (D.lentW z)⟩,h⟩
       ·obtain⟨E,L,M⟩:=D.unlend Y e2 Z s (by rw[f,x9 e2]) g st V B
        exact k _ v H' (i.trans L) E (M C)
theorem znn(Z:is.Nodup):∀σ H (Q:VK),tDX X G H0 (mf xx is F) σ H->tLA X G H0 is F σ H λvs H1=>lSp X.K m xx vs H1 Q (EXs X σ):=λσ H Q f=>by
 obtain⟨W,env,d,env',ok,q,k⟩:=f;unfold mf at q;split at q;case isFalse=>cases q
 rename_i R;cases e1:F env with
 | none=>rw[e1] at q;cases q
 | some r =>
   rw[e1,ac] at q;cases e2:getA r.2 is with
   | none=>rw[e2] at q;cases q
   | some ags =>
     rw[e2,ac] at q;cases e3:xx ags r.1 with
     | none=>rw[e3] at q;cases q
     | some z =>
       rw[e3,ac] at q;split at q;case isFalse=>cases q
       rename_i U;cases q;obtain⟨g,i⟩:=z4u U;refine⟨W,env,r.1,r.2,ok,R,e1,λW1 us ws H1 l D O n p=>?_⟩;obtain⟨P,J,s,b,t,V⟩:=D.lend Z e2;have v:J=us:=by
        apply dz;intro j;by_cases c:j<is.length
        ·obtain⟨u,w,x⟩:=n j is[j] (by simp[c])
         obtain⟨S,y,e⟩:=b j is[j] (by simp[c]);rw[x] at e;cases e;rw[w,y]
        ·rw[cz (by lia),cz (by lia)]
       subst v;refine⟨_,_,_,ags,J,r.1,ws,rfl,by rw[s,x9 e2],V,?_,.inr ⟨_,_,e3,λC W' env' A H' B st Y E pins H2 s2 T ea s' L I fl=>?_⟩⟩
       ·exact p.mono (λ_ _ h=>h) λa us o h=>⟨⟨⟨o.1,λz=>absurd z o.2⟩,λz=>o.2 (D.lentW z)⟩,h⟩
       ·cases L
        obtain⟨M,N,u3⟩:=D.unlend Z e2 b t (by rw[g,x9 e2]) i st Y E;exact k _ H' C B (l.trans N) M pins ea s' (.inl ⟨s2,H2,I,fl⟩)
def zju(c:Cal X.prog X.w X.K X.mg X.base (CXr X.prog X.w) x k (lSp X.K m xx))(R:Room jr X.A)(U:JLA X G H0 is (e::es) F)(D:k<=jr:=by decide)(V:Gl X x:=by walk_at "g")(Y:is.Nodup:=by decide)(Z:starEach (e::es) X.env=(false,eval e X.env)::starEach es X.env:=by rfl)(I:(backTo pos (starEach es X.env)).any (·.1)=false:=by rfl) :
  DEx X G H0 (.Call (.Name x p') (e::es) [] pos) (kg m is F):=let ⟨_,_,_,a,b,d,f,J⟩:=c;⟨(zo a (R.mono D) V b d f U.out J Z I).imp (zp1 Y)⟩
def zxr(c:Cal X.prog X.w X.K X.mg X.base (CXr X.prog X.w) x k (lSp X.K m xx))(R:Room jr X.A)(U:JLA X G H0 is (e::es) F)(D:k<=jr:=by decide)(V:Gl X x:=by walk_at "g")(Y:is.Nodup:=by decide)(Z:starEach (e::es) X.env=(false,eval e X.env)::starEach es X.env:=by rfl)(I:(backTo pos (starEach es X.env)).any (·.1)=false:=by rfl) :
  JX X G H0 (.Call (.Name x p') (e::es) [] pos) (mf xx is F):=let ⟨_,_,_,a,b,d,f,J⟩:=c;⟨(zo a (R.mono D) V b d f U.out J Z I).imp (znn Y)⟩
def isK(κ:AK)(e:DE0)(i:Nat):Prop:=(∃l ps,e[i]?=some (some (.ag κ l ps)))\/∃ps,e[i]?=some (some (.ro κ ps))
instance (κ:AK) (e:DE0) (i:Nat):Decidable (isK κ e i):=Classical.propDecidable _
def fK(κ:AK)(i:Nat)(f:FE):FE:=λe=>if isK κ e i then f e else none
def xK(κ:AK)(i:Nat)(f:XF):XF:=λe=>if isK κ e i then f e else none
def isK.at{K:kf}{W:Addr->Prop}{H:Hp}{env:DE0}{σ:St}{c:Str}{fs:g7}{C:Addr}(ok:Ok K G H0 W env σ H)(h:isK (.ins false c fs) env i)(U:Cl K c C):∃p dx us,σ[i]?=some (some (.ref p))/\H p=some (.ins C dx (fs.zip us))/\fs.length=us.length:=by
 rcases h with⟨l,ps,e⟩ | ⟨ps,e⟩
 ·obtain⟨v,I,p,as,us,rfl,_,_,_,⟨V,dx,J,D,R⟩,_⟩:=ok.slot i _ e
  rw[Cl.inj J U] at D;exact⟨p,dx,us,I,D,R⟩
 ·obtain⟨v,I,p,us,rfl,_,⟨V,dx,J,D,R⟩,_⟩:=ok.slot i _ e
  rw[Cl.inj J U] at D;exact⟨p,dx,us,I,D,R⟩
variable{m:Str}{fs:g7}
def zrf(h:m∉fs):(fs.zip us).lookup m=none:=by
 induction fs generalizing us with
 | nil=>rfl
 | cons f r ih =>
   cases us with
   | nil=>rfl
   | cons u us =>
     rw[jc,cq];have:(m==f)=false:=by simp;exact λz=>h (by simp[z])
     rw[this];exact ih λz=>h (by simp[z])
variable{f:FE}
def zrg(U:Cl X.K c C)(V:m∉fs)(h:∀σ H Q,tD X.K G H0 f σ H Q->tLA X G H0 [i] F σ H λvs H1=>sp vs H1 Q (EXs X σ)):∀σ H Q,tD X.K G H0 (fK (.ins false c fs) i f) σ H Q->zre X C m sp (tVar i) (tDA X.K G H0 F) σ H Q:=λσ H Q Y=>by
 obtain⟨W,env,d,env',ok,q,k⟩:=Y;unfold fK at q;split at q;case isFalse=>cases q
 rename_i Z;obtain⟨p,dx,us,R,a,_⟩:=Z.at ok U;obtain⟨b,env0,ds,D,I,_,g,l⟩:=h σ H Q ⟨W,env,d,env',ok,q,k⟩;refine⟨_,R,p,dx,_,rfl,a,zrf V,b,env0,ds,D,I,g,λW' ws H' st J r=>?_⟩;exact l W' [.ref p] ws H' st J rfl (λj n e=>by cases j with | zero=>simp at e;subst e;exact⟨_,rfl,R⟩ | succ j=>simp at e) r
def zus(U:Cl X.K c C)(V:m∉fs){f:XF}(h:∀σ H (Q:VK),tDX X G H0 f σ H->tLA X G H0 [i] F σ H λvs H1=>sp vs H1 Q (EXs X σ)):∀σ H (Q:VK),tDX X G H0 (xK (.ins false c fs) i f) σ H->zre X C m sp (tVar i) (tDA X.K G H0 F) σ H Q:=λσ H Q Y=>by
 obtain⟨W,env,d,env',ok,q,k⟩:=Y;unfold xK at q;split at q;case isFalse=>cases q
 rename_i Z;obtain⟨p,dx,us,R,a,_⟩:=Z.at ok U;obtain⟨b,env0,ds,D,I,_,g,l⟩:=h σ H Q ⟨W,env,d,env',ok,q,k⟩;refine⟨_,R,p,dx,_,rfl,a,zrf V,b,env0,ds,D,I,g,λW' ws H' st J r=>?_⟩;exact l W' [.ref p] ws H' st J rfl (λj n e=>by cases j with | zero=>simp at e;subst e;exact⟨_,rfl,R⟩ | succ j=>simp at e) r
section
variable {X:Cx} {G:Gd} {H0:Hp} {a b e:Expr} {es:ik} {f:FE} {F:FA} {x m cn:Str} {fs:g7} {is:h8} {pos p' p1 p2 apos:Pos} {i:Nat} {k:Nat} {fa C:Addr} {fd:FuncData} {ps:g7} {pl:Sem Bool}
variable {mm:ln->k8->k9} {xx:ln->k8->ka}
def z4v{Nn Cn:g7}{jr:Nat}{i:Nat}(c:MCal X.prog X.w X.K X.mg X.base cn m k (qSp X.K mm xx))(V:Room jr X.A)(Y:DAx X G H0 (e::es) F)(an:Ats Nn Cn X)(D:k<=jr:=by decide)(I:Nn[i]?=some x:=by rfl)(Z:m∉fs:=by decide +kernel)(J:starEach (e::es) X.env=(false,eval e X.env)::starEach es X.env:=by rfl)(R:(backTo pos (starEach es X.env)).any (·.1)=false:=by rfl)(b:eval (.Call (.Attribute (.Name x p') m apos) (e::es) [] pos) X.env=(do
   let ov <-eval (.Name x p') X.env
   standAt apos.atName
   let (f,first) <-holding [ov] (getMethod ov m pl)
   callWith pos f first (backTo pos (starEach (e::es) X.env)) (backToKw pos (keywordEach [] X.env))):=by rfl) :
  DEx X G H0 (.Call (.Attribute (.Name x p') m apos) (e::es) [] pos) (fK (.ins false cn fs) i (iu mm [i] F)):=let ⟨_,_,_,_,c,U,d,g,h⟩:=c;⟨(znl ((an.a I).pe) c U d (V.mono D) g Y.out J R b).imp (zrg h Z zp0)⟩
def l9{Nn Cn:g7}{jr:Nat}{i:Nat}(c:MCal X.prog X.w X.K X.mg X.base cn m k (qSp X.K mm xx))(U:Room jr X.A)(an:Ats Nn Cn X)(D:k<=jr:=by decide)(I:Nn[i]?=some x:=by rfl)(V:m∉fs:=by decide +kernel)(Y:eval (.Call (.Attribute (.Name x p') m apos) [] [] pos) X.env=(do
   let ov <-eval (.Name x p') X.env
   standAt apos.atName
   let (f,first) <-holding [ov] (getMethod ov m pl)
   callWith pos f first (backTo pos (starEach [] X.env)) (backToKw pos (keywordEach [] X.env))):=by rfl) :
  DEx X G H0 (.Call (.Attribute (.Name x p') m apos) [] [] pos) (fK (.ins false cn fs) i (iu mm [i] fNil)):=let ⟨_,_,_,_,c,J,Z,b,d⟩:=c;⟨(zli ((an.a I).pe) c J Z (U.mono D) b Y).imp λσ H Q h=>by
   obtain⟨e,h1,h2⟩:=zrg (F:=fNil) d V (zp0 (xx:=xx)) σ H Q h;obtain⟨a,dx,R,g,j,l,W,env,ds,env',ok,q,kk⟩:=h2;cases q;exact⟨e,h1,a,dx,R,g,j,l,kk W [] H Step.refl ok .nil⟩⟩
variable {mm:ln->k8->lx} {xx:ln->k8->Option (Str×ln)}
def wc{Nn Cn:g7}{jr:Nat}{i:Nat}(c:MCal X.prog X.w X.K X.mg X.base cn m k (lSp X.K mm xx))(V:Room jr X.A)(Y:DAx X G H0 (e::es) F)(an:Ats Nn Cn X)(D:k<=jr:=by decide)(I:Nn[i]?=some x:=by rfl)(Z:m∉fs:=by decide +kernel)(J:starEach (e::es) X.env=(false,eval e X.env)::starEach es X.env:=by rfl)(R:(backTo pos (starEach es X.env)).any (·.1)=false:=by rfl)(b:eval (.Call (.Attribute (.Name x p') m apos) (e::es) [] pos) X.env=(do
   let ov <-eval (.Name x p') X.env
   standAt apos.atName
   let (f,first) <-holding [ov] (getMethod ov m pl)
   callWith pos f first (backTo pos (starEach (e::es) X.env)) (backToKw pos (keywordEach [] X.env))):=by rfl) :
  DEx X G H0 (.Call (.Attribute (.Name x p') m apos) (e::es) [] pos) (fK (.ins false cn fs) i (kg mm [i] F)):=let ⟨_,_,_,_,c,U,d,g,h⟩:=c;⟨(znl ((an.a I).pe) c U d (V.mono D) g Y.out J R b).imp (zrg h Z (zp1 (by simp)))⟩
def zno{Nn Cn:g7}{jr:Nat}{i:Nat}(c:MCal X.prog X.w X.K X.mg X.base cn m k (lSp X.K mm xx))(V:Room jr X.A)(Y:DAx X G H0 (e::es) F)(an:Ats Nn Cn X)(D:k<=jr:=by decide)(I:Nn[i]?=some x:=by rfl)(Z:m∉fs:=by decide +kernel)(J:starEach (e::es) X.env=(false,eval e X.env)::starEach es X.env:=by rfl)(R:(backTo pos (starEach es X.env)).any (·.1)=false:=by rfl)(b:eval (.Call (.Attribute (.Name x p') m apos) (e::es) [] pos) X.env=(do
   let ov <-eval (.Name x p') X.env
   standAt apos.atName
   let (f,first) <-holding [ov] (getMethod ov m pl)
   callWith pos f first (backTo pos (starEach (e::es) X.env)) (backToKw pos (keywordEach [] X.env))):=by rfl) :
  JX X G H0 (.Call (.Attribute (.Name x p') m apos) (e::es) [] pos) (xK (.ins false cn fs) i (mf xx [i] F)):=let ⟨_,_,_,_,c,U,d,g,h⟩:=c;⟨(znl ((an.a I).pe) c U d (V.mono D) g Y.out J R b).imp (zus h Z (znn (by simp)))⟩
def zj9{Nn Cn:g7}{jr:Nat}{i:Nat}(c:MCal X.prog X.w X.K X.mg X.base cn m k (lSp X.K mm xx))(U:Room jr X.A)(an:Ats Nn Cn X)(D:k<=jr:=by decide)(I:Nn[i]?=some x:=by rfl)(V:m∉fs:=by decide +kernel)(Y:eval (.Call (.Attribute (.Name x p') m apos) [] [] pos) X.env=(do
   let ov <-eval (.Name x p') X.env
   standAt apos.atName
   let (f,first) <-holding [ov] (getMethod ov m pl)
   callWith pos f first (backTo pos (starEach [] X.env)) (backToKw pos (keywordEach [] X.env))):=by rfl) :
  DEx X G H0 (.Call (.Attribute (.Name x p') m apos) [] [] pos) (fK (.ins false cn fs) i (kg mm [i] fNil)):=let ⟨_,_,_,_,c,J,Z,b,d⟩:=c;⟨(zli ((an.a I).pe) c J Z (U.mono D) b Y).imp λσ H Q h=>by
   obtain⟨e,h1,h2⟩:=zrg (F:=fNil) d V (zp1 (xx:=xx) (by simp)) σ H Q h;obtain⟨a,dx,R,g,j,l,W,env,ds,env',ok,q,kk⟩:=h2;cases q;exact⟨e,h1,a,dx,R,g,j,l,kk W [] H Step.refl ok .nil⟩⟩
def zo3{Nn Cn:g7}{jr:Nat}{i:Nat}(c:MCal X.prog X.w X.K X.mg X.base cn m k (lSp X.K mm xx))(U:Room jr X.A)(an:Ats Nn Cn X)(D:k<=jr:=by decide)(I:Nn[i]?=some x:=by rfl)(V:m∉fs:=by decide +kernel)(Y:eval (.Call (.Attribute (.Name x p') m apos) [] [] pos) X.env=(do
   let ov <-eval (.Name x p') X.env
   standAt apos.atName
   let (f,first) <-holding [ov] (getMethod ov m pl)
   callWith pos f first (backTo pos (starEach [] X.env)) (backToKw pos (keywordEach [] X.env))):=by rfl) :
  JX X G H0 (.Call (.Attribute (.Name x p') m apos) [] [] pos) (xK (.ins false cn fs) i (mf xx [i] fNil)):=let ⟨_,_,_,_,c,J,Z,b,d⟩:=c;⟨(zli ((an.a I).pe) c J Z (U.mono D) b Y).imp λσ H Q h=>by
   obtain⟨e,h1,h2⟩:=zus (F:=fNil) d V (znn (m:=mm) (by simp)) σ H Q h;obtain⟨a,dx,R,g,j,l,W,env,ds,env',ok,q,kk⟩:=h2;cases q;exact⟨e,h1,a,dx,R,g,j,l,kk W [] H Step.refl ok .nil⟩⟩
def re{z:Int}(D:∃t,X.mg x=some (.int z t))(I:Gl X x:=by walk_at "g")(J:(x==("__debug__" : Str))=false:=by decide +kernel):DEx X G H0 (.Name x pos) (fC (.int z)):=by
 obtain⟨t,D⟩:=D;exact de_c (ztb I D (v:=.int z) ⟨t,rfl⟩ J) λ_ _=>.int _
abbrev FV:=DE0->Option DE0
def tV(X:Cx)(G:Gd)(H0:Hp)(v:FV):TE:=λσ H Q=>∃W env env',Ok X.K G H0 W env σ H/\v env=some env'/\∀W' z H',Step W H W' H'->Ok X.K G H0 W' env' σ H'->Q (.str z) H'
structure JV (X:Cx) (G:Gd) (H0:Hp) (e:Expr) (v:FV):Prop where
 out:PE X e (tV X G H0 v)
def zrh{z:Str}{j:Nat}:JV X G H0 (.Constant (.str z) j pos) some:=⟨zyt.imp λσ H Q ⟨W,env,env',ok,q,k⟩=>by cases q;exact k W z H Step.refl ok⟩
structure JVP (X:Cx) (G:Gd) (H0:Hp) (e:Expr) (v:FV):Prop where
 out:∀(pins:k4) (s:Shared) (σ:St) (H:Hp) (Q:Nat->Hp->Prop),Inv X pins σ H s->(∃W env env',Ok X.K G H0 W env σ H/\v env=some env'/\∀n W' H',n<=1000->Step W H W' H'->Ok X.K G H0 W' env' σ H'->Q n H') ->
  wpAny (model X.prog X.w) X.A (eval e X.env) (λu s'=>∃z t H',u=.str z t/\Inv X pins σ H' s'/\Q z.length H') X.xe s
def ut{z:Str}{j:Nat}(D:z.length<=1000:=by decide):JVP X G H0 (.Constant (.str z) j pos) some:=⟨λpins s σ H Q I J=>by
 obtain⟨W,env,env',ok,q,k⟩:=J;cases q;exact Calls.Constant_str ⟨z,_,H,rfl,I.tok _,k _ W H D Step.refl ok⟩⟩
def vInt(f:FE):FV:=λe=>(f e).bind λr=>match r.1 with | .int z=>if z.natAbs<1000000 then some r.2 else none | _=>none
theorem xw(h:DEx X G H0 a f):JVP X G H0 (.FormattedValue a (-1) none pos) (vInt f):=⟨λpins s σ H Q I J=>by
 obtain⟨W,env,env',ok,q,k⟩:=J;unfold vInt at q;cases e1:f env with
 | none=>rw[e1] at q;cases q
 | some r =>
   rw[e1,ac] at q;split at q;case h_2=>cases q
   rename_i z b;split at q;case isFalse=>cases q
   rename_i U;cases q;refine FormattedValue_plain (thn (h.out pins s σ H (λv H1=>v=.int z/\∀n,n<=1000->Q n H1) I ⟨W,env,r.1,r.2,ok,e1,λW1 v H1 V R Y=>⟨by rw[b] at Y;exact Y.int_,λn c=>k n W1 H1 c V R⟩⟩) λu V J=>?_);obtain⟨v,H1,d,e,g,i⟩:=J;subst g;obtain⟨t,rfl⟩:=e;have D:z.natAbs.log2<1920:=by
    by_cases Z:z.natAbs=0
    ·rw[Z];decide
    ·exact(Nat.log2_lt Z).mpr (bc U (df (by decide:(1000000:Nat)<=2 ^ 20) (Nat.pow_le_pow_right (by decide) (by decide))))
   refine formatField_int_small D ⟨_,_,H1,rfl,(d.tok _).tok _,i _ ?_⟩;have:(toString z).length<=6+1:=int_text_length_le10 (by decide) U;rw[PySem.ofString_length]
   lia⟩
structure JVs (X:Cx) (G:Gd) (H0:Hp) (es:ik) (v:FV):Prop where
 out:∀(acc:Str) (pins:k4) (s:Shared) (σ:St) (H:Hp) (Q:VK),acc.length+1000*es.length<=100000->Inv X pins σ H s->tV X G H0 v σ H Q ->
  wpAny (model X.prog X.w) X.A (joinParts acc (evalEach es X.env)) (EP X pins σ Q) X.xe s
theorem xv  : JVs X G H0 [] some:=⟨λD pins s σ H Q R I J=>by
 obtain⟨W,env,env',ok,q,k⟩:=J;cases q;exact joinParts_nil ⟨.str D,H,I.tok _,⟨_,rfl⟩,k W D H Step.refl ok⟩ (by rw[sizeLine_eq];lia)⟩
theorem n8{v w:FV}(h:JVP X G H0 e v)(t:JVs X G H0 es w)(c:evalEach (e::es) X.env=eval e X.env::evalEach es X.env:=by rfl):JVs X G H0 (e::es) (λz=>(v z).bind w):=⟨λY pins s σ H Q Z I D=>by
 obtain⟨W,env,env',ok,q,k⟩:=D;cases e1:v env with
 | none=>simp only[e1] at q;cases q
 | some env1 =>
   have q:w env1=some env':=by simpa only[e1,ac] using q
   rw[am] at Z;refine joinParts_cons (thn (h.out pins s σ H (λn H1=>n<=1000/\tV X G H0 w σ H1 Q) I ⟨W,env,env1,ok,e1,λn W1 H1 V J R=>⟨V,W1,env1,env',R,q,λW' z H' s2 U=>k W' z H' (J.trans s2) U⟩⟩) λu J D=>?_);obtain⟨z,tk,H1,a,b,V,tv⟩:=D;subst a;exact⟨by rw[strLen_append,sizeLine_eq];lia,t.out _ pins J σ H1 Q (by rw[strLen_append];lia) b tv⟩⟩
theorem xu{e':Expr}{v:FV}(h:JVs X G H0 (e::e'::es) v)(D:1000*(e::e'::es).length<=100000:=by decide):JV X G H0 (.JoinedStr (e::e'::es) pos) v :=
 ⟨λpins s σ H Q I t=>JoinedStr_many (h.out Str.empty pins s σ H Q (by show 0+_<=_;lia) I t)⟩
abbrev VEs:g8:=[.type "ValueError",.type "Exception",.type "BaseException",.type "object"]
def XC(K:kf)(C:Addr):Prop:=PySem.W.excIn K C VEs "ValueError.__new__" = true
def Exc(K:kf)(mg:Str->g9)(c:Str):Prop:=∃C,Cl K c C/\XC K C/\mg c=some (.ref C)/\(c==("__debug__" : Str))=false
def XC.obj{K:kf}{C:Addr}{h:Heap}(I:XC K C)(D:K.In h):∃bm N nm q bs hdct sn sub ab col dd k0 k1 k2 k3 k5 mN,h.get? C=some (excClassObj nm q C N bs bm hdct sn sub ab col dd k0 k1 k2 k3 k5 "ValueError.__new__")/\h.Ns N mN/\mN "__init__" = none/\OwnTail h VEs bm:=by
 unfold XC PySem.W.excIn at I;split at I;case h_2=>cases I
 rename_i dd R sl U;split at I;case h_2=>cases I
 rename_i m bm k0 k1 k2 k3 n k5 V Y;simp only[eg,beq_iff_eq,ke] at I;obtain⟨⟨⟨⟨⟨Z,a⟩,b⟩,c⟩,J⟩,d⟩:=I;subst Z;subst a;have e:=D _ _ U;obtain⟨nm,bs,f,g,i,j,sn,sub,ab,col,k⟩:=R;obtain⟨l⟩:=sl;subst V;subst b;subst Y;exact⟨bm,g,nm,i,bs,j,sn,sub,ab,col,dd,k0,k1,k2,k3,k5,_,e,.of_isNs (isNs_of_in D J),nsMap_none_of_in D J d,tail_of_in D c⟩
def lc(c:Str)(v:FV):FS:=λe=>(v e).map λe'=>(.xc c,e')
def rh{v:FV}{c:Str}{i cpos:Pos}(j:Exc X.K X.mg c)(l:JV X G H0 a v)(n:X.calm=true:=by rfl)(o:Gl X c:=by walk_at "g")(U:starEach [a] X.env=(false,eval a X.env)::starEach [] X.env:=by rfl)(V:(backTo cpos (starEach [a] X.env)).any (·.1)=false:=by rfl) :
  DSx X G H0 (.Raise (some (.Call (.Name c i) [a] [] cpos)) none pos) (lc c v):=let ⟨C,p,r,t,Y⟩:=j;⟨λpins s σ H D I Z=>by
 obtain⟨W,env,fl,env',ok,q,k⟩:=Z;unfold lc at q;cases e1:v env with
 | none=>rw[e1] at q;cases q
 | some env1 =>
   rw[e1] at q;cases q;obtain⟨tl,N,nm,q,bs,hdct,sn,sub,ab,col,dd,k0,k1,k2,k3,k5,mN,u,w,x,g⟩:=r.obj I.ok.mod.kin;refine wpAny_Raise_call_subT (C:=C) (nm:=nm) (q:=q) (N:=N) (bs:=bs) (bm:=tl) (hdct:=hdct) (sn:=sn) (sub:=sub) (ab:=ab) (col:=col) (dd:=dd) (k0:=k0) (k1:=k1) (k2:=k2) (k3:=k3) (k5:=k5) vb (mN:=mN)
    (g.hasType vb.hasBase) (I.ok.hd n) V x (vq I o t ⟨rfl,?_⟩ Y)
   rw[U];refine Calls.evalArgs_plain ?_;have h:=(mr l.out o5 U) cpos pins s σ H (λvs H1=>vs.length=1/\∃W1,Step W H W1 H1/\Ok X.K G H0 W1 env' σ H1) I ⟨W,env,env',ok,e1,λW1 z H1 b J=>⟨rfl,W1,b,J⟩⟩;rw[U] at h;refine thn h λus b Z=>?_;obtain⟨vs,H1,R,y,A,W1,d,J⟩:=Z;have f:us.length<=sizeLine:=by rw[<-y.length,A];decide
   exact⟨rfl,f,R.bk _ _ u,w.keeps R.bk,g.keeps R.bk,λh' e m=>k W1 σ H1 C p d J pins e _ (.inr ⟨b,us,R,m,rfl⟩)⟩⟩
end
def agAt(e:DE0)(i:Nat):Option Ag:=match e[i]? with | some (some (.ag k _ ps))=>some (k,ps) | some (some (.ro k ps))=>some (k,ps) | _=>none
def pd:la->Nat->Nat
 | .o _::r,j+1=>pd r j+1
 | .d _::r,j+1=>pd r j
 | _,_=>0
inductive Acc where
 | at (κ:AK) | al (x:Nat)
def Acc.ok:Acc->DE0->Nat->Nat->Prop
 | .at κ,e,i,_=>isK κ e i
 | .al x,e,i,j=>∃k r ps,e[i]?=some (some (.ag k (some r) ps))/\e[x]?=some (some (.al r (pd ps j)))
instance (A:Acc) (e:DE0) (i j:Nat):Decidable (A.ok e i j):=Classical.propDecidable _
def lh(A:Acc)(i j:Nat)(e:DE0):Option k8:=if A.ok e i j then(agAt e i).bind λx=>match x.2[j]? with | some (.o ds)=>some ds | _=>none else none
def PartAt(K:kf)(H:Hp)(env:DE0)(σ:St)(i j:Nat)(a:Addr):Prop:=∃k ps p us,agAt env i=some (k,ps)/\σ[i]?=some (some (.ref p))/\AkOk K H k p us/\us[j]?=some (.ref a)
def tPt(X:Cx)(G:Gd)(H0:Hp)(A:Acc)(i j:Nat):TE:=λσ H Q=>∃W env ds,Ok X.K G H0 W env σ H/\lh A i j env=some ds /\
 ∀a vs,PartAt X.K H env σ i j a->H a=some (.lst vs)->Reps X.K H (Ow G W) ds vs->Q (.ref a) H
structure JPt (X:Cx) (G:Gd) (H0:Hp) (e:Expr) (A:Acc) (i j:Nat):Prop where
 out:PE X e (tPt X G H0 A i j)
protected def PtsOk.ix(h:PtsOk K G W H ps as us)(e:ps[j]?=some (.o ds)):∃a,us[j]?=some (.ref a)/\as[pd ps j]?=some a:=by
 induction h generalizing j with
 | nil=>simp at e
 | d _ _ ih =>
   cases j with
   | zero=>simp at e
   | succ j=>obtain⟨a,h1,h2⟩:=ih (j:=j) (by simpa using e);exact⟨a,by simpa using h1,h2⟩
 | @o _ a _ _ _ _ _ _ _ _ ih =>
   cases j with
   | zero=>exact⟨a,rfl,rfl⟩
   | succ j=>obtain⟨b,h1,h2⟩:=ih (j:=j) (by simpa using e);exact⟨b,by simpa using h1,by simpa[pd] using h2⟩
variable{k:AK}
def Ok.part(ok:Ok K G H0 W env σ H)(e:agAt env i=some (k,ps))(U:ps[j]?=some (.o ds)):∃p us a vs,σ[i]?=some (some (.ref p))/\AkOk K H k p us/\us[j]?=some (.ref a)/\H a=some (.lst vs)/\Reps K H (Ow G W) ds vs:=by
 unfold agAt at e;split at e
 ·rename_i k' l ps' q
  cases e;obtain⟨v,D,p,as,us,rfl,_,_,_,I,J⟩:=ok.slot i _ q;obtain⟨a,vs,h1,_,_,h2,R⟩:=J.get U;exact⟨p,us,a,vs,D,I,h1,h2,R⟩
 ·rename_i k' ps' q
  cases e;obtain⟨v,D,p,us,rfl,_,I,J⟩:=ok.slot i _ q;obtain⟨a,vs,h1,_,h2,R⟩:=J.get U;exact⟨p,us,a,vs,D,I,h1,h2,R⟩
 ·cases e
variable{A:Acc}
def zk3(h:lh A i j env=some ds):A.ok env i j/\∃k ps,agAt env i=some (k,ps)/\ps[j]?=some (.o ds):=by
 unfold lh at h;split at h;case isFalse=>cases h
 rename_i D;cases e:agAt env i with
 | none=>rw[e] at h;cases h
 | some x =>
   rw[e,ac] at h;split at h
   ·rename_i ds' q;cases h;exact⟨D,x.1,x.2,rfl,q⟩
   ·cases h
def PartAt.inj{b:Addr}(h:PartAt K H env σ i j a)(h':PartAt K H env σ i j b):a=b:=by
 obtain⟨k,ps,p,us,h1,h2,U,V⟩:=h;obtain⟨k',ps',p',Y,I,J,R,D⟩:=h';rw[h1] at I;cases I;rw[h2] at J;cases J;rw[vn U R.o] at D;rw[V] at D;cases D;rfl
def znp{f:Str}{u:V}(D:fs.Nodup)(h1:fs[j]?=some f)(h2:us[j]?=some u):(fs.zip us).lookup f=some u:=by
 induction fs generalizing us j with
 | nil=>simp at h1
 | cons g r ih =>
   cases us with
   | nil=>simp at h2
   | cons w us =>
     rw[jc,cq];cases j with
     | zero=>simp at h1 h2;subst h1;subst h2;simp
     | succ j =>
       have I:(f==g)=false:=by simp;exact λz=>(bw.mp D).1 (z ▸ bf h1)
       rw[I];exact ih (bw.mp D).2 h1 (by simpa using h2)
variable{cn:Str}
def vw(c:Atr X.K cn m)(an:Ats Nn Cn X)(I:Nn[i]?=some x:=by rfl)(U:fs[j]?=some m:=by rfl)(V:fs.Nodup:=by decide +kernel)(Y:attributeBase (.Name x p') m X.env (eval (.Name x p') X.env)=eval (.Name x p') X.env:=by rfl):JPt X G H0 (.Attribute (.Name x p') m pos) (.at (.ins false cn fs)) i j:=let ⟨C,c,Z,b⟩:=c;⟨(zyx ((an.a I).pe) Y).imp λσ H Q d=>by
  obtain⟨W,env,ds,ok,q,k⟩:=d;obtain⟨e,κ,ps,D,f⟩:=zk3 q;obtain⟨p,us,a,vs,h1,h2,J,g,h⟩:=ok.part D f;have n:κ=.ins false cn fs:=by
   rcases e with⟨l,ps',z⟩ | ⟨ps',z⟩ <;> (unfold agAt at D;rw[z] at D;cases D;rfl)
  subst n;obtain⟨r,dx,o,R,s⟩:=id h2;rw[Cl.inj o b] at R;exact⟨_,h1,p,C,dx,_,_,rfl,R,c,Z,znp V U J,k a vs ⟨_,ps,p,us,D,h1,h2,J⟩ g h⟩⟩
def zh{ix:Nat}(an:Ats Nn Cn X)(U:Nn[ix]?=some x:=by rfl):JPt X G H0 (.Name x pos) (.al ix) i j :=
 ⟨((an.a U).pe).imp λσ H Q h=>by
  obtain⟨W,env,ds,ok,q,k⟩:=h;obtain⟨⟨κ',r,ps',V,l⟩,κ,ps,Y,Z⟩:=zk3 q;have J:agAt env i=some (κ',ps'):=by unfold agAt;rw[V]
  rw[J] at Y;cases Y;obtain⟨v,m,p,as,us,rfl,_,_,n,o,b⟩:=ok.slot i _ V;obtain⟨w,s,t,d,e,I,R,rfl⟩:=ok.slot ix _ l;obtain⟨a,vs,h1,_,_,h2,u⟩:=b.get Z;obtain⟨y,f,g⟩:=b.ix Z;rw[h1] at f;cases f;have D:=n r rfl;have:e=a:=by
   cases κ' with
   | ls=>have D:G.r r=p::as:=D;rw[D] at I;cases I;rw[g] at R;cases R;rfl
   | ins bb c fs =>
     cases bb with
     | true=>have D:G.r r=[p]:=D;rw[D] at I;cases I;simp at R
     | false=>have D:G.r r=p::as:=D;rw[D] at I;cases I;rw[g] at R;cases R;rfl
  subst this;exact⟨_,s,k e vs ⟨_,ps',p,us,J,m,o,h1⟩ h2 u⟩⟩
def pLen(A:Acc)(i j:Nat):FE:=λe=>(lh A i j e).map λds=>(.int ds.length,e)
def zri(h:JPt X G H0 e A i j)(D:Bn X "len":=by walk_at "b")(I:starEach [e] X.env=(false,eval e X.env)::starEach [] X.env:=by rfl):DEx X G H0 (.Call (.Name "len" p') [e] [] pos) (pLen A i j) :=
 ⟨(x0 zia D.g D.m va (mr h.out o5 I) (by decide) (by decide) I rfl).imp λσ H Q J=>by
  obtain⟨W,env,d,env',ok,q,k⟩:=J;unfold pLen at q;cases e1:lh A i j env with
  | none=>rw[e1] at q;cases q
  | some ds =>
    rw[e1] at q;cases q;exact⟨W,env,ds,ok,e1,λa vs _ R r=>⟨a,vs,rfl,.inl (.inl (.inl R)),by rw[<-r.length];exact k W _ H Step.refl ok (.int _)⟩⟩⟩
structure JK (X:Cx) (e:Expr) (z:Int):Prop where
 out:PE X e (tC (.int z))
variable{z:Int}{jj:Nat}
def zzh:JK X (.Constant (.int z) jj pos) z:=⟨zf⟩
def zzi(h:JK X e z):JK X (.UnaryOp .USub e pos) (-z):=⟨(z23 zyv h.out).imp λσ H Q q=>⟨z,rfl,q⟩⟩
def pIx(A:Acc)(i j:Nat)(z:Int):FE:=λe=>(lh A i j e).bind λds=>(atI ds z).map λd=>(d,e)
def zut(h:JPt X G H0 e A i j)(D:JK X b z)(I:uw b:=by intro _ _;rfl):DEx X G H0 (.Subscript e b pos) (pIx A i j z) :=
 ⟨(xb zm0 h.out D.out I).imp λσ H Q J=>by
  obtain⟨W,env,d,env',ok,q,k⟩:=J;unfold pIx at q;cases e1:lh A i j env with
  | none=>rw[e1] at q;cases q
  | some ds =>
    rw[e1,ac] at q;cases e2:atI ds z with
    | none=>rw[e2] at q;cases q
    | some d' =>
      rw[e2] at q;cases q;refine⟨W,env,ds,ok,e1,λa vs _ R r=>?_⟩;obtain⟨v,U,V⟩:=xz r e2;exact⟨a,vs,z,v,rfl,rfl,.inl (.inl R),U,k W v H Step.refl ok V⟩⟩
def setP(e:DE0)(i j:Nat)(ds:k8):DE0:=match e[i]? with | some (some (.ag k l ps))=>e.set i (some (.ag k l (ps.set j (.o ds)))) | _=>e
def Ok.setP{K:kf}{W:Addr->Prop}{H:Hp}{env:DE0}{σ:St}{k:AK}{l:Option Nat}{ps:la}{ds ds':k8}{a:Addr}{vs':k7}(ok:Ok K G H0 W env σ H)(e:env[i]?=some (some (.ag k l ps)))(I:ps[j]?=some (.o ds))(J:PartAt K H env σ i j a)(r:Reps K H (Ow G W) ds' vs') :
  Ok K G H0 W (L2.setP env i j ds') σ (upd H a (.lst vs'))/\Step W H W (upd H a (.lst vs')):=by
 obtain⟨k',ps',p,us,h1,h2,R,U⟩:=J;have:agAt env i=some (k,ps):=by unfold agAt;rw[e]
 rw[this] at h1;cases h1;unfold L2.setP;rw[e];exact ok.turnP e h2 R I U r
def pPop(A:Acc)(i j:Nat):FE:=λe=>match e[i]? with
 | some (some (.ag _ _ _))=>(lh A i j e).bind λds=>(ds[ds.length-1]?).map λd=>(d,setP e i j ds.dropLast)
 | _=>none
variable{p1:Pos}
def zk4(h:JPt X G H0 e A i j)(D:attributeBase e "pop" X.env (eval e X.env)=eval e X.env:=by rfl)(I:(p1.endLine==pos.line)=true:=by rfl) :
  DEx X G H0 (.Call (.Attribute e "pop" p1) [] [] pos) (pPop A i j):=⟨(zy0 ff l4 l3 zy1 h.out D I).imp λσ H Q Y=>by
 obtain⟨W,env,d,env',ok,q,k⟩:=Y;unfold pPop at q;split at q;case h_2=>cases q
 rename_i kk l pp J;cases e1:lh A i j env with
 | none=>rw[e1] at q;cases q
 | some ds =>
   rw[e1,ac] at q;cases e2:ds[ds.length-1]? with
   | none=>rw[e2] at q;cases q
   | some d' =>
     rw[e2] at q;cases q;obtain⟨_,κ,ps,R,Z⟩:=zk3 e1;have:agAt env i=some (kk,pp):=by unfold agAt;rw[J]
     rw[this] at R;cases R;refine⟨W,env,ds,ok,e1,λa vs b U r=>⟨.inl ⟨rfl,_,.inl (.inl U)⟩,?_⟩⟩;obtain⟨u,c,f⟩:=r.get e2;obtain⟨g,V⟩:=ok.setP J Z b r.dropLast;exact⟨a,vs,u,rfl,rfl,U,by rw[<-r.length];exact c,k W _ _ V g (ok.rep V f)⟩⟩
def labO(k:AK)(l:Option Nat):Prop:=l.isSome=true/\∀c fs,k≠.ins true c fs
instance (k:AK) (l:Option Nat):Decidable (labO k l):=Classical.propDecidable _
variable{l:Option Nat}
def zxs{W1:Addr->Prop}{H1:Hp}{J:DE0}{R:la}{d:k8}(w:labO k l)(ok:Ok K G H0 W env σ H)(f:Ok K G H0 W1 J σ H1)(e:env[i]?=some (some (.ag k l ps)))(x:J[i]?=some (some (.ag k l R)))(y:ps[j]?=some (.o ds))(g:R[j]?=some (.o d))(z:pd R j=pd ps j)(A:PartAt K H env σ i j a):PartAt K H1 J σ i j a:=by
 obtain⟨r,rfl⟩:=kl.mp w.1;obtain⟨v,h,p,as,us,rfl,_,_,h1,B,C⟩:=ok.slot i _ e;obtain⟨M,Y,p',U,m,rfl,_,_,n,q,s⟩:=f.slot i _ x;rw[h] at Y;cases Y;have V:=h1 r rfl;have I:=n r rfl;obtain⟨b,E,F⟩:=C.ix y;obtain⟨N,t,Z⟩:=s.ix g;have L:PartAt K H env σ i j b:=⟨k,ps,p,us,by unfold agAt;rw[e],h,B,E⟩;have ab:=A.inj L;subst ab;have u:U=as:=by
  cases k with
  | ls=>have V:G.r r=p::as:=V;have I:G.r r=p::U:=I;rw[V] at I;cases I;rfl
  | ins bb c fs =>
    cases bb with
    | true=>exact absurd rfl (w.2 c fs)
    | false=>have V:G.r r=p::as:=V;have I:G.r r=p::U:=I;rw[V] at I;cases I;rfl
 subst u;rw[z,F] at Z;cases Z;exact⟨k,R,p,m,by unfold agAt;rw[x],h,q,t⟩
instance (k k':AK):Decidable (k=k'):=Classical.propDecidable _
def appP(i j:Nat)(k0:AK)(I:Option Nat)(n:Nat)(d:D)(e:DE0):Option (D×DE0):=match e[i]? with
 | some (some (.ag k l ps))=>(match ps[j]? with | some (.o ds)=>if k=k0/\l=I/\pd ps j=n/\Few (ds.length+1) then some (.non,setP e i j (ds++[d])) else none | _=>none)
 | _=>none
def qu(A:Acc)(i j:Nat)(f:FE):FE:=λe=>match e[i]? with
 | some (some (.ag k l ps))=>if labO k l then(lh A i j e).bind λ_=>(f e).bind λr=>appP i j k l (pd ps j) r.1 r.2 else none
 | _=>none
variable{a:Expr}
def zhf(h:JPt X G H0 e A i j)(o:DEx X G H0 a f)(I:attributeBase e "append" X.env (eval e X.env)=eval e X.env:=by rfl)(V:((backTo pos (starEach [a] X.env)).all (λx=>!x.1) && (backToKw pos (keywordEach [] X.env)).all (λx=>x.1.isSome)
   && decide ([a].length+([]:List Keyword).length+(if ([]:List Keyword).isEmpty then 0 else 1)<30))=true:=by rfl)(J:(p1.endLine==pos.line)=true:=by rfl)(g:starEach [a] X.env=(false,eval a X.env)::starEach [] X.env:=by rfl) :
  DEx X G H0 (.Call (.Attribute e "append" p1) [a] [] pos) (qu A i j f):=⟨(y9 ff yu yt zon h.out (mr o.out o5 g) I V J g rfl).imp λσ H Q s=>by
 obtain⟨W,env,d,env',ok,q,k⟩:=s;unfold qu at q;split at q;case h_2=>cases q
 rename_i kk P pp l;split at q;case isFalse=>cases q
 rename_i Y;cases e1:lh A i j env with
 | none=>rw[e1] at q;cases q
 | some ds =>
   rw[e1,ac] at q;cases e2:f env with
   | none=>rw[e2] at q;cases q
   | some r =>
     rw[e2,ac] at q;unfold appP at q;split at q;case h_2=>cases q
     rename_i k1 S t D;split at q;case h_2=>cases q
     rename_i u R;split at q;case isFalse=>cases q
     rename_i v;obtain⟨rfl,rfl,w,b⟩:=v;cases q;obtain⟨_,κ,ps,m,y⟩:=zk3 e1;have:agAt env i=some (k1,pp):=by unfold agAt;rw[l]
     rw[this] at m;cases m;refine⟨W,env,ds,ok,e1,λad vs z B T=>⟨.inl ⟨rfl,_,.inl (.inl B)⟩,W,env,r.1,r.2,ok,e2,λW1 v1 H1 C U E=>?_⟩⟩;have Z:=zxs Y ok U l D y R w z;obtain⟨p,us,a1,c,F,K,L,M,n⟩:=U.part (i:=i) (by unfold agAt;rw[D]) R;have:=Z.inj ⟨_,_,p,us,by unfold agAt;rw[D],F,K,L⟩;subst this;obtain⟨N,O⟩:=U.setP D R Z (n.append (.cons E .nil));exact⟨ad,c,v1,rfl,rfl,M,by rw[<-n.length];exact lt20 (og b),k W1 _ _ (C.trans O) N .non⟩⟩
def fDat(i j:Nat):FE:=λe=>match e[i]? with
 | some (some (.ag .ls _ ps))=>(match ps[j]? with | some (.d d)=>some (d,e) | _=>none)
 | some (some (.ro .ls ps))=>(match ps[j]? with | some (.d d)=>some (d,e) | _=>none)
 | _=>none
def zuu(an:Ats Nn Cn X)(D:Nn[i]?=some x:=by rfl)(Y:uw (.Constant (.int (j:Int)) jj p1):=by intro _ _;rfl):DEx X G H0 (.Subscript (.Name x p') (.Constant (.int (j:Int)) jj p1) pos) (fDat i j) :=
 ⟨(xb zm0 ((an.a D).pe) zf Y).imp λσ H Q Z=>by
  obtain⟨W,env,d,env',ok,q,k⟩:=Z;unfold fDat at q;split at q
  ·rename_i l ps I
   split at q;case h_2=>cases q
   rename_i d' J;cases q;obtain⟨v,R,p,as,us,rfl,_,_,_,U,V⟩:=ok.slot i _ I;obtain⟨u,h1,h2⟩:=V.getD J;exact⟨_,R,p,us,j,_,rfl,rfl,.inl (.inl U),ztt h1,k W u H Step.refl ok h2⟩
  ·rename_i ps I
   split at q;case h_2=>cases q
   rename_i d' J;cases q;obtain⟨v,R,p,us,rfl,_,U,V⟩:=ok.slot i _ I;obtain⟨u,h1,h2⟩:=V.getD J;exact⟨_,R,p,us,j,_,rfl,rfl,.inl (.inl U),ztt h1,k W u H Step.refl ok h2⟩
  ·cases q⟩
def qj(i j:Nat)(f:FE):FS:=λe=>(f e).bind λr=>match r.2[i]? with
 | some (some (.ag .ls l ps))=>(match ps[j]? with | some (.d _)=>some (.nx,r.2.set i (some (.ag .ls l (ps.set j (.d r.1))))) | _=>none)
 | _=>none
variable{p2:Pos}
theorem zk5(Z:DEx X G H0 e f)(an:Ats Nn Cn X)(J:Nn[i]?=some x:=by rfl)(b:swapsWithSole [.Subscript (.Name x p') (.Constant (.int (j:Int)) jj p2) p1] e pos.line X.env=pure false:=by rfl)(c:swappedStores [.Subscript (.Name x p') (.Constant (.int (j:Int)) jj p2) p1] e X.env=pure none:=by rfl)(h1:(assignEach [.Subscript (.Name x p') (.Constant (.int (j:Int)) jj p2) p1] X.env).map (·.2)=[assign (.Subscript (.Name x p') (.Constant (.int (j:Int)) jj p2) p1) X.env]:=by rfl)(D:∀v,assign (.Subscript (.Name x p') (.Constant (.int (j:Int)) jj p2) p1) X.env v=(do
   let ov <-holding [v] (eval (.Name x p') X.env);let iv <-holding [v,ov] (eval (.Constant (.int (j:Int)) jj p2) X.env)
   standAt p1
   holding [v,ov,iv] (setItem ov iv v)
   release [v,ov,iv] []):=by intro _;rfl) :
  DSx X G H0 (.Assign [.Subscript (.Name x p') (.Constant (.int (j:Int)) jj p2) p1] e pos) (qj i j f):=⟨(ze Z.out (zqw ((an.a J).pe) zf ya D) b c h1).imp λDn σ H d=>by
 obtain⟨W,env,fl,env',ok,q,k⟩:=d;unfold qj at q;cases e1:f env with
 | none=>rw[e1] at q;cases q
 | some r =>
   rw[e1,ac] at q;split at q;case h_2=>cases q
   rename_i l ps R;split at q;case h_2=>cases q
   rename_i d' U;cases q;refine⟨W,env,r.1,r.2,ok,e1,λW1 v1 H1 g I h=>?_⟩;obtain⟨v,V,p,as,us,rfl,_,_,_,Y,m⟩:=I.slot i _ R;obtain⟨u,h1,h2⟩:=m.getD U;obtain⟨n,o⟩:=I.turnD R V Y U h;have s:=(aj.mp h1).1;exact⟨_,V,p,us,j,j,rfl,rfl,Y,by unfold ixN;rw[if_pos (by lia),if_pos (by lia)];simp,k W1 _ _ (g.trans o) n⟩⟩
abbrev FG:=DE0->Option (Ag×DE0)
def z4w(env:DE0)(σ:St)(H:Hp)(s:Sl)(v:V):Prop:=∀(j:Nat) (s':Sl) (D:V) (a:Addr),env[j]?=some (some s')->σ[j]?=some (some D)->Owns H s v a->¬Owns H s' D a
def tAG(X:Cx)(G:Gd)(H0:Hp)(f:FG):TE:=λσ H Q=>DP X.K G H0 f (λW env x env' =>
 ∀W' p H',Step W H W' H'->Ok X.K G H0 W' env' σ H'->SlOk X.K G W' H' (.ag x.1 none x.2) (.ref p)->z4w env' σ H' (.ag x.1 none x.2) (.ref p)->Q (.ref p) H') σ H
structure JAg (X:Cx) (G:Gd) (H0:Hp) (e:Expr) (f:FG):Prop where
 out:PE X e (tAG X G H0 f)
def y0(i:Nat)(f:FG):FS:=λe=>(f e).map λr=>(.nx,r.2.set i (some (.ag r.1.1 none r.1.2)))
def zxt(f:FG):FS:=λe=>(f e).map λr=>(.ra r.1.1 r.1.2,r.2)
def z7h(i:Nat):FS:=λe=>match e[i]? with | some (some (.ag k _ ps))=>some (.ra k ps,e) | _=>none
variable{G':Gd}
def Ok.newA(ok:Ok K G H0 W env σ H)(sm:Same H H')(U:∀a,W' a->H a=none)(x:∀a,W' a->∃m:Mo,H' a=some m.out)(A:∀a,G' a->Ow G W a\/H a=none){k':AK}{p:Addr}(f:∀us,AkOk K H' k p us->AkOk K H' k' p us)(h:SlOk K G' W' H' (.ag k l ps) (.ref p)) :
  Ok K G H0 (λa=>W a\/W' a) env σ H'/\Step W H (λa=>W a\/W' a) H'/\SlOk K G (λa=>W a\/W' a) H' (.ag k' none ps) (.ref p)/\z4w env σ H' (.ag k' none ps) (.ref p):=by
 have st:Step W H (λa=>W a\/W' a) H':=⟨λb o e _=>sm b o e,λa z=>z.imp id (U a)⟩;have D:=ok.same sm;have Y:Ok K G H0 (λa=>W a\/W' a) env σ H':=by
  refine⟨D.stay,ok.good,λa z=>?_,λi s e=>?_,D.uniq,ok.len⟩
  ·rcases z with z | z
   ·exact D.wl a z
   ·exact⟨ok.stay.free (U a z),x a z⟩
  ·obtain⟨v,Z,q⟩:=ok.slot i s e
   exact⟨v,Z,ok.slstep st q λa m o c=>⟨.inl (q.owns o),sm _ _ c⟩⟩
 obtain⟨p',as,us,e,g,B,L,I,J⟩:=h;cases e;have t:∀(a:Addr) (us:k7),Ow G' W' a->Rd H' a (.lst us)->Ow G (λa=>W a\/W' a) a/\Rd H' a (.lst us):=λa us o q=>⟨by
  rcases A a o.1 with z | z
  ·exact⟨z.1,λy=>y.elim z.2 o.2⟩
  ·exact⟨ok.good a (ok.stay.free z),λy=>y.elim (λw=>by obtain⟨_,m,q⟩:=ok.wl a w;rw[z] at q;cases q) o.2⟩,q⟩
 refine⟨Y,st,⟨p,as,us,rfl,.inr g,B,(λn z=>nomatch z),f us I,J.step (λa vs R z=>⟨.inr (J.own R).1,z⟩) (λd v r=>r.mono (λ_ _ h=>h) t) λd v r=>r.mono (λ_ _ h=>h) t⟩,λj s v a Z c C E=>?_⟩;have F:W' a:=by
  rcases C with o | ⟨p',us',z,q,R⟩
  ·cases o;exact g
  ·cases z
   rw[vn (f us I) q] at R;exact(J.own (J.parts_iff.mp R)).1
 obtain⟨M,u,q⟩:=D.slot j s Z;rw[c] at u;cases u;obtain⟨_,m,z⟩:=ok.wl a (q.owns E);rw[U a F] at z;cases z
variable{g:FG}{y:XF}
def zrj{y:Str}(I:Tos Nn X)(h:JAg X G H0 e g)(D:Nn[i]?=some y:=by rfl)(R:swapsWith e (some (.Name y p')) pos.line X.env=pure false:=by rfl) :
  DSx X G H0 (.Assign [.Name y p'] e pos) (y0 i g):=⟨(zqx (I.t D).nd (I.t D).n (I.t D).l h.out R (I.t D).f).imp λDn σ H U=>by
 obtain⟨W,env,fl,env',ok,q,k⟩:=U;unfold y0 at q;cases e1:g env with
 | none=>rw[e1] at q;cases q
 | some r =>
   rw[e1] at q;cases q;exact⟨W,env,r.1,r.2,ok,e1,λW1 p H1 V J sl Y=>k W1 _ H1 V (J.put sl Y)⟩⟩
def zxu(h:JAg X G H0 e g):DSx X G H0 (.Return (some e) pos) (zxt g):=⟨(xq h.out).imp λDn σ H I=>by
 obtain⟨W,env,fl,env',ok,q,k⟩:=I;unfold zxt at q;cases e1:g env with
 | none=>rw[e1] at q;cases q
 | some r =>
   rw[e1] at q;cases q;exact⟨W,env,r.1,r.2,ok,e1,λW1 p H1 J D sl R=>k W1 σ p H1 J D sl⟩⟩
def gSp(K:kf)(m:k8->Option Ag)(x:k8->ka):Sp:=λvs H Q E=>∃O ds,Reps K H O ds vs /\
 ((∃y,m ds=some y/\∀(W':Addr->Prop) p H',Same H H'->(∀a,W' a->H a=none)->(∀a,W' a->∃m:Mo,H' a=some m.out)->SlOk K (gd λa=>O a\/H a=none) W' H' (.ag y.1 none y.2) (.ref p)->Q (.ref p) H')\/∃c,x ds=some c/\∀C H',Cl K c C->Same H H'->E (.ref C) none H')
def runG(n ar:Nat)(g:FS):k8->Option Ag:=λds=>if ds.length=ar then(match g (jk n ds) with | some (.ra k ps,_)=>some (k,ps) | _=>none) else none
def xG(n ar:Nat)(g:FS):k8->ka:=λds=>if ds.length=ar then(match g (jk n ds) with | some (.xc c,_)=>some c | _=>none) else none
variable{k:Nat}{ps:g7}{g:FP}
theorem z6x{f:Addr}{g:FS}(F:Fun K x qual st f fd)(S:pj N ps (fx st))(U:n=N.length)(V:ar=ps.length)(I:∀(cdv:Value) (A:Around) (outer:ic) (s:Shared) (H:Hp) (E:XK) (G:Gd) (H0:Hp),Room k (A.deeper (envOfC qual (fx st) s.heap.objs.size f cdv)) ->
   DBx (cxOf (CXr P w) P w K mg base N qual (fx st) f cdv A outer s H E) G H0 (li st) g):FnOk P w K mg base (CXr P w) (k+1) f fd ps (gSp K (runG n ar g) (xG n ar g)):=by
 subst U V;refine F.okX S (λvs H Q E h=>?_) (λcdv A outer s H vs Q E Y h=>?_)
 ·obtain⟨O,ds,r,h⟩:=h
  rw[<-r.length];rcases h with⟨y,e,_⟩ | ⟨c,e,_⟩
  ·unfold runG at e;split at e
   ·assumption
   ·cases e
  ·unfold xG at e;split at e
   ·assumption
   ·cases e
 ·obtain⟨O,ds,r,h⟩:=h
  refine⟨_,(I cdv A outer s H E (gd λa=>O a\/H a=none) H Y).out,?_⟩;rcases h with⟨y,e,k⟩ | ⟨c,e,k⟩
  ·unfold runG at e
   split at e;case isFalse=>cases e
   split at e
   ·rename_i k' ps' env' J
    cases e;exact⟨NoW,_,_,env',tm r,J,λW' R p H' st D sl=>k W' p H' D.stay (λa z=>(st.ws a z).elim (λz=>z.elim) id) (λa z=>(D.wl a z).2) sl⟩
   ·cases e
  ·unfold xG at e
   split at e;case isFalse=>cases e
   split at e
   ·rename_i d env' J
    cases e;exact⟨NoW,_,_,env',tm r,J,λW' R H' Z b st D pins e s' xs=>zj6 xs (k Z H' b D.stay)⟩
   ·cases e
def zrk(m:k8->Option Ag)(F:FA):FG:=λe=>(F e).bind λr=>(m r.1).map λy=>(y,r.2)
def zxv{m:k8->Option Ag}{xx:k8->ka}(c:Cal X.prog X.w X.K X.mg X.base (CXr X.prog X.w) x k (gSp X.K m xx))(V:Room jr X.A)(Y:DAx X G H0 (e::es) F)(I:k<=jr:=by decide)(Z:Gl X x:=by walk_at "g")(b:starEach (e::es) X.env=(false,eval e X.env)::starEach es X.env:=by rfl)(J:(backTo pos (starEach es X.env)).any (·.1)=false:=by rfl) :
  JAg X G H0 (.Call (.Name x p') (e::es) [] pos) (zrk m F):=let ⟨_,_,_,d,f,g,h,R⟩:=c;⟨(zo d (V.mono I) Z f g h Y.out R b J).imp λσ H Q i=>by
 obtain⟨W,env,y,env',ok,q,k⟩:=i;unfold zrk at q;cases e1:F env with
 | none=>rw[e1] at q;cases q
 | some r =>
   rw[e1,ac] at q;cases e2:m r.1 with
   | none=>rw[e2] at q;cases q
   | some y' =>
     rw[e2] at q;cases q;refine⟨W,env,r.1,r.2,ok,e1,λW1 vs H1 j U l=>⟨Ow G W1,r.1,l,.inl ⟨_,e2,λW' p H' sm n o sl=>?_⟩⟩⟩;obtain⟨s,t,u,v⟩:=U.newA sm n o (λa z=>z) (k':=y.1) (λus z=>z) sl;exact k _ p H' (j.trans t) s u v⟩
def yz(c:Str)(m:ln->k8->lx)(F:FA):FG:=λe=>(F e).bind λr=>(m [(.ins true c [],[])] r.1).bind λq=>match q with
 | (.non,[(.ins true c' fs,ps)])=>some ((.ins false c' fs,ps),r.2)
 | _=>none
def zux{D dx:Addr}(ok:Ok K G H0 W env σ H)(U:Cl K cn C)(h1:H D=none)(h2:H dx=none)(f:dx≠D)(r:Reps K H (Ow G W) ds vs) :
  Same H (upd (upd H dx (.own D)) D (.ins C dx [])) /\
  Ok K ⟨Ow G W,λ_=>[D]⟩ (mask (upd (upd H dx (.own D)) D (.ins C dx [])) (λb=>b=D)) (λb=>b=D) (ny [(.ins true cn [],[])]) [some (.ref D)] (upd (upd H dx (.own D)) D (.ins C dx [])) /\
  Reps K (upd (upd H dx (.own D)) D (.ins C dx [])) (Ow ⟨Ow G W,λ_=>[D]⟩ (λb=>b=D)) ds vs:=by
 have sm:Same H (upd (upd H dx (.own D)) D (.ins C dx [])):=λb o e=>by rw[gm (nt e h1),gm (nt e h2)];exact e
 have J:∀a,H a=none->Ow G W a:=λa z=>⟨ok.good a (ok.stay.free z),λw=>by obtain⟨_,m,q⟩:=ok.wl a w;rw[z] at q;cases q⟩;refine⟨sm,⟨λa o e=>(zo1 e).2,λa e=>?_,λa e=>⟨znj e,.i C dx [],by rw[show a=D from e,ki]⟩,λI s e=>?_,λI V s s' v g b Y Z j k l p=>?_,rfl⟩,?_⟩
 ·rcases zo2 e with z | z
  ·rw[show a=D from z];exact J D h1
  ·refine J a ?_
   by_cases y:a=D
   ·rw[y];exact h1
   ·rw[gm y] at z
    by_cases R:a=dx
    ·rw[R];exact h2
    ·rwa [gm R] at z
 ·obtain⟨t,q,rfl⟩:=zk2 e
  cases I with
  | zero =>
    simp at q;subst q;exact⟨.ref D,rfl,D,[],[],rfl,rfl,by simp,λn _=>rfl,⟨C,dx,U,ki,rfl⟩,.nil⟩
  | succ n=>simp at q
 ·obtain⟨_,c,_⟩:=zk2 Y
  obtain⟨_,d,_⟩:=zk2 Z;cases I with
  | zero=>cases V with
    | zero=>rfl
    | succ n=>simp at d
  | succ n=>simp at c
 ·refine r.mono (λa u z=>sm _ _ z) λa us o h=>⟨⟨o,λz=>?_⟩,h.keep λo z=>sm _ _ z⟩
  rw[show a=D from z] at h;rcases h with h | ⟨_,h⟩ <;> (have h2:=h1.symm.trans h;cases h2)
def zxw{m:ln->k8->lx}(c:KCal X.prog X.w X.K X.mg X.base x k (lSp X.K m xx))(V:Room jr X.A)(n:DAx X G H0 (e::es) F)(Y:k+1<=jr:=by decide)(s:Gl X x:=by walk_at "g")(t:starEach (e::es) X.env=(false,eval e X.env)::starEach es X.env:=by rfl)(Z:(backTo pos (starEach es X.env)).any (·.1)=false:=by rfl) :
  JAg X G H0 (.Call (.Name x p') (e::es) [] pos) (yz x m F):=let ⟨_,_,_,_,M,u,B,C,E,d⟩:=c;⟨(zxo M u (V.mono Y) s B C n.out d t Z).imp λσ H Q L=>by
 obtain⟨W,env,y,env',ok,q,k⟩:=L;unfold yz at q;cases e1:F env with
 | none=>rw[e1] at q;cases q
 | some r =>
   rw[e1,ac] at q;cases e2:m [(.ins true x [],[])] r.1 with
   | none=>rw[e2] at q;cases q
   | some z =>
     rw[e2,ac] at q;split at q;case h_2=>cases q
     rename_i i J ps';cases q;refine⟨W,env,r.1,r.2,ok,e1,λW1 vs H1 N R O I dx h1 h2 P=>?_⟩;obtain⟨sm,f,V⟩:=zux R E h1 h2 P O;refine⟨_,_,_,_,[.ref I],r.1,vs,rfl,rfl,f,V,.inl ⟨_,_,e2,λW' en S v H' st U T rp=>⟨rp.non_,?_⟩⟩⟩;have hs:=T 0 _ rfl;obtain⟨v',z1,j⟩:=U.slot 0 _ hs;have ev:v'=.ref I:=by
      obtain⟨p,as,us,rfl,_,_,g,_⟩:=j;have g:([I]:h7)=[p]:=g 0 rfl;cases g;rfl
     subst ev;have h:Same H1 H':=λb o z=>st.keep b o (sm b o z) λy=>by rw[show b=I from y,h1] at z;cases z
     have hn:∀a,W' a->H1 a=none:=λa z=>by
      rcases st.ws a z with y | y
      ·rw[show a=I from y];exact h1
      ·cases q:H1 a with
       | none=>rfl
       | some o=>rw[sm a o q] at y;cases y
     obtain⟨w1,w2,w3,w4⟩:=R.newA (G':=⟨Ow G W1,λ_=>[I]⟩) (k:=.ins true i J) (l:=some 0) (ps:=ps') (p:=I) (k':=.ins false i J) h hn (λa z=>(U.wl a z).2) (λa z=>.inl z) (λus z=>z) j;exact k _ I H' (N.trans w2) w1 w3 w4⟩
mutual
def noL:D->Bool
 | .lst _=>false
 | .dct _ _=>false
 | .tup ds=>noLs ds
 | _=>true
def noLs:k8->Bool
 | []=>true
 | d::r=>noL d && noLs r
end
def Rep.noL{d:D}{v:V}:Rep K H O d v->L2.noL d=true->Rep K H O' d v :=
 Rep.rec (motive_1:=λd v _=>L2.noL d=true->Rep K H O' d v) (motive_2:=λds vs _=>L2.noLs ds=true->Reps K H O' ds vs) (λ_=>.non) (λb _=>.bl b) (λb _=>.int b) (λb _=>.str b) (λh _ q e=>.tup h (q (by rw[L2.noL] at e;exact e))) (λ_ _ _ _ e=>by rw[L2.noL] at e;cases e) (λ_ _ _ e=>by rw[L2.noL] at e;cases e) (λ_ _ _ e=>by rw[L2.noL] at e;cases e) (λa _=>.exc a) (λ_=>.nil) λ_ _ p q e=>by rw[L2.noLs,eg] at e;exact .cons (p e.1) (q e.2)
def Reps.noLs{ds:k8}{vs:k7}:Reps K H O ds vs->L2.noLs ds=true->Reps K H O' ds vs :=
 Reps.ind (P:=λds vs=>L2.noLs ds=true->Reps K H O' ds vs) (λ_=>.nil) λr _ q e=>by rw[L2.noLs,eg] at e;exact .cons (r.noL e.1) (q e.2)
def ptD:Pt->D | .d d=>d | .o ds=>.lst ds
def sj(r:Nat):DE0->Option la
 | []=>none
 | some (.ag .ls (some r') ps)::e=>if r'=r then some ps else sj r e
 | _::e=>sj r e
def uf:la->Nat->Option k8
 | .o ds::_,0=>some ds
 | .o _::r,j+1=>uf r j
 | .d _::r,j=>uf r j
 | [],_=>none
def zxx(b:Bool)(ps:la):la:=if b=true then ps.map λp=>.d (ptD p) else ps
def frz1(b:Bool)(env:DE0):ll->ll
 | some (.sh d)=>some (.sh d)
 | some (.ow ds)=>some (.sh (.lst ds))
 | some (.o2 dss)=>some (.sh (.lst (dss.map D.lst)))
 | some (.ag .ls _ ps)=>some (.sh (.lst (ps.map ptD)))
 | some (.ag k _ ps)=>some (.ro k (zxx b ps))
 | some (.ro .ls ps)=>some (.sh (.lst (ps.map ptD)))
 | some (.ro k ps)=>some (.ro k (zxx b ps))
 | some (.al r j)=>(sj r env).bind λps=>(uf ps j).map λds=>.sh (.lst ds)
 | none=>none
def frz(b:Bool)(env:DE0):DE0:=env.map (frz1 b env)
def AllG(r:Nat->h7):Gd:=⟨λ_=>True,r⟩
def zkd{r:Nat}{ps:la}:∀ {env:DE0},sj r env=some ps->∃i:Nat,env[i]?=some (some (Sl.ag AK.ls (some r) ps))
 | x::e,h=>by
   unfold sj at h;split at h
   ·rename_i D;cases D
   ·rename_i J ps' e' q
    cases q;split at h
    ·rename_i I;cases h;subst I;exact⟨0,rfl⟩
    ·obtain⟨i,z⟩:=zkd h;exact⟨i+1,by simpa using z⟩
   ·rename_i q
    cases q;obtain⟨i,z⟩:=zkd h;exact⟨i+1,by simpa using z⟩
variable{a:Addr}{ps:la}
def zxy(h:PtsOk K G W H ps as us)(e:uf ps j=some ds)(ea:as[j]?=some a):∃vs,H a=some (.lst vs)/\Reps K H (Ow G W) ds vs:=by
 induction h generalizing j with
 | nil=>cases e
 | d _ _ ih=>exact ih e ea
 | o hW hl r _ ih =>
   cases j with
   | zero=>cases e;simp at ea;subst ea;exact⟨_,hl,r⟩
   | succ j=>exact ih (j:=j) e (by simpa using ea)
def PtsRo.all(h:PtsRo K G W H ps us)(D:∀a,O a):Reps K H O (ps.map ptD) us:=by
 induction h with
 | nil=>exact .nil
 | d r _ ih=>exact .cons ((l7 λa _=>D a).1 _ _ r) ih
 | o _ hl r _ ih=>exact .cons (.lst (D _) (.inl hl) ((l7 λa _=>D a).2 _ _ r)) ih
def PtsRo.roG(h:PtsRo K G W H ps us)(D:∀a,Ow G W a->Ow G' NoW a):PtsRo K G' NoW H ps us :=
 h.step (λa vs _ z=>⟨λz=>z,z⟩) (λd v q=>(l7 D).1 d v q) λd v q=>(l7 D).2 d v q
def PtsOk.toRo(h:PtsOk K G W H ps as us)(D:∀a,Ow G W a->Ow G' NoW a):PtsRo K G' NoW H ps us :=
 PtsRo.roG (W:=NoW) (G:=gd (Ow G W)) h.ro λa z=>D a z.1
def PtsRo.dat(h:PtsRo K G W H ps us)(D:∀a,Ow G W a):PtsRo K G W H (ps.map λp=>.d (ptD p)) us:=by
 induction h with
 | nil=>exact .nil
 | d r _ ih=>exact .d r ih
 | o _ hl r _ ih=>exact .d (.lst (D _) (.inl hl) r) ih
def PtsRo.roB(b:Bool)(h:PtsRo K G W H ps us)(D:∀a,Ow G W a):PtsRo K G W H (zxx b ps) us:=by
 unfold zxx;split
 ·exact h.dat D
 ·exact h
def Ok.freeze(b:Bool)(ok:Ok K G H0 W env σ H):Ok K (AllG G.r) H NoW (frz b env) σ H:=by
 have U:∀a,Ow G W a->Ow (AllG G.r) NoW a:=λa _=>⟨trivial,λz=>z⟩;have all:∀a,Ow (AllG G.r) NoW a:=λa=>⟨trivial,λz=>z⟩;have V:∀(i:Nat) (s:Sl),(frz b env)[i]?=some (some s)->∃I,env[i]?=some (some I)/\frz1 b env (some I)=some s:=λi s e=>by
  unfold frz at e;rw[bu] at e;cases q:env[i]? with
  | none=>rw[q] at e;cases e
  | some o =>
    rw[q] at e;cases o with
    | none=>cases e
    | some I=>exact⟨I,rfl,by simpa using e⟩
 refine⟨Same.refl _,λa _=>trivial,λl z=>z.elim,λi s e=>?_,λi j s s' v w a D _ E _ o _=>?_,by unfold frz;rw[ah];exact ok.len⟩
 ·obtain⟨I,u,D⟩:=V i s e
  obtain⟨v,x,h⟩:=ok.slot i I u;refine⟨v,x,?_⟩;cases I with
  | sh d=>cases D;exact(l7 U).1 _ _ h
  | ow ds=>cases D;obtain⟨l,vs,rfl,f,J,r⟩:=h;exact .lst (all l) (.inl J) ((l7 U).2 _ _ r)
  | o2 dss =>
    cases D;obtain⟨l,ls,rfl,f,J,A,hi⟩:=h;exact .lst (all l) (.inl J) (zm6 (W':=NoW) (G:=AllG G.r) (W:=W) ⟨hi.1,λj ds a Z g=>let ⟨m,vs,n,B⟩:=hi.2 j ds a Z g;⟨m,vs,n,(l7 λb z=>⟨trivial,z.2⟩).2 _ _ B⟩⟩ (λa _ _=>all a) λds vs r=>(l7 λb _=>all b).2 _ _ r)
  | ag k l ps =>
    obtain⟨p,as,us,rfl,f,A,J,Y,R⟩:=h;cases k with
    | ls=>cases D;exact .lst (all p) (.inl Y) ((R.toRo U).all all)
    | ins _ c fs=>cases D;exact⟨p,us,rfl,λz=>z,Y,(R.toRo U).roB b all⟩
  | ro k ps =>
    obtain⟨p,us,rfl,f,Y,R⟩:=h;cases k with
    | ls=>cases D;exact .lst (all p) (.inl Y) (R.all all)
    | ins _ c fs=>cases D;exact⟨p,us,rfl,λz=>z,Y,(R.roG U).roB b all⟩
  | al r j =>
    have D:((sj r env).bind λps=>(uf ps j).map λds=>Sl.sh (.lst ds))=some s:=D;cases q1:sj r env with
    | none=>rw[q1] at D;cases D
    | some ps =>
      rw[q1,ac] at D;cases q2:uf ps j with
      | none=>rw[q2] at D;cases D
      | some ds =>
        rw[q2] at D;cases D;obtain⟨p,as,a,Z,g,rfl⟩:=h;obtain⟨C,y⟩:=zkd q1;obtain⟨w,F,p',t,us,rfl,_,_,J,_,R⟩:=ok.slot C _ y;have J:G.r r=p'::t:=J r rfl;rw[J] at Z;cases Z;obtain⟨vs,m,n⟩:=zxy R q2 g;exact .lst (all a) (.inl m) ((l7 U).2 _ _ n)
 ·obtain⟨I,u,D⟩:=V i s D
  cases I with
  | sh d=>cases D;exact o.elim
  | ow d=>cases D;exact o.elim
  | o2 d=>cases D;exact o.elim
  | ag k l ps=>cases k <;> (cases D;exact o.elim)
  | ro k ps=>cases k <;> (cases D;exact o.elim)
  | al r j =>
    have D:((sj r env).bind λps=>(uf ps j).map λds=>Sl.sh (.lst ds))=some s:=D;cases q1:sj r env with
    | none=>rw[q1] at D;cases D
    | some ps =>
      rw[q1,ac] at D;cases q2:uf ps j with
      | none=>rw[q2] at D;cases D
      | some ds=>rw[q2] at D;cases D;exact o.elim
def Step.noW(s:Step NoW H W' H'):Same H H':=λb o e=>s.keep b o e λz=>z
def fFrz(b:Bool)(f:FE):FE:=λe=>(f (frz b e)).bind λr=>if noL r.1=true then some (r.1,e) else none
def sg(b:Bool)(f:FA):FA:=λe=>(f (frz b e)).bind λr=>if noLs r.1=true then some (r.1,e) else none
def xFrz(b:Bool)(x:XF):XF:=λe=>(x (frz b e)).map λr=>(r.1,e)
variable{b:Bool}
def qt(h:∀G H0,DEx X G H0 e f):DEx X G H0 e (fFrz b f):=⟨λpins s σ H Q I D=>by
 obtain⟨W,env,d,env',ok,q,k⟩:=D;unfold fFrz at q;cases e1:f (frz b env) with
 | none=>rw[e1] at q;cases q
 | some r =>
   rw[e1,ac] at q;split at q;case isFalse=>cases q
   rename_i J;cases q;refine(h (AllG G.r) H).out pins s σ H Q I ⟨NoW,frz b env,r.1,r.2,ok.freeze b,e1,λW' v H' st R U=>?_⟩;exact k W v H' (Step.same st.noW) (ok.same st.noW) (U.noL J)⟩
def zuy(h:∀G H0,DFx X G H0 e F):DFx X G H0 e (sg b F):=⟨λpins s σ H Q I R=>by
 obtain⟨W,env,d,env',ok,q,k⟩:=R;unfold sg at q;cases e1:F (frz b env) with
 | none=>rw[e1] at q;cases q
 | some r =>
   rw[e1,ac] at q;split at q;case isFalse=>cases q
   rename_i U;cases q;refine(h (AllG G.r) H).out pins s σ H Q I ⟨NoW,frz b env,r.1,r.2,ok.freeze b,e1,λW' l vs H' st V Y g J Z=>?_⟩;have D:H l=none:=(st.ws l (.inr rfl)).elim (λz=>z.elim) id;obtain⟨a,i,c,f⟩:=ok.fresh0 (H':=H') st.noW D J;exact k W l vs H' f (ok.same st.noW) c a J (Z.noLs U)⟩
def zrl(h:∀G H0,JX X G H0 e y):JX X G H0 e (xFrz b y):=⟨λpins s σ H Q I D=>by
 obtain⟨W,env,c,env',ok,q,k⟩:=D;unfold xFrz at q;cases e1:y (frz b env) with
 | none=>rw[e1] at q;cases q
 | some r =>
   rw[e1] at q;cases q;exact(h (AllG G.r) H).out pins s σ H Q I ⟨NoW,frz b env,r.1,r.2,ok.freeze b,e1,λW' H' C J st R=>k W H' C J (Step.same st.noW) (ok.same st.noW)⟩⟩
def Ok.newW(ok:Ok K G H0 W env σ H)(sm:Same H H')(I:∀a,W' a->H a=none)(J:∀a,W' a->∃m:Mo,H' a=some m.out):Ok K G H0 (λa=>W a\/W' a) env σ H'/\Step W H (λa=>W a\/W' a) H':=by
 have st:Step W H (λa=>W a\/W' a) H':=⟨λb o e _=>sm b o e,λa z=>z.imp id (I a)⟩;have D:=ok.same sm;refine⟨⟨D.stay,ok.good,λa z=>?_,λi s e=>?_,D.uniq,ok.len⟩,st⟩
 ·rcases z with z | z
  ·exact D.wl a z
  ·exact⟨ok.stay.free (I a z),J a z⟩
 ·obtain⟨v,R,q⟩:=ok.slot i s e
  exact⟨v,R,ok.slstep st q λa m o U=>⟨.inl (q.owns o),sm _ _ U⟩⟩
def frs1:ll->ll
 | some (.sh d)=>some (.sh d)
 | some (.ag k _ ps)=>some (.ro k ps)
 | some (.ro k ps)=>some (.ro k ps)
 | _=>none
def frsE(env:DE0):DE0:=env.map frs1
def OwG(G:Gd)(W:Addr->Prop)(H:Hp):Gd:=⟨λa=>Ow G W a\/H a=none,G.r⟩
def Ok.freezeS(ok:Ok K G H0 W env σ H):Ok K (OwG G W H) H NoW (frsE env) σ H:=by
 have R:∀a,Ow G W a->Ow (OwG G W H) NoW a:=λa z=>⟨.inl z,λz=>z⟩;have J:∀(i:Nat) (s:Sl),(frsE env)[i]?=some (some s)->∃I,env[i]?=some (some I)/\frs1 (some I)=some s:=λi s e=>by
  unfold frsE at e;rw[bu] at e;cases q:env[i]? with
  | none=>rw[q] at e;cases e
  | some o =>
    rw[q] at e;cases o with
    | none=>cases e
    | some I=>exact⟨I,rfl,by simpa using e⟩
 refine⟨Same.refl _,λa z=>.inr z,λl z=>z.elim,λi s e=>?_,λi j s s' v c a D _ f _ o _=>?_,by unfold frsE;rw[ah];exact ok.len⟩
 ·obtain⟨I,Y,D⟩:=J i s e
  obtain⟨v,Z,h⟩:=ok.slot i I Y;refine⟨v,Z,?_⟩;cases I with
  | sh d=>cases D;exact(l7 R).1 _ _ h
  | ow ds=>cases D
  | o2 dss=>cases D
  | ag k l ps=>cases D;obtain⟨p,as,us,rfl,b,g,m,U,V⟩:=h;exact⟨p,us,rfl,λz=>z,U,V.toRo R⟩
  | ro k ps=>cases D;obtain⟨p,us,rfl,b,U,V⟩:=h;exact⟨p,us,rfl,λz=>z,U,V.roG R⟩
  | al r j=>cases D
 ·obtain⟨I,Y,D⟩:=J i s D
  cases I <;> cases D <;> exact o.elim
def PtsOk.length(h:PtsOk K G W H ps as us):ps.length=us.length:=by
 induction h with
 | nil=>rfl
 | d _ _ ih=>rw[am,am,ih]
 | o _ _ _ _ ih=>rw[am,am,ih]
abbrev FP:=DE0->Option la
def tPs(X:Cx)(G:Gd)(H0:Hp)(f:FP):TA:=λσ H Q=>∃W env ps,Ok X.K G H0 W env σ H/\f env=some ps /\
 ∀as us H',Same H H'->as.Nodup->(∀a∈as,H a=none)->PtsOk X.K (OwG G W H) (λa=>a∈as) H' ps as us->Q us H'
structure JPs (X:Cx) (G:Gd) (H0:Hp) (es:ik) (f:FP):Prop where
 out:PA X es (tPs X G H0 f)
def pNil:FP:=λ_=>some []
def pCd(f:FE)(g:FP):FP:=λe=>(f (frsE e)).bind λr=>(g e).map λt=>.d r.1::t
def pCo(F:FA)(g:FP):FP:=λe=>(F (frsE e)).bind λr=>(g e).map λt=>.o r.1::t
def Rd.some{u:HO}(h:Rd H a u):H a≠none:=λz=>by rcases h with h | ⟨_,h⟩ <;> rw[z] at h <;> cases h
def z1b  : JPs X G H0 [] pNil:=⟨o5.imp λσ H Q D=>by
 obtain⟨W,env,ps,ok,q,k⟩:=D;cases q;exact k [] [] H (Same.refl _) .nil (λa z=>by cases z) .nil⟩
def z4x(h:∀G H0,DEx X G H0 e f)(J:JPs X G H0 es g)(R:starEach (e::es) X.env=(false,eval e X.env)::starEach es X.env:=by rfl):JPs X G H0 (e::es) (pCd f g):=⟨λpos pins s σ H Q I U=>by
 obtain⟨W,env,ps,ok,q,k⟩:=U;unfold pCd at q;cases e1:f (frsE env) with
 | none=>rw[e1] at q;cases q
 | some r =>
   rw[e1,ac] at q;cases e2:g env with
   | none=>rw[e2] at q;cases q
   | some t =>
     rw[e2] at q;cases q;refine(mr (h (OwG G W H) H).out J.out R) pos pins s σ H Q I ⟨NoW,frsE env,r.1,r.2,ok.freezeS,e1,λW1 v H1 st V Y=>?_⟩;refine⟨W,env,t,ok.same st.noW,e2,λas us H2 sm Z D b=>?_⟩;refine k as (v::us) H2 (st.noW.trans sm) Z (λa z=>st.noW.free (D a z)) (.d (Y.mono (λa u z=>sm _ _ z) λa vs o z=>⟨⟨o.1,λy=>z.some (D a y)⟩,z.keep λo y=>sm _ _ y⟩) (b.step (λa vs c z=>⟨c,z⟩) (λd v q=>(l7 ?_).1 d v q) λd v q=>(l7 ?_).2 d v q)) <;>
     exact λa z=>⟨z.1.imp id λy=>st.noW.free y,z.2⟩⟩
def z4y(h:∀G H0,DFx X G H0 e F)(Z:JPs X G H0 es g)(b:starEach (e::es) X.env=(false,eval e X.env)::starEach es X.env:=by rfl):JPs X G H0 (e::es) (pCo F g):=⟨λpos pins s σ H Q I c=>by
 obtain⟨W,env,ps,ok,q,k⟩:=c;unfold pCo at q;cases e1:F (frsE env) with
 | none=>rw[e1] at q;cases q
 | some r =>
   rw[e1,ac] at q;cases e2:g env with
   | none=>rw[e2] at q;cases q
   | some t =>
     rw[e2] at q;cases q;refine(mr (h (OwG G W H) H).out Z.out b) pos pins s σ H Q I ⟨NoW,frsE env,r.1,r.2,ok.freezeS,e1,λW1 l vs H1 st f i B D j=>?_⟩;have V:H l=none:=(st.ws l (.inr rfl)).elim (λz=>z.elim) id;obtain⟨J,_⟩:=ok.newW (W':=λa=>a=l) st.noW (λa z=>by rw[z];exact V) λa z=>⟨.l vs,by rw[z];exact D⟩;refine⟨_,env,t,J,e2,λas us H2 sm m R n=>?_⟩;have U:l∉as:=λz=>by rw[R l z] at D;cases D
     have h1:∀a∈l::as,H a=none:=λa z=>by
      rcases cb.mp z with rfl | z
      ·exact V
      ·exact st.noW.free (R a z)
     have p:Reps X.K H2 (Ow (OwG G W H) λa=>a∈l::as) r.1 vs:=j.mono (λa u z=>sm _ _ z) λa vs o z=>by
      refine⟨⟨o.1,λy=>?_⟩,z.keep λo y=>sm _ _ y⟩;rcases cb.mp y with y | y
      ·exact o.2 (.inr y)
      ·exact z.some (R a y)
     have Y:∀a,Ow (OwG G (λa=>W a\/a=l) H1) (λa=>a∈as) a->Ow (OwG G W H) (λa=>a∈l::as) a:=λa o=>by
      have x:a≠l:=λz=>by
       rcases o.1 with y | y
       ·exact y.2 (.inr z)
       ·rw[z,D] at y;cases y
      refine⟨o.1.imp (λy=>⟨y.1,λw=>y.2 (.inl w)⟩) λy=>st.noW.free y,λy=>?_⟩;rcases cb.mp y with y | y
      ·exact x y
      ·exact o.2 y
     exact k (l::as) (.ref l::us) H2 (st.noW.trans sm) (bw.mpr ⟨U,m⟩) h1 (.o bq (sm _ _ D) p (n.step (λa vs A z=>⟨ay _ A,z⟩) (λd v q=>(l7 Y).1 d v q) λd v q=>(l7 Y).2 d v q))⟩
def fAgL(g:FP):FG:=λe=>(g e).bind λps=>if ps.length<=64 then some ((.ls,ps),e) else none
theorem z1c(h:JPs X G H0 es g):JAg X G H0 (.List es pos) (fAgL g):=⟨(zyy h.out).imp λσ H Q R=>by
 obtain⟨W,env,x,env',ok,q,k⟩:=R;unfold fAgL at q;cases e1:g env with
 | none=>rw[e1] at q;cases q
 | some ps =>
   rw[e1,ac] at q;split at q;case isFalse=>cases q
   cases q;refine⟨W,env,ps,ok,e1,λas us H1 sm U V J=>⟨?_,λp I=>?_⟩⟩
   ·rw[<-J.length,sizeLine_eq];lia
   ·have D:Same H1 (upd H1 p (.lst us)):=vz I
    have Y:p∉as:=λz=>by obtain⟨_,vs,y⟩:=J.own z;rw[I] at y;cases y
    have sl:SlOk X.K (OwG G W H) (λa=>a=p\/a∈as) (upd H1 p (.lst us)) (.ag .ls none ps) (.ref p):=by
     refine⟨p,as,us,rfl,.inl rfl,bw.mpr ⟨Y,U⟩,(λn z=>nomatch z),ki,J.step (λa vs Z z=>⟨.inr Z,D _ _ z⟩) (λd v q=>q.mono (λa u z=>D _ _ z) ?_) λd v q=>q.mono (λa u z=>D _ _ z) ?_⟩ <;>
     exact λa vs o z=>⟨⟨o.1,λy=>y.elim (λy=>z.some (y ▸ I)) o.2⟩,z.keep λo y=>D _ _ y⟩
    have b:∀a,a=p\/a∈as->H a=none:=λa z=>by
     rcases z with rfl | z
     ·exact sm.free I
     ·exact V a z
    have n2:∀a,a=p\/a∈as->∃m:Mo,upd H1 p (.lst us) a=some m.out:=λa z=>by
     rcases z with rfl | z
     ·exact⟨.l us,ki⟩
     ·obtain⟨_,vs,y⟩:=J.own z
      exact⟨.l vs,D _ _ y⟩
    obtain⟨c,e,f,i⟩:=ok.newA (k':=.ls) (sm.trans D) b n2 (λa z=>z) (λus z=>z) sl;exact k _ p _ e c f i⟩
def oj(κ:AK)(i j:Nat):FE:=λe=>if isK κ e i then(agAt e i).bind λx=>(match x.2[j]? with | some (.d d)=>some (d,e) | _=>none) else none
def tf(c:Atr X.K cn m)(an:Ats Nn Cn X)(J:Nn[i]?=some x:=by rfl)(V:fs[j]?=some m:=by rfl)(Y:fs.Nodup:=by decide +kernel)(f:attributeBase (.Name x p') m X.env (eval (.Name x p') X.env)=eval (.Name x p') X.env:=by rfl):DEx X G H0 (.Attribute (.Name x p') m pos) (oj (.ins false cn fs) i j):=let ⟨C,c,Z,b⟩:=c;⟨(zyx ((an.a J).pe) f).imp λσ H Q g=>by
  obtain⟨W,env,d,env',ok,q,k⟩:=g;unfold oj at q;split at q;case isFalse=>cases q
  rename_i h;cases D:agAt env i with
  | none=>rw[D] at q;cases q
  | some y =>
    rw[D,ac] at q;split at q;case h_2=>cases q
    rename_i d' e;cases q;rcases h with⟨l,ps',z⟩ | ⟨ps',z⟩
    ·have D:some (AK.ins false cn fs,ps')=some y:=by unfold agAt at D;rw[z] at D;exact D
     cases D;obtain⟨v,D,p,as,us,rfl,_,_,_,⟨n,dx,R,I,o⟩,U⟩:=ok.slot i _ z;rw[Cl.inj R b] at I;obtain⟨u,h1,h2⟩:=U.getD e;exact⟨_,D,p,C,dx,_,u,rfl,I,c,Z,znp Y V h1,k W u H Step.refl ok h2⟩
    ·have D:some (AK.ins false cn fs,ps')=some y:=by unfold agAt at D;rw[z] at D;exact D
     cases D;obtain⟨v,D,p,us,rfl,_,⟨n,dx,R,I,o⟩,U⟩:=ok.slot i _ z;rw[Cl.inj R b] at I;obtain⟨u,h1,h2⟩:=U.getD e;exact⟨_,D,p,C,dx,_,u,rfl,I,c,Z,znp Y V h1,k W u H Step.refl ok h2⟩⟩
variable{l:Addr}
def Ok.chgN(ok:Ok K G H0 W env σ H){s s':Sl}(J:Mo)(e:env[i]?=some (some s))(R:σ[i]?=some (some v))(y:Owns H s v a)(B:SlOk K G W (upd H a J.out) s' v)(A:∀(j:Nat) (s:Sl) (v:V),env[j]?=some (some s)->σ[j]?=some (some v)->¬Owns H s v l)(r:∀b,Owns (upd H a J.out) s' v b->Owns H s v b\/b=l):Ok K G H0 W (env.set i (some s')) σ (upd H a J.out)/\Step W H W (upd H a J.out):=by
 have f:W a:=by obtain⟨C,g,h⟩:=ok.slot i s e;rw[R] at g;cases g;exact h.owns y
 have st:Step W H W (upd H a J.out):=⟨λb o q n=>by rw[gm (λz:b=a=>n (by rw[z];exact f))];exact q,λb z=>.inl z⟩;have w:∀ {j:Nat} {sl:Sl} {u:V} {b:Addr},i≠j->env[j]?=some (some sl)->σ[j]?=some (some u)->Owns H sl u b->b≠a:=λ{j sl u b} hj q U o z=>by
  subst z;exact hj (ok.uniq i j s sl v u b e q R U y o)
 have bk:∀ {j:Nat} {sl:Sl} {u:V} {b:Addr},i≠j->env[j]?=some (some sl)->σ[j]?=some (some u)->Owns (upd H a J.out) sl u b->Owns H sl u b:=λ{j sl u b} hj q U o=>by
  obtain⟨E,Z,h⟩:=ok.slot j sl q;rw[U] at Z;cases Z;cases sl with
  | sh d=>exact o.elim
  | ow ds=>exact o
  | o2 dss=>exact h.back (λl D _ vs I=>by rw[gm (w hj q U (.inl D))];exact I) o
  | ag k p ps=>exact h.back (λl D _ vs I=>by rw[gm (w hj q U (.inl D))];exact I) o
  | al _ _=>exact o.elim
  | ro _ _=>exact o.elim
 refine⟨⟨λb o q=>?_,ok.good,λb z=>?_,λj sl q=>?_,λj k x s2 v1 v2 b U Z D I c o2=>?_,by rw[dq,ok.len]⟩,st⟩
 ·rw[gm (λz=>by rw[z,(ok.wl a f).1] at q;cases q)];exact ok.stay b o q
 ·obtain⟨q,us,r⟩:=ok.wl b z
  by_cases h:b=a
  ·exact⟨q,J,by rw[h,ki]⟩
  ·exact⟨q,us,by rw[gm h];exact r⟩
 ·rcases nn q with⟨rfl,t,_⟩ | ⟨hj,t⟩
  ·cases t
   exact⟨v,R,B⟩
  ·obtain⟨u,g,h⟩:=ok.slot j sl t
   exact⟨u,g,ok.slstep st h λb vs o Z=>⟨h.owns o,by rw[gm (w hj t g o)];exact Z⟩⟩
 ·rcases nn U with⟨a1,b1,_⟩ | ⟨a1,b1⟩ <;> rcases nn Z with⟨m,Y,_⟩ | ⟨m,Y⟩
  ·rw[<-a1,<-m]
  ·subst a1;cases b1
   rw[R] at D;cases D;have o2:=bk m Y I o2;rcases r b c with z | z
   ·exact ok.uniq i k s s2 v v2 b e Y R I z o2
   ·subst z;exact absurd o2 (A k s2 v2 Y I)
  ·subst m;cases Y
   rw[R] at I;cases I;have c:=bk a1 b1 D c;rcases r b o2 with z | z
   ·exact ok.uniq j i x s v1 v b b1 e D R c z
   ·subst z;exact absurd c (A j x v1 b1 D)
  ·exact ok.uniq j k x s2 v1 v2 b b1 Y D I (bk a1 b1 D c) (bk m Y I o2)
def PtsOk.snoc(h:PtsOk K G W H ps as us)(D:W l)(I:H l=some (.lst vs))(r:Reps K H (Ow G W) ds vs):PtsOk K G W H (ps++[.o ds]) (as++[l]) (us++[.ref l]):=by
 induction h with
 | nil=>exact .o D I r .nil
 | d q _ ih=>exact .d q ih
 | o a b c _ ih=>exact .o a b c ih
def zrm{f:Str}{v:V}:∀ {fs:g7} {us:k7},f∉fs->fs.length=us.length->putF f v (fs.zip us)=(fs++[f]).zip (us++[v])
 | [],[],_,_=>rfl
 | g::fs,u::us,hf,hl=>by
   have:g≠f:=λz=>hf (by simp[z]);rw[jc,ky,ky,jc];show(if g=f then(g,v)::fs.zip us else(g,u)::putF f v (fs.zip us))=_;rw[if_neg this,zrm (λz=>hf (by simp[z])) (by simpa using hl)]
def yy(i:Nat)(cn f:Str)(F:FA):FS:=λe=>(F e).bind λr=>match r.2[i]? with
 | some (some (.ag (.ins true c fs) l ps))=>if c=cn/\f∉fs/\fs.length<900 then some (.nx,r.2.set i (some (.ag (.ins true c (fs++[f])) l (ps++[.o r.1])))) else none
 | _=>none
variable{value:Expr}
theorem zrn(ca:Atr X.K cn m)(an:Ats Nn Cn X)(he:DFx X G H0 value F)(e:Nn[i]?=some x:=by rfl)(hs:swapsWith value (some (.Attribute (.Name x p') m p1)) pos.line X.env=pure false:=by rfl) :
  DSx X G H0 (.Assign [.Attribute (.Name x p') m p1] value pos) (yy i cn m F):=let ⟨C,c,hn,f⟩:=ca;⟨(z3c ((an.a e).pe) he.out hs).imp λDn σ H zq=>by
 obtain⟨W,env,fl,env',ok,q,k⟩:=zq;unfold yy at q;cases e1:F env with
 | none=>rw[e1] at q;cases q
 | some r =>
   rw[e1,ac] at q;split at q;case h_2=>cases q
   rename_i L fs l ps g;split at q;case isFalse=>cases q
   rename_i t;obtain⟨rfl,hf,M⟩:=t;cases q;refine⟨W,env,r.1,r.2,ok,e1,λW1 ad vs H1 s1 R D N O rp=>?_⟩;obtain⟨v,u,p,as,us,rfl,P,Y,hr,⟨C',dx,z1,I,Z⟩,J⟩:=D.slot i _ g;rw[Cl.inj z1 f] at I;have Q:p≠ad:=λz=>by rw[z,O] at I;cases I
   have na:ad∉as:=λz=>by
    obtain⟨v',d,h⟩:=R.slot i _ g;rw[u] at d;cases d;exact N (h.owns (.inr ⟨p,us,rfl,⟨Z,C,dx,I⟩,J.parts_iff.mpr z⟩))
   refine⟨_,u,p,C,dx,fs.zip us,rfl,I,c,hn,?_,?_⟩
   ·rw[se];lia
   ·have st:Step (addW W1 ad) H1 (addW W1 ad) (upd H1 p (.ins C dx ((fs++[m]).zip (us++[.ref ad])))):=⟨λb o q n=>by rw[gm (λz:b=p=>n (by rw[z];exact P))];exact q,λb z=>.inl z⟩
    have A:upd H1 p (.ins C dx ((fs++[m]).zip (us++[.ref ad]))) ad=some (.lst vs):=by rw[gm (Ne.symm Q)];exact O
    have B:PtsOk X.K G (addW W1 ad) (upd H1 p (.ins C dx ((fs++[m]).zip (us++[.ref ad])))) ps as us:=J.step (λb ws S z=>⟨(J.own S).1,by rw[gm (λy:b=p=>by subst y;exact(bw.mp Y).1 S)];exact z⟩) (λ_ _ r=>D.rep st r) λ_ _ r=>D.reps st r;have U:(fs++[m]).length=(us++[V.ref ad]).length:=by rw[ao,ao,Z];rfl
    obtain⟨w1,w2⟩:=D.chgN (l:=ad) (s':=.ag (.ins true L (fs++[m])) l (ps++[.o r.1])) (.i C dx ((fs++[m]).zip (us++[.ref ad]))) g u (.inl rfl)
     ⟨p,as++[ad],us++[.ref ad],rfl,P,by
      rw[bw] at Y ⊢;refine⟨λz=>?_,List.nodup_append.mpr ⟨Y.2,by simp,λy hy z t=>?_⟩⟩
      ·rcases db.mp z with z | z
       ·exact Y.1 z
       ·exact Q (cr.mp z)
      ·rw[cr.mp t];exact λw=>na (w ▸ hy),hr,⟨C,dx,f,ki,U⟩,B.snoc (.inr rfl) A (D.reps st rp)⟩
     (λj s v d e4=>R.noOwn N j s v d e4) λb E=>by
       rcases E with E | ⟨p',us',z,y,j,ds,h1,h2⟩
       ·exact .inl (.inl E)
       ·cases z
        have ey:us'=us++[.ref ad]:=vn (K:=X.K) (k:=.ins true L (fs++[m])) (us:=us++[.ref ad]) ⟨C,dx,f,ki,U⟩ y;rw[ey] at h2;by_cases T:j<ps.length
        ·rw[aw T] at h1
         rw[aw (by rw[<-J.length];exact T)] at h2;exact .inl (.inr ⟨p,us,rfl,⟨Z,C,dx,I⟩,j,ds,h1,h2⟩)
        ·rw[di (by rw[<-J.length];lia),<-J.length] at h2
         cases hjj:j-ps.length with
         | zero=>rw[hjj] at h2;simp at h2;exact .inr h2.symm
         | succ n=>rw[hjj] at h2;simp at h2
    rw[zrm hf Z];exact k _ σ _ (s1.trans w2) w1⟩
end L2
namespace L2
open PySem
abbrev ij:g7:=["kept", "states"]
end L2
namespace L2
open PySem PySem.Spec PyProof.Rows
def ue(i:Nat)(g:FE)(F:FA):FS:=λe=>(F e).bind λr=>match r.2[i]? with
 | some (some (.o2 dss))=>(g (frsE r.2)).bind λq=>(match q.1 with | .int k=>(ixN dss.length k).map λj=>(.nx,r.2.set i (some (.o2 (dss.set j r.1)))) | _=>none)
 | _=>none
def zro(i:Nat)(g h f:FE):FS:=λe=>(f e).bind λr=>match r.2[i]? with
 | some (some (.o2 dss))=>(g (frsE r.2)).bind λq=>(h (frsE r.2)).bind λp=>(match q.1,p.1 with
   | .int k,.int m=>(ixN dss.length k).bind λj=>(dss[j]?).bind λds=>(ixN ds.length m).map λn=>(.nx,r.2.set i (some (.o2 (dss.set j (ds.set n r.1)))))
   | _,_=>none)
 | _=>none
variable{G:Gd}{H0 H:Hp}{i:Nat}{K:kf}{W:Addr->Prop}{env:DE0}{σ:St}
theorem Ok.swap2(R:Ok K G H0 W env σ H){l:Addr}{us:k7}{ds:k8}{dss:List k8}{j:Nat}{v:V}(ok:Ok K G H0 (addW W l) env σ H)(t:¬W l)(hl:H l=some (.lst us))(r:Reps K H (Ow G (addW W l)) ds us)(x:env[i]?=some (some (.o2 dss)))(A:σ[i]?=some (some v))(hj:j<dss.length) :
  ∃(L:Addr) (ls:h7),v=.ref L/\H L=some (.lst (ls.map V.ref))/\ls.length=dss.length/\Ok K G H0 (addW W l) (env.set i (some (.o2 (dss.set j ds)))) σ (upd H L (.lst ((ls.set j l).map V.ref)))/\Step (addW W l) H (addW W l) (upd H L (.lst ((ls.set j l).map V.ref))):=by
 obtain⟨v1,S,L,ls,rfl,T,B,C,hi⟩:=R.slot i _ x;rw[A] at S;cases S;have U:addW W l L:=.inl T;have st:Step (addW W l) H (addW W l) (upd H L (.lst ((ls.set j l).map V.ref))):=⟨λb o q n=>by rw[gm (λz:b=L=>n (by rw[z];exact U))];exact q,λb z=>.inl z⟩;have nl:∀(k:Nat) (s:Sl) (u:V),env[k]?=some (some s)->σ[k]?=some (some u)->¬Owns H s u l:=λk s u E m o=>by
  obtain⟨u',X,h⟩:=R.slot k s E;rw[m] at X;cases X;exact t (h.owns o)
 have Y:l≠L:=λz=>t (z ▸ T);have I:=hi.1;have J:∀(k:Nat) (c:Addr),(ls.set j l)[k]?=some c->(j=k/\c=l)\/(j≠k/\ls[k]?=some c):=λk c q=>by
  rcases nn q with⟨e,q,_⟩ | q
  ·exact .inl ⟨e,q⟩
  ·exact .inr q
 have F:(L::ls.set j l).Nodup:=by
  refine bw.mpr ⟨λz=>?_,?_⟩
  ·obtain⟨k,Z⟩:=List.mem_iff_getElem?.mp z
   rcases J k L Z with⟨_,e⟩ | ⟨_,e⟩
   ·exact Y e.symm
   ·exact(bw.mp C).1 (bf e)
  ·refine List.pairwise_iff_getElem.mpr λk1 k2 M a aa z=>?_
   obtain⟨c2,hc2⟩:∃c,(ls.set j l)[k2]?=some c:=⟨_,av a⟩;have N:(ls.set j l)[k1]?=some c2:=by rw[<-hc2,av M,av a,z]
   have d:∀k c,ls[k]?=some c->c≠l:=λk c q w=>t (w ▸ (hi.2 k (dss[k]'(by rw[<-I];exact(aj.mp q).1)) c (av _) q).1);rcases J k1 c2 N with⟨a1,b1⟩ | ⟨a1,b1⟩ <;> rcases J k2 c2 hc2 with⟨a2,p⟩ | ⟨a2,p⟩
   ·lia
   ·exact d _ _ p b1
   ·exact d _ _ b1 p
   ·have:=zm5 (bw.mp C).2 b1 p;lia
 refine⟨L,ls,rfl,B,I,?_⟩;refine ok.chgN (.l _) x A (.inl rfl) ⟨L,ls.set j l,rfl,U,ki,F,by simp[I],λk es c E m=>?_⟩ nl λb o=>?_
 ·rcases nn E with⟨rfl,z,_⟩ | ⟨Z,q'⟩
  ·cases z
   rcases J j c m with⟨_,rfl⟩ | ⟨y,_⟩
   ·exact⟨.inr rfl,us,by rw[gm Y];exact hl,ok.reps st r⟩
   ·exact absurd rfl y
  ·rcases J k c m with⟨y,_⟩ | ⟨_,y⟩
   ·exact absurd y Z
   ·obtain⟨O,vs,hc,rc⟩:=hi.2 k es c q' y
    have ne:c≠L:=λz=>(bw.mp C).1 (z ▸ bf y);refine⟨.inl O,vs,by rw[gm ne];exact hc,?_⟩;obtain⟨v2,e2,L2,ab,e3,_,f,_,P⟩:=ok.slot i _ x;rw[A] at e2;cases e2;cases e3;rw[B] at f;have:=u5 (by simpa using f);subst this;obtain⟨_,vs',g,Q⟩:=P.2 k es c q' y;rw[hc] at g;cases g;exact ok.reps st Q
 ·rcases o with o | ⟨L',ls',z,q,hb⟩
  ·exact .inl (.inl o)
  ·cases z
   rw[ki] at q;have:=u5 (show(ls.set j l).map V.ref=ls'.map V.ref by simpa using q);subst this;obtain⟨k,Z⟩:=List.mem_iff_getElem?.mp hb;rcases J k b Z with⟨_,e⟩ | ⟨_,e⟩
   ·exact .inr e
   ·exact .inl (.inr ⟨L,ls,rfl,B,bf e⟩)
variable{Nn Cn:g7}{X:Cx}{b e:Expr}{g:FE}{F:FA}{x:Str}{pos p' p1:Pos}
def zrp(m:∀G H0,DEx X G H0 b g)(n:DFx X G H0 e F)(an:Ats Nn Cn X)(Z:Nn[i]?=some x:=by rfl)(o:swapsWithSole [.Subscript (.Name x p') b p1] e pos.line X.env=pure false:=by rfl)(p:swappedStores [.Subscript (.Name x p') b p1] e X.env=pure none:=by rfl)(h1:(assignEach [.Subscript (.Name x p') b p1] X.env).map (·.2)=[assign (.Subscript (.Name x p') b p1) X.env]:=by rfl)(J:∀v,assign (.Subscript (.Name x p') b p1) X.env v=(do
   let ov <-holding [v] (eval (.Name x p') X.env);let iv <-holding [v,ov] (eval b X.env)
   standAt p1
   holding [v,ov,iv] (setItem ov iv v)
   release [v,ov,iv] []):=by intro _;rfl) :
  DSx X G H0 (.Assign [.Subscript (.Name x p') b p1] e pos) (ue i g F):=⟨λpins s σ H Dn I t=>by
 obtain⟨W,env,fl,env',ok,q,k⟩:=t;unfold ue at q;cases e1:F env with
 | none=>rw[e1] at q;cases q
 | some r =>
   rw[e1,ac] at q;split at q;case h_2=>cases q
   rename_i dss d;cases e2:g (frsE r.2) with
   | none=>rw[e2] at q;cases q
   | some r2 =>
     rw[e2,ac] at q;split at q;case h_2=>cases q
     rename_i kk c;cases e3:ixN dss.length kk with
     | none=>rw[e3] at q;cases q
     | some j =>
       rw[e3] at q;cases q;have u:j<dss.length:=(zmz e3).2.1;refine(ze n.out (zqw ((an.a Z).pe) (el_x (X:=X) rfl m) ya J) o p h1) pins s σ H Dn I ⟨W,env,r.1,r.2,ok,e1,λW1 l us H1 w R D y z A=>?_⟩;obtain⟨v,f,_⟩:=R.slot i _ d;refine⟨_,f,OwG G (addW W1 l) H1,H1,NoW,frsE r.2,r2.1,r2.2,D.freezeS,e2,λE v2 H2 s2 B U=>?_⟩;have sm:=s2.noW;rw[c] at U;obtain⟨L,ls,rfl,C,V,h,Y⟩:=Ok.swap2 (R.same sm) (D.same sm) y (sm _ _ z) ((D.reps (Step.same sm) A)) d f u;exact⟨L,_,kk,j,rfl,U.int_,C,by rw[ah,V];exact e3,by rw[gw] at h Y;exact k _ _ _ ((w.trans (Step.same sm)).trans Y) h⟩⟩
variable{a:Expr}{f h:FE}{p2:Pos}
def zu0(E:∀G H0,DEx X G H0 a g)(F:∀G H0,DEx X G H0 b h)(K:DEx X G H0 e f)(an:Ats Nn Cn X)(d:Nn[i]?=some x:=by rfl)(l:uw a:=by intro _ _;rfl)(M:swapsWithSole [.Subscript (.Subscript (.Name x p') a p2) b p1] e pos.line X.env=pure false:=by rfl)(N:swappedStores [.Subscript (.Subscript (.Name x p') a p2) b p1] e X.env=pure none:=by rfl)(h1:(assignEach [.Subscript (.Subscript (.Name x p') a p2) b p1] X.env).map (·.2)=[assign (.Subscript (.Subscript (.Name x p') a p2) b p1) X.env]:=by rfl)(V:∀v,assign (.Subscript (.Subscript (.Name x p') a p2) b p1) X.env v=(do
   let ov <-holding [v] (eval (.Subscript (.Name x p') a p2) X.env);let iv <-holding [v,ov] (eval b X.env)
   standAt p1
   holding [v,ov,iv] (setItem ov iv v)
   release [v,ov,iv] []):=by intro _;rfl) :
  DSx X G H0 (.Assign [.Subscript (.Subscript (.Name x p') a p2) b p1] e pos) (zro i g h f):=⟨λpins s σ H Dn I O=>by
 obtain⟨W,env,fl,env',ok,q,k⟩:=O;unfold zro at q;cases e1:f env with
 | none=>rw[e1] at q;cases q
 | some r =>
   rw[e1,ac] at q;split at q;case h_2=>cases q
   rename_i dss m;cases e2:g (frsE r.2) with
   | none=>rw[e2] at q;cases q
   | some r2 =>
     rw[e2,ac] at q;cases e3:h (frsE r.2) with
     | none=>rw[e3] at q;cases q
     | some r3 =>
       rw[e3,ac] at q;split at q;case h_2=>cases q
       rename_i kk mm p t;cases e4:ixN dss.length kk with
       | none=>rw[e4] at q;cases q
       | some j =>
         rw[e4,ac] at q;cases e5:dss[j]? with
         | none=>rw[e5] at q;cases q
         | some ds =>
           rw[e5,ac] at q;cases e6:ixN ds.length mm with
           | none=>rw[e6] at q;cases q
           | some n =>
             rw[e6] at q;cases q;refine(ze K.out (zqw (xb zm0 ((an.a d).pe) (el_x (X:=X) rfl E) l) (el_x (X:=X) rfl F) ya V) M N h1) pins s σ H Dn I ⟨W,env,r.1,r.2,ok,e1,λW1 v1 H1 P J Q=>?_⟩;obtain⟨v,u,_⟩:=J.slot i _ m;refine⟨_,u,OwG G W1 H1,H1,NoW,frsE r.2,r2.1,r2.2,J.freezeS,e2,λW2 v2 H2 s2 S Y=>?_⟩;have sm:=s2.noW;rw[p] at Y;have R:=J.same sm;obtain⟨L,ls,c,vs,rfl,B,w,y,T,C⟩:=zq7 R m u e4 e5;refine⟨L,_,kk,.ref c,rfl,Y.int_,.inl (.inl B),y,OwG G W1 H2,H2,NoW,frsE r.2,r3.1,r3.2,R.freezeS,e3,λW3 v3 H3 s3 aa Z=>?_⟩;have D:=s3.noW;rw[t] at Z;have A:=R.same D;have U:Same H1 H3:=λb o z=>D b o (sm b o z);obtain⟨t1,t2⟩:=A.turn2 m u (D _ _ B) e5 w (Reps.set (J.rep (Step.same U) Q) n (R.reps (Step.same D) C));exact⟨c,vs,mm,n,rfl,Z.int_,D _ _ T,by rw[<-C.length];exact e6,k _ _ _ ((P.trans (Step.same U)).trans t2) t1⟩⟩
end L2
namespace L2
open PySem PySem.Spec PyProof.Rows PySem.F
variable{prog:Program}{w:World}{A:Around}{E:Value->Shared->Prop}{s:Shared}
theorem zo7{it t:Addr}{D:k6}(V:t≠it):∀(n i:Nat) (s:Shared) (Q:g8->Shared->Prop),s.heap.IsListIter it t i->s.heap.IsList t D->i+n<=D.size ->
  (∀h',h'.IsListIter it t (i+n)->Heap.SameBut it s.heap h'->Q ((D.toList.drop i).take n) { s with heap:=h' })->wpAny (model prog w) A (draw (.ref it) n) Q E s
 | 0,i,s,Q,hit,_,_,hQ=>by
   exact wpAny_pure (by simpa using hQ s.heap hit (Heap.SameBut.refl ..))
 | n+1,i,s,Q,hit,ht,hle,hQ=>by
   have Y:i<D.size:=by lia
   refine wpAny_bind (wpAny_pyNext_list_item hit ht (x:=D[i]) (by simp[Y]) λh₁ J I=>?_);refine wpAny_bind (wpAny_holding (zo7 V n (i+1) _ _ J (ht.extBut I.extBut V) (by lia) λZ R U=>wpAny_pure ?_));have a:D.toList.drop i=D[i]::D.toList.drop (i+1):=by simp[fm,Y]
   have:=hQ Z (by rw[show i+(n+1)=i+1+n by lia];exact R) (I.trans U);rw[a,List.take_succ_cons] at this;exact this
variable{pos:Pos}
theorem zkf{env:Env}{I:ik}{x1}{t:Addr}{D:k6}{Q:Unit->Shared->Prop}(g:A.handled=none)(Z:s.heap.IsList t D)(i:(assignEach I env).length=D.size)(U:(assignEach I env).findIdx? (·.1)=none)(h:∀h',Heap.ExtBut s.heap.objs.size s.heap h'->wpAny (model prog w) A (assignInOrder ((assignEach I env).map (·.2)) D.toList) Q E { s with heap:=h' }):wpAny (model prog w) A (assign (.Tuple I x1 pos) env (.ref t)) Q E s:=by
 refine wpAny_bind (wpAny_standAt ?_);unfold unpack;rw[i,U];refine wpAny_bind (wpAny_holding ?_);have a:t≠s.heap.objs.size:=by obtain⟨o,j,_⟩:=Z;exact b9 (bg j)
 refine wpAny_bind ?_;refine wpAny_bind (wpAny_specialOf Z.typeIs PySem.slot_list_iter.lookup ?_);refine wpAny_pure ?_;refine wpAny_bind (wpAny_holding (wpAny_pyIter_list Z ?_));refine wpAny_bind (wpAny_holding (zo7 a D.size 0 _ _ ⟨_,cf _ rfl,rfl,rfl⟩ (Z.push _) (by lia) λh₁ R J=>?_));have c:List.take D.size (List.drop 0 D.toList)=D.toList:=by
  rw[vd];exact jh (by simp)
 rw[c];rw[if_neg (by simp)];have V:h₁.IsList t D:=(Z.push _).extBut J.extBut a;refine wpAny_bind (wpAny_holding (wpAny_pyNext_list_end g R V (by simp) λd Y=>?_));exact wpAny_pure (h d λb o f e=>Y b o f (J.extBut b o f (aq _ e)))
def xj(r:Nat):h8->la->Nat->DE0->Option DE0
 | [],[],_,e=>some e
 | i::ix,.d d::ps,n,e=>xj r ix ps n (e.set i (some (.sh d)))
 | i::ix,.o _::ps,n,e=>xj r ix ps (n+1) (e.set i (some (.al r n)))
 | _,_,_,_=>none
def vk(i:Nat)(ix:h8):FS:=λe=>match e[i]? with
 | some (some (.ag .ls (some r) ps))=>if i∈ix then none else(xj r ix ps 0 e).map λe'=>(.nx,e')
 | _=>none
variable{G:Gd}{H0:Hp}{ix:h8}
theorem zp3{K:kf}{W:Addr->Prop}{H:Hp}{r:Nat}{p:Addr}{D:h7}(J:G.r r=p::D):∀(ix:h8) (ps:la) (n:Nat) (as:h7) (us:k7) (env env':DE0) (σ:St) (Q:St->Hp->Prop),Ok K G H0 W env σ H->PtsOk K G W H ps as us->(∀(m:Nat) (a:Addr),as[m]?=some a->D[n+m]?=some a) ->
  xj r ix ps n env=some env'->(∀I,Ok K G H0 W env' I H->Q I H)->gIs ix us σ H Q
 | [],[],_,_,_,_,_,σ,Q,ok,.nil,_,e,k=>by cases e;exact⟨rfl,k σ ok⟩
 | i::ix,.d d::ps,n,as,_,env,env',σ,Q,ok,.d (v:=v) (us:=us) q t,ha,e,k =>
   ⟨v,us,rfl,zp3 J ix ps n as us _ env' _ Q (ok.put (s:=.sh d) (v:=v) q λ_ _ _ _ _ _ o=>o.elim) t ha e k⟩
 | i::ix,.o ds::ps,n,_,_,env,env',σ,Q,ok,.o (a:=a) (as:=as) (us:=us) hW hl q t,ha,e,k =>
   ⟨.ref a,us,rfl,zp3 J ix ps (n+1) as us _ env' _ Q (ok.put (s:=.al r n) (v:=.ref a) ⟨p,D,a,J,by simpa using ha 0 a rfl,rfl⟩ λ_ _ _ _ _ _ o=>o.elim) t (λm b R=>by have:=ha (m+1) b (by simpa using R);rwa [show n+1+m=n+(m+1) by lia]) e k⟩
variable{X:Cx}{es:ik}{x:Str}{p' p1:Pos}{i:Nat}
def zxz{Nn Cn:g7}{k:Nat}(h:PGs X es (gIs ix))(an:Ats Nn Cn X)(R:Nn[i]?=some x:=by rfl)(g:X.calm=true:=by rfl)(j:(assignEach es X.env).length=ix.length:=by rfl)(U:(assignEach es X.env).findIdx? (·.1)=none:=by rfl)(l:swapsWithSole [.Tuple es k p1] (.Name x p') pos.line X.env=pure false:=by rfl)(J:swappedStores [.Tuple es k p1] (.Name x p') X.env=pure none:=by rfl)(h1:(assignEach [.Tuple es k p1] X.env).map (·.2)=[assign (.Tuple es k p1) X.env]:=by rfl):DSx X G H0 (.Assign [.Tuple es k p1] (.Name x p') pos) (vk i ix):=⟨by
 have pg:PG X (.Tuple es k p1) (λv σ H Q=>∃a xs,v=.ref a/\H a=some (.lst xs)/\xs.length=ix.length/\gIs ix xs σ H Q):=by
  intro pins s σ H v u Q I r J;obtain⟨a,xs,D,V,Y,J⟩:=J;subst D;cases r;obtain⟨its,d,t,E⟩:=I.list (.inl (.inl V));refine zkf (I.ok.hd g) t.isList (by simp[j,<-Y,d.length]) U λh' w=>?_;have y:Inv X pins σ H { s with heap:=h' }:=I.kept (t':=s.toks) λb o e=>w b o (b9 (bg e)) e;exact h pins _ σ H xs _ Q y (by simpa using d) J
 refine(ze ((an.a R).pe) pg l J h1).imp λDn σ H z=>?_;obtain⟨W,env,fl,env',ok,q,kk⟩:=z;unfold vk at q;split at q;case h_2=>cases q
 rename_i r ps V;split at q;case isTrue=>cases q
 cases D:xj r ix ps 0 env with
 | none=>rw[D] at q;cases q
 | some e' =>
   rw[D] at q;cases q;obtain⟨v,A,p,as,us,rfl,F,K,B,C,f⟩:=ok.slot i _ V;have Y:∀(ix:h8) (ps:la) (n:Nat) (env e':DE0),xj r ix ps n env=some e'->ix.length=ps.length:=λix=>by
    induction ix with
    | nil=>intro ps n env e' e;cases ps with | nil=>rfl | cons p _=>cases p <;> cases e
    | cons i ix ih =>
      intro ps n env e' e;cases ps with
      | nil=>cases e
      | cons p ps=>cases p <;> exact congrArg Nat.succ (ih ps _ _ _ e)
   exact⟨_,A,p,us,rfl,C,by rw[<-f.length];exact(Y _ _ _ _ _ D).symm,zp3 (B r rfl) ix ps 0 as us env _ σ _ ok f (λm a L=>by rwa [jy]) D λZ c=>kk W Z H Step.refl c⟩⟩
end L2
namespace L2
open PySem PySem.Spec PyProof.Rows
def dPow:D->D->k9 | .int i,.int j=>if i=10/\0<=j/\j<=30 then some (.int (i ^ j.toNat)) else none | _,_=>none
variable{X:Cx}{G:Gd}{H0:Hp}
theorem z4z:OpD X G H0 (rI CPow λi j=>.int (i ^ j.toNat)) dPow:=od_I λI J d h=>by
 unfold dPow at h;split at h
 ·rename_i i j
  split at h;case isFalse=>cases h
  rename_i D;cases h;obtain⟨rfl,R,h1⟩:=D;exact⟨10,j,rfl,rfl,by unfold CPow;lia,rfl⟩
 ·cases h
variable{f:Addr}{g:FS}{pos:Pos}
def zg{a b:Expr}{f g:FE}(D:DEx X G H0 a f)(I:DEx X G H0 b g):DEx X G H0 (.BinOp a .Pow b pos) (fBin dPow f g):=xo z28 z4z D I
def celN(N:g7)(sc:Scope):g7:=N.filter λu=>sc.names.lookup u==some .cell
def scB(N ps:g7)(sc:Scope):Bool:=decide (sc.kind=.function) && !sc.isCoroutine && !sc.isGenerator && decide N.Nodup && decide (N.take ps.length=ps) && decide (∀y∈sc.names,y.2≠.free) && N.all λx=>okN x && (sc.names.lookup x==some .local || sc.names.lookup x==some .cell)
variable{N ps:g7}{sc:Scope}
def nv(h:scB N ps sc=true):pj N ps sc/\∀x∈N,Loc sc x/\(x==("__debug__" : Str))=false/\(x==("__classdict__" : Str))=false:=by
 unfold scB at h;simp only[eg,decide_eq_true_eq,ke,gk] at h;obtain⟨⟨⟨⟨⟨⟨h1,h2⟩,R⟩,U⟩,I⟩,V⟩,Y⟩:=h;have J:∀x∈N,Loc sc x/\(x==("__debug__" : Str))=false/\(x==("__classdict__" : Str))=false:=λx D=>by
  obtain⟨a,b⟩:=Y x D;have a:=qp a;rcases Bool.or_eq_true _ _ ▸ b with b | b
  ·exact⟨.inl (ud b),a⟩
  ·exact⟨.inr (ud b),a⟩
 exact⟨⟨h1,h2,R,U,I,λx D=>(J x (by rw[<-I] at D;exact List.mem_of_mem_take D)).1,V⟩,J⟩
variable{P:Program}{w:World}{K:kf}{mg:Str->g9}{base:Heap}{CX:CXT}{qual:Str}{cdv:Value}{A:Around}{outer:ic}{s:Shared}{H:Hp}{E:XK}
def p9(h:scB N ps sc=true):Ats N (celN N sc) (cxOf CX P w K mg base N qual sc f cdv A outer s H E) :=
 ⟨rfl,λi x e=>let z:=(nv h).2 x (bf e);⟨e,z.1.elim .inl λq=>.inr (.inl q),z.2.1,z.2.2⟩,λu D=>by
  obtain⟨_,h2⟩:=i8.mp D;exact .inl (ud h2)⟩
def p8(h:scB N ps sc=true):Tos N (cxOf CX P w K mg base N qual sc f cdv A outer s H E) :=
 ⟨λi x e=>⟨(nv h).1.nd,e,((nv h).2 x (bf e)).1,.inl rfl⟩⟩
variable{i:Nat}{x:Str}
def Tos.pg(t:Tos N X)(h:N[i]?=some x:=by rfl):PG X (.Name x pos) (m3 i):=zte (t.t h).nd (t.t h).n (t.t h).l (t.t h).f
variable{e:Expr}{p':Pos}{F:FA}
def Tos.psF(t:Tos N X)(D:DFx X G H0 e F)(h:N[i]?=some x:=by rfl)(I:swapsWith e (some (.Name x p')) pos.line X.env=pure false:=by rfl):PS X (.Assign [.Name x p'] e pos) (tAsg (tDF X.K G H0 F) (m3 i)):=zqx (t.t h).nd (t.t h).n (t.t h).l D.out I (t.t h).f
variable{f2:FA2}
def Tos.psF2(t:Tos N X)(D:DF2x X G H0 e f2)(h:N[i]?=some x:=by rfl)(I:swapsWith e (some (.Name x p')) pos.line X.env=pure false:=by rfl):PS X (.Assign [.Name x p'] e pos) (tAsg (tDF2 X.K G H0 f2) (m3 i)):=zqx (t.t h).nd (t.t h).n (t.t h).l D.out I (t.t h).f
variable{P:g8->Prop}
def us0(h:P [])(us:g8)(e:us.length=0):P us:=fq e ▸ h
variable{n:Nat}
def usn(h:∀a,∀us:g8,us.length=n->P (a::us))(us:g8)(e:us.length=n+1):P us:=by
 cases us with
 | nil=>cases e
 | cons a us=>exact h a us (Nat.succ.inj e)
def us1(h:∀a,P [a]):∀us,us.length=1->P us:=usn λa=>us0 (h a)
def us2(h:∀a b,P [a,b]):∀us,us.length=2->P us:=usn λa=>us1 (P:=λus=>P (a::us)) (h a)
def us3(h:∀a b c,P [a,b,c]):∀us,us.length=3->P us:=usn λa=>us2 (P:=λus=>P (a::us)) (h a)
def us4(h:∀a b c d,P [a,b,c,d]):∀us,us.length=4->P us:=usn λa=>us3 (P:=λus=>P (a::us)) (h a)
def us5(h:∀a b c d e,P [a,b,c,d,e]):∀us,us.length=5->P us:=usn λa=>us4 (P:=λus=>P (a::us)) (h a)
def Def(K:kf)(mg:Str->g9)(st:Stmt)(x:Str)(ps:g7):Prop:=∃f fd,Fun K x x st f fd/\Binds K fd ps []/\mg x=some (.ref f)
def Mef(K:kf)(C:Addr)(st:Stmt)(x qual:Str)(ps:g7):Prop:=∃f fd,Fun K x qual st f fd/\Binds K fd ps []/\Meth K C x f
variable{P:Program}{st:Stmt}{k ar:Nat}
theorem ji(T:Def K mg st x ps)(N:g7)(D:∀ {f:Addr} {cdv:Value} {A:Around} {outer:ic} {s:Shared} {H:Hp} {E:XK} {G:Gd} {H0:Hp},Room k (A.deeper (envOfC x (fx st) s.heap.objs.size f cdv)) ->
   Ats N (celN N (fx st)) (cxOf CX0 P w K mg base N x (fx st) f cdv A outer s H E).nox->Tos N (cxOf CX0 P w K mg base N x (fx st) f cdv A outer s H E).nox->DBx (cxOf CX0 P w K mg base N x (fx st) f cdv A outer s H E).nox G H0 (li st) g)(h:scB N ps (fx st)=true:=by decide +kernel)(I:okN x=true:=by decide +kernel)(J:n=N.length:=by rfl)(R:ar=ps.length:=by rfl):Cal P w K mg base CX0 x (k+1) (dSp K (runD n ar g)):=by
 obtain⟨f,fd,F,b,m⟩:=T;exact⟨f,fd,ps,fn_D F (nv h).1 J R λcdv A outer s H E G H0 U=>D U (p9 h).nox (p8 h).nox,m,F.kp,b,(qp I).1⟩
theorem z40(T:Def K mg st x ps)(N:g7)(D:∀ {f:Addr} {cdv:Value} {A:Around} {outer:ic} {s:Shared} {H:Hp} {E:XK} {G:Gd} {H0:Hp},Room k (A.deeper (envOfC x (fx st) s.heap.objs.size f cdv)) ->
   Ats N (celN N (fx st)) (cxOf CX0 P w K mg base N x (fx st) f cdv A outer s H E).nox->Tos N (cxOf CX0 P w K mg base N x (fx st) f cdv A outer s H E).nox->DBx (cxOf CX0 P w K mg base N x (fx st) f cdv A outer s H E).nox G H0 (li st) g)(h:scB N ps (fx st)=true:=by decide +kernel)(I:okN x=true:=by decide +kernel)(J:n=N.length:=by rfl)(R:ar=ps.length:=by rfl):Cal P w K mg base CX0 x (k+1) (fSp K (runF n ar g)):=by
 obtain⟨f,fd,F,b,m⟩:=T;exact⟨f,fd,ps,fn_F F (nv h).1 J R λcdv A outer s H E G H0 U=>D U (p9 h).nox (p8 h).nox,m,F.kp,b,(qp I).1⟩
theorem z41(T:Def K mg st x ps)(N:g7)(D:∀ {f:Addr} {cdv:Value} {A:Around} {outer:ic} {s:Shared} {H:Hp} {E:XK} {G:Gd} {H0:Hp},Room k (A.deeper (envOfC x (fx st) s.heap.objs.size f cdv)) ->
   Ats N (celN N (fx st)) (cxOf CX0 P w K mg base N x (fx st) f cdv A outer s H E).nox->Tos N (cxOf CX0 P w K mg base N x (fx st) f cdv A outer s H E).nox->DBx (cxOf CX0 P w K mg base N x (fx st) f cdv A outer s H E).nox G H0 (li st) g)(h:scB N ps (fx st)=true:=by decide +kernel)(I:okN x=true:=by decide +kernel)(J:n=N.length:=by rfl)(R:ar=ps.length:=by rfl):Cal P w K mg base CX0 x (k+1) (fSp2 K (wv n ar g)):=by
 obtain⟨f,fd,F,b,m⟩:=T;exact⟨f,fd,ps,z6o F (nv h).1 J R λcdv A outer s H E G H0 U=>D U (p9 h).nox (p8 h).nox,m,F.kp,b,(qp I).1⟩
abbrev Bd(P:Program)(w:World)(K:kf)(mg:Str->g9)(base:Heap)(N:g7)(qual:Str)(st:Stmt)(k:Nat)(g:FS):Prop:=∀ {f:Addr} {cdv:Value} {A:Around} {outer:ic} {s:Shared} {H:Hp} {E:XK} {G:Gd} {H0:Hp},Room k (A.deeper (envOfC qual (fx st) s.heap.objs.size f cdv)) ->
   Ats N (celN N (fx st)) (cxOf (CXr P w) P w K mg base N qual (fx st) f cdv A outer s H E)->Tos N (cxOf (CXr P w) P w K mg base N qual (fx st) f cdv A outer s H E)->DBx (cxOf (CXr P w) P w K mg base N qual (fx st) f cdv A outer s H E) G H0 (li st) g
theorem Def.cal{sp:Sp}(T:Def K mg st x ps)(D:okN x=true)(h:∀f fd,Fun K x x st f fd->FnOk P w K mg base CX k f fd ps sp):Cal P w K mg base CX x k sp:=by
 obtain⟨f,fd,F,b,m⟩:=T;exact⟨f,fd,ps,h f fd F,m,F.kp,b,(qp D).1⟩
variable{p:Nat}
def sf(T:Def K mg st x ps)(N:g7)(D:Bd P w K mg base N x st k g)(h:scB N ps (fx st)=true:=by decide +kernel)(I:okN x=true:=by decide +kernel)(J:n=N.length:=by rfl)(R:p+ar=ps.length:=by rfl):Cal P w K mg base (CXr P w) x (k+1) (qSp K (runQ n p ar g) (xQ n p ar g)) :=
 T.cal I λf fd F=>z4s F (nv h).1 J R λcdv A outer s H E G H0 U=>D U (p9 h) (p8 h)
def z1d(T:Def K mg st x ps)(N:g7)(D:Bd P w K mg base N x st k g)(h:scB N ps (fx st)=true:=by decide +kernel)(I:okN x=true:=by decide +kernel)(J:n=N.length:=by rfl)(R:p+ar=ps.length:=by rfl):Cal P w K mg base (CXr P w) x (k+1) (lSp K (runL n p ar g) (xL n p ar g)) :=
 T.cal I λf fd F=>z1a F (nv h).1 J R λcdv A outer s H E G H0 U=>D U (p9 h) (p8 h)
def z6y(T:Def K mg st x ps)(N:g7)(D:Bd P w K mg base N x st k g)(h:scB N ps (fx st)=true:=by decide +kernel)(I:okN x=true:=by decide +kernel)(J:n=N.length:=by rfl)(R:ar=ps.length:=by rfl):Cal P w K mg base (CXr P w) x (k+1) (gSp K (runG n ar g) (xG n ar g)) :=
 T.cal I λf fd F=>z6x F (nv h).1 J R λcdv A outer s H E G H0 U=>D U (p9 h) (p8 h)
variable{C:Addr}{cn:Str}
def wu(D:Cl K cn C)(c:Cls K C)(T:Mef K C st x qual ps)(N:g7)(I:Bd P w K mg base N qual st k g)(h:scB N ps (fx st)=true:=by decide +kernel)(J:n=N.length:=by rfl)(R:p+ar=ps.length:=by rfl):MCal P w K mg base cn x (k+1) (qSp K (runQ n p ar g) (xQ n p ar g)):=by
 obtain⟨f,fd,F,b,m⟩:=T;exact⟨C,f,fd,ps,c,m,z4s F (nv h).1 J R λcdv A outer s H E G H0 U=>I U (p9 h) (p8 h),b,D⟩
def wt(D:Cl K cn C)(c:Cls K C)(T:Mef K C st x qual ps)(N:g7)(I:Bd P w K mg base N qual st k g)(h:scB N ps (fx st)=true:=by decide +kernel)(J:n=N.length:=by rfl)(R:p+ar=ps.length:=by rfl):MCal P w K mg base cn x (k+1) (lSp K (runL n p ar g) (xL n p ar g)):=by
 obtain⟨f,fd,F,b,m⟩:=T;exact⟨C,f,fd,ps,c,m,z1a F (nv h).1 J R λcdv A outer s H E G H0 U=>I U (p9 h) (p8 h),b,D⟩
def z6z(D:Cl K cn C)(I:mg cn=some (.ref C))(J:PySem.W.makesIn K C=true)(kp:PySem.W.keepIn K (.ref C)=true)(T:Mef K C st "__init__" qual ps)(N:g7)(R:Bd P w K mg base N qual st k g)(h:scB N ps (fx st)=true:=by decide +kernel)(U:okN cn=true:=by decide +kernel)(V:n=N.length:=by rfl)(Y:p+ar=ps.length:=by rfl) :
  KCal P w K mg base cn (k+1) (lSp K (runL n p ar g) (xL n p ar g)):=by
 obtain⟨f,fd,F,b,m⟩:=T;exact⟨C,f,fd,ps,⟨J,m.at_,m.fn,kp⟩,z1a F (nv h).1 V Y λcdv A outer s H E G H0 Z=>R Z (p9 h) (p8 h),I,b,D,(qp U).1⟩
def z60(N:g7)(D:∀ {f:Addr} {cdv:Value} {A:Around} {outer:ic} {s:Shared} {H:Hp} {E:XK} {G:Gd} {H0:Hp},Room k (A.deeper (envOfC x (fx st) s.heap.objs.size f cdv)) ->
   Ats N (celN N (fx st)) (cxOf CX0 P w K mg base N x (fx st) f cdv A outer s H E).nox->Tos N (cxOf CX0 P w K mg base N x (fx st) f cdv A outer s H E).nox->DBx (cxOf CX0 P w K mg base N x (fx st) f cdv A outer s H E).nox G H0 (li st) g)(h:scB N ps (fx st)=true:=by decide +kernel)(I:n=N.length:=by rfl)(J:ar=ps.length:=by rfl):∀f fd,Fun K x x st f fd->FnOk P w K mg base CX0 (k+1) f fd ps (dSp K (runD n ar g)) :=
 λf fd F=>fn_D F (nv h).1 I J λcdv A outer s H E G H0 R=>D R (p9 h).nox (p8 h).nox
variable{h:Heap}{oc:Value}{od an:Option Addr}{osl:Array g9}
def law_mk{fa:Addr}{s:Str}{m:k8->k9}{kV I R cdv ct:Value}(X:K.In h)(G:h.Ns mainGlobals mg)(J:mg x=some (.ref fa))(a:PySem.W.nsIn K mainGlobals x=some (some (.ref f)))(l:K.lookup f=some ⟨oc,od,.func (PySem.W.fnOf x x (td st) (li st) (fx st) .none kV I R an cdv ct),osl⟩)(c:PySem.W.codeIn K cdv x=true)(k':PySem.W.keepIn K (.ref f)=true)(V:∀v:Value,bindArgs (PySem.W.fnOf x x (td st) (li st) (fx st) .none kV I R an cdv ct) ⟨[v],[]⟩=pure [(s,v)])(F:∀base f fd,Fun K x x st f fd->FnOk P w K mg base CX0 k f fd [s] (dSp K m))(good:∀U:ia,U.length<=63->m [.lst (U.map D.int)]=some (.bl true)) :
  ∃fd:FuncData,(∀(t:Shared) (v:Value),BindsTo t fd ⟨[v],[]⟩ [(s,v)])/\∀base:Heap,K.In base->base.Ns mainGlobals mg->FnOk P w K mg base CX0 k fa fd [s] (zq6 K):=by
 have e:=J.symm.trans (kj X G a);cases e;exact⟨_,λt v=>.of_eq (V v),λbase _ _=>z6n (F base _ _ (ztz l c k')) good⟩
def walkD{l:PySem.W.OpenLaw}{q:Program}{D:g7}{R:(Str->g9)->Heap->Prop}{J:World->Heap->Prop}{d:DefRec}{K:Params->kf}{s:Str}(U:Room k callerA)(V:l.most=some 63)(I:d.params.defaults=[])(Y:∀(w:World) (h:Heap),J w h->(K w.params).In h)(F:∀(w:World) (mg:Str->g9) (fa:Addr) (h:Heap),(K w.params).In h->h.Ns mainGlobals mg->mg d.name=some (.ref fa) ->
   ∃fd:FuncData,(∀(t:Shared) (u:Value),BindsTo t fd ⟨[u],[]⟩ [(s,u)])/\∀base:Heap,(K w.params).In base->base.Ns mainGlobals mg->FnOk l.prog w (K w.params) mg base CX0 k fa fd [s] (zq6 (K w.params))) :
  PySem.W.WalkO q D R J l.row.toRowW d [] (λf vs=>PySem.call f vs) :=
 z0o (n:=63) (k:=k) (x:=s) (CX:=λ_=>CX0) (sp:=λw=>zq6 (K w.params)) V (by decide) I U Y F (λ_ _ a Z b _ c=>⟨a,Z,rfl,c,b,λ_=>rfl⟩) λ_ _ _ _ _ z=>z
def def_mk{kV D I cdv ct:Value}(X:K.In h)(G:h.Ns mainGlobals mg)(a:PySem.W.nsIn K mainGlobals x=some (some (.ref f)))(l:K.lookup f=some ⟨oc,od,.func (PySem.W.fnOf x x (td st) (li st) (fx st) .none kV D I an cdv ct),osl⟩)(c:PySem.W.codeIn K cdv x=true)(k:PySem.W.keepIn K (.ref f)=true)(J:∀us:g8,us.length=ps.length->bindArgs (PySem.W.fnOf x x (td st) (li st) (fx st) .none kV D I an cdv ct) ⟨us,[]⟩=pure (ps.zip us)):Def K mg st x ps :=
 ⟨f,_,ztz l c k,.all J,kj X G a⟩
def exc_mk{c:Str}(X:K.In h)(G:h.Ns mainGlobals mg)(a:PySem.W.nsIn K mainGlobals c=some (some (.ref C)))(b:PySem.W.excIn K C VEs "ValueError.__new__" = true)(d:okN c=true):Exc K mg c:=⟨C,a,b,kj X G a,(qp d).1⟩
def con_mk{z:Int}{t:Tok}(X:K.In h)(G:h.Ns mainGlobals mg)(a:PySem.W.nsIn K mainGlobals x=some (some (.int z t))):∃t,mg x=some (.int z t):=⟨t,kj X G a⟩
def mef_mk{kV D I cdv ct:Value}(a:PySem.W.findIn K (.ref C) x=some (some (.ref f)))(l:K.lookup f=some ⟨oc,od,.func (PySem.W.fnOf x qual (td st) (li st) (fx st) .none kV D I an cdv ct),osl⟩)(c:PySem.W.codeIn K cdv qual=true)(k:PySem.W.keepIn K (.ref f)=true)(i:PySem.W.isFn K (.ref f)=true)(J:∀us:g8,us.length=ps.length->bindArgs (PySem.W.fnOf x qual (td st) (li st) (fx st) .none kV D I an cdv ct) ⟨us,[]⟩=pure (ps.zip us)):Mef K C st x qual ps :=
 ⟨f,_,ztz l c k,.all J,a,i,k⟩
def ExcO(o:Obj)(C:Addr):Prop:=∃vs,o.cls=.ref C/\o.data=.fields vs/\vs[2]?=some .none
def znt:entryFor table "proto.unchain" = some Builtin.«proto.unchain»:=entryFor_of_fast (by kernel_rfl)
variable{E:Value->Shared->Prop}{oc:Obj}{prog:Program}
def zsy{α:Type}{x c:Addr}{ox:Obj}{D:k6}{Q:α->Shared->Prop}(J:A.handled=some (.ref c))(R:s.heap.get? c=some oc)(U:ExcO oc C)(I:s.heap.get? x=some ox)(V:ox.data=.fields D)(h2:2<D.size)(Y:c≠x)(h:E (.ref x) { s with heap:=s.heap.update x (Obj.mapFields (·.setIfInBounds 2 (.ref c))) }):wpAny (model prog w) A (raiseNew (.ref x):Sem α) Q E s:=by
 refine wpAny_bind (wpAny_handled ?_);rw[J];dsimp only;rw[if_pos (by simp[Y])];obtain⟨b,d,Z,a⟩:=U;refine wpAny_bind (wpAny_holding (wpAny_runValue (codeAny_builtin znt ?_)));refine wpAny_bind (wpAny_field R Z a ?_);refine wpAny_bind (wpAny_pure (wpAny_pure ?_));refine wpAny_bind ?_;refine wpAny_bind (wpAny_load I ?_);rw[V];dsimp only;rw[if_pos h2];exact wpAny_update I (wpAny_throw h)
theorem zp4{it:Addr}{x left step:Int}{c:Addr}{Q:g9->Shared->Prop}(R:A.handled=some (.ref c))(J:s.heap.get? c=some oc)(U:ExcO oc C)(D:IsRangeIter s.heap it x left step)(I:left<=0)(V:∀h',Heap.ExtBut it s.heap h'->Q none { s with heap:=h' }):wpAny (model prog w) A (pyNext (.ref it)) Q E s:=by
 have hT:s.TypeIs (.ref it) "range_iterator":=⟨_,D,rfl⟩;refine wpAny_bind (wpAny_attempt (wpAny_callSpecial?_slot (name:=Str.ofString "__next__") hT F.slot_range_iterator_next
  (wpAny_call_entry F.slot_range_iterator_next hT F.entry_range_iterator_next ?_ (F.args_range_iterator_next_1 _))))
 show wpAny _ _ (field (.ref it) 0 >>= _) _ _ s;refine wpAny_bind (wpAny_field D rfl (x:=rawInt x) rfl ?_);show wpAny _ _ (field (.ref it) 1 >>= _) _ _ s;refine wpAny_bind (wpAny_field D rfl (x:=rawInt left) rfl ?_);refine wpAny_bind (wpAny_field D rfl (x:=rawInt step) rfl ?_);show wpAny _ _ (if left<=0 then _ else _) _ _ s;rw[if_pos I];refine wpAny_bind (wpAny_rule ?_);refine wpAny_bind ?_;refine wpAny_bind ?_;refine wpAny_bind (m:=firstArgMember _ _) (wpAny_of_eq (a:=Value.none) (by first | rfl | (simp only[firstArgMember];rfl)) ?_);refine wpAny_newObj_type ?_ (by size_fits);refine zsy (show A.in1.handled=some (.ref c) from R) (aq _ (aq _ J)) U (cf _ rfl) rfl (by simp;lia) (b9 (by rw[i6];exact f7 (bg J))) ?_;refine wpAny_bind (wpAny_isInstance (T:="StopIteration") (b:=true) ⟨_,ft _ (cf _ rfl) (by rfl),rfl⟩ isSubtype_stop ?_);refine wpAny_pure (V _ λb o Y e=>?_);rw[cj _ _ (λz=>absurd (z ▸ bg e) (by rw[i6];exact Nat.not_lt.mpr (md _)))];exact aq _ (aq _ e)
end L2
namespace L2
open PySem PySem.Spec PyProof.Rows PySem.W
structure ECls (K:kf) (C:Addr):Prop where
 ga:PySem.W.findIn K (.ref C) "__getattribute__" = some (some (.builtin "BaseException.__getattribute__"))
 hk:PySem.W.findIn K (.ref C) "__getattr__" = some none
 fd:PySem.W.findObj K C none "__class__" = some (.bind (.builtin "getset_descriptor.__get__") (.builtin "object.__class__"))
 ob:PySem.W.mroIn K C (.type "object")=some true
 be:PySem.W.mroIn K C (.type "BaseException")=some true
variable{K:kf}{w:World}{A:Around}{E:Value->Shared->Prop}{s:Shared}{x:Str}{C:Addr}{Q:Unit->Shared->Prop}
theorem zu1{prog:Program}{x:Addr}{ox:Obj}{Q:g9->Shared->Prop}(c:ECls K C)(X:K.In s.heap)(I:PySem.W.InstAt s.heap x ox C none)(h:Q (some (.ref C)) { s with toks:=s.toks+1 }):wpAny (model prog w) A (getAttr? (.ref x) "__class__") Q E s:=by
 obtain⟨D,g,d,t,os⟩:=s;have J:=I.type (M:=model prog w);have R:=looks_findIn (M:=model prog w) X c.ga;have U:=looks_findIn (M:=model prog w) X c.hk;have V:=looks_find (M:=model prog w) X I c.fd;have Y:=looks_mroIn (M:=model prog w) X c.be;refine wpAny_bind (wpAny_mkText (wpAny_bind (wpAny_attempt (wpAny_holding (wpAny_bind (J.at (wpAny_bind (R.at ?_))))))));refine wpAny_bind (m:=hookBefore _) (U.at ?_);refine wpAny_bind (wpAny_attempt (wpAny_holding ?_));refine wpAny_bind (wpAny_pure (wpAny_call ?_));refine codeAny_call_builtin F.excAttr_ValueError.ga.plain F.entry_bexc_ga ?_;have Z:Looks (model prog w) D (isInstance (.ref x) (.type "BaseException")) true:=J.andThen Y;refine wpAny_bind (Z.at ?_);repeat (first | wp_step | assumption)
 refine wpAny_loadPart_at I.at_ ?_;rw[I.cls];refine wpAny_pure (wpAny_bind (V.at ?_));refine wpAny_bind (wpAny_holding (wpAny_call (class_get (s:=⟨D,g,d,t+1,os⟩) (ox:=ox) (od:=none) X I c.ob ?_)));exact wpAny_pure (handed_on rfl (wpAny_pure h))
def Exo(o:Obj)(C:Addr):Prop:=ExcO o C/\o.dict=none
variable{h:Heap}{ea:Addr}{o:Obj}
def Exo.inst(e:h.get? ea=some o)(x:Exo o C):PySem.W.InstAt h ea o C none:=by
 obtain⟨⟨vs,h1,h2,_⟩,D⟩:=x;exact⟨e,h1,by unfold notCls;rw[h2],by rw[D];trivial⟩
def zx0(c:ECls K C):KitX K (.ref ea) (.ref C) (λh=>∃ox,PySem.W.InstAt h ea ox C none):=by
 obtain⟨Z,D,_⟩:=dn.mp c.fd;unfold clsIn at D;split at D;case h_2=>cases D
 rename_i a d' U V R;exact⟨λ_ _ _ ⟨_,I⟩=>I.type,λ_ _ X _ b d f s' k q=>by
   exact wpAny_bind (wpAny_loadPart (k _ _ (X _ _ R)) (wpAny_pure q)),
  λh Y dd its n sl X J=>Bool.eq_false_iff.mpr λq=>by
   have e:C=Y:=Value.ref.inj (beq_iff_eq.mp q);subst e;have z:=(X _ _ R).symm.trans J
   (injection z with z;injection z with _ _ z;cases z),
  λX ⟨_,I⟩ k=>zu1 c X I k⟩
structure Hd (ea C:Addr) (X:Cx):Prop where
 hh:X.A.handled=some (.ref ea)
 ob:∃o,X.s₀.heap.get? ea=some o/\Exo o C
 h0:X.H₀ ea=none
 nf:ea∉X.fs
 nx:ea∉X.ex
variable{X:Cx}{pins:k4}{σ:St}{H:Hp}
def Hd.at(h:Hd ea C X)(I:Inv X pins σ H s):∃o,s.heap.get? ea=some o/\Exo o C/\H ea=none :=
 let ⟨o,e,c⟩:=h.ob;⟨o,I.base.keep ea o e h.h0 h.nf h.nx,c,I.base.free ea o e h.h0 h.nx⟩
def Hd.comp{N':g7}{sc:Scope}{cl:List (Str×Addr)}{D:Addr}{fp:h7}(h:Hd ea C X)(I:Inv X pins σ H s)(J:∀b∈fp,FpOk X pins H b):Hd ea C (i7 X x N' sc cl D s H fp):=by
 obtain⟨U,R,_⟩:=h.ob;obtain⟨o,e,c,n⟩:=h.at I;have lt:=bg R;refine⟨h.hh,⟨o,e,c⟩,n,λz=>?_,λz=>?_⟩
 ·rcases cb.mp (I.stkSub ea z) with q | q
  ·exact absurd (bc lt (q ▸ I.ok.above)) (fo _)
  ·exact h.nf q
 ·rcases(J ea z).2.2.2.1 with q | q
  ·exact h.nx q
  ·exact absurd (bc lt q) (fo _)
variable{P:Program}
theorem zp5{tg:Expr}(it:Addr)(lo:Int)(n:Nat):vj (Hd ea C) P w K tg (Itr lo n) [it] it (λi h=>IsRangeIter h it (lo+(i:Nat)*1) ((n:Int)-(i:Nat)) 1) where
 mem:=by simp
 obj:=(zix (P:=P) (w:=w) (K:=K) (tg:=tg) it lo n).obj
 keep:=(zix (P:=P) (w:=w) (K:=K) (tg:=tg) it lo n).keep
 item:=by
  intro X hP k l Y i pins s σ H E I U st V;obtain⟨Z,a,f2,d,f,g⟩:=U it (by simp);have V:i<n:=V;refine wpAny_pyNext_range_item st (by lia) λh' D j=>?_;have m:Inv X pins σ H { s with heap:=h',toks:=s.toks+1 }:=I.turned (λb o J e=>j.extBut b o J e) Z a d f g;have p:lo+((i+1:Nat):Int)*1=lo+(i:Int)*1+1:=by lia
  have q:(n:Int)-((i+1:Nat):Int)=(n:Int)-(i:Int)-1:=by lia
  have R:IsRangeIter h' it (lo+((i+1:Nat):Int)*1) ((n:Int)-((i+1:Nat):Int)) 1:=by rw[p,q];exact D
  refine⟨_,rfl,zwe (s:={ s with heap:=h',toks:=s.toks+1 }) (n:="range_iterator") R rfl rfl (by decide) ⟨.int (lo+i),H,m,⟨s.toks,?_⟩,⟨rfl,rfl⟩,R,λb J=>(U b J).1⟩⟩;rw[Int.mul_one]
 done:=by
  intro X hP k l Y i pins s σ H E I U st V;obtain⟨Z,a,f2,d,f,g⟩:=U it (by simp);obtain⟨o,e,⟨c,_⟩,_⟩:=Y.at I;exact zp4 Y.hh e c st (by have:n<=i:=V;lia) λh' r=>⟨rfl,I.turned (t':=s.toks) (λb o J e=>r b o J e) Z a d f g⟩
 self:=(zix (P:=P) (w:=w) (K:=K) (tg:=tg) it lo n).self
variable{a e:Expr}
def fIsx(ea:Addr)(i:Nat)(b:Bool):FE:=λe=>match e[i]? with | some (some (.sh (.exc a)))=>if a=ea then some (.bl b,e) else none | _=>none
variable{b:Expr}
def zx1(J:Hd ea C X)(R:ECls X.K C):oo X (.builtin "isinstance") (λxs H Q=>∃v u b,xs=[.ref ea,v]/\RelV v u/\(∀D,RelV v D->D=u)/\PySem.W.kitOne X.K (.ref C) u=some b/\Q (.bl b) H):=by
 intro pins s σ H xs us Q I r h;obtain⟨v,u,b,rfl,_,U,e,q⟩:=h;obtain⟨V,D,rfl,Y,rt⟩:=z0c r;cases (show V=Value.ref ea from Y);cases U D rt;obtain⟨o,Z,a,_⟩:=J.at I;exact d8 (zx0 R) I.kIn ⟨o,a.inst Z⟩ e (λz=>nomatch z) λtk=>⟨.bl b,H,I.tok tk,rfl,q⟩
variable{b:Bool}{Nn Cn:g7}{i:Nat}{cn:Str}{G:Gd}{H0:Hp}{pos p' p1 p2:Pos}
def zzj{v:V}{u:Value}(c:Hd ea C X)(e:ECls X.K C)(f:PE X (.Name cn p2) (tC v))(h:RelV v u)(j:∀U,RelV v U->U=u)(l:PySem.W.kitOne X.K (.ref C) u=some b)(an:Ats Nn Cn X)(Y:Bn X "isinstance":=by walk_at "b")(D:Nn[i]?=some x:=by rfl)(Z:starEach [.Name x p1,.Name cn p2] X.env=(false,eval (.Name x p1) X.env)::starEach [.Name cn p2] X.env:=by rfl)(I:starEach [.Name cn p2] X.env=(false,eval (.Name cn p2) X.env)::starEach [] X.env:=by rfl)(J:(backTo pos (starEach [.Name cn p2] X.env)).any (·.1)=false:=by rfl) :
  DEx X G H0 (.Call (.Name "isinstance" p') [.Name x p1,.Name cn p2] [] pos) (fIsx ea i b) :=
 ⟨(x0 (zx1 c e) Y.g Y.m zq2 (mr ((an.a D).pe) (mr f o5 I) Z) (by decide) (by decide) Z J).imp λσ H Q n=>by
  obtain⟨W,env,d,env',ok,q,k⟩:=n;unfold fIsx at q;split at q
  ·rename_i s o
   split at q;case isFalse=>cases q
   rename_i R;subst R;cases q;obtain⟨t,p,r⟩:=ok.slot i _ o;obtain rfl:=Rep.exc_ r;exact⟨_,p,v,u,b,rfl,h,j,l,k W _ H Step.refl ok (.bl b)⟩
  ·cases q⟩
variable{g:FE}
def z42{R:Addr}(V:Hd ea C X)(Y:ECls X.K C)(Z:X.mg cn=some (.ref R))(a:PySem.W.kitOne X.K (.ref C) (.ref R)=some b)(an:Ats Nn Cn X)(c:Gl X cn:=by walk_at "g")(D:(cn==("__debug__" : Str))=false:=by decide)(d:Bn X "isinstance":=by walk_at "b")(I:Nn[i]?=some x:=by rfl)(e:starEach [.Name x p1,.Name cn p2] X.env=(false,eval (.Name x p1) X.env)::starEach [.Name cn p2] X.env:=by rfl)(J:starEach [.Name cn p2] X.env=(false,eval (.Name cn p2) X.env)::starEach [] X.env:=by rfl)(U:(backTo pos (starEach [.Name cn p2] X.env)).any (·.1)=false:=by rfl) :
  DEx X G H0 (.Call (.Name "isinstance" p') [.Name x p1,.Name cn p2] [] pos) (fIsx ea i b):=zzj V Y (ztb (v:=.ref R) c Z rfl D) rfl (λ_ z=>z) a an d I e J U
def z1e:bootBuiltins "ValueError" = some (.type "ValueError"):=by decide +kernel
def z1f(U:Hd ea C X)(V:ECls X.K C)(Y:PySem.W.kitOne X.K (.ref C) (.type "ValueError")=some b)(an:Ats Nn Cn X)(R:Bn X "ValueError":=by walk_at "b")(Z:Bn X "isinstance":=by walk_at "b")(D:Nn[i]?=some x:=by rfl)(a:starEach [.Name x p1,.Name "ValueError" p2] X.env=(false,eval (.Name x p1) X.env)::starEach [.Name "ValueError" p2] X.env:=by rfl)(I:starEach [.Name "ValueError" p2] X.env=(false,eval (.Name "ValueError" p2) X.env)::starEach [] X.env:=by rfl)(J:(backTo pos (starEach [.Name "ValueError" p2] X.env)).any (·.1)=false:=by rfl) :
  DEx X G H0 (.Call (.Name "isinstance" p') [.Name x p1,.Name "ValueError" p2] [] pos) (fIsx ea i b):=zzj U V (ztc (v:=.ty "ValueError") R.g R.m z1e rfl) rfl (λ_ z=>z) Y an Z D a I J
def bTup:k8->k9 | [.lst ds]=>some (.tup ds) | _=>none
def zx2:bootBuiltins "tuple" = some (.type "tuple"):=by decide +kernel
def z43:uc X G H0 (λxs H Q=>∃p ys,xs=[.ref p]/\((SqL X.K H p ys/\∀l,H l=none->Q (.ref l) (upd H l (.tup ys)))\/(SqT X.K H p ys/\Q (.ref p) H))) bTup:=by
 intro W env σ H vs ds d Q ok r e k;unfold bTup at e;split at e
 ·cases e
  obtain⟨v,rfl,D⟩:=ql r;obtain⟨a,us,rfl,h,r⟩:=D.lst_;refine⟨a,us,rfl,.inl ⟨h.sq,λl I=>?_⟩⟩;have sm:Same H (upd H l (.tup us)):=vz I;exact k _ _ (Step.same sm) (ok.same sm) (.tup ki (ok.reps (Step.same sm) r))
 ·cases e
variable{b:Expr}{F:FA}
def z1g(I:DAx X G H0 [e] F)(D:Bn X "tuple":=by walk_at "b")(J:starEach [e] X.env=(false,eval e X.env)::starEach [] X.env:=by rfl):DEx X G H0 (.Call (.Name "tuple" p') [e] [] pos) (d7 bTup F):=zq1 zm2 z43 D.g D.m zx2 I (by decide) (by decide) J rfl
abbrev Cx.hush(X:Cx)(A:Around)(p:k4):Cx:={ X with A:=A,calm:=false,pn:=p++X.pn }
variable{p:k4}
def Inv.hush(I:Inv X pins σ H s)(hA:A.frames=X.A.frames)(D:∀q∈p,s.heap.get? q.1=some q.2/\H q.1=none/\q.1≠X.env.locals/\q.1∉X.fs/\∀v,q.2.data≠.cell v):Inv (X.hush A p) pins σ H s :=
 ⟨⟨I.ok.mod,I.ok.kind,I.ok.glob,I.ok.blt,I.ok.above,I.ok.inj,I.ok.has,I.ok.cab,(λz=>nomatch z),hA.trans I.ok.frames,I.ok.stk,I.ok.exf,I.ok.bs,I.ok.bsz,I.ok.noex,I.ok.exfs,I.ok.funs,I.ok.frf⟩,I.os,I.bare,I.base,I.loc,I.cell,I.free,I.freeC,λq hq=>by
  rw[dg] at hq;rcases db.mp hq with hq | hq
  ·exact D q hq
  ·exact I.pin q hq,I.hok,I.len⟩
def Inv.unhush(ok:X.Ok)(J:Inv (X.hush A p) pins σ H s):Inv X pins σ H s :=
 ⟨ok,J.os,J.bare,J.base,J.loc,J.cell,J.free,J.freeC,λq D=>J.pin q (by rw[dg];exact b8 _ D),J.hok,J.len⟩
structure KOk (P:Program) (w:World) (K:kf) (mg:Str->g9) (base:Heap) (k:Nat) (f:Addr) (fd:FuncData) (ps:g7) (kd:Str->k9):Prop where
 len:ps.length=1
 run:∀(A:Around) (outer:ic) (s:Shared) (H:Hp) (ea C:Addr) (c:Str) (o:Obj) (d:D) (O:Addr->Prop) (Q:VK) (args:Args),Room k { A with handled:=none }->A.handled=some (.ref ea)->Env0 P w K mg base A outer s H->BindsTo s fd args (ps.zip [.ref ea]) ->
  s.heap.get? ea=some o->Exo o C->Cl K c C->H ea=none->ea∉frs outer->kd c=some d->(∀v H',Same H H'->Rep K H' (λa=>O a\/H a=none) d v->Q v H')->codeAny (model P w) A (.call (.ref f) args) (CR CX0 outer P w H s Q E0) s
abbrev cxH(P:Program)(w:World)(K:kf)(mg:Str->g9)(base:Heap)(N:g7)(qual:Str)(scope:Scope)(f:Addr)(cdv:Value)(A:Around)(outer:ic)(s:Shared)(H:Hp):Cx :=
 ((cxOf CX0 P w K mg base N qual scope f cdv { A with handled:=none } outer s H E0).nox).hush (A.deeper (envOfC qual scope s.heap.objs.size f cdv)) []
def runK(n:Nat)(g:Addr->Str->FS)(c:Str)(d:D):Prop:=∀ea,∃e',g ea c (jk n [.exc ea])=some (.rt d,e')
variable{g:Addr->Str->FS}{st:Stmt}{N ps:g7}{k:Nat}{kd:Str->k9}{mg:Str->g9}{base:Heap}
theorem fn_K{qual:Str}{f:Addr}{fd:FuncData}{n:Nat}(F:Fun K x qual st f fd)(S:pj N ps (fx st))(T:n=N.length)(E:ps.length=1)(j:∀c d,kd c=some d->runK n g c d)(U:∀(cdv:Value) (A:Around) (outer:ic) (s:Shared) (H:Hp) (ea C:Addr) (c:Str) (G:Gd) (H0:Hp),(kd c).isSome=true->Cl K c C->Hd ea C (cxH P w K mg base N qual (fx st) f cdv A outer s H)->DBx (cxH P w K mg base N qual (fx st) f cdv A outer s H) G H0 (li st) (g ea c)) :
  KOk P w K mg base (k+1) f fd ps kd:=by
 subst T;refine⟨E,λA outer s H ea C c o d O Q args X hh D hb ho hx hc hH l L hQ=>?_⟩;obtain⟨oc,od,kV,aa,pm,an,cdv,ct,osl,rfl,lk,m⟩:=F.ex;have hl:[V.ref ea].length=ps.length:=E.symm;have M:K.In s.heap:=D.mod.kin.keeps λb o e=>(D.bs b o e).1;have p:s.heap.NoLimit:=D.mod.nolimit.keeps λb o e=>(D.bs b o e).1;have Y:∀y∈ps.zip [Value.ref ea],(fx st).names.lookup y.1=some .local\/((fx st).names.lookup y.1=some .cell/\((cellsFrom (s.heap.objs.size+1) (fx st).names []).lookup y.1).isSome=true):=λ⟨n,v⟩ hy=>by
  rcases S.par n (js hy).1 with q | q
  ·exact .inl q
  ·exact .inr ⟨q,lj _ _ _ (.inl q)⟩
 refine codeAny_call_function (A:=A) X.depth (M _ _ lk) rfl S.co S.gen rfl (PySem.W.codeRec_of M m) (hb _ _ _ _ ?_);refine wpAny_newFunctionEnv_cells S.kind Y λenv he r x=>?_;subst he;refine⟨p.keeps x.toInCall.keep,codeAny_func ?_⟩;have e1:Env0 P w K mg base { A with handled:=none } outer s H:=⟨D.frames,D.mod,D.bs,D.bsz,D.funs,D.frf,D.hok,D.bare⟩;have I0:Inv (cxOf CX0 P w K mg base N qual (fx st) f cdv { A with handled:=none } outer s H E0) [] (start N [.ref ea]) H r:=zoh S rfl e1 hl (.cons rfl .nil) x;have I:Inv (cxH P w K mg base N qual (fx st) f cdv A outer s H) [] (start N [.ref ea]) H r:=(I0.wish _).hush rfl λq hq=>absurd hq (by simp);have hD:Hd ea C (cxH P w K mg base N qual (fx st) f cdv A outer s H):=⟨hh,⟨o,ho,hx⟩,hH,l,by simp[cxOf]⟩;obtain⟨e',hg⟩:=j c d L ea;have t:=(U cdv A outer s H ea C c (gd λa=>O a\/H a=none) H (by rw[L];rfl) hc hD).out [] r (start N [.ref ea]) H { nx:=λ_ H'=>Q .non H',rt:=Q } I
  ⟨NoW,_,_,e',tm (K:=K) (O:=O) (.cons (.exc ea) .nil),hg,λW' R v H' st z rp=>hQ v H' z.stay (rp.mono (λ_ _ h=>h) λa us o h=>⟨o.1,h⟩)⟩
 refine wpAny_mono t (λfl s' Z=>?_) λe s' Z=>False.elim Z;have i:∀ {R:St} {H':Hp} {v:V} {u:Value},Inv (cxH P w K mg base N qual (fx st) f cdv A outer s H) [] R H' s'->RelV v u->Q v H'->CE outer P w H s Q u s' :=
  λ{R H' v u} J B q=>⟨v,H',J.os,J.bare,J.base,J.hok,B,q⟩
 cases fl with
 | ret u =>
   obtain⟨v,R,H',J,B,q⟩:=Z;exact i J B q
 | next =>
   obtain⟨R,H',J,q⟩:=Z;exact i (v:=V.non) (u:=Value.none) J rfl q
 | brk =>
   obtain⟨_,_,_,q⟩:=Z;exact False.elim q
 | cont =>
   obtain⟨_,_,_,q⟩:=Z;exact False.elim q
def KCl(P:Program)(w:World)(K:kf)(mg:Str->g9)(base:Heap)(x:Str)(k:Nat)(kd:Str->k9):Prop :=
 ∃f fd ps,KOk P w K mg base k f fd ps kd/\mg x=some (.ref f)/\PySem.W.keepIn K (.ref f)=true/\Binds K fd ps []/\(x==("__debug__" : Str))=false
def fKd(ea:Addr)(c:Str)(kd:Str->k9)(i:Nat):FE:=λe=>match e[i]? with | some (some (.sh (.exc a)))=>if a=ea then(kd c).map λd=>(d,e) else none | _=>none
variable{c:Str}
theorem z1h{y:Str}{p:Pos}(j:X.A.handled=some (.ref ea))(l:(ea,o)∈X.pn)(m:Exo o C)(n:Cl X.K c C)(t:KCl X.prog X.w X.K X.mg X.base x k kd)(B:Room k { X.A with handled:=none })(an:Ats Nn Cn X)(E:Gl X x)(R:Nn[i]?=some y)(b:starEach [.Name y p1] X.env=(false,eval (.Name y p1) X.env)::starEach [] X.env)(U:(backTo pos (starEach [] X.env)).any (·.1)=false):DEx X G H0 (.Call (.Name x p) [.Name y p1] [] pos) (fKd ea c kd i):=⟨λpins s σ H Q I Y=>by
 obtain⟨W,env,d,env',ok,q,k⟩:=Y;obtain⟨f,fd,ps,F,L,M,N,Z⟩:=t;unfold fKd at q;split at q;case h_2=>cases q
 rename_i a O;split at q;case isFalse=>cases q
 rename_i P;subst P;cases e2:kd c with
 | none=>rw[e2] at q;cases q
 | some d' =>
   rw[e2] at q;cases q;obtain⟨v',S,T⟩:=ok.slot i _ O;obtain rfl:=Rep.exc_ T;refine wpAny_Call_Name_kw (vq I E L ?_ Z);refine jb (h₀:=X.base) I.ok.mod.kin M (thn ((mr (an.a R).pe o5 b) pos pins s σ H (λvs H1=>vs=[V.ref a]/\H1=H) I ⟨_,S,rfl,rfl⟩) λus g Y=>?_) b U;obtain⟨vs,H1,D,r,q1,q2⟩:=Y;refine⟨D.kIn,?_⟩;subst q1 q2;obtain⟨u,rfl,hu⟩:=vi r;cases (show u=Value.ref a from hu);obtain⟨g1,g2,g3,g4,_⟩:=D.pin (a,o) (d5 _ l);have hl:([Value.ref a]++[]).length=ps.length:=by rw[F.len];rfl
   have hz:=N g [Value.ref a] D.kIn hl;refine wpAny_call (codeAny_mono (F.run X.A X.stack g H1 a C c o _ (Ow G W) Q ⟨[.ref a],[]⟩ B j D.env0 hz g1 m n g2 (λz=>?_) e2 λv H2 sm r2=>?_) λr s' J=>?_)
   ·rcases cb.mp (D.stkSub a z) with z | z
    ·exact g3 z
    ·exact g4 z
   ·refine k W v H2 (Step.same sm) (ok.same sm) (r2.mono (λ_ _ h=>h) λa us o h=>⟨?_,h⟩)
    rcases o with o | o
    ·exact o
    ·exact⟨ok.good a (ok.stay.free o),λz=>by obtain⟨_,us,q⟩:=ok.wl a z;rw[o] at q;cases q⟩
   ·cases r with
    | error e=>exact False.elim J
    | ok fl =>
      cases fl with
      | ret u=>exact D.after J
      | next=>exact False.elim J
      | brk=>exact False.elim J
      | cont=>exact False.elim J⟩
variable{M:Model}
def zu2(I:Inv X pins σ H s)(r:X.N.Nodup)(hi:X.N[i]?=some x)(t:X.env.kindOf x=some .local)(h:∀s',Inv X pins (σ.set i none) H s'->Q () s'):wpAny M A (do bindName X.env x .none;unbindBehindTheSuite X.env x pos) Q E s:=by
 obtain⟨m,u,w⟩:=id I.loc;have R:(X.env.scope.kind==.class || (X.env.scope.kind==.module && X.env.locals != X.env.globals))=false:=by rw[I.ok.kind];rfl
 have U:i<σ.length:=by rw[I.len];exact(aj.mp hi).1
 refine wpAny_nameGoes_keeps t u R λh' v Z D=>?_;refine h _ ⟨I.ok,I.os,I.bare,⟨λb o e n a V=>?_,λb o e n a V=>?_,I.base.free,λb o e V=>?_,I.base.tups,I.base.frzs,I.base.tbls⟩,⟨_,Z,λj y B J Y C=>?_⟩,λy c e=>?_,I.free,I.freeC,λp F=>?_,λb G e=>?_,by simpa using I.len⟩
 ·exact(D.2 b (b9 (bc (bg e) I.ok.above))).trans (I.base.keep b o e n a V)
 ·obtain⟨sl,J⟩:=I.base.slot b o e n a V
  exact⟨sl,(D.2 b (b9 (bc (bg e) I.ok.above))).trans J⟩
 ·obtain⟨o',J⟩:=I.base.there b o e V
  exact⟨o',(D.2 b (b9 (bc (bg e) I.ok.above))).trans J⟩
 ·by_cases f:j=i
  ·subst f
   rw[d6 U] at Y;cases Y
  ·rw[dc (Ne.symm f)] at Y
   obtain⟨K,L,q⟩:=w j y B J Y C;refine⟨K,L,?_⟩;rcases q with⟨k,e⟩ | ⟨k,c,e,z⟩
   ·refine .inl ⟨k,?_⟩
    have:y≠x:=λe=>f (zmw r J (e ▸ hi));simp[this,e]
   ·exact .inr ⟨k,c,e,z.sameBut D (I.cne y c e)⟩
 ·obtain⟨g,z⟩:=I.cell y c e
  exact⟨g,z.sameBut D (I.cne y c e)⟩
 ·obtain⟨e,n,l,O,d⟩:=I.pin p F
  exact⟨(D.2 p.1 l).trans e,n,l,O,d⟩
 ·refine(I.hok b G e).stay (λc g hc q=>(D.2 c ?_).trans q) (λ_ q=>q) λ_ _ q=>q
  rintro rfl;rcases hc with hc | hc
  ·rw[<-hc,I.free] at e;cases e
  ·rw[I.free] at hc;cases hc
def ObjOk.here{a:Addr}{o:HO}(x:ObjOk P w H h a o):∃u,h.get? a=some u:=by
 induction o with
 | lst xs=>obtain⟨_,_,_,_,e⟩:=x;exact⟨_,e⟩
 | tup xs=>obtain⟨_,_,_,o,e,_⟩:=x;exact⟨_,e⟩
 | dK kvs=>obtain⟨_,_,_,_,o,_,_,e,_⟩:=x;exact⟨_,e⟩
 | dT kvs=>obtain⟨_,_,_,_,o,_,_,e,_⟩:=x;exact⟨_,e⟩
 | set S n=>obtain⟨o,_,_,_,e,_⟩:=x;exact⟨_,e⟩
 | ins C dx fs=>exact⟨_,x.2.2.2.1⟩
 | own _=>exact x
 | xd fs=>obtain⟨_,⟨_,_,_,e,_⟩,_⟩:=x;exact⟨_,e⟩
 | met f y=>exact⟨_,x⟩
 | rng lo hi=>obtain⟨_,_,_,e⟩:=x;exact⟨_,e⟩
 | frz o u _=>exact⟨_,x.1⟩
 | tbl ps=>exact⟨_,x⟩
 | ext φ=>exact x.2.1
variable{W:Addr->Prop}{env:DE0}
def Ok.unset(ok:Ok K G H0 W env σ H)(i:Nat):Ok K G H0 W (env.set i none) (σ.set i none) H:=by
 have gt:∀ {α:Type} {l:List (Option α)} {j:Nat} {a:α},(l.set i none)[j]?=some (some a)->i≠j/\l[j]?=some (some a):=λ{α l j a} e=>by
  by_cases h:i=j
  ·subst h
   rw[ie] at e;simp at e
  ·rw[dc h] at e
   exact⟨h,e⟩
 refine⟨ok.stay,ok.good,ok.wl,λj s e=>?_,λj I s s' v J a D R U V=>ok.uniq j I s s' v J a (gt D).2 (gt R).2 (gt U).2 (gt V).2,by rw[dq,dq];exact ok.len⟩;obtain⟨h,e⟩:=gt e;obtain⟨v,D,h1⟩:=ok.slot j s e;exact⟨v,by rw[dc h];exact D,h1⟩
abbrev Cx.tr(X:Cx)(E:Value->Shared->Prop)(pp:k4):Cx:={ X with xe:=E,pn:=pp++X.pn }
def Inv.tr(I:Inv X pins σ H s):Inv (X.tr E pins) [] σ H s :=
 ⟨⟨I.ok.mod,I.ok.kind,I.ok.glob,I.ok.blt,I.ok.above,I.ok.inj,I.ok.has,I.ok.cab,I.ok.hd,I.ok.frames,I.ok.stk,I.ok.exf,I.ok.bs,I.ok.bsz,I.ok.noex,I.ok.exfs,I.ok.funs,I.ok.frf⟩,I.os,I.bare,I.base,I.loc,I.cell,I.free,I.freeC,λq D=>I.pin q (by
  rw[de] at D;exact db.mpr (db.mp D).symm),I.hok,I.len⟩
variable{pp:k4}
def Inv.untr(ok:X.Ok)(I:Inv (X.tr E pins) pp σ H s):Inv X pins σ H s :=
 ⟨ok,I.os,I.bare,I.base,I.loc,I.cell,I.free,I.freeC,λq D=>I.pin q (d5 _ (db.mpr (db.mp D).symm)),I.hok,I.len⟩
variable{cs:g7}
def Ats.tr(h:Ats N cs X):Ats N cs (X.tr E pp):=⟨h.n,λi x e=>let z:=h.get i x e;⟨z.n,z.v,z.d,z.c⟩,h.ck⟩
def Tos.tr(h:Tos N X):Tos N (X.tr E pp):=⟨λi x e=>let z:=h.to i x e;⟨z.nd,z.n,z.l,z.f⟩⟩
def Ats.hush(h:Ats N cs X):Ats N cs (X.hush A pp):=⟨h.n,λi x e=>let z:=h.get i x e;⟨z.n,z.v,z.d,z.c⟩,h.ck⟩
def Tos.hush(h:Tos N X):Tos N (X.hush A pp):=⟨λi x e=>let z:=h.to i x e;⟨z.nd,z.n,z.l,z.f⟩⟩
def sTry(u:FS)(i j:Nat)(kd:Str->k9):FS:=λe=>(u e).bind λr=>match r.1 with | .xc c=>(kd c).map λd=>(.nx,((r.2.set i none).set j (some (.sh d))).set i none) | _=>some r
def set3{α:Type}(l:List (Option α))(i j:Nat)(a b:Option α):((l.set i a).set j b).set i none=((l.set i none).set j b).set i none:=by
 by_cases h:i=j
 ·subst h;simp[List.set_set]
 ·rw[List.set_comm _ _ h,List.set_set,List.set_comm _ _ h,List.set_set]
variable{e:Addr}{H':Hp}{s':Shared}
def Fly.obj(R:X.stack=X.env::X.outer)(U:X.env.frame=some X.env.locals)(f:Fly X.prog X.w X.stack H s C e H' s'):∃o,s'.heap.get? e=some o/\Exo o C/\H' e=none/\e≠X.env.locals/\e∉X.fs/\∀v,o.data≠.cell v:=by
 obtain⟨B,x,b,V,un,os,c⟩:=f;obtain⟨Y,vs,T,d,ts,J,Z,gd,I,g,a,_⟩:=x.tr;have D:e∉frs X.stack:=λz=>by
  obtain⟨_,h,y,n⟩:=x.fr.mem z;rw[J] at y;cases y;exact n vs I
 rw[R] at D;have D:e∉X.env.locals::X.fs:=by unfold frs at D;rw[ju,U] at D;exact D
 refine⟨Y,J,⟨⟨vs,Z,I,a⟩,gd⟩,?_,λz=>D (z ▸ bq),λz=>D (ay _ z),λv z=>by rw[I] at z;cases z⟩;cases q:H' e with
 | none=>rfl
 | some o =>
   obtain⟨u,z⟩:=(V e o q).here;rw[x.new] at z;cases z
def Fly.flight(I:Inv X pins σ H s)(f:Fly X.prog X.w X.stack H s C e H' s')(h:∀h2,Fly X.prog X.w X.stack H s C e H' { s' with heap:=h2 }->Q () { s' with heap:=h2 }):wpAny M A (setFlight (.ref e) none) Q E s':=by
 obtain⟨B,x,U,Y,un,os,Z⟩:=f;refine zps x λh2 V a c=>h h2 ⟨B,V,U,Y,⟨λb o q n D _=>V.stay b o (U b o q n D),λb o q n D J=>?_,un.free,λb o q J=>?_,un.tups,un.frzs,un.tbls⟩,os,Z⟩
 ·obtain⟨sl,z⟩:=un.slot b o q n D J
  obtain⟨_,i,y,d⟩:=I.stack.mem D;rw[q] at y;cases y;obtain⟨R,g⟩:=a b _ z d;exact⟨R,g⟩
 ·obtain⟨o',z⟩:=un.there b o q J
  exact c b o' z
def z1i{body:List Stmt}{u:FS}{j jr:Nat}{R y z:Str}{RA:Addr}{T m P p6 p7:Pos}(hR:X.mg R=some (.ref RA))(B:∀c C,(kd c).isSome=true->Cl X.K c C->PySem.W.exmOne X.K (.ref C) (.ref RA)=some true)(kc:KCl X.prog X.w X.K X.mg X.base x k kd)(rm:Room jr X.A)(an:Ats Nn Cn X)(V:Tos Nn X)(hb:∀E pp,Ats Nn Cn (X.tr E pp)->Tos Nn (X.tr E pp)->DBx (X.tr E pp) G H0 body u)(F:k<=jr:=by decide)(aa:Gl X R:=by walk_at "g")(ab:Gl X x:=by walk_at "g")(hi:Nn[i]?=some y:=by rfl)(hj:Nn[j]?=some z:=by rfl)(hl:X.env.kindOf y=some .local:=by kernel_rfl)(hX:X.stack=X.env::X.outer:=by rfl)(hf:X.env.frame=some X.env.locals:=by rfl)(ae:(R==("__debug__" : Str))=false:=by decide)(he:starEach [.Name y m] X.env=(false,eval (.Name y m) X.env)::starEach [] X.env:=by rfl)(ag:(backTo P (starEach [] X.env)).any (·.1)=false:=by rfl)(al:swapsWith (.Call (.Name x T) [.Name y m] [] P) (some (.Name z p2)) p6.line X.env=pure false:=by rfl) :
  DSx X G H0 (.Try body [.ExceptHandler (some (.Name R p1)) (some y) [.Assign [.Name z p2] (.Call (.Name x T) [.Name y m] [] P) p6] p7] [] [] pos) (sTry u i j kd):=⟨λpins s σ H Dn I zq=>by
 obtain⟨W,env,fl,env',ok,q,k⟩:=zq;unfold sTry at q;cases e1:u env with
 | none=>rw[e1] at q;cases q
 | some r =>
   obtain⟨L,U⟩:=r;rw[e1,ac] at q;refine wpAny_Try_except ?_;refine wpAny_mono ((hb _ pins an.tr V.tr).out [] s σ H Dn I.tr ⟨W,env,L,U,ok,e1,?_⟩) (λf s1 h1=>?_) (λe s1 h1=>h1)
   ·cases L with
    | xc c=>?_
    | nx=>cases q;exact k
    | bk=>cases q;exact k
    | ct=>cases q;exact k
    | rt d=>cases q;exact k
    | rf d=>cases q;exact k
    | r2 d=>cases q;exact k
    | ra d d'=>cases q;exact k
    cases e2:kd c with
    | none=>simp only[e2,lr] at q;cases q
    | some d =>
      simp only[e2,ak] at q;cases q;intro W' D H' C hc st N ap e s' xs;refine xs.come hX hf λh2 s1 H1 I1 f=>?_;have J:Inv X pins D H' { s' with heap:=h2 }:=(f.inv I1).untr I.ok;obtain⟨o,Q,g2,_⟩:=Fly.obj (X:=X) hX hf f;refine wpAny_handleBy_cons (codeAny_handlers_test ?_) (λz=>nomatch z);refine vq (J.hush (A:=X.A.mark (some (.ref e))) (p:=[]) rfl (by simp)) aa hR ?_ ae;refine(exm_one (M:=model X.prog X.w) J.kIn (g2.inst Q).type (B c C (by rw[e2];rfl) hc)).here ?_;refine codeAny_handlers_suite_as ?_;refine f.flight I1 λh3 f3=>?_;have J3:Inv X pins D H' { s' with heap:=h3 }:=(f3.inv I1).untr I.ok;obtain⟨O,Q,g2,g3,g4,g5,g6⟩:=Fly.obj (X:=X) hX hf f3;have ar:i<U.length:=by
       rw[N.len,J3.len];exact(aj.mp (V.t hi).n).1
      refine zk8 (X:=X.hush (X.A.mark (some (.ref e))) []) (J3.hush rfl (by simp)) (V.t hi).nd (V.t hi).n (V.t hi).l (v:=.ref e) rfl (λs4 I4 zq=>?_) (V.t hi).f;obtain⟨a,sb,ha⟩:=zq;have ge:s4.heap.get? e=some O:=(sb.2 e λz=>by
       rcases ha with ha | ha
       ·exact g4 (z.trans ha)
       ·obtain⟨v,oc,h1,h2⟩:=J3.cell _ _ ha
        rw[<-z] at h1;cases Q.symm.trans h1;exact g6 v h2).trans Q
      have I5:Inv ((X.hush (X.A.mark (some (.ref e))) [(e,O)]).nox) pins (D.set i (some (.ref e))) H' s4:=((I4.unhush I.ok).hush (A:=X.A.mark (some (.ref e))) (p:=[(e,O)]) rfl (λq hq=>by cases cr.mp hq;exact⟨ge,g3,g4,g5,g6⟩)).wish _;have hs:=(dw (fu (X:=(X.hush (X.A.mark (some (.ref e))) [(e,O)]).nox) (G:=G) (H0:=H0) (pos:=p6) (p':=p2) V.hush.nox (z1h (C:=C) (c:=c) (o:=O) (p:=T) (p1:=m) (pos:=P) rfl (d5 _ bq) g2 hc kc ⟨rfl,(rm.mono F).dp,(rm.mono F).un⟩ an.hush.nox ab hi he ag) hj al)).out pins s4 _ H' { nx:=λY S=>∃g,Step W' H' g S/\Ok X.K G H0 g ((U.set i (some (.sh (.exc e)))).set j (some (.sh d))) Y S,rt:=λ_ _=>False } I5 ⟨W',U.set i (some (.sh (.exc e))),.nx,_,N.set (.exc e),by
       unfold sSet fKd;rw[d6 ar];dsimp only;rw[if_pos rfl,e2];rfl,λg Y S Z b=>⟨g,Z,b⟩⟩
      refine wpAny_mono hs (λf5 s5 h=>?_) (λx s5 h=>False.elim h);cases f5 with
      | next =>
        obtain⟨Y,S,J5,g,Z,b⟩:=h;refine zu2 (J5.unwish.unhush I.ok) (V.t hi).nd (V.t hi).n hl λs6 J7=>⟨_,_,J7,k g _ _ (st.trans Z) ?_⟩;rw[<-set3];exact b.unset i
      | brk=>obtain⟨_,_,_,z⟩:=h;exact z.elim
      | cont=>obtain⟨_,_,_,z⟩:=h;exact z.elim
      | ret u=>obtain⟨_,_,_,_,_,z⟩:=h;exact z.elim
   ·cases f with
    | next =>
      obtain⟨D,H',J,q⟩:=h1;exact wpAny_execs_nil ⟨D,H',J.untr I.ok,q⟩
    | brk=>obtain⟨D,H',J,q⟩:=h1;exact⟨D,H',J.untr I.ok,q⟩
    | cont=>obtain⟨D,H',J,q⟩:=h1;exact⟨D,H',J.untr I.ok,q⟩
    | ret u=>obtain⟨v,D,H',J,r,q⟩:=h1;exact⟨v,D,H',J.untr I.ok,r,q⟩⟩
def lg:g7:=["UnknownStack", "EmptyStack", "UnknownPlace", "BadHours", "BadLoss", "BadCount", "HouseFull", "DeedsFull", "NothingWaits", "NothingDone", "ShortOrder", "TooManyOrders", "NotGone"]
def o9:g7:=["unknown stack", "empty stack", "unknown place", "bad hours", "bad loss", "bad count", "house full", "deeds full", "nothing waits", "nothing done", "short order", "too many orders", "not gone"]
def xi(c:Str):ka:=(lg.zip o9).lookup c
def kdT(c:Str):k9:=(xi c).map λw=>.tup [.str "refused",.str w]
def z1j(K:kf)(C:Addr):Bool:=findIn K (.ref C) "__getattribute__"==some (some (.builtin "BaseException.__getattribute__")) && findIn K (.ref C) "__getattr__"==some none && (match findObj K C none "__class__" with | some (.bind (.builtin g) (.builtin a))=>g=="getset_descriptor.__get__" && a=="object.__class__" | _=>false) && mroIn K C (.type "object")==some true && mroIn K C (.type "BaseException")==some true
def refB(K:kf)(n:Str)(p:Addr->Bool):Bool:=match nsIn K mainGlobals n with | some (some (.ref R))=>p R | _=>false
def z44(K:kf):Bool:=lg.all λc=>refB K c λC=>z1j K C && kitOne K (.ref C) (.type "ValueError")==some true && refB K "RotError" (λR=>exmOne K (.ref C) (.ref R)==some true) && lg.all λn=>refB K n λR=>kitOne K (.ref C) (.ref R)==some (c==n)
def znu{n:Str}{p:Addr->Bool}(h:refB K n p=true):∃R,nsIn K mainGlobals n=some (some (.ref R))/\p R=true:=by
 unfold refB at h;split at h
 ·exact⟨_,by assumption,h⟩
 ·cases h
def zx3(h:z1j K C=true):ECls K C:=by
 unfold z1j at h;simp only[eg,beq_iff_eq] at h;obtain⟨⟨⟨⟨h1,h2⟩,D⟩,I⟩,J⟩:=h;refine⟨h1,h2,?_,I,J⟩;split at D
 ·rename_i g a e
  rw[eg,beq_iff_eq,beq_iff_eq] at D;rw[e,D.1,D.2]
 ·cases D
def zmn(h:(kdT c).isSome=true):c∈lg:=by
 unfold kdT at h;rw[Option.isSome_map] at h;obtain⟨w,e⟩:=kl.mp h;exact(js (eh e)).1
structure KFacts (K:kf) (mg:Str->g9):Prop where
 b:z44 K=true
 m:∀n∈("RotError" : Str)::lg,∀R,nsIn K mainGlobals n=some (some (.ref R))->mg n=some (.ref R)
def kf_mk(X:K.In h)(G:h.Ns mainGlobals mg)(b:z44 K=true):KFacts K mg:=⟨b,λ_ _ _ e=>mg_of X G e⟩
def KFacts.all(k:KFacts K mg)(U:(kdT c).isSome=true)(cl:Cl K c C):ECls K C/\kitOne K (.ref C) (.type "ValueError")=some true/\(∃R,mg "RotError" = some (.ref R)/\exmOne K (.ref C) (.ref R)=some true)/\∀n∈lg,∃R,mg n=some (.ref R)/\kitOne K (.ref C) (.ref R)=some (c==n):=by
 have h:=gk.mp k.b c (zmn U);obtain⟨Z,e,h⟩:=znu h;cases e.symm.trans cl;simp only[eg,beq_iff_eq] at h;obtain⟨⟨⟨h1,h2⟩,D⟩,I⟩:=h;obtain⟨R,V,D⟩:=znu D;refine⟨zx3 h1,h2,⟨R,k.m _ bq R V,beq_iff_eq.mp D⟩,λn J=>?_⟩;obtain⟨R,Y,I⟩:=znu (gk.mp I n J);exact⟨R,k.m _ (ay _ J) R Y,beq_iff_eq.mp I⟩
def KFacts.rot(k:KFacts K mg):∃R,mg "RotError" = some (.ref R)/\∀c C,(kdT c).isSome=true->Cl K c C->exmOne K (.ref C) (.ref R)=some true:=by
 have h:=gk.mp k.b "UnknownStack" (by decide);obtain⟨U,e,_⟩:=znu h;obtain⟨_,_,⟨R,D,_⟩,_⟩:=k.all (c:="UnknownStack") (by decide) e;refine⟨R,D,λc C I cl=>?_⟩;obtain⟨_,_,⟨V,J,z⟩,_⟩:=k.all I cl;cases D.symm.trans J;exact z
def oy(V:KFacts X.K X.mg)(Y:(kdT c).isSome=true)(cl:Cl X.K c C)(Z:Hd ea C X)(an:Ats Nn Cn X)(a:cn∈lg:=by decide)(b:Gl X cn:=by walk_at "g")(D:(cn==("__debug__" : Str))=false:=by decide)(d:Bn X "isinstance":=by walk_at "b")(I:Nn[i]?=some x:=by rfl)(e:starEach [.Name x p1,.Name cn p2] X.env=(false,eval (.Name x p1) X.env)::starEach [.Name cn p2] X.env:=by rfl)(J:starEach [.Name cn p2] X.env=(false,eval (.Name cn p2) X.env)::starEach [] X.env:=by rfl)(U:(backTo pos (starEach [.Name cn p2] X.env)).any (·.1)=false:=by rfl) :
  DEx X G H0 (.Call (.Name "isinstance" p') [.Name x p1,.Name cn p2] [] pos) (fIsx ea i (c==cn)):=by
 obtain⟨f,_,_,h⟩:=V.all Y cl;obtain⟨R,g,j⟩:=h cn a;exact z42 Z f g j an b D d I e J U
def z45(R:KFacts X.K X.mg)(U:(kdT c).isSome=true)(cl:Cl X.K c C)(V:Hd ea C X)(an:Ats Nn Cn X)(Y:Bn X "ValueError":=by walk_at "b")(Z:Bn X "isinstance":=by walk_at "b")(D:Nn[i]?=some x:=by rfl)(a:starEach [.Name x p1,.Name "ValueError" p2] X.env=(false,eval (.Name x p1) X.env)::starEach [.Name "ValueError" p2] X.env:=by rfl)(I:starEach [.Name "ValueError" p2] X.env=(false,eval (.Name "ValueError" p2) X.env)::starEach [] X.env:=by rfl)(J:(backTo pos (starEach [.Name "ValueError" p2] X.env)).any (·.1)=false:=by rfl) :
  DEx X G H0 (.Call (.Name "isinstance" p') [.Name x p1,.Name "ValueError" p2] [] pos) (fIsx ea i true):=z1f V (R.all U cl).1 (R.all U cl).2.1 an Y Z D a I J
theorem z61(T:Def K mg st x ps)(N:g7)(D:∀c d,kd c=some d->runK N.length g c d)(I:∀ {f:Addr} {cdv:Value} {A:Around} {outer:ic} {s:Shared} {H:Hp} {ea C:Addr} {c:Str} {G:Gd} {H0:Hp},(kd c).isSome=true->Cl K c C->Hd ea C (cxH P w K mg base N x (fx st) f cdv A outer s H)->Ats N (celN N (fx st)) (cxH P w K mg base N x (fx st) f cdv A outer s H)->Tos N (cxH P w K mg base N x (fx st) f cdv A outer s H) ->
   DBx (cxH P w K mg base N x (fx st) f cdv A outer s H) G H0 (li st) (g ea c))(h:scB N ps (fx st)=true:=by decide +kernel)(J:okN x=true:=by decide +kernel)(R:ps.length=1:=by rfl):KCl P w K mg base x (k+1) kd:=by
 obtain⟨f,fd,F,b,m⟩:=T;exact⟨f,fd,ps,fn_K F (nv h).1 rfl R D λcdv A outer s H ea C c G H0 U V Y=>I U V Y (p9 h).nox.hush (p8 h).nox.hush,m,F.kp,b,(qp J).1⟩
def z1k(ea:Addr)(c:Str):FS:=sSeq (sSet 1 (fLst (fz (au (fIsx ea 0 (c=="UnknownStack")) (au (fIsx ea 0 (c=="EmptyStack")) fNil))))) (sSeq (sSet 1 (fLst (fCat (fVar 1) (fLst (fz (au (fIsx ea 0 (c=="UnknownPlace")) (au (fIsx ea 0 (c=="BadHours")) fNil))))))) (sSeq (sSet 1 (fLst (fCat (fVar 1) (fLst (fz (au (fIsx ea 0 (c=="BadLoss")) (au (fIsx ea 0 (c=="BadCount")) fNil))))))) (sSeq (sSet 1 (fLst (fCat (fVar 1) (fLst (fz (au (fIsx ea 0 (c=="HouseFull")) (au (fIsx ea 0 (c=="DeedsFull")) fNil))))))) (sSeq (sSet 1 (fLst (fCat (fVar 1) (fLst (fz (au (fIsx ea 0 (c=="NothingWaits")) (au (fIsx ea 0 (c=="NothingDone")) fNil))))))) (sSeq (sSet 1 (fLst (fCat (fVar 1) (fLst (fz (au (fIsx ea 0 (c=="ShortOrder")) (au (fIsx ea 0 (c=="TooManyOrders")) fNil))))))) (sSeq (sSet 1 (fLst (fCat (fVar 1) (fLst (fz (au (fIsx ea 0 (c=="NotGone")) fNil)))))) (sSeq (sSet 2 (fLst (fz (au (fC (.str "unknown stack")) (au (fC (.str "empty stack")) (au (fC (.str "unknown place")) (au (fC (.str "bad hours")) (au (fC (.str "bad loss")) (au (fC (.str "bad count")) fNil))))))))) (sSeq (sSet 2 (fLst (fCat (fVar 2) (fLst (fz (au (fC (.str "house full")) (au (fC (.str "deeds full")) (au (fC (.str "nothing waits")) (au (fC (.str "nothing done")) (au (fC (.str "short order")) fNil)))))))))) (sSeq (sSet 2 (fLst (fCat (fVar 2) (fLst (fz (au (fC (.str "too many orders")) (au (fC (.str "not gone")) fNil))))))) (sSeq (sSet 3 (fLst (ip (i5 iR1 (au (fC (.int 13)) fNil)) [2,1,0] (fAnd (fTst (fIxV 2 (fVar 0))) (fTst (fIsx ea 3 true))) (fIxV 1 (fVar 0))))) (sRet (d7 bTup (au (fLst (fCat (fLst (fz (au (fC (.str "refused")) fNil))) (fVar 3))) fNil)))))))))))))
end L2
namespace LB
open PySem L2
def zlj:FS:=sRet (fBin dSub (fBin dMul (fIxV 0 (fC (.int 1))) (fIxV 1 (fC (.int 0)))) (fBin dMul (fIxV 1 (fC (.int 1))) (fIxV 0 (fC (.int 0)))))
def zhg:k8->k9:=runD 2 2 zlj
def zgj:FS:=sSeq (sSet 2 (d7 zhg (au (fVar 0) (au (fVar 1) (fNil))))) (sSeq (sIf (fTst (fBin dGt (fVar 2) (fC (.int 0)))) (sRet (fC (.int 1))) (sNil)) (sSeq (sIf (fTst (fBin dLt (fVar 2) (fC (.int 0)))) (sRet (fUn dNeg (fC (.int 1)))) (sNil)) (sRet (fC (.int 0)))))
def t4:k8->k9:=runD 3 2 zgj
def zko:FS:=sRet (wy (fIsi "int" (fVar 0)) (z0q (fIsi "bool" (fVar 0))))
def qf:k8->k9:=runD 1 1 zko
def zlk:FS:=sSeq (sIf (fTst (fBin dLt (fVar 1) (ii 0))) (sRet (fIxV 0 (fVar 1))) (sNil)) (sRet (fC (.int 0)))
def zr:k8->k9:=runD 2 2 zlk
def ze1:FS:=sSeq (sSet 5 (d7 zr (au (fVar 0) (au (fVar 4) (fNil))))) (sSeq (sIf (fTst (fBin dEq (fBin dMod (ii 0) (fC (.int 2))) (fC (.int 1)))) (sSeq (sSet 3 (fBin dMod (fBin ja (fBin ja (fBin ja (fBin dMul (fVar 3) (fC (.int 48271))) (fVar 5)) (fVar 4)) (fC (.int 1))) (fC (.int 2147483647)))) (sSet 5 (fBin dMod (fBin dMul (fBin ja (fVar 3) (fVar 4)) (fC (.int 69621))) (fC (.int 2147483647))))) (sNil)) (jg (qv 2 (fVar 5))))
def zkp:FS:=sSeq (sOwn 2 (fz (fNil))) (sSeq (sSet 3 (fC (.int 7))) (sSeq (sFor 4 (i5 iR1 (au (fVar 1) (fNil))) (ze1)) (sRet (fVar 2))))
def z8:k8->k9:=runD 6 2 zkp
def zo9:FS:=sRet (fIxV 0 (fC (.int 1)))
def wm:k8->k9:=runD 1 1 zo9
def zp6:FS:=sRet (fIxV 0 (fC (.int 2)))
def ye:k8->k9:=runD 1 1 zp6
def zlz:FS:=sRet (fTup (au (fC (.int 1)) (au (d7 wm (au (fVar 0) (fNil))) (au (d7 ye (au (fVar 0) (fNil))) (fNil)))))
def ze2:k8->k9:=runD 1 1 zlz
def zja:FS:=sRet (fTup (au (fBin ja (fIxV 0 (fC (.int 0))) (fIxV 1 (fC (.int 0)))) (au (fBin ja (fIxV 0 (fC (.int 1))) (fIxV 1 (fC (.int 1)))) (au (fBin ja (fIxV 0 (fC (.int 2))) (fIxV 1 (fC (.int 2)))) (fNil)))))
def ze3:k8->k9:=runD 2 2 zja
def zjw:FS:=sRet (fTup (au (fIxV 0 (fC (.int 1))) (au (fIxV 0 (fC (.int 2))) (fNil))))
def zd7:k8->k9:=runD 1 1 zjw
def zcn:FS:=sRet (fBin dGt (d7 t4 (au (d7 zd7 (au (fVar 0) (fNil))) (au (d7 zd7 (au (fVar 1) (fNil))) (fNil)))) (fC (.int 0)))
def t5:k8->k9:=runD 2 2 zcn
def zdt:FS:=sSet 3 (d7 ze3 (au (fPop 1) (au (fVar 3) (fNil))))
def zdu:FS:=sSeq (sSet 3 (d7 ze2 (au (fVar 2) (fNil)))) (sSeq (mn (fAnd (fTst (fBin dGt (ii 1) (fC (.int 0)))) (fNot (fTst (d7 t5 (au (fIxV 1 (fUn dNeg (fC (.int 1)))) (au (fVar 3) (fNil))))))) (zdt) 10000) (jg (qv 1 (fVar 3))))
def zgv:FS:=sSeq (sOwn 1 (fz (fNil))) (sSeq (sFor 2 (fiS (fVar 0)) (zdu)) (sRet (fVar 1)))
def zgw:k8->k9:=runD 4 1 zgv
def wn:FS:=sSeq (sIf (fAnd (fTst (fIsi "str" (fIxV 1 (fVar 2)))) (fNot (fTst (fIsi "str" (fIxV 0 (fVar 2)))))) (sRet (fC (.bl false))) (sNil)) (sSeq (sIf (fAnd (fNot (fTst (fIsi "str" (fIxV 1 (fVar 2))))) (fNot (fTst (d7 qf (au (fIxV 0 (fVar 2)) (fNil)))))) (sRet (fC (.bl false))) (sNil)) (sIf (fTst (fBin dNe (fIxV 0 (fVar 2)) (fIxV 1 (fVar 2)))) (sRet (fC (.bl false))) (sNil)))
def zc5:FS:=sSeq (sIf (fOr (fNot (fTst (fIsi "tuple" (fVar 0)))) (fTst (fBin dNe (ii 0) (ii 1)))) (sRet (fC (.bl false))) (sNil)) (sSeq (sFor 2 (i5 iR1 (au (ii 1) (fNil))) (wn)) (sRet (fC (.bl true))))
def qh:k8->k9:=runD 3 2 zc5
def zd8:FS:=sIf (fNot (fTst (d7 qh (au (fIxV 0 (fVar 2)) (au (fIxV 1 (fVar 2)) (fNil)))))) (sRet (fC (.bl false))) (sNil)
def zfn:FS:=sSeq (sIf (fOr (fNot (fTst (fIsi "list" (fVar 0)))) (fTst (fBin dNe (ii 0) (ii 1)))) (sRet (fC (.bl false))) (sNil)) (sSeq (sFor 2 (i5 iR1 (au (ii 1) (fNil))) (zd8)) (sRet (fC (.bl true))))
def zdv:k8->k9:=runD 3 2 zfn
def zkq:FS:=sRet (fTup (au (fIxV 0 (fC (.int 2))) (au (fIxV 0 (fC (.int 3))) (fNil))))
def wj:k8->k9:=runD 1 1 zkq
def zcf:FS:=sSet 2 (fBin ja (fVar 2) (fC (.int 1)))
def zf6:FS:=sSeq (sSet 2 (fC (.int 0))) (sSeq (mn (fAnd (fTst (fBin dLt (fVar 2) (ii 0))) (fTst (fBin dGe (d7 t4 (au (d7 wj (au (fIxV 0 (fVar 2)) (fNil))) (au (d7 wj (au (fVar 1) (fNil))) (fNil)))) (fC (.int 0))))) (zcf) 10000) (sRet (fVar 2)))
def zf7:k8->k9:=runD 3 2 zf6
def zc7:FS:=sSeq (sSet 7 (fTup (au (fVar 2) (au (fVar 4) (au (fVar 5) (au (fVar 6) (fNil))))))) (jg (znf 1 (zb zf7 (zxl 1 (au (fVar 7) (fNil)))) (fVar 7)))
def zd9:FS:=qk [4,5,6] (fiS (d7 zgw (au (fVar 3) (fNil)))) (zc7)
def zhh:FS:=sSeq (sOwn 1 (fz (fNil))) (sSeq (qk [2,3] (i5 (iEn 1) (au (fVar 0) (fNil))) (zd9)) (sRet (fVar 1)))
def zea:k8->k9:=runD 8 1 zhh
def zdk:FS:=sIf (fNot (fTst (d7 zdv (au (fIxV 0 (fVar 2)) (au (fIxV 1 (fVar 2)) (fNil)))))) (sRet (fC (.bl false))) (sNil)
def zeb:FS:=sSeq (sIf (fOr (fNot (fTst (fIsi "list" (fVar 0)))) (fTst (fBin dNe (ii 0) (ii 1)))) (sRet (fC (.bl false))) (sNil)) (sSeq (sFor 2 (i5 iR1 (au (ii 1) (fNil))) (zdk)) (sRet (fC (.bl true))))
def zb3:k8->k9:=runD 3 2 zeb
def zjf:FS:=z0v (ip (fiS (fVar 0)) [] fYes (fLst (i5 nz (au (fVar 0) (fNil)))))
def zll:k8->Option k8:=runF 1 1 zjf
def ze4:FS:=jg (zng 1 (fRep (fz (au (fVar 2) (fNil))) (fVar 3)))
def zil:FS:=sSeq (sOwn 1 (fz (fNil))) (sSeq (qk [2,3,4,5] (fiS (d7 zea (au (fVar 0) (fNil)))) (ze4)) (zwx 1))
def wg:k8->Option k8:=runF 6 1 zil
def zec:FS:=sSeq (sSet 2 (fBin ja (fVar 2) (fBin dIx (fIxV 0 (fVar 4)) (fC (.int 1))))) (sSeq (sSet 3 (fBin ja (fVar 3) (fBin dIx (fIxV 0 (fVar 4)) (fC (.int 2))))) (sIf (fTst (fBin dGe (fBin dMul (fVar 3) (fIxV 1 (fC (.int 1)))) (fBin dMul (fIxV 1 (fC (.int 2))) (fVar 2)))) (sSet 1 (fLst (fz (au (fBin ja (fVar 4) (fC (.int 1))) (au (fVar 2) (au (fVar 3) (fNil))))))) (sNil)))
def zhi:FS:=sSeq (sSet 1 (fLst (fz (au (fC (.int 0)) (au (fC (.int 1)) (au (fUn dNeg (fC (.int 1))) (fNil))))))) (sSeq (sSet 2 (fC (.int 0))) (sSeq (sSet 3 (fC (.int 0))) (sSeq (sFor 4 (i5 iR1 (au (ii 0) (fNil))) (zec)) (sRet (fVar 1)))))
def z9:k8->k9:=runD 5 1 zhi
def yq:FS:=sIf (fTst (fBin dGt (fBin dMul (fBin dIx (fIxV 3 (fVar 5)) (fC (.int 2))) (fBin dIx (fIxV 3 (fVar 4)) (fC (.int 1)))) (fBin dMul (fBin dIx (fIxV 3 (fVar 4)) (fC (.int 2))) (fBin dIx (fIxV 3 (fVar 5)) (fC (.int 1)))))) (sSet 4 (fVar 5)) (sNil)
def ze5:FS:=sSeq (sSet 3 (fLst (ip (fiV 1) [] fYes (d7 z9 (au (fVar 0) (fNil)))))) (sSeq (sSet 4 (fC (.int 0))) (sSeq (sFor 5 (i5 iR1 (au (ii 3) (fNil))) (yq)) (sSeq (jg (qv 2 (fTup (au (fBin ja (fVar 4) (fC (.int 1))) (au (fBin dIx (fIxV 3 (fVar 4)) (fC (.int 0))) (au (fBin dIx (fIxV 3 (fVar 4)) (fC (.int 1))) (au (fBin dIx (fIxV 3 (fVar 4)) (fC (.int 2))) (fNil)))))))) (xm 1 (fVar 4) (fLst (fSl (fIxV 1 (fVar 4)) (fO1 (fBin dIx (fIxV 3 (fVar 4)) (fC (.int 0)))) (fO0)))))))
def zim:FS:=sSeq (sOwn 1 (ip (fiS (fVar 0)) [] fYes (fLst (i5 nz (au (fVar 0) (fNil)))))) (sSeq (sOwn 2 (fz (fNil))) (sSeq (mn (fTst (fBin dGt (d7 bSum (au (fLst (ip (fiV 1) [] fYes (ii 0))) (fNil))) (fC (.int 0)))) (ze5) 10000) (sRet (fVar 2))))
def z7:k8->k9:=runD 6 1 zim
def zhj:FS:=sOwn 1 (fCat (fVar 1) (fLst (fRep (fz (au (fIxV 2 (fC (.int 0))) (fNil))) (fIxV 2 (fC (.int 1))))))
def zjg:FS:=sSeq (sOwn 1 (fz (fNil))) (sSeq (sFor 2 (fiS (d7 z7 (au (fVar 0) (fNil)))) (zhj)) (zwx 1))
def zp7:k8->Option k8:=runF 3 1 zjg
def zc9:FS:=sIf (fOr (fNot (fTst (d7 qf (au (fIxV 0 (fVar 2)) (fNil))))) (fTst (fBin dNe (fIxV 0 (fVar 2)) (fIxV 1 (fVar 2))))) (sRet (fC (.bl false))) (sNil)
def zdz:FS:=sSeq (sIf (fOr (fNot (fTst (fIsi "list" (fVar 0)))) (fTst (fBin dNe (ii 0) (ii 1)))) (sRet (fC (.bl false))) (sNil)) (sSeq (sFor 2 (i5 iR1 (au (ii 1) (fNil))) (zc9)) (sRet (fC (.bl true))))
def zby:k8->k9:=runD 3 2 zdz
def znv:FS:=sRet (fIxV 0 (fC (.int 0)))
def zfu:k8->k9:=runD 1 1 znv
def zhk:FS:=sIf (fOr (fTst (fBin dLt (fVar 1) (fC (.int 1)))) (fTst (fBin dGt (fVar 1) (ii 0)))) (zq4) (sNil)
def zhl:k8->k9:=runD 2 2 zhk
def zed:FS:=sSeq (sIf (fTst (fBin dEq (fIxV 2 (fBin dSub (fVar 3) (fC (.int 1)))) (fC (.int 0)))) (zq4) (sNil)) (uh 2 dSub (fBin dSub (fVar 3) (fC (.int 1))) (fC (.int 1)))
def zhm:FS:=sSeq (sOwn 2 (ip (fiS (fVar 0)) [] fYes (ii 0))) (sSeq (sFor 3 (fiS (fVar 1)) (zed)) (sIf (fTst (fBin dGt (zxk 2) (fC (.int 0)))) (zq4) (sNil)))
def zhn:k8->k9:=runD 4 2 zhm
def zee:FS:=jg (d7 zhl (au (fVar 0) (au (fVar 2) (fNil))))
def zho:FS:=sSeq (sFor 2 (fiS (fVar 1)) (zee)) (jg (d7 zhn (au (fVar 0) (au (fVar 1) (fNil)))))
def zhp:k8->k9:=runD 3 2 zho
def zef:FS:=sSeq (jg (qv 3 (fBin dIx (fIxV 0 (fBin dSub (fVar 4) (fC (.int 1)))) (fIxV 2 (fBin dSub (fVar 4) (fC (.int 1))))))) (uh 2 ja (fBin dSub (fVar 4) (fC (.int 1))) (fC (.int 1)))
def zhq:FS:=sSeq (jg (d7 zhp (au (fVar 0) (au (fVar 1) (fNil))))) (sSeq (sOwn 2 (ip (fiS (fVar 0)) [] fYes (fC (.int 0)))) (sSeq (sOwn 3 (fz (fNil))) (sSeq (sFor 4 (fiS (fVar 1)) (zef)) (sRet (fVar 3)))))
def zhr:k8->k9:=runD 5 2 zhq
def zgx:FS:=sSeq (sSet 6 (fBin ja (fVar 3) (d7 wm (au (fVar 5) (fNil))))) (sSeq (jg (qv 2 (fTup (au (d7 zfu (au (fVar 5) (fNil))) (au (fVar 4) (au (fVar 3) (au (fVar 6) (fNil)))))))) (sSet 3 (fVar 6)))
def zin:FS:=sSeq (sOwn 2 (fz (fNil))) (sSeq (sSet 3 (fC (.int 0))) (sSeq (qk [4,5] (i5 iZp (au (fVar 1) (au (d7 zhr (au (fVar 0) (au (fVar 1) (fNil)))) (fNil)))) (zgx)) (sRet (fVar 2))))
def zgk:k8->k9:=runD 7 2 zin
def zgl:FS:=zq8 (ui (fiS (fVar 0)) [] (i5 nz (au (fVar 0) (fNil))))
def zgm:k8->Option (List k8):=wv 1 1 zgl
def zdc:FS:=sSeq (sIf (fOr (fNot (fTst (d7 qf (au (fVar 3) (fNil))))) (fOr (fTst (fBin dLt (fVar 3) (fC (.int 1)))) (fTst (fBin dGt (fVar 3) (ii 1))))) (sRet (fC (.bl false))) (sNil)) (xm 2 (fBin dSub (fVar 3) (fC (.int 1))) (fBin ja (fIxV 2 (fBin dSub (fVar 3) (fC (.int 1)))) (fC (.int 1))))
def zev:FS:=sIf (fTst (fBin dNe (fIxV 2 (fVar 4)) (d7 bLen (au (fIxV 1 (fVar 4)) (fNil))))) (sRet (fC (.bl false))) (sNil)
def zf9:FS:=sSeq (sIf (fNot (fTst (fIsi "list" (fVar 0)))) (sRet (fC (.bl false))) (sNil)) (sSeq (sOwn 2 (ip (fiS (fVar 1)) [] fYes (fC (.int 0)))) (sSeq (sFor 3 (fiS (fVar 0)) (zdc)) (sSeq (sFor 4 (i5 iR1 (au (ii 1) (fNil))) (zev)) (sRet (fC (.bl true))))))
def zeg:k8->k9:=runD 5 2 zf9
def zgy:FS:=sRet (d7 bSum (au (fLst (ip (fiS (fVar 0)) [] fYes (ii 0))) (fNil)))
def ze6:k8->k9:=runD 1 1 zgy
def zeh:FS:=sSet 1 (fBin ja (fVar 1) (d7 bSum (au (fLst (ip (fiS (fVar 2)) [] fYes (d7 ye (au (fVar 0) (fNil))))) (fNil))))
def zhs:FS:=sSeq (sSet 1 (fC (.int 0))) (sSeq (sFor 2 (fiS (fVar 0)) (zeh)) (sRet (fVar 1)))
def zht:k8->k9:=runD 3 1 zhs
def zkg:FS:=sRet (fBin dIx (fIxV 0 (fBin dSub (fVar 1) (fC (.int 1)))) (fC (.int 0)))
def zi4:k8->k9:=runD 2 2 zkg
def zio:FS:=sRet (fLst (fCat (fLst (fCat (fLst (fSl (fVar 0) (fO0) (fO1 (fBin dSub (fVar 1) (fC (.int 1)))))) (fLst (fz (au (fVar 2) (fNil)))))) (fLst (fSl (fVar 0) (fO1 (fVar 1)) (fO0)))))
def yl:k8->k9:=runD 3 3 zio
def zhu:FS:=sRet (d7 yl (au (fVar 0) (au (fVar 1) (au (fLst (fSl (fIxV 0 (fBin dSub (fVar 1) (fC (.int 1)))) (fO1 (fC (.int 1))) (fO0))) (fNil)))))
def zfv:k8->k9:=runD 2 2 zhu
theorem z62(I:ia)(k:Nat):∃c,zr [.lst (I.map D.int),.int k]=some (.int c):=by
 by_cases h:(k:Int)<I.length
 ·obtain⟨x,h1,h2⟩:=z4p (xs:=I.map D.int) (i:=(k:Int)) (by lia) (by simpa using h)
  rw[bu] at h2;cases q:I[(k:Int).toNat]? with
  | none=>rw[q] at h2;cases h2
  | some c =>
    rw[q] at h2;cases h2;simp[zr,runD,zlk,jk,h,h1]
 ·refine⟨0,?_⟩
  simp[zr,runD,zlk,jk,h]
theorem zx4(I:ia)(n:Nat)(f:n<=1000):∃cs:ia,cs.length=n/\z8 [.lst (I.map D.int),.int n]=some (.lst (cs.map D.int)):=by
 have loop:=tu (i:=4) (g:=ze1)
  (λk e=>∃(cs:ia) (st:Int) (U v5:ll),cs.length=k/\e=[some (.sh (.lst (I.map D.int))),some (.sh (.int n)),some (.ow (cs.map D.int)),some (.sh (.int st)),U,v5])
  (rngD 0 n) [some (.sh (.lst (I.map D.int))),some (.sh (.int n)),some (.ow []),some (.sh (.int 7)),none,none] ⟨[],7,none,none,rfl,rfl⟩ ?_
 ·obtain⟨e',h1,cs,st,U,v5,R,rfl⟩:=loop
  refine⟨cs,by rw[R,tx],?_⟩;have Z:=nk n (by lia);simp[z8,runD,zkp,jk,Z,h1]
 ·rintro k d e a ⟨cs,st,U,v5,R,rfl⟩
  obtain⟨rfl,h⟩:=tj a;obtain⟨c,V⟩:=z62 I k;have J:Few (cs.length+1):=few (by lia);by_cases Y:(I.length:Int) % 2=1
  ·refine⟨_,?_,cs++[((st*48271+c+k+1) % 2147483647+k)*69621 % 2147483647],(st*48271+c+k+1) % 2147483647,some (.sh (.int (0+k))),some (.sh (.int (((st*48271+c+k+1) % 2147483647+k)*69621 % 2147483647))),by simp[R],rfl⟩
   have b:ml 48271:=u4 (by decide);have s2:ml 69621:=u4 (by decide);simp[ze1,V,Y,dMod,dMul,b,s2,J]
  ·refine⟨_,?_,cs++[c],st,some (.sh (.int (0+k))),some (.sh (.int c)),by simp[R],rfl⟩
   simp[ze1,V,Y,dMod,J]
def z46(a b c d:Int)(D:ml b)(I:ml d) :
  zhg [.tup [.int a,.int b],.tup [.int c,.int d]]=some (.int (b*c-d*a)):=by
 simp[zhg,runD,zlj,jk,dMul,D,I,atI,ixN]
theorem zrq(a b c d:Int)(R:ml b)(U:ml d) :
  t4 [.tup [.int a,.int b],.tup [.int c,.int d]]=some (.int (if d*a<b*c then 1 else if b*c<d*a then -1 else 0)):=by
 have I:=z46 a b c d R U;by_cases h1:d*a<b*c
 ·have D:0<b*c-d*a:=by lia
  simp[t4,runD,zgj,jk,I,h1,D]
 ·have D:¬0<b*c-d*a:=by lia
  by_cases h2:b*c<d*a
  ·have J:b*c-d*a<0:=by lia
   simp[t4,runD,zgj,jk,I,h1,h2,D,J]
  ·have J:¬b*c-d*a<0:=by lia
   simp[t4,runD,zgj,jk,I,h1,h2,D,J]
def vt(i:Int):qf [.int i]=some (.bl true):=by
 simp[qf,runD,zko,jk]
abbrev Sk:=Int×Int×Int
abbrev l0:=List Sk
abbrev mu:=List (List Sk)
def sD(s:Sk):D:=.tup [.int s.1,.int s.2.1,.int s.2.2]
def i9(s:Sk):Prop:=1<=s.1/\s.1<=60/\1<=s.2.1/\s.2.1<=60/\0<=s.2.2/\s.2.2<=100
def b3:Bnd 1 1073741824 3:=⟨by decide,by decide⟩
variable{n i:Nat}
def qr{i:Int}(D:0<=i)(h1:i<n):ixN n i=some i.toNat:=by unfold ixN;rw[if_pos D,if_pos h1]
noncomputable def hl:FS:=sSeq (sSet 10 (fBin ja (fC (.int 1)) (fBin dMod (fVar 9) (fC (.int 60))))) (sSeq (sSet 11 (fBin dMod (fBin dDiv (fVar 9) (fC (.int 60))) (fC (.int 101)))) (sSeq (sIf (fTst (fBin dEq (fVar 4) (fC (.int 1)))) (sSeq (sSet 10 (fBin ja (fC (.int 1)) (fBin dMod (fVar 9) (fBin dSub (fC (.int 4)) (fBin dMul (fC (.int 2)) (fVar 5)))))) (sSet 11 (fBin dMod (fBin dDiv (fVar 9) (fC (.int 60))) (fBin dSub (fC (.int 4)) (fBin dMul (fC (.int 2)) (fVar 5)))))) (sNil)) (sSeq (sIf (fTst (fBin dEq (fVar 4) (fC (.int 2)))) (sSeq (sSet 10 (fBin dIx (fLst (fz (au (fC (.int 1)) (au (fC (.int 60)) (au (fC (.int 2)) (au (fC (.int 59)) (fNil))))))) (fBin dMod (fVar 9) (fC (.int 4))))) (sSet 11 (fBin dIx (fLst (fz (au (fC (.int 0)) (au (fC (.int 100)) (au (fC (.int 1)) (au (fC (.int 99)) (fNil))))))) (fBin dMod (fBin dDiv (fVar 9) (fC (.int 60))) (fC (.int 4)))))) (sNil)) (sIf (fTst (fBin dEq (fVar 4) (fC (.int 3)))) (sSeq (sSet 10 (fBin dIx (fLst (fz (au (fVar 10) (au (fBin ja (fC (.int 58)) (fBin dMod (fVar 9) (fC (.int 3)))) (fNil))))) (fVar 5))) (sSet 11 (fVar 10))) (sNil)))))
noncomputable def pl:FS:=sSeq (sSet 12 (fBin dMod (fBin dIx (fLst (fz (au (fBin dDiv (fVar 9) (fC (.int 6060))) (au (fVar 8) (fNil))))) (fBin dMul (fBin dDiv (fVar 4) (fC (.int 3))) (fVar 5))) (fVar 2))) (sSeq (sSet 13 (z4e 7 (fBin dMod (fBin dDiv (fVar 9) (fC (.int 30300))) (ii 7)))) (jg (zw1 6 (fVar 12) (fTup (au (fVar 13) (au (fVar 10) (au (fVar 11) (fNil))))))))
def z7j(s:l0):l0:=match s.getLast? with
 | none=>[]
 | some x=>s.dropLast++[(x.1,x.2.1,x.2.2+1)]
structure SInv (menu:Int) (many k:Nat) (sss:mu) (pool:ia):Prop where
 len:sss.length=many
 tot:sss.flatten.length=k
 good:∀x∈sss.flatten,i9 x/\(menu=3->x.2.2<=60)
 perm:(pool++sss.flatten.map (·.1)).Perm (rngL 1 61)
structure Stk (most:Nat) (ss:mu):Prop where
 many:ss.length<=5
 tot:ss.flatten.length<=most
 good:∀x∈ss.flatten,i9 x
 nd:(ss.flatten.map (·.1)).Nodup
def iT(xs:ia):D:=.tup (xs.map D.int)
variable{α:Type}{k:Nat}
theorem lb(f:α->D){xs:List α}{x:α}(h:xs[k]?=some x):atI (xs.map f) (k:Int)=some (f x):=by
 have I:=(aj.mp h).1;unfold atI;rw[qr (by lia) (by rw[ah];lia)];simp[h]
theorem zp8(xs:ia)(V:xs.length<=1000):qh [iT xs,iT xs]=some (.bl true):=by
 obtain⟨e',h1,v2,rfl⟩:=tu (i:=2) (g:=wn) (λk e=>∃v2,e=[some (.sh (iT xs)),some (.sh (iT xs)),v2]) (rngD 0 xs.length) [some (.sh (iT xs)),some (.sh (iT xs)),none] ⟨none,rfl⟩ (by
  rintro k d e J ⟨v2,rfl⟩;obtain⟨rfl,R⟩:=tj J;have U:atI (xs.map D.int) (k:Int)=some (.int xs[k]):=lb D.int (by simp[R]);exact⟨[some (.sh (iT xs)),some (.sh (iT xs)),some (.sh (.int (0+k)))],by simp[wn,iT,U,vt],_,rfl⟩)
 have hi:=nk xs.length (by lia);refine j6 (e':=?w) rfl ?h;show zc5 [some (.sh (iT xs)),some (.sh (iT xs)),none]=_;have I:forL 2 wn (rngD 0 xs.length) [some (.sh (.tup (xs.map D.int))),some (.sh (.tup (xs.map D.int))),none]=some (.nx,[some (.sh (.tup (xs.map D.int))),some (.sh (.tup (xs.map D.int))),v2]):=h1;simp[zc5,iT,hi,I];rfl
theorem zpa(f:α->ia)(xs:List α)(V:xs.length<=1000)(I:∀x∈xs,(f x).length<=1000):zdv [.lst (xs.map λx=>iT (f x)),.lst (xs.map λx=>iT (f x))]=some (.bl true):=by
 obtain⟨e',h1,v2,rfl⟩:=tu (i:=2) (g:=zd8) (λk e=>∃v2,e=[some (.sh (.lst (xs.map λx=>iT (f x)))),some (.sh (.lst (xs.map λx=>iT (f x)))),v2]) (rngD 0 xs.length) [some (.sh (.lst (xs.map λx=>iT (f x)))),some (.sh (.lst (xs.map λx=>iT (f x)))),none] ⟨none,rfl⟩ (by
  rintro k d e J ⟨v2,rfl⟩;obtain⟨rfl,D⟩:=tj J;have R:atI (xs.map λx=>iT (f x)) (k:Int)=some (iT (f xs[k])):=lb _ (by simp[D]);have U:=zp8 (f xs[k]) (I _ (kt D));exact⟨[some (.sh (.lst (xs.map λx=>iT (f x)))),some (.sh (.lst (xs.map λx=>iT (f x)))),some (.sh (.int (0+k)))],by simp[zd8,R,U],_,rfl⟩)
 have hi:=nk xs.length (by lia);refine j6 (e':=?w) rfl ?h;show zfn [some (.sh (.lst (xs.map λx=>iT (f x)))),some (.sh (.lst (xs.map λx=>iT (f x)))),none]=_;simp[zfn,hi,h1];rfl
abbrev Bk:=Int×Int×Int
def hrs(r:l0):Int:=(r.map (·.2.1)).sum
def lss(r:l0):Int:=(r.map (·.2.2)).sum
def blk(r:l0):Bk:=(r.length,hrs r,lss r)
def jn(u b:Bk):Bk:=(u.1+b.1,u.2.1+b.2.1,u.2.2+b.2.2)
def gt(u b:Bk):Prop:=b.2.2*u.2.1<u.2.2*b.2.1
instance (u b:Bk):Decidable (gt u b):=inferInstanceAs (Decidable (_<_))
def SmB(b:Bk):Prop:=ml b.2.1/\ml b.2.2
def zu3(s:Sk):ze2 [sD s]=some (sD (1,s.2.1,s.2.2)):=by
 rfl
def zu4(u b:Bk):ze3 [sD u,sD b]=some (sD (jn u b)):=by
 simp[ze3,runD,zja,jk,sD,z6s,zxn,y7,jn]
def zsz(u b:Bk)(V:SmB u)(Y:SmB b):t5 [sD u,sD b]=some (.bl (decide (gt u b))):=by
 obtain⟨Z,I,J⟩:=u;obtain⟨a,R,b3⟩:=b;have U:∀x y z:Int,zd7 [sD (x,y,z)]=some (.tup [.int y,.int z]):=λx y z=>by simp[zd7,runD,zjw,jk,sD,zxn,y7]
 have D:=zrq I J R b3 V.2 Y.2;by_cases h1:b3*I<J*R
 ·rw[if_pos h1] at D
  simp[t5,runD,zcn,jk,U,D,gt,h1]
 ·rw[if_neg h1] at D
  by_cases h2:J*R<b3*I
  ·rw[if_pos h2] at D
   simp[t5,runD,zcn,jk,U,D,gt,h1]
  ·rw[if_neg h2] at D
   simp[t5,runD,zcn,jk,U,D,gt,h1]
def zu5(bs:k8)(x:D):atI (bs++[x]) (-1)=some x:=zwj bs x
def q9(a b:l0):hrs (a++b)=hrs a+hrs b:=by simp[hrs]
def qz(a b:l0):lss (a++b)=lss a+lss b:=by simp[lss]
def z47(a b:l0):jn (blk a) (blk b)=blk (a++b):=by
 simp only[jn,blk,q9,qz,ao];simp
theorem xh(r:l0)(h:∀x∈r,i9 x):(r.length:Int)<=hrs r/\hrs r<=60*r.length/\0<=lss r/\lss r<=100*r.length:=by
 induction r with
 | nil=>simp[hrs,lss]
 | cons x r ih =>
   obtain⟨h1,h2,D,I⟩:=ih λy J=>h y (ay _ J);obtain⟨_,_,R,U,V,Y⟩:=h x bq;simp[hrs,lss,gc] at h1 h2 D I ⊢
   lia
theorem smB(r:l0)(h:∀x∈r,i9 x)(D:r.length<=1000):SmB (blk r):=by
 obtain⟨h1,h2,I,J⟩:=xh r h;exact⟨u4 (by show -1000000000000<hrs r/\hrs r<1000000000000;lia),u4 (by show -1000000000000<lss r/\lss r<1000000000000;lia)⟩
def lw:mu->l0->mu×l0
 | [],b=>([],b)
 | u::r,b=>if gt (blk u) (blk b) then(u::r,b) else lw r (u++b)
def bD(r:l0):D:=sD (blk r)
def zp9(v0 v2:ll)(bs:k8)(u b:l0):zdt [v0,some (.ow (bs++[bD u])),v2,some (.sh (bD b))]=some (.nx,[v0,some (.ow bs),v2,some (.sh (bD (u++b)))]):=by
 have e:=zu4 (blk u) (blk b);rw[z47] at e;simp[zdt,bD,e]
theorem zrr(v0 v2:ll):∀(n:Nat) (D:mu) (b:l0),D.length<n->(∀r∈D,∀x∈r,i9 x)->(∀x∈b,i9 x)->(D.flatten.length+b.length<=1000) ->
  mn (fAnd (fTst (fBin dGt (ii 1) (fC (.int 0)))) (fNot (fTst (d7 t5 (au (fIxV 1 (fUn dNeg (fC (.int 1)))) (au (fVar 3) (fNil))))))) zdt n
   [v0,some (.ow (D.reverse.map bD)),v2,some (.sh (bD b))]=some (.nx,[v0,some (.ow ((lw D b).1.reverse.map bD)),v2,some (.sh (bD (lw D b).2))])
 | n+1,[],b,_,_,_,_=>by simp[mn,lw]
 | n+1,u::r,b,h,hs,hb,hl=>by
   rw[cw,ao] at hl;have J:t5 [bD u,bD b]=some (.bl (decide (gt (blk u) (blk b)))):=zsz (blk u) (blk b) (smB u (hs u (by simp)) (by lia)) (smB b hb (by lia));have R:(0:Int)<(r.length:Int)+1:=by lia
   have I:=zp9 v0 v2 (r.reverse.map bD) u b;unfold mn;rw[List.reverse_cons,dh,ci,du];by_cases h1:gt (blk u) (blk b)
   ·simp[lw,h1,J,R,zu5]
   ·have U:=zrr v0 v2 n r (u++b) (by simpa using h) (λt V=>hs t (by simp[V])) (λx hx=>by
     rcases db.mp hx with hx | hx
     ·exact hs u (by simp) x hx
     ·exact hb x hx) (by rw[ao];lia)
    have Y:lw (u::r) b=lw r (u++b):=by simp[lw,h1]
    rw[Y];have Z:(fAnd (fTst (fBin dGt (ii 1) (fC (.int 0)))) (fNot (fTst (d7 t5 (au (fIxV 1 (fUn dNeg (fC (.int 1)))) (au (fVar 3) (fNil)))))))
      [v0,some (.ow (r.reverse.map bD++[bD u])),v2,some (.sh (bD b))]=some (true,[v0,some (.ow (r.reverse.map bD++[bD u])),v2,some (.sh (bD b))]):=by
     simp[h1,J,R,zu5]
    rw[Z,ac];rw[if_pos rfl,I,ac];exact U
structure Good (r:l0):Prop where
 ne:r≠[]
 beg:∀p,p <+: r->lss p*hrs r<=lss r*hrs p
theorem zzk(r:l0)(h:∀x∈r,i9 x):0<=hrs r:=by have:=xh r h;lia
theorem qy(r:l0)(h:∀x∈r,i9 x)(D:r≠[]):0<hrs r:=by
 have h1:=xh r h;have:0<r.length:=iy.mpr D
 lia
def zqa{α:Type}:∀ {u b p:List α},p <+: u++b->p <+: u\/∃t,p=u++t/\t <+: b
 | [],b,p,h=>.inr ⟨p,rfl,h⟩
 | a::u,b,[],h=>.inl List.nil_prefix
 | a::u,b,c::p,h=>by
   rw[ky,List.cons_prefix_cons] at h;obtain⟨rfl,h⟩:=h;rcases zqa h with h | ⟨t,rfl,ht⟩
   ·exact .inl (by rw[List.cons_prefix_cons];exact⟨rfl,h⟩)
   ·exact .inr ⟨t,rfl,ht⟩
variable{b:Bk}
theorem Good.join{u b:l0}(I:Good u)(R:Good b)(U:∀x∈u,i9 x)(V:∀x∈b,i9 x)(h:¬gt (blk u) (blk b)):Good (u++b):=by
 have h':lss u*hrs b<=lss b*hrs u:=Int.not_lt.mp h;have d:=qy u U I.ne;have Y:=qy b V R.ne;refine⟨by simp[I.ne],λp D=>?_⟩;rw[q9,qz];rcases zqa D with D | ⟨t,rfl,ht⟩
 ·-- within u
  have h1:=I.beg p D;have pp:0<=hrs p:=zzk p λx J=>U x (D.subset J);have l:lss p*hrs u*(hrs u+hrs b)<=lss u*hrs p*(hrs u+hrs b):=gl h1 (by lia);have m:hrs p*(lss u*hrs b)<=hrs p*(lss b*hrs u):=qi h' pp;have e:lss p*(hrs u+hrs b)*hrs u<=(lss u+lss b)*hrs p*hrs u:=by
   have Z:lss p*(hrs u+hrs b)*hrs u=lss p*hrs u*(hrs u+hrs b):=by rw[h9,j0 (hrs u+hrs b),<-h9]
   have c:lss u*hrs p*(hrs u+hrs b)=lss u*hrs p*hrs u+hrs p*(lss u*hrs b):=by rw[jo,j0 (lss u) (hrs p),h9 (hrs p) (lss u) (hrs b)]
   have f:(lss u+lss b)*hrs p*hrs u=lss u*hrs p*hrs u+hrs p*(lss b*hrs u):=by rw[im,im,j0 (lss b) (hrs p),h9 (hrs p) (lss b) (hrs u)]
   lia
  exact vf e d
 ·-- u and a beginning of b
  rw[q9,qz];have h1:=R.beg t ht;obtain⟨q,rfl⟩:=ht;rw[q9,qz] at h1 h' ⊢;rw[q9] at Y;have g:0<=hrs q:=zzk q λx J=>V x (b8 _ J);have i:lss t*hrs q<=lss q*hrs t:=by
   have Z:lss t*(hrs t+hrs q)=lss t*hrs t+lss t*hrs q:=jo _ _ _;have c:(lss t+lss q)*hrs t=lss t*hrs t+lss q*hrs t:=im _ _ _
   lia
  have n:lss u*(hrs t+hrs q)*hrs q<=(lss t+lss q)*hrs u*hrs q:=gl h' g;have j:0<=hrs u:=by lia
  have b3:hrs u*(lss t*hrs q)<=hrs u*(lss q*hrs t):=qi i j;have k:lss u*hrs q*(hrs t+hrs q)<=lss q*hrs u*(hrs t+hrs q):=by
   have Z:lss u*hrs q*(hrs t+hrs q)=lss u*(hrs t+hrs q)*hrs q:=by rw[h9,j0 (hrs q),<-h9]
   have c:(lss t+lss q)*hrs u*hrs q=hrs u*(lss t*hrs q)+lss q*hrs u*hrs q:=by rw[im,im,j0 (lss t) (hrs u),h9 (hrs u) (lss t) (hrs q)]
   have f:lss q*hrs u*(hrs t+hrs q)=hrs u*(lss q*hrs t)+lss q*hrs u*hrs q:=by rw[jo,j0 (lss q) (hrs u),h9 (hrs u) (lss q) (hrs t)]
   lia
  have o:lss u*hrs q<=lss q*hrs u:=vf k Y;simp only[jo,im]
  lia
def Desc:mu->Prop
 | []=>True
 | [_]=>True
 | b::u::r=>gt (blk u) (blk b)/\Desc (u::r)
structure Runs (rs:mu) (s:l0):Prop where
 flat:rs.reverse.flatten=s
 good:∀r∈rs,Good r
 desc:Desc rs
def zrs:∀(R:mu) (b:l0) (s:l0),Runs R s->Good b->(∀x∈s++b,i9 x)->Runs ((lw R b).2::(lw R b).1) (s++b)
 | [],b,s,h,gb,_=>by
   have:s=[]:=by have:=h.flat;simpa using this.symm
   subst this;exact⟨by simp[lw],λr I=>by simp[lw] at I;rw[I];exact gb,trivial⟩
 | u::r,b,s,h,gb,hx=>by
   have J:s=r.reverse.flatten++u:=by rw[<-h.flat];simp
   by_cases h1:gt (blk u) (blk b)
   ·have e:lw (u::r) b=(u::r,b):=by simp[lw,h1]
    rw[e];refine⟨by simp[J],λt ht=>?_,h1,h.desc⟩;rcases cb.mp ht with rfl | ht
    ·exact gb
    ·exact h.good t ht
   ·have e:lw (u::r) b=lw r (u++b):=by simp[lw,h1]
    rw[e];have I:Runs r r.reverse.flatten:=⟨rfl,λt ht=>h.good t (ay _ ht),by
     have:=h.desc;cases r with
     | nil=>trivial
     | cons v r=>exact this.2⟩
    have U:Good (u++b):=(h.good u (by simp)).join gb (λx D=>hx x (by rw[J];simp[D])) (λx D=>hx x (by simp[D])) h1;have:=zrs r (u++b) r.reverse.flatten I U (λx D=>hx x (by rw[J];simpa[or_assoc] using D));rw[J,dg];exact this
def zx5(x:Sk)(h:i9 x):Good [x]:=⟨by simp,λp I=>by
 have:p=[]\/p=[x]:=by
  obtain⟨t,D⟩:=I;cases p with
  | nil=>exact .inl rfl
  | cons y q=>simp at D;simp[D]
 rcases this with rfl | rfl
 ·simp[lss,hrs]
 ·exact Int.le_refl _⟩
def zu6(x:Sk):ze2 [sD x]=some (bD [x]):=by
 rw[zu3];simp[bD,blk,hrs,lss]
theorem zqb(S:D)(I:mu)(s:l0)(x:Sk)(v2 f:ll)(h:Runs I s)(Y:∀y∈s++[x],i9 y)(n:s.length<900) :
  ∃R b,Runs R (s++[x])/\zdu [some (.sh S),some (.ow (I.reverse.map bD)),some (.sh (sD x)),f]=some (.nx,[some (.sh S),some (.ow (R.reverse.map bD)),some (.sh (sD x)),b]):=by
 have U:I.flatten.length=s.length:=by
  rw[<-h.flat,iz,iz,List.map_reverse,List.sum_reverse]
 have g:I.length<=s.length:=by
  rw[<-U];have:∀(l:mu),(∀r∈l,r≠[])->l.length<=l.flatten.length:=λl=>by
   induction l with
   | nil=>intro _;simp
   | cons a l ih =>
     intro V;have:=ih λr J=>V r (ay _ J);have i:0<a.length:=iy.mpr (V a bq);rw[am,cw,ao]
     lia
  exact this I λr J=>(h.good r J).ne
 have j:=zrr (some (.sh S)) (some (.sh (sD x))) 10000 I [x] (by lia) (λr J y Z=>Y y (by
  rw[<-h.flat];exact d5 _ (gi.mpr ⟨r,by simpa using J,Z⟩))) (λy Z=>Y y (by simp at Z;simp[Z])) (by rw[U];simp;lia)
 have J:=zrs I [x] s h (zx5 x (Y x (by simp))) Y;refine⟨_,some (.sh (bD (lw I [x]).2)),J,?_⟩;have d:(lw I [x]).1.length<=s.length:=by
  have e:=J.flat;have:∀(l:mu),(∀r∈l,r≠[])->l.length<=l.flatten.length:=λl=>by
   induction l with
   | nil=>intro _;simp
   | cons a l ih =>
     intro V;have:=ih λr J=>V r (ay _ J);have i:0<a.length:=iy.mpr (V a bq);rw[am,cw,ao]
     lia
  have h2:=this _ λr c=>(J.good r c).ne;have k:(((lw I [x]).2::(lw I [x]).1).flatten).length=(s++[x]).length:=by
   rw[<-e,iz,iz,List.map_reverse,List.sum_reverse]
  rw[k] at h2;simp at h2;exact h2
 have m:Few ((lw I [x]).1.length+1):=few (by lia);unfold zdu;simp only[sSeq,sSet,d7,au,fVar,fNil,af,ai,ac,ak,zu6,ax,az,j,jg,qv,y8,ah,List.length_reverse,m,if_true];simp
theorem ziq(s:l0)(Y:∀y∈s,i9 y)(b:s.length<=14):∃D,Runs D s/\zgw [.lst (s.map sD)]=some (.lst (D.reverse.map bD)):=by
 obtain⟨e',h1,D,v2,I,J,rfl⟩:=vy (i:=2) (g:=zdu) sD (λp e=>∃D v2 I,Runs D p/\e=[some (.sh (.lst (s.map sD))),some (.ow (D.reverse.map bD)),v2,I]) s
  [some (.sh (.lst (s.map sD))),some (.ow []),none,none] ⟨[],none,none,⟨rfl,λr J=>by simp at J,trivial⟩,rfl⟩ (by
   rintro p x q e R ⟨D,v2,I,J,rfl⟩;obtain⟨U,Z,V,a⟩:=zqb (.lst (s.map sD)) D p x v2 I J (λy hy=>Y y (by
    rw[R];rcases db.mp hy with hy | hy
    ·simp[hy]
    ·simp at hy;simp[hy])) (by
    have:s.length=p.length+(q.length+1):=by rw[R];simp
    lia)
   exact⟨_,a,U,_,_,V,rfl⟩)
 refine⟨D,J,?_⟩;refine j6 (e':=[some (.sh (.lst (s.map sD))),some (.sh (.lst (D.reverse.map bD))),v2,I]) rfl ?_;show zgv [some (.sh (.lst (s.map sD))),none,none,none]=_;simp[zgv,h1]
def xg(f:α->Int)(r:List α):bSum [.lst (r.map λx=>.int (f x))]=some (.int (r.map f).sum):=by
 have:(r.map λx=>D.int (f x))=(r.map f).map D.int:=by rw[iw];rfl
 rw[this];show(ints? ((r.map f).map D.int)).map _=_;rw[zt7];rfl
def zpb{α:Type}{ix:h8}{g:FS}(I:α->k8)(P:List α->DE0->Prop)(all:List α)(R:∀x∈all,(I x).length=ix.length)(U:∀(p:List α) (x:α) (q:List α) (e:DE0),all=p++x::q->P p e->∃e',g (sw ix (I x) e)=some (.nx,e')/\P (p++[x]) e') :
  ∀(xs J:List α) (e:DE0),all=J++xs->P J e->∃e',forU ix g (xs.map λx=>D.tup (I x)) e=some (.nx,e')/\P all e'
 | [],J,e,h,hp=>⟨e,rfl,by rw[h,de];exact hp⟩
 | x::xs,J,e,h,hp=>by
   obtain⟨V,h1,p1⟩:=U J x xs e h hp;obtain⟨Y,h2,p2⟩:=zpb I P all R U xs (J++[x]) V (by rw[h];simp) p1;have Z:=R x (by rw[h];simp);exact⟨Y,by simp[forU,unp,Z,h1,h2],p2⟩
variable{g:FS}
def zn{ix:h8}(I:α->k8)(P:List α->DE0->Prop)(all:List α)(e:DE0)(J:P [] e)(R:∀x∈all,(I x).length=ix.length)(U:∀(p:List α) (x:α) (q:List α) (e:DE0),all=p++x::q->P p e->∃e',g (sw ix (I x) e)=some (.nx,e')/\P (p++[x]) e') :
  ∃e',forU ix g (all.map λx=>D.tup (I x)) e=some (.nx,e')/\P all e':=zpb I P all R U all [] e rfl J
def zpc{α:Type}(f:α->D):∀(xs:List α) (c:Nat),ph c (xs.map f)=(xs.zipIdx c).map λp=>D.tup [.int (p.2:Nat),f p.1]
 | [],c=>rfl
 | x::xs,c=>by simp[ph,List.zipIdx_cons,zpc f xs (c+1)]
def zrt{α β:Type}(f:α->D)(g:β->D):∀(xs:List α) (ys:List β),zipD (xs.map f) (ys.map g)=(xs.zip ys).map λp=>D.tup [f p.1,g p.2]
 | [],ys=>by simp[zipD]
 | x::xs,[]=>by simp[zipD]
 | x::xs,y::ys=>by simp[zipD,zrt f g xs ys]
theorem ur{u:Bk}(h:gt u b):¬gt b u:=λz=>by
 unfold gt at h z
 lia
variable{c:Bk}
theorem zx6{n:Bk}(J:0<n.2.1)(R:0<c.2.1)(D:0<b.2.1)(h1:gt n c)(h2:¬gt b c):gt n b:=by
 have h2:b.2.2*c.2.1<=c.2.2*b.2.1:=Int.not_lt.mp h2;have U:b.2.2*c.2.1*n.2.1<=c.2.2*b.2.1*n.2.1:=gl h2 (by lia);have V:c.2.2*n.2.1*b.2.1<n.2.2*c.2.1*b.2.1:=t6 h1 D;have I:b.2.2*n.2.1*c.2.1<n.2.2*b.2.1*c.2.1:=by
  have Y:b.2.2*n.2.1*c.2.1=b.2.2*c.2.1*n.2.1:=gy ..;have Z:n.2.2*b.2.1*c.2.1=n.2.2*c.2.1*b.2.1:=gy ..;have a:c.2.2*b.2.1*n.2.1=c.2.2*n.2.1*b.2.1:=gy ..
  lia
 exact ve I (by lia)
theorem z63{n:Bk}(D:0<n.2.1)(J:0<c.2.1)(R:0<b.2.1)(h1:¬gt c n)(h2:gt c b):gt n b:=by
 have h1:c.2.2*n.2.1<=n.2.2*c.2.1:=Int.not_lt.mp h1;have U:c.2.2*n.2.1*b.2.1<=n.2.2*c.2.1*b.2.1:=gl h1 (by lia);have V:b.2.2*c.2.1*n.2.1<c.2.2*b.2.1*n.2.1:=t6 h2 D;have I:b.2.2*n.2.1*c.2.1<n.2.2*b.2.1*c.2.1:=by
  have Y:b.2.2*n.2.1*c.2.1=b.2.2*c.2.1*n.2.1:=gy ..;have Z:n.2.2*b.2.1*c.2.1=n.2.2*c.2.1*b.2.1:=gy ..;have a:c.2.2*b.2.1*n.2.1=c.2.2*n.2.1*b.2.1:=gy ..
  lia
 exact ve I (by lia)
def z48{n:Bk}(D:0<n.2.1)(I:0<c.2.1)(J:0<b.2.1)(h1:¬gt c n)(h2:¬gt b c):¬gt b n:=λz=>by
 have:=zx6 (n:=b) (c:=n) (b:=c) J D I z h1;exact h2 this
abbrev Tn:=Nat×l0
abbrev mv:=List Tn
def tnD(t:Tn):D:=.tup [.int (t.1:Int),.int (t.2.length:Int),.int (hrs t.2),.int (lss t.2)]
def zu7(t:Tn):wj [tnD t]=some (.tup [.int (hrs t.2),.int (lss t.2)]):=by
 simp[wj,runD,zkq,jk,tnD,z6v,z6w]
def geT(a b:Tn):Bool:=!decide (gt (blk b.2) (blk a.2))
variable{b:Int}{a:Nat}
def z1l{a b:Tn}:geT a b=true↔¬gt (blk b.2) (blk a.2):=by simp[geT]
theorem z1m(t n:Tn)(D:SmB (blk t.2))(I:SmB (blk n.2)):∃z:Int,t4 [.tup [.int (hrs t.2),.int (lss t.2)],.tup [.int (hrs n.2),.int (lss n.2)]]=some (.int z)/\decide (0<=z)=geT t n:=by
 refine⟨_,zrq _ _ _ _ D.2 I.2,?_⟩;show decide ((0:Int)<=if lss n.2*hrs t.2<lss t.2*hrs n.2 then 1 else if lss t.2*hrs n.2<lss n.2*hrs t.2 then -1 else 0)=!decide (lss t.2*hrs n.2<lss n.2*hrs t.2);by_cases h1:lss n.2*hrs t.2<lss t.2*hrs n.2
 ·rw[if_pos h1]
  have h2:¬lss t.2*hrs n.2<lss n.2*hrs t.2:=by lia
  simp[h2]
 ·rw[if_neg h1]
  by_cases h2:lss t.2*hrs n.2<lss n.2*hrs t.2
  ·simp[h2]
  ·simp[h2]
def plc(ts:mv)(n:Tn):Nat:=(ts.takeWhile λt=>geT t n).length
noncomputable def zmq:FT:=fAnd (fTst (fBin dLt (fVar 2) (ii 0))) (fTst (fBin dGe (d7 t4 (au (d7 wj (au (fIxV 0 (fVar 2)) (fNil))) (au (d7 wj (au (fVar 1) (fNil))) (fNil)))) (fC (.int 0))))
theorem zlm(n:Tn)(Y:SmB (blk n.2)):∀(I D:mv) (J:Nat),I.length<J->(∀t∈I,SmB (blk t.2)) ->
  mn zmq zcf J [some (.sh (.lst ((D++I).map tnD))),some (.sh (tnD n)),some (.sh (.int (D.length:Int)))]=some (.nx,[some (.sh (.lst ((D++I).map tnD))),some (.sh (tnD n)),some (.sh (.int ((D.length+plc I n:Nat):Int)))])
 | [],D,f+1,h,_=>by
   unfold mn zmq;simp[plc]
 | t::r,D,f+1,h,hs=>by
   obtain⟨z,a,b⟩:=z1m t n (hs t (by simp)) Y;have R:atI ((D++t::r).map tnD) (D.length:Int)=some (tnD t):=lb tnD (by simp);have U:(D.length:Int)<((D++t::r).map tnD).length:=by simp;lia
   have c:zmq [some (.sh (.lst ((D++t::r).map tnD))),some (.sh (tnD n)),some (.sh (.int (D.length:Int)))]=some (geT t n,[some (.sh (.lst ((D++t::r).map tnD))),some (.sh (tnD n)),some (.sh (.int (D.length:Int)))]):=by
    unfold zmq;generalize (D++t::r).map tnD=L at R U;simp[U,R,zu7,a,b]
   unfold mn;rw[c,ac];cases hg:geT t n with
   | false =>
     simp[plc,hg]
   | true =>
     rw[if_pos rfl];have d:zcf [some (.sh (.lst ((D++t::r).map tnD))),some (.sh (tnD n)),some (.sh (.int (D.length:Int)))]=some (.nx,[some (.sh (.lst ((D++t::r).map tnD))),some (.sh (tnD n)),some (.sh (.int ((D++[t]).length:Int)))]):=by
      simp[zcf]
     rw[d,ac];have Z:=zlm n Y r (D++[t]) f (by simpa using h) λt' V=>hs t' (by simp[V]);rw[dg,ib] at Z;rw[Z];have:(D++[t]).length+plc r n=D.length+plc (t::r) n:=by simp[plc,hg];lia
     rw[this]
theorem zx7(ts:mv)(n:Tn)(D:SmB (blk n.2))(I:∀t∈ts,SmB (blk t.2))(J:ts.length<9000):zf7 [.lst (ts.map tnD),tnD n]=some (.int (plc ts n:Int)):=by
 have h:=zlm n D ts [] 10000 (by lia) I;refine j6 (e':=[some (.sh (.lst (ts.map tnD))),some (.sh (tnD n)),some (.sh (.int (plc ts n:Int)))]) rfl ?_;show zf6 [some (.sh (.lst (ts.map tnD))),some (.sh (tnD n)),none]=_;have h':mn zmq zcf 10000 [some (.sh (.lst (ts.map tnD))),some (.sh (tnD n)),some (.sh (.int 0))]=_:=h;unfold zmq at h';simp[zf6,h']
def ins(ts:mv)(n:Tn):mv:=(ts.takeWhile λt=>geT t n)++n::ts.dropWhile λt=>geT t n
def z49(ts:mv)(n:Tn):(ts.map tnD).take (plc ts n)++tnD n::(ts.map tnD).drop (plc ts n)=(ins ts n).map tnD:=by
 have e:=jl (p:=λt=>geT t n) (l:=ts);have D:plc ts n=(ts.takeWhile λt=>geT t n).length:=rfl;have h1:ts.take (plc ts n)=ts.takeWhile λt=>geT t n:=by
  rw[D];generalize (ts.takeWhile λt=>geT t n)=A at e;rw[<-e];exact j2
 have h2:ts.drop (plc ts n)=ts.dropWhile λt=>geT t n:=by
  rw[D];generalize (ts.takeWhile λt=>geT t n)=A at e
  conv=>lhs;rw[<-e]
  exact List.drop_left
 rw[<-List.map_take,<-List.map_drop,h1,h2];simp[ins]
def z5a(ts:mv)(n:Tn):plc ts n<=ts.length:=(List.takeWhile_sublist _).length_le
theorem zs0(v0 J V:ll)(ts:mv)(I:Nat)(r:l0)(Y:SmB (blk r))(Z:∀t∈ts,SmB (blk t.2))(a:ts.length<9000) :
  zc7 [v0,some (.ow (ts.map tnD)),some (.sh (.int (I:Int))),J,some (.sh (.int (r.length:Int))),some (.sh (.int (hrs r))),some (.sh (.int (lss r))),V] =
   some (.nx,[v0,some (.ow ((ins ts (I,r)).map tnD)),some (.sh (.int (I:Int))),J,some (.sh (.int (r.length:Int))),some (.sh (.int (hrs r))),some (.sh (.int (lss r))),some (.sh (tnD (I,r)))]):=by
 have R:=zx7 ts (I,r) Y Z a;have U:=z49 ts (I,r);have h1:(plc ts (I,r):Int)<=((ts.map tnD).length:Nat):=by rw[ah];have:=z5a ts (I,r);lia
 have h2:Few ((ts.map tnD).length+1):=few (by rw[ah];lia);have b:D.tup [.int (I:Int),.int (r.length:Int),.int (hrs r),.int (lss r)]=tnD (I,r):=rfl;have c:(0:Int)<=(plc ts (I,r):Int):=by lia
 generalize ts.map tnD=L at R U h1 h2;simp[zc7,znf,zb,zxl,b,R,z05,z03,c,h1,h2,f8,U]
def bef(a b:Tn):Prop:=gt (blk a.2) (blk b.2)\/(¬gt (blk b.2) (blk a.2)/\a.1<b.1)
def ofS(ts:mv)(j:Nat):mu:=(ts.filter λt=>t.1==j+1).map (·.2)
structure TurnsOk (ss:mu) (ts:mv):Prop where
 lo:∀t∈ts,1<=t.1/\t.1<=ss.length
 good:∀t∈ts,Good t.2
 part:∀(j:Nat) (s:l0),ss[j]?=some s->(ofS ts j).flatten=s
 srt:ts.Pairwise bef
 perm:(ts.map (·.2)).flatten.Perm ss.flatten
variable{ss:mu}{ts:mv}
def TurnsOk.sk(h:TurnsOk ss ts)(D:∀x∈ss.flatten,i9 x):∀t∈ts,∀x∈t.2,i9 x:=λt I x J =>
 D x (h.perm.mem_iff.mp (gi.mpr ⟨t.2,fy.mpr ⟨t,I,rfl⟩,J⟩))
def TurnsOk.len1(h:TurnsOk ss ts):∀t∈ts,t.2.length<=ss.flatten.length:=λt D=>by
 rw[<-h.perm.length_eq];exact(ek (fy.mpr ⟨t,D,rfl⟩)).length_le
theorem zu8{α:Type}:∀(l:List (List α)),(∀r∈l,r≠[])->l.length<=l.flatten.length
 | [],_=>by simp
 | a::l,h=>by
   have:=zu8 l λr D=>h r (ay _ D);have I:0<a.length:=iy.mpr (h a bq);rw[am,cw,ao]
   lia
def TurnsOk.len(h:TurnsOk ss ts):ts.length<=ss.flatten.length:=by
 have:=zu8 (ts.map (·.2)) λr D=>by
  obtain⟨t,I,rfl⟩:=fy.mp D;exact(h.good t I).ne
 rw[ah,h.perm.length_eq] at this;exact this
protected def TurnsOk.pos(h:TurnsOk ss ts)(I:∀x∈ss.flatten,i9 x):∀t∈ts,0<hrs t.2:=λt D=>qy t.2 (h.sk I t D) (h.good t D).ne
def TurnsOk.sm(h:TurnsOk ss ts)(I:∀x∈ss.flatten,i9 x)(J:ss.flatten.length<=1000):∀t∈ts,SmB (blk t.2):=λt D=>smB t.2 (h.sk I t D) (df (h.len1 t D) J)
theorem TurnsOk.more(h:TurnsOk ss ts):TurnsOk (ss++[[]]) ts/\ofS ts ss.length=[]:=by
 have e:ofS ts ss.length=[]:=by
  unfold ofS;rw[List.filter_eq_nil_iff.mpr λt I=>by have:=(h.lo t I).2;simp;lia];rfl
 refine⟨⟨λt I=>⟨(h.lo t I).1,by have:=(h.lo t I).2;simp;lia⟩,h.good,λj s D=>?_,h.srt,by simpa using h.perm⟩,e⟩;by_cases J:j<ss.length
 ·rw[aw J] at D
  exact h.part j s D
 ·have:j=ss.length:=by
   have:=(aj.mp D).1;simp at this
   lia
  subst this;simp at D;subst D;rw[e];rfl
def z1n{ts:mv}{n t:Tn}:t∈ins ts n↔t∈ts\/t=n:=by
 unfold ins;have e:=jl (p:=λt=>geT t n) (l:=ts);have D:t∈ts↔t∈(ts.takeWhile λt=>geT t n)\/t∈ts.dropWhile λt=>geT t n:=by
  conv=>lhs;rw[<-e]
  exact db
 rw[D];simp[db];constructor
 ·rintro(h | h | h)
  ·exact .inl (.inl h)
  ·exact .inr h
  ·exact .inl (.inr h)
 ·rintro((h | h) | h)
  ·exact .inl h
  ·exact .inr (.inr h)
  ·exact .inr (.inl h)
theorem TurnsOk.ins{ss:mu}{ts:mv}{D r:l0}{p:mu}(h:TurnsOk (ss++[D]) ts)(Y:ofS ts ss.length=p)(n:Good r)(i:∀x∈r,i9 x)(w:∀x∈(ss++[D]).flatten,i9 x)(y:∀u∈p,gt (blk u) (blk r)):TurnsOk (ss++[D++r]) (LB.ins ts (ss.length+1,r))/\ofS (LB.ins ts (ss.length+1,r)) ss.length=p++[r]:=by
 have e:=jl (p:=λt=>geT t (ss.length+1,r)) (l:=ts);have hA:∀t∈(ts.takeWhile λt=>geT t (ss.length+1,r)),geT t (ss.length+1,r)=true:=λt R=>by
  have:=List.all_takeWhile (p:=λt=>geT t (ss.length+1,r)) (l:=ts);exact gk.mp this t R
 have C:0<hrs r:=qy r i n.ne;have I:=@z1n ts (ss.length+1,r);have k:∀U d,ts.dropWhile (λt=>geT t (ss.length+1,r))=U::d->gt (blk r) (blk U.2):=λU d hb=>by
  have:geT U (ss.length+1,r)=false:=by
   have:=List.head?_dropWhile_not (p:=λt=>geT t (ss.length+1,r)) ts;rw[hb] at this;simpa using this
  unfold geT at this;simpa using this
 unfold LB.ins at I ⊢;have srt:=h.srt;have pos:=h.pos w;have V:∀t∈ts,t.1=ss.length+1->gt (blk t.2) (blk r):=λt R Z=>y t.2 (by
  rw[<-Y];exact fy.mpr ⟨t,i8.mpr ⟨R,by simp[Z]⟩,rfl⟩)
 have lo:=h.lo;have part:=h.part;have J:=h.perm;rw[<-e] at srt pos V lo part J Y;generalize (ts.takeWhile λt=>geT t (ss.length+1,r))=A at *;generalize (ts.dropWhile λt=>geT t (ss.length+1,r))=B at *;have o:∀b∈B,gt (blk r) (blk b.2):=λb hb=>by
  cases B with
  | nil=>simp at hb
  | cons U d =>
    have q:=k U d rfl;rcases cb.mp hb with rfl | hb'
    ·exact q
    ·have E:=(il.mp srt).2.1
     have:=(fc.mp E).1 b hb';have F:¬gt (blk b.2) (blk U.2):=by
      rcases this with z | z
      ·exact ur z
      ·exact z.1
     exact zx6 C (pos U (by simp)) (pos b (by simp[hb'])) q F
 have v:(B.filter λt=>t.1==ss.length+1)=[]:=List.filter_eq_nil_iff.mpr λt R=>by
  intro z;exact ur (o t R) (V t (by simp[R]) (by simpa using z))
 have of:ofS (A++(ss.length+1,r)::B) ss.length=p++[r]:=by
  unfold ofS at Y ⊢;rw[jd,v,de] at Y;rw[jd,ku (by simp),v,dh,Y];rfl
 refine⟨⟨λt R=>?_,λt R=>?_,λj s f=>?_,?_,?_⟩,of⟩
 ·rcases(I.mp R) with z | z
  ·have:=h.lo t z;simp at this ⊢;lia
  ·subst z;simp
 ·rcases(I.mp R) with z | z
  ·exact h.good t z
  ·subst z;exact n
 ·by_cases c:j<ss.length
  ·rw[aw c] at f
   have:=part j s (by rw[aw c];exact f);rw[<-this];unfold ofS;rw[jd,jd,kv (by simp;lia)]
  ·have:j=ss.length:=by
    have:=(aj.mp f).1;simp at this
    lia
   subst this;have G:D++r=s:=by simpa using f
   rw[of,<-G];have:=part ss.length D (by simp);rw[show ofS (A++B) ss.length=p from Y] at this;simp[this]
 ·have m:=il.mp srt
  refine il.mpr ⟨m.1,fc.mpr ⟨λb hb=>.inl (o b hb),m.2.1⟩,λa g b hb=>?_⟩;rcases cb.mp hb with rfl | hb
  ·have H:=hA a g
   by_cases Z:a.1=ss.length+1
   ·exact .inl (V a (by simp[g]) Z)
   ·have:=(lo a (by simp[g])).2
    exact .inr ⟨z1l.mp H,by simp at this ⊢;lia⟩
  ·exact m.2.2 a g b hb
 ·have Z:((A++(ss.length+1,r)::B).map (·.2)).flatten=(A.map (·.2)).flatten++(r++(B.map (·.2)).flatten):=by simp
  have K:(ss++[D++r]).flatten=(ss++[D]).flatten++r:=by simp
  rw[Z,K];have L:((A++B).map (·.2)).flatten=(A.map (·.2)).flatten++(B.map (·.2)).flatten:=by simp
  rw[L] at J;refine List.Perm.trans ?_ (J.append_right r);rw[dg];exact List.Perm.append_left _ List.perm_append_comm
def zqc:∀(D:mu),Desc D->(∀r∈D,0<hrs r)->D.Pairwise (λb u=>gt (blk u) (blk b))
 | [],_,_=>.nil
 | [b],_,_=>by simp
 | b::u::r,h,hp=>by
   have J:=zqc (u::r) h.2 λx I=>hp x (ay _ I);refine fc.mpr ⟨λx I=>?_,J⟩;rcases cb.mp I with rfl | hx'
   ·exact h.1
   ·have:=(fc.mp J).1 x hx'
    exact zx6 (hp x (by simp[hx'])) (hp u (by simp)) (hp b (by simp)) this (ur h.1)
theorem zqd(S:D)(ss:mu)(s:l0)(ts:mv)(l v5 m n:ll)(h:TurnsOk ss ts)(A:∀x∈(ss++[s]).flatten,i9 x)(t:(ss++[s]).flatten.length<=14) :
  ∃I f i j Z,TurnsOk (ss++[s]) I/\zd9 [some (.sh S),some (.ow (ts.map tnD)),some (.sh (.int ((ss.length+1:Nat):Int))),some (.sh (.lst (s.map sD))),l,v5,m,n] =
   some (.nx,[some (.sh S),some (.ow (I.map tnD)),some (.sh (.int ((ss.length+1:Nat):Int))),some (.sh (.lst (s.map sD))),f,i,j,Z]):=by
 have a:∀x∈s,i9 x:=λx hx=>A x (by simp[hx]);have v:s.length<=14:=by simp at t;lia
 obtain⟨V,o,C⟩:=ziq s a v;have J:=o.flat;have c:∀r∈V.reverse,Good r:=λr h=>o.good r (List.mem_reverse.mp h);have d:∀r∈V.reverse,∀x∈r,i9 x:=λr h x hx=>a x (by rw[<-J];exact gi.mpr ⟨r,h,hx⟩);have k:V.reverse.Pairwise (λu b=>gt (blk u) (blk b)):=by
  rw[List.pairwise_reverse];exact zqc V o.desc λr h=>qy r (d r (List.mem_reverse.mpr h)) (o.good r h).ne
 have B:=h.more;obtain⟨e',h1,I,f,i,j,Z,w,E,rfl⟩:=zn (ix:=[4,5,6]) (g:=zc7) (λr:l0=>[D.int (r.length:Int),.int (hrs r),.int (lss r)])
  (λp e=>∃I f i j Z,TurnsOk (ss++[p.flatten]) I/\ofS I ss.length=p/\e=[some (.sh S),some (.ow (I.map tnD)),some (.sh (.int ((ss.length+1:Nat):Int))),some (.sh (.lst (s.map sD))),f,i,j,Z]) V.reverse
  [some (.sh S),some (.ow (ts.map tnD)),some (.sh (.int ((ss.length+1:Nat):Int))),some (.sh (.lst (s.map sD))),l,v5,m,n] ⟨ts,l,v5,m,n,B.1,B.2,rfl⟩ (λ_ _=>rfl) (by
   rintro p r q e R ⟨I,f,i,j,Z,ok,of,rfl⟩;have U:r∈V.reverse:=by rw[R];simp
   have Y:∀x∈(ss++[p.flatten]).flatten,i9 x:=λx hx=>by
    rw[e7,db] at hx;rcases hx with hx | hx
    ·exact A x (by rw[e7];exact d5 _ hx)
    ·refine a x ?_
     rw[<-J,R,e7];exact d5 _ (by simpa using hx)
   have F:(ss++[p.flatten]).flatten.length<=14:=by
    have:p.flatten.length<=s.length:=by rw[<-J,R,e7,ao];lia
    rw[e7,ao] at t ⊢;simp only[cw,pz,de] at t ⊢
    lia
   have y:∀u∈p,gt (blk u) (blk r):=λu G=>by
    rw[R] at k;exact(il.mp k).2.2 u G r (by simp)
   obtain⟨H,K⟩:=ok.ins of (c r U) (d r U) Y y;have L:r.length<=14:=by
    have:r.length<=V.reverse.flatten.length:=(ek U).length_le;rw[J] at this;lia
   have body:=zs0 (some (.sh S)) (some (.sh (.lst (s.map sD)))) Z I (ss.length+1) r (smB r (d r U) (by lia)) (ok.sm Y (by lia)) (by have:=ok.len;lia);exact⟨_,body,_,_,_,_,_,by simpa using H,K,rfl⟩)
 refine⟨I,f,i,j,Z,by rw[<-J];exact w,?_⟩;have z:forU [4,5,6] zc7 (V.reverse.map bD) [some (.sh S),some (.ow (ts.map tnD)),some (.sh (.int ((ss.length+1:Nat):Int))),some (.sh (.lst (s.map sD))),l,v5,m,n]=_:=h1;simp only[zd9,qk,fiS,d7,au,fVar,fNil,af,ai,ac,ak,C,z]
def ssL(ss:mu):D:=.lst (ss.map λs=>D.lst (s.map sD))
theorem ze7(ss:mu)(f:∀x∈ss.flatten,i9 x)(h:ss.flatten.length<=14):∃ts,TurnsOk ss ts/\zea [ssL ss]=some (.lst (ts.map tnD)):=by
 obtain⟨e',h1,ts,v2,Y,I,v5,J,R,ok,rfl⟩:=zn (ix:=[2,3]) (g:=zd9) (λp:l0×Nat=>[D.int (p.2:Int),D.lst (p.1.map sD)])
  (λp e=>∃ts v2 Y I v5 J R,TurnsOk (p.map (·.1)) ts/\e=[some (.sh (ssL ss)),some (.ow (ts.map tnD)),v2,Y,I,v5,J,R]) (ss.zipIdx 1)
  [some (.sh (ssL ss)),some (.ow []),none,none,none,none,none,none] ⟨[],none,none,none,none,none,none,⟨by simp,by simp,by simp,.nil,by simp⟩,rfl⟩ (λ_ _=>rfl) (by
   rintro p x q e U ⟨ts,v2,Y,I,v5,J,R,ok,rfl⟩;have a:ss=p.map (·.1)++x.1::q.map (·.1):=by
    have:=congrArg (List.map (·.1)) U;simpa using this
   have b:x.2=(p.map (·.1)).length+1:=by
    have:(ss.zipIdx 1)[p.length]?=some x:=by rw[U];simp
    rw[List.getElem?_zipIdx] at this;cases hs:ss[p.length]? with
    | none=>rw[hs] at this;cases this
    | some s =>
      rw[hs] at this;cases this;simp;lia
   have V:ss.flatten=(p.map (·.1)++[x.1]).flatten++(q.map (·.1)).flatten:=by rw[a];simp
   obtain⟨c,j,k,l,m,d,Z⟩:=zqd (ssL ss) (p.map (·.1)) x.1 ts I v5 J R ok (λy i=>f y (by rw[V];exact d5 _ i)) (by rw[V,ao] at h;lia);rw[<-b] at Z;exact⟨_,Z,c,_,_,_,_,_,_,by simpa using d,rfl⟩)
 refine⟨ts,by simpa using ok,?_⟩;refine j6 (e':=[some (.sh (ssL ss)),some (.sh (.lst (ts.map tnD))),v2,Y,I,v5,J,R]) rfl ?_;show zhh [some (.sh (ssL ss)),none,none,none,none,none,none,none]=_;have Z:iEn 1 [ssL ss]=some ((ss.zipIdx 1).map λp=>D.tup [D.int (p.2:Int),D.lst (p.1.map sD)]):=by
  show some (ph 1 (ss.map λs=>D.lst (s.map sD)))=_;rw[zpc]
 simp only[zhh,sSeq,sOwn,fz,fNil,ac,ak,b6,gp,if_true,ax,az,qk,i5,au,fVar,af,ai,Z,h1,sRet]
def iq(n:Nat)(ts:mv):mu:=(List.range n).map λj=>(ofS ts j).flatten
def mi(n:Nat)(ts:mv):(iq n ts).length=n:=by simp[iq]
variable{j:Nat}
def o6(h:j<n):(iq n ts)[j]?=some ((ofS ts j).flatten):=by simp[iq,h]
protected theorem TurnsOk.left(h:TurnsOk ss ts):iq ss.length ts=ss:=by
 apply dz;intro j;by_cases D:j<ss.length
 ·rw[o6 D,h.part j ss[j] (by simp[D])]
  simp[D]
 ·rw[cz (by rw[mi];lia),cz (by lia)]
def zz(t:Tn)(ts:mv)(j:Nat)(h:t.1=j+1):ofS (t::ts) j=t.2::ofS ts j:=by
 unfold ofS;rw[ku (by simp[h])];rfl
def zhw(t:Tn)(ts:mv)(j:Nat)(h:t.1≠j+1):ofS (t::ts) j=ofS ts j:=by
 unfold ofS;rw[kv (by simp[h])]
variable{t:Tn}
theorem zmr(h1:1<=t.1)(h2:t.1<=n):(iq n (t::ts))[t.1-1]?=some (t.2++(ofS ts (t.1-1)).flatten):=by
 rw[o6 (by lia),zz t ts (t.1-1) (by lia)];simp
theorem zqe(h1:1<=t.1)(h2:t.1<=n):iq n ts=(iq n (t::ts)).set (t.1-1) ((ofS ts (t.1-1)).flatten):=by
 apply dz;intro j;by_cases D:j<n
 ·rw[ie,o6 D,o6 D,mi]
  by_cases e:t.1-1=j
  ·subst e
   simp[D]
  ·rw[if_neg e,zhw t ts j (by lia)]
 ·rw[cz (by rw[mi];lia),cz (by rw[dq,mi];lia)]
theorem zpd(h1:1<=t.1)(h2:t.1<=n):iq n (t::ts)=(iq n ts).set (t.1-1) (t.2++(ofS ts (t.1-1)).flatten):=by
 apply dz;intro j;by_cases D:j<n
 ·rw[ie,o6 D,o6 D,mi]
  by_cases e:t.1-1=j
  ·subst e
   rw[zz t ts (t.1-1) (by lia)];simp[D]
  ·rw[if_neg e,zhw t ts j (by lia)]
 ·rw[cz (by rw[mi];lia),cz (by rw[dq,mi];lia)]
def zln{α:Type}:∀ {l:List (List α)} {j:Nat} {s x:List α},l[j]?=some s->(l.set j (x++s)).flatten.Perm (x++l.flatten)
 | a::l,0,s,x,h=>by
   simp at h;subst h;simp
 | a::l,j+1,s,x,h=>by
   have D:=zln (l:=l) (j:=j) (s:=s) (x:=x) (by simpa using h);simp;refine(D.append_left a).trans ?_;rw[<-dg,<-dg];exact List.perm_append_comm.append_right _
theorem zjh{n:Nat}:∀ {ts:mv},(∀t∈ts,1<=t.1/\t.1<=n)->(ts.map (·.2)).flatten.Perm (iq n ts).flatten
 | [],_=>by
   have:(iq n []).flatten=[]:=by simp[iq,ofS]
   rw[this];exact .nil
 | t::ts,h=>by
   have D:=zjh (n:=n) (ts:=ts) λt' I=>h t' (ay _ I);obtain⟨h1,h2⟩:=h t bq;rw[zpd h1 h2,ci,cw];exact(D.append_left t.2).trans (zln (o6 (by lia))).symm
def TurnsOk.tail(h:TurnsOk (iq n (t::ts)) (t::ts)):TurnsOk (iq n ts) ts:=by
 have lo:∀t'∈ts,1<=t'.1/\t'.1<=n:=λt' D=>by
  have:=h.lo t' (ay _ D);rw[mi] at this;exact this
 refine⟨λt' D=>by rw[mi];exact lo t' D,λt' D=>h.good t' (ay _ D),λj s I=>?_,(fc.mp h.srt).2,zjh lo⟩;have J:=(aj.mp I).1;rw[mi] at J;rw[o6 J] at I;exact bh I
def z1o(a b:k8):cutD (a++b) none (some (a.length:Int))=a:=by
 unfold cutD;rw[HT.sIx_none,HT.sIx_nat];simp
def zu9(a b:k8):cutD (a++b) (some (a.length:Int)) none=b:=by
 unfold cutD;rw[HT.sIx_none,HT.sIx_nat];simp
variable{ar:Nat}{ds:k8}{e':DE0}
def zqf{I:k8}(h:ds.length=ar)(J:g (jk n ds)=some (.rf I,e')):runF n ar g ds=some I:=by
 unfold runF;rw[if_pos h,J]
theorem z64(ss:mu)(J:ss.length<=1000):zll [ssL ss]=some (ss.map λs=>D.lst (s.map sD)):=by
 have c:=nr (te:=fLst (i5 nz (au (fVar 0) (fNil)))) (base:=[]) (λs:l0=>D.lst (s.map sD)) (λs:l0=>D.lst (s.map sD)) ss λs _=>⟨_,by simp;rfl⟩;have I:Few ss.length:=few (by lia);refine zqf (e':=[some (.sh (ssL ss))]) rfl ?_;show zjf [some (.sh (.lst (ss.map λs:l0=>D.lst (s.map sD))))]=_;simp[zjf,ip,I,c];rfl
theorem zl0(ss:mu)(Z:ss.length<=1000)(R:∀s∈ss,s.length<=1000):zb3 [ssL ss,ssL ss]=some (.bl true):=by
 obtain⟨e',h1,v2,rfl⟩:=tu (i:=2) (g:=zdk) (λk e=>∃v2,e=[some (.sh (ssL ss)),some (.sh (ssL ss)),v2]) (rngD 0 ss.length) [some (.sh (ssL ss)),some (.sh (ssL ss)),none] ⟨none,rfl⟩ (by
  rintro k d e U ⟨v2,rfl⟩;obtain⟨rfl,J⟩:=tj U;have V:atI (ss.map λs=>D.lst (s.map sD)) (k:Int)=some (.lst (ss[k].map sD)):=lb (λs:l0=>D.lst (s.map sD)) (by simp[J]);have Y:=zpa (λs:Sk=>[s.1,s.2.1,s.2.2]) ss[k] (R _ (kt J)) (λ_ _=>by simp);have I:zdv [.lst (ss[k].map sD),.lst (ss[k].map sD)]=some (.bl true):=Y;exact⟨[some (.sh (ssL ss)),some (.sh (ssL ss)),some (.sh (.int (0+k)))],by simp[zdk,ssL,V,I],_,rfl⟩)
 have hi:=nk ss.length (by lia);refine j6 (e':=[some (.sh (ssL ss)),some (.sh (ssL ss)),v2]) rfl ?_;show zeb [some (.sh (ssL ss)),some (.sh (ssL ss)),none]=_;unfold ssL at h1 ⊢;simp[zeb,hi,h1]
theorem zlo(xs:ia)(U:xs.length<=1000):zby [.lst (xs.map D.int),.lst (xs.map D.int)]=some (.bl true):=by
 obtain⟨e',h1,v2,rfl⟩:=tu (i:=2) (g:=zc9) (λk e=>∃v2,e=[some (.sh (.lst (xs.map D.int))),some (.sh (.lst (xs.map D.int))),v2]) (rngD 0 xs.length) [some (.sh (.lst (xs.map D.int))),some (.sh (.lst (xs.map D.int))),none] ⟨none,rfl⟩ (by
  rintro k d e I ⟨v2,rfl⟩;obtain⟨rfl,J⟩:=tj I;have R:atI (xs.map D.int) (k:Int)=some (.int xs[k]):=lb D.int (by simp[J]);exact⟨[some (.sh (.lst (xs.map D.int))),some (.sh (.lst (xs.map D.int))),some (.sh (.int (0+k)))],by simp[zc9,R,vt],_,rfl⟩)
 have hi:=nk xs.length (by lia);refine j6 (e':=[some (.sh (.lst (xs.map D.int))),some (.sh (.lst (xs.map D.int))),v2]) rfl ?_;show zdz [some (.sh (.lst (xs.map D.int))),some (.sh (.lst (xs.map D.int))),none]=_;simp[zdz,hi,h1]
def hT:mu->Bk
 | []=>(0,1,-1)
 | r::_=>blk r
def kD(b:Bk):D:=.lst [.int b.1,.int b.2.1,.int b.2.2]
variable{r:l0}{q:h8}
theorem z5b{b q:l0}(h1:gt (blk r) (blk b))(h2:gt (blk r) (blk q)):gt (blk r) (blk (b++q)):=by
 have h1:lss b*hrs r<lss r*hrs b:=h1;have h2:lss q*hrs r<lss r*hrs q:=h2;show lss (b++q)*hrs r<lss r*hrs (b++q);rw[qz,q9,im,jo]
 lia
theorem zzl{r:l0}(I:0<hrs r):∀(rest:mu) (q:l0),(∀b∈rest,gt (blk r) (blk b))->(∀b∈rest,Good b)->(∀b∈rest,∀x∈b,i9 x)->q <+: rest.flatten->q≠[]->gt (blk r) (blk q)
 | [],q,_,_,_,hq,ne=>by simp at hq;exact absurd hq ne
 | b::rest,q,hd,hg,hs,hq,ne=>by
   have J:=hg b (by simp);have R:=hs b (by simp);rcases zqa hq with hq | ⟨q',rfl,hq'⟩
   ·have sq:∀x∈q,i9 x:=λx V=>R x (hq.subset V)
    refine zx6 I (qy b R J.ne) (qy q sq ne) (hd b (by simp)) ?_;have:=J.beg q hq;show ¬(lss b*hrs q<lss q*hrs b)
    lia
   ·by_cases U:q'=[]
    ·subst U
     rw[de];exact hd b (by simp)
    ·exact z5b (hd b (by simp)) (zzl I rest q' (λc D=>hd c (by simp[D])) (λc D=>hg c (by simp[D])) (λc D=>hs c (by simp[D])) hq' U)
variable{s:l0}
def znw(D:k<s.length):hrs (s.take (k+1))=hrs (s.take k)+s[k].2.1/\lss (s.take (k+1))=lss (s.take k)+s[k].2.2:=by
 rw[List.take_succ_eq_append_getElem D,q9,qz];simp[hrs,lss]
theorem z1p(D:∀x∈s,i9 x)(J:s.length<=14)(k:Nat):0<=hrs (s.take k)/\hrs (s.take k)<=840/\0<=lss (s.take k)/\lss (s.take k)<=1400:=by
 have:=xh (s.take k) λx I=>D x (List.mem_of_mem_take I);have h2:(s.take k).length<=14:=by rw[dy];lia
 lia
theorem z1q(J:mu)(P:J.Pairwise λu b=>gt (blk u) (blk b))(H:∀r∈J,Good r)(f:∀x∈J.flatten,i9 x)(K:J.flatten.length<=14):z9 [.lst (J.flatten.map sD)]=some (kD (hT J)):=by
 cases J with
 | nil=>simp[z9,runD,zhi,jk,hT,kD,nk 0 (by lia),rngD,forL,show iR1 [.int 0]=some (rngD 0 0) from nk 0 (by lia)]
 | cons r rest =>
   have o:(r::rest).flatten=r++rest.flatten:=cw ..;rw[o] at f K ⊢;have p:=H r (by simp);have L:∀x∈r,i9 x:=λx t=>f x (by simp[t]);have Q:=qy r L p.ne;have W:=xh r L;have v:=(fc.mp P).1;generalize Z:r++rest.flatten=s at *;have w:r.length<=s.length:=by rw[<-Z];simp
   have tk:∀k,k<=r.length->s.take k <+: r:=λk j=>by
    rw[<-Z,gq j];exact List.take_prefix _ _
   obtain⟨e',h1,X,l,rfl,R,U⟩:=tu (i:=4) (g:=zec) (λk e=>∃(b:Bk) (l:ll),e=[some (.sh (.lst (s.map sD))),some (.sh (kD b)),some (.sh (.int (hrs (s.take k)))),some (.sh (.int (lss (s.take k)))),l] /\
     (k<r.length->b=(0,1,-1)\/∃q,q <+: r/\b=blk q)/\(r.length<=k->b=blk r)) (rngD 0 s.length)
    [some (.sh (.lst (s.map sD))),some (.sh (kD (0,1,-1))),some (.sh (.int 0)),some (.sh (.int 0)),none] ⟨(0,1,-1),none,by simp[hrs,lss],λ_=>.inl rfl,λh=>absurd (List.length_eq_zero_iff.mp (Nat.le_zero.mp h)) p.ne⟩ (by
     rintro k d e y ⟨b,l,rfl,R,U⟩;obtain⟨rfl,j⟩:=tj y;obtain⟨m,n⟩:=znw j;have bd:=z1p f K (k+1);have M:atI (s.map sD) (0+(k:Int))=some (sD s[k]):=by rw[lp];exact lb sD (by simp[j])
     have D:ml (hrs (s.take (k+1))):=u4 (by lia);have I:ml (lss (s.take (k+1))):=u4 (by lia);have N:dIx (sD s[k]) (.int 1)=some (.int s[k].2.1):=rfl;have O:dIx (sD s[k]) (.int 2)=some (.int s[k].2.2):=rfl;have A:zec [some (.sh (.lst (s.map sD))),some (.sh (kD b)),some (.sh (.int (hrs (s.take k)))),some (.sh (.int (lss (s.take k)))),some (.sh (.int (0+(k:Int))))] =
       some (.nx,[some (.sh (.lst (s.map sD))),some (.sh (kD (if b.2.2*hrs (s.take (k+1))<=lss (s.take (k+1))*b.2.1 then blk (s.take (k+1)) else b))),some (.sh (.int (hrs (s.take (k+1))))),some (.sh (.int (lss (s.take (k+1))))),some (.sh (.int (0+(k:Int))))]):=by
      have c:((s.take (k+1)).length:Int)=0+(k:Int)+1:=by rw[dy];lia
      by_cases a:b.2.2*hrs (s.take (k+1))<=lss (s.take (k+1))*b.2.1
      ·rw[if_pos a,show blk (s.take (k+1))=(0+(k:Int)+1,hrs (s.take (k+1)),lss (s.take (k+1))) by unfold blk;rw[c]]
       rw[m] at D;rw[n] at I;rw[m,n] at a ⊢;simp only[zec,kD,sSeq,sSet,sIf,sNil,fBin,fVar,fIxV,ixSl,fC,fTst,fLst,fz,au,fNil,af,ai,ac,ak,ax,az,M,N,O,ja,zxn,y7,xk I,zzf D,dGe,decide_eq_true a,if_true,am,b6,show(0+1+1+1<=64)=True by simp]
      ·rw[if_neg a]
       rw[m] at D;rw[n] at I;rw[m,n] at a ⊢;simp only[zec,kD,sSeq,sSet,sIf,sNil,fBin,fVar,fIxV,ixSl,fC,fTst,fLst,fz,au,fNil,af,ai,ac,ak,ax,az,M,N,O,ja,zxn,y7,xk I,zzf D,dGe,decide_eq_false a,bz,if_false]
     refine⟨_,A,_,_,rfl,λV=>?_,λS=>?_⟩
     ·split
      ·exact .inr ⟨_,tk (k+1) (by lia),rfl⟩
      ·exact R (by lia)
     ·by_cases B:r.length<=k
      ·have Y:=U B
       subst Y;rw[if_neg];have C:s.take (k+1)=r++rest.flatten.take (k+1-r.length):=by
        rw[<-Z,List.take_append,jh (by lia)]
       have E:(rest.flatten.take (k+1-r.length))≠[]:=by
        intro z;have:=congrArg List.length z;rw[dy] at this;have T:s.length=r.length+rest.flatten.length:=by rw[<-Z,ao]
        simp only[b6] at this
        lia
       have V:=zzl Q rest _ v (λb Y=>H b (by simp[Y])) (λb Y x t=>f x (by rw[<-Z];exact b8 _ (gi.mpr ⟨b,Y,t⟩))) (List.take_prefix (k+1-r.length) rest.flatten) E;rw[C,q9,qz];have V:lss (rest.flatten.take (k+1-r.length))*hrs r<lss r*hrs (rest.flatten.take (k+1-r.length)):=V;show ¬(lss r*(hrs r+hrs _)<=(lss r+lss _)*hrs r);rw[jo,im]
       lia
      ·have F:k+1=r.length:=by lia
       have C:s.take (k+1)=r:=by rw[F,<-Z];exact j2
       rw[C,if_pos];rcases R (by lia) with rfl | ⟨q,E,rfl⟩
       ·show -1*hrs r<=lss r*1
        lia
       ·exact p.beg q E)
   rw[tx,List.take_length] at h1;have Y:=U (by rw[tx];exact w);subst Y;have hi:iR1 [.int (s.length:Int)]=some (rngD 0 s.length):=nk s.length (by lia);refine j6 (e':=[some (.sh (.lst (s.map sD))),some (.sh (kD (blk r))),some (.sh (.int (hrs s))),some (.sh (.int (lss s))),l]) rfl ?_;show zhi [some (.sh (.lst (s.map sD))),none,none,none,none]=_;have G:kD (0,1,-1)=.lst [.int 0,.int 1,.int (-1)]:=rfl;rw[G] at h1;simp[zhi,hi,h1];rfl
def zqg(h:r∈ofS ts j):(j+1,r)∈ts:=by
 obtain⟨t,D,rfl⟩:=fy.mp h;obtain⟨h1,h2⟩:=i8.mp D;have:t.1=j+1:=by simpa using h2
 rw[<-this];exact h1
theorem z5c(h:ts.Pairwise bef):(ofS ts j).Pairwise λu b=>gt (blk u) (blk b):=by
 unfold ofS;rw[List.pairwise_map,List.pairwise_filter];refine h.imp λ{a b} hab ha hb=>?_;rcases hab with z | z
 ·exact z
 ·have h1:a.1=j+1:=by simpa using ha
  have h2:b.1=j+1:=by simpa using hb
  lia
def n6(n:Nat)(ts:mv):List Bk:=(List.range n).map λj=>hT (ofS ts j)
def zlp(h:j<n):(n6 n ts)[j]?=some (hT (ofS ts j)):=by simp[n6,h]
theorem zk6(ok:TurnsOk (iq n (t::ts)) (t::ts)):hT (ofS (t::ts) (t.1-1))=blk t.2:=by
 have h1:=(ok.lo t (by simp)).1;rw[zz t ts (t.1-1) (by lia)];rfl
theorem zzm(ok:TurnsOk (iq n (t::ts)) (t::ts))(D:∀x∈(iq n (t::ts)).flatten,i9 x)(j:Nat) :
  ¬gt (hT (ofS (t::ts) j)) (blk t.2)/\(j<t.1-1->gt (blk t.2) (hT (ofS (t::ts) j))):=by
 have pt:=ok.pos D t (by simp);have st:=xh t.2 (ok.sk D t (by simp));cases h:ofS (t::ts) j with
 | nil =>
   have g:gt (blk t.2) (0,1,-1):=by
    show -1*hrs t.2<lss t.2*1
    lia
   exact⟨ur g,λ_=>g⟩
 | cons r rest =>
   have hm:(j+1,r)∈t::ts:=zqg (by rw[h];simp);rcases cb.mp hm with e | hm
   ·subst e
    exact⟨λz=>ur z z,λz=>by simp at z⟩
   ·have I:=(fc.mp ok.srt).1 _ hm
    rcases I with z | ⟨z,z'⟩
    ·exact⟨ur z,λ_=>z⟩
    ·exact⟨z,λw=>by simp at z';lia⟩
def zs1(n:Nat)(ts:mv):(iq n ts).map (λs=>D.lst (s.map sD))=(List.range n).map λj=>D.lst ((ofS ts j).flatten.map sD):=by
 unfold iq;rw[iw];rfl
def zs2(h:j<n):∀x∈(ofS ts j).flatten,x∈(iq n ts).flatten:=λx D =>
 gi.mpr ⟨_,bf (o6 (ts:=ts) h),D⟩
def zva(h:j<n):(ofS ts j).flatten.length<=(iq n ts).flatten.length :=
 (ek (bf (o6 (ts:=ts) h))).length_le
theorem z5d(ok:TurnsOk (iq n ts) ts)(D:∀x∈(iq n ts).flatten,i9 x)(I:(iq n ts).flatten.length<=14)(j:Nat):SmB (hT (ofS ts j)):=by
 cases h:ofS ts j with
 | nil=>exact⟨u4 (by decide),u4 (by decide)⟩
 | cons r rest=>exact ok.sm D (by lia) (j+1,r) (zqg (by rw[h];simp))
def zvb(H:List Bk)(v0 v1 v2:ll)(k p:Nat)(bk D:Bk)(Z:H[k]?=some bk)(a:H[p]?=some D)(sk:SmB bk)(sp:SmB D) :
  yq [v0,v1,v2,some (.sh (.lst (H.map kD))),some (.sh (.int (p:Int))),some (.sh (.int (0+(k:Int))))] =
   some (.nx,[v0,v1,v2,some (.sh (.lst (H.map kD))),some (.sh (.int ((if gt bk D then k else p:Nat):Int))),some (.sh (.int (0+(k:Int))))]):=by
 rw[lp];have R:atI (H.map kD) (k:Int)=some (kD bk):=lb kD Z;have U:atI (H.map kD) (p:Int)=some (kD D):=lb kD a;have V:∀b:Bk,dIx (kD b) (.int 1)=some (.int b.2.1):=λ_=>rfl;have Y:∀b:Bk,dIx (kD b) (.int 2)=some (.int b.2.2):=λ_=>rfl;by_cases J:gt bk D
 ·have I:D.2.2*bk.2.1<bk.2.2*D.2.1:=J
  rw[if_pos J];simp only[yq,sIf,sSet,sNil,fTst,fBin,fIxV,ixSl,fVar,fC,af,ai,ac,ak,ax,az,R,U,V,Y,xk sk.2,xk sp.2,dGt,decide_eq_true I,if_true]
 ·have I:¬D.2.2*bk.2.1<bk.2.2*D.2.1:=J
  rw[if_neg J];simp only[yq,sIf,sSet,sNil,fTst,fBin,fIxV,ixSl,fVar,fC,af,ai,ac,ak,ax,az,R,U,V,Y,xk sk.2,xk sp.2,dGt,decide_eq_false I,bz,if_false]
theorem z1r(ok:TurnsOk (iq n (t::ts)) (t::ts))(R:∀x∈(iq n (t::ts)).flatten,i9 x)(b:(iq n (t::ts)).flatten.length<=14)(v0 v1 v2 v5:ll) :
  ∃I,forL 5 yq (rngD 0 n) [v0,v1,v2,some (.sh (.lst ((n6 n (t::ts)).map kD))),some (.sh (.int 0)),v5] =
   some (.nx,[v0,v1,v2,some (.sh (.lst ((n6 n (t::ts)).map kD))),some (.sh (.int ((t.1-1:Nat):Int))),I]):=by
 have lo:=ok.lo t (by simp);rw[mi] at lo;have U:t.1-1<n:=by lia
 obtain⟨e',h1,p,I,rfl,_,J,D⟩:=tu (i:=5) (g:=yq) (λk e=>∃(p:Nat) (v5:ll),e=[v0,v1,v2,some (.sh (.lst ((n6 n (t::ts)).map kD))),some (.sh (.int (p:Int))),v5]/\p<n/\(k<=t.1-1->p<=t.1-1/\(p<k\/p=0))/\(t.1-1<k->p=t.1-1))
  (rngD 0 n) [v0,v1,v2,some (.sh (.lst ((n6 n (t::ts)).map kD))),some (.sh (.int 0)),v5] ⟨0,v5,rfl,by lia,λ_=>⟨gp _,.inr rfl⟩,λh=>absurd h (Nat.not_lt_zero _)⟩ (by
    rintro k d e V ⟨p,v5,rfl,hpn,J,D⟩;obtain⟨rfl,c⟩:=tj V;have body:=zvb (n6 n (t::ts)) v0 v1 v2 k p _ _ (zlp c) (zlp hpn) (z5d ok R b k) (z5d ok R b p);refine⟨_,body,_,_,rfl,?_,λf=>?_,λY=>?_⟩
    ·split <;> lia
    ·have:=J (by lia)
     split
     ·exact⟨by lia,.inl (by lia)⟩
     ·exact⟨this.1,by lia⟩
    ·rcases Nat.lt_or_eq_of_le (Nat.le_of_lt_succ Y) with hlt' | heq
     ·have Z:=D hlt'
      subst Z;rw[zk6 ok,if_neg (zzm ok R k).1]
     ·have:=J (by lia)
      subst heq;rw[zk6 ok];by_cases a:p=t.1-1
      ·subst a
       rw[zk6 ok,if_neg (λz=>ur z z)]
      ·rw[if_pos ((zzm ok R p).2 (by lia))])
 rw[tx] at D;have Z:=D U;subst Z;exact⟨I,h1⟩
noncomputable def zru:FT:=fTst (fBin dGt (d7 bSum (au (fLst (ip (fiV 1) [] fYes (ii 0))) (fNil))) (fC (.int 0)))
theorem zs3(ok:TurnsOk (iq n (t::ts)) (t::ts))(f:∀x∈(iq n (t::ts)).flatten,i9 x)(g:(iq n (t::ts)).flatten.length<=14)(C:n<=1000)(v0 h i v5:ll)(M:k8)(E:M.length<=1000) :
  ∃k l Y,ze5 [v0,some (.ow ((iq n (t::ts)).map λs=>D.lst (s.map sD))),some (.ow M),h,i,v5]=some (.nx,[v0,some (.ow ((iq n ts).map λs=>D.lst (s.map sD))),some (.ow (M++[tnD t])),k,l,Y]):=by
 have lo:=ok.lo t (by simp);rw[mi] at lo;have c:=nr (te:=d7 z9 (au (fVar 0) (fNil))) (base:=[]) (λj:Nat=>D.lst ((ofS (t::ts) j).flatten.map sD)) (λj:Nat=>kD (hT (ofS (t::ts) j))) (List.range n) (λj V=>by
  have V:j<n:=j3.mp V;have m:=z1q (ofS (t::ts) j) (z5c ok.srt) (λr o=>ok.good _ (zqg o)) (λx p=>f x (zs2 V x p)) (df (zva V) g);refine⟨[some (.sh (.lst ((ofS (t::ts) j).flatten.map sD)))],?_⟩;simp only[d7,au,fVar,fNil,af,ac,m,ak])
 have q:(List.range n).map (λj:Nat=>kD (hT (ofS (t::ts) j)))=(n6 n (t::ts)).map kD:=by unfold n6;rw[iw];rfl
 rw[q,<-zs1] at c;obtain⟨Y,u⟩:=z1r ok f g v0 (some (.ow ((iq n (t::ts)).map λs=>D.lst (s.map sD)))) (some (.ow M)) v5;have Z:atI ((n6 n (t::ts)).map kD) ((t.1-1:Nat):Int)=some (kD (blk t.2)):=by
  rw[<-zk6 ok];exact lb kD (zlp (by lia))
 have R:=zmr (ts:=ts) lo.1 lo.2;have U:=zqe (ts:=ts) lo.1 lo.2;have a:atI ((iq n (t::ts)).map λs=>D.lst (s.map sD)) ((t.1-1:Nat):Int)=some (.lst ((t.2++(ofS ts (t.1-1)).flatten).map sD)):=lb (λs:l0=>D.lst (s.map sD)) R;have I:=zu9 (t.2.map sD) ((ofS ts (t.1-1)).flatten.map sD);rw[<-dh,ah] at I;have b:ixN ((iq n (t::ts)).map λs=>D.lst (s.map sD)).length ((t.1-1:Nat):Int)=some (t.1-1):=by
  rw[qr (by lia) (by rw[ah,mi];lia)];congr 1
 have J:((iq n (t::ts)).map λs=>D.lst (s.map sD)).set (t.1-1) (.lst ((ofS ts (t.1-1)).flatten.map sD))=(iq n ts).map λs=>D.lst (s.map sD):=by
  rw[U,gw]
 have v:Few ((iq n (t::ts)).map λs=>D.lst (s.map sD)).length:=few (by rw[ah,mi];lia);have d:Few (M.length+1):=few (by lia);have hi:iR1 [.int (((n6 n (t::ts)).map kD).length:Int)]=some (rngD 0 n):=by
  rw[ah,show(n6 n (t::ts)).length=n by simp[n6]];exact nk n (by lia)
 have w:((t.1-1:Nat):Int)+1=(t.1:Int):=by lia
 generalize ((n6 n (t::ts)).map kD)=HL at *;generalize y:((t.1-1:Nat):Int)=pp at *;have z:dIx (kD (blk t.2)) (.int 0)=some (.int (t.2.length:Int)):=rfl;have A:dIx (kD (blk t.2)) (.int 1)=some (.int (hrs t.2)):=rfl;have B:dIx (kD (blk t.2)) (.int 2)=some (.int (lss t.2)):=rfl;have e:D.tup [.int (t.1:Int),.int (t.2.length:Int),.int (hrs t.2),.int (lss t.2)]=tnD t:=rfl;refine⟨some (.sh (.lst HL)),some (.sh (.int pp)),Y,?_⟩;simp only[ze5,sSeq,sSet,sFor,jg,xm,zwy,fLst,ip,fiV,i5,au,fNil,ii,fC,qv,y8,fTup,fBin,ja,fIxV,ixSl,fVar,fSl,fO0,fO1,af,ai,ac,ak,ax,az,du,v,d,if_true,c,hi,u,Z,z,A,B,w,e,a,I,b,J,am,b6,show(0+1+1+1+1<=64)=True by simp]
theorem zlq{n:Nat}(q:n<=1000)(v0:ll):∀(ts:mv) (I:Nat) (U V v5:ll) (M:k8),ts.length<I->M.length+ts.length<=1000->TurnsOk (iq n ts) ts->(∀x∈(iq n ts).flatten,i9 x)->(iq n ts).flatten.length<=14 ->
  ∃Z b d g,mn zru ze5 I [v0,some (.ow ((iq n ts).map λs=>D.lst (s.map sD))),some (.ow M),U,V,v5]=some (.nx,[v0,Z,some (.ow (M++ts.map tnD)),b,d,g])
 | _,0,_,_,_,_,h,_,_,_,_=>by lia
 | ts,f+1,U,V,v5,M,h,hM,ok,hg,hl=>by
   have c:=nr (te:=ii 0) (base:=[]) (λs:l0=>D.lst (s.map sD)) (λs:l0=>D.int (s.length:Int)) (iq n ts) λs _=>⟨_,by simp;rfl⟩;have r:=xg (λs:l0=>(s.length:Int)) (iq n ts);have v:Few ((iq n ts).map λs=>D.lst (s.map sD)).length:=few (by rw[ah,mi];lia);have Y:((iq n ts).map λs:l0=>(s.length:Int)).sum=((ts.map (·.2)).flatten.length:Int):=by
    have e:∀l:mu,(l.map λs:l0=>(s.length:Int)).sum=(l.flatten.length:Int):=λl=>by
     induction l with
     | nil=>rfl
     | cons a l i=>rw[ci,gc,i,cw,ao];lia
    rw[e,ok.perm.length_eq]
   rw[Y] at r;have w:zru [v0,some (.ow ((iq n ts).map λs=>D.lst (s.map sD))),some (.ow M),U,V,v5]=some (decide (0<((ts.map (·.2)).flatten.length:Int)),[v0,some (.ow ((iq n ts).map λs=>D.lst (s.map sD))),some (.ow M),U,V,v5]):=by
    unfold zru;generalize ((iq n ts).map λs=>D.lst (s.map sD))=L at *;simp[ip,fiV,v,c,r]
   unfold mn;rw[w,ac];dsimp only;cases ts with
   | nil =>
     rw[if_neg (by simp)];exact⟨some (.ow ((iq n []).map λs=>D.lst (s.map sD))),U,V,v5,by rw[du,de]⟩
   | cons t ts =>
     have u:0<t.2.length:=iy.mpr (ok.good t (by simp)).ne;rw[if_pos (by simp[decide_eq_true_eq];lia)];obtain⟨b,d,g,R⟩:=zs3 ok hg hl q v0 U V v5 M (by simp at hM;lia);rw[R,ac];dsimp only;have j:=ok.tail;have lo:=ok.lo t (by simp);rw[mi] at lo;have J:(t.2++(iq n ts).flatten).Perm (iq n (t::ts)).flatten:=by
      rw[zpd lo.1 lo.2];exact(zln (o6 (by lia))).symm
     have k:=J.length_eq;rw[ao] at k;obtain⟨Z,m,o,p,i⟩:=zlq q v0 ts f b d g (M++[tnD t]) (by simp at h;lia) (by simp at hM ⊢;lia) j (λx y=>hg x (J.mem_iff.mp (b8 _ y))) (by lia);exact⟨Z,m,o,p,by rw[i];simp⟩
theorem zm(ok:TurnsOk ss ts)(J:∀x∈ss.flatten,i9 x)(R:ss.flatten.length<=14)(d:ss.length<=900):z7 [ssL ss]=some (.lst (ts.map tnD)):=by
 have U:=ok.len;have I:=ok.left;have c:=nr (te:=fLst (i5 nz (au (fVar 0) (fNil)))) (base:=[]) (λs:l0=>D.lst (s.map sD)) (λs:l0=>D.lst (s.map sD)) ss λs _=>⟨_,by simp;rfl⟩;have V:Few (ss.map λs=>D.lst (s.map sD)).length:=few (by rw[ah];lia);obtain⟨Y,Z,a,b,h⟩:=zlq (n:=ss.length) (by lia) (some (.sh (ssL ss))) ts 10000 none none none [] (by lia) (by simp;lia) (by rw[I];exact ok) (by rw[I];exact J) (by rw[I];exact R);rw[I,lu] at h;refine j6 (e':=[some (.sh (ssL ss)),Y,some (.sh (.lst (ts.map tnD))),Z,a,b]) rfl ?_;show zim [some (.sh (.lst (ss.map λs=>D.lst (s.map sD)))),none,none,none,none,none]=_;unfold zru ssL at h;unfold ssL;generalize (ss.map λs=>D.lst (s.map sD))=L at *;simp[zim,ip,V,c,h]
def gz(ts:mv):h8:=(ts.map λt=>List.replicate t.2.length t.1).flatten
def iD(I:h8):k8:=I.map λn:Nat=>D.int (n:Int)
def rg(a b:mv):gz (a++b)=gz a++gz b:=by simp[gz]
def wb(t:Tn):gz [t]=List.replicate t.2.length t.1:=by simp[gz]
def zpe(ts:mv):(gz ts).length=(ts.map (·.2)).flatten.length:=by
 induction ts with
 | nil=>rfl
 | cons t ts ih =>
   rw[show t::ts=[t]++ts from rfl,rg,wb,ao,fb,ih];simp
def zqh(d:D)(k:Nat):(List.replicate k [d]).flatten=List.replicate k d:=by simp_all
def zzn(a b:h8):iD (a++b)=iD a++iD b:=by simp[iD]
def zzo(k a:Nat):iD (List.replicate k a)=List.replicate k (.int (a:Int)):=by simp[iD]
def zzp(a:h8):(iD a).length=a.length:=by simp[iD]
theorem bndN(k:Nat)(h:k<=1000000):Bnd (-(2 ^ 62)) (2 ^ 62) (k:Int):=⟨by lia,by lia⟩
theorem z1s(ok:TurnsOk ss ts)(U:∀x∈ss.flatten,i9 x)(R:ss.flatten.length<=14)(V:ss.length<=900):zp7 [ssL ss]=some (iD (gz ts)):=by
 have Y:=zm ok U R V;have I:(gz ts).length<=14:=by rw[zpe,ok.perm.length_eq];exact R
 obtain⟨e',h1,v2,rfl⟩:=vy (i:=2) (g:=zhj) tnD (λp e=>∃v2,e=[some (.sh (ssL ss)),some (.ow (iD (gz p))),v2]) ts
  [some (.sh (ssL ss)),some (.ow []),none] ⟨none,rfl⟩ (by
   rintro p t q e J ⟨v2,rfl⟩;have Z:(gz p).length+t.2.length<=14:=by
    rw[J,rg,show t::q=[t]++q from rfl,rg,wb] at I;simp at I
    lia
   have a:Few (1*t.2.length):=few (by lia);have f2:Few ((iD (gz p)).length+(List.replicate t.2.length (D.int (t.1:Int))).length):=few (by rw[zzp,fb];lia);have b:=bndN t.2.length (by lia);have c:iD (gz p)++List.replicate t.2.length (D.int (t.1:Int))=iD (gz (p++[t])):=by rw[rg,wb,zzn,zzo]
   refine⟨[some (.sh (ssL ss)),some (.ow (iD (gz (p++[t])))),some (.sh (tnD t))],?_,_,rfl⟩;rw[<-c];unfold tnD;simp only[zhj,sOwn,fCat,fVar,fLst,fRep,fz,au,fIxV,ixSl,fC,fNil,af,ai,ac,ak,ax,az,z6t,z6u,am,b6,show(0+1<=64)=True by simp,if_true,f8,jy,a,b,and_self,zqh,f2])
 refine zqf (e':=[some (.sh (ssL ss)),some (.ow (iD (gz ts))),v2]) rfl ?_;show zjg [some (.sh (ssL ss)),none,none]=_;simp[zjg,Y,h1]
theorem zfw(ok:TurnsOk ss ts)(U:zea [ssL ss]=some (.lst (ts.map tnD)))(Z:ss.flatten.length<=14):wg [ssL ss]=some (iD (gz ts)):=by
 have I:(gz ts).length<=14:=by rw[zpe,ok.perm.length_eq];exact Z
 obtain⟨e',h1,v2,J,R,v5,rfl⟩:=zn (ix:=[2,3,4,5]) (g:=ze4) (λt:Tn=>[D.int (t.1:Int),.int (t.2.length:Int),.int (hrs t.2),.int (lss t.2)]) (λp e=>∃v2 J R v5,e=[some (.sh (ssL ss)),some (.ow (iD (gz p))),v2,J,R,v5]) ts
  [some (.sh (ssL ss)),some (.ow []),none,none,none,none] ⟨none,none,none,none,rfl⟩ (λ_ _=>rfl) (by
   rintro p t q e V ⟨v2,J,R,v5,rfl⟩;have a:(gz p).length+t.2.length<=14:=by
    rw[V,rg,show t::q=[t]++q from rfl,rg,wb] at I;simp at I
    lia
   have b:Few (1*t.2.length):=few (by lia);have f2:Few ((iD (gz p)).length+(List.replicate t.2.length (D.int (t.1:Int))).length):=few (by rw[zzp,fb];lia);have c:=bndN t.2.length (by lia);have d:iD (gz p)++List.replicate t.2.length (D.int (t.1:Int))=iD (gz (p++[t])):=by rw[rg,wb,zzn,zzo]
   refine⟨[some (.sh (ssL ss)),some (.ow (iD (gz (p++[t])))),some (.sh (.int (t.1:Int))),some (.sh (.int (t.2.length:Int))),some (.sh (.int (hrs t.2))),some (.sh (.int (lss t.2)))],?_,_,_,_,_,rfl⟩;rw[<-d];simp only[sw,ze4,jg,zng,z04,fRep,fz,au,fVar,fNil,af,ai,ac,ak,ax,az,am,b6,show(0+1<=64)=True by simp,if_true,f8,jy,b,c,and_self,zqh,f2])
 refine zqf (e':=[some (.sh (ssL ss)),some (.ow (iD (gz ts))),v2,J,R,v5]) rfl ?_;show zil [some (.sh (ssL ss)),none,none,none,none,none]=_;have Y:forU [2,3,4,5] ze4 (ts.map tnD) [some (.sh (ssL ss)),some (.ow []),none,none,none,none]=_:=h1;simp[zil,U,Y]
def z1t(I:h8):iD I=(I.map λn:Nat=>(n:Int)).map D.int:=by unfold iD;rw[iw];rfl
def zqi(D:h8)(I:D.length<=1000):zby [.lst (iD D),.lst (iD D)]=some (.bl true):=by
 rw[z1t];exact zlo _ (by rw[ah];exact I)
structure Whole (ss:mu) (os:h8):Prop where
 lo:∀a∈os,1<=a/\a<=ss.length
 cnt:∀(j:Nat) (s:l0),ss[j]?=some s->os.count (j+1)=s.length
theorem zvc(m:Nat):∀n:Nat,((List.range n).map λj=>if j=m then 1 else 0).sum=if m<n then 1 else 0
 | 0=>by simp
 | n+1=>by
   rw[sd,dh,List.sum_append,zvc m n];simp only[ci,du,gc,List.sum_nil];by_cases h1:m<n
   ·rw[if_pos h1,if_neg (by lia),if_pos (by lia)];rfl
   ·rw[if_neg h1]
    by_cases h2:n=m
    ·rw[if_pos h2,if_pos (by lia)];rfl
    ·rw[if_neg h2,if_neg (by lia)];rfl
theorem zvd{α:Type}(f g:α->Nat):∀l:List α,(l.map λx=>f x+g x).sum=(l.map f).sum+(l.map g).sum
 | []=>rfl
 | x::l=>by
   simp[gc,zvd f g l]
   lia
theorem zve(n:Nat):∀(p:h8),(∀a∈p,1<=a/\a<=n)->((List.range n).map λj=>p.count (j+1)).sum=p.length
 | [],_=>by
   have:∀l:h8,(l.map λj=>([]:h8).count (j+1)).sum=0:=λl=>by
    induction l with
    | nil=>rfl
    | cons a l D=>rw[ci,gc,D];rfl
   rw[this];rfl
 | a::p,h=>by
   have D:=zve n p λb J=>h b (ay _ J);have R:=h a bq;have e:(λj=>(a::p).count (j+1))=λj=>p.count (j+1)+if j=a-1 then 1 else 0:=by
    funext j;rw[List.count_cons];by_cases I:j=a-1
    ·rw[if_pos I,if_pos (by simp;lia)]
    ·rw[if_neg I,if_neg (by simp;lia)]
   rw[e,zvd,D,zvc,if_pos (by lia),am]
def zx8(ss:mu):((List.range ss.length).map λj=>(ss.getD j []).length).sum=ss.flatten.length:=by
 have:(List.range ss.length).map (λj=>(ss.getD j []).length)=ss.map List.length:=by
  apply dz;intro i;by_cases h:i<ss.length
  ·simp[h]
  ·simp[h]
 rw[this,iz]
variable{os:h8}
def Whole.len(h:Whole ss os):os.length=ss.flatten.length:=by
 rw[<-zve ss.length os h.lo,<-zx8];congr 1;apply List.map_congr_left;intro j D;have D:j<ss.length:=j3.mp D;rw[h.cnt j ss[j] (by simp[D])];simp[D]
def zvf{P:List α->Prop}(D:P [])(I:∀p a,P p->P (p++[a]))(p:List α):P p:=by
 have:∀l:List α,P l.reverse:=λl=>by
  induction l with
  | nil=>exact D
  | cons a l ih=>rw[List.reverse_cons];exact I _ _ ih
 rw[<-List.reverse_reverse p];exact this _
def ug(ss:mu)(a c:Nat):Sk:=(ss.getD (a-1) []).getD c (0,0,0)
def tk(ss:mu)(os:h8):l0:=(List.range os.length).map λi=>ug ss (os.getD i 0) ((os.take i).count (os.getD i 0))
theorem zqj(ss:mu)(p:h8)(a:Nat):tk ss (p++[a])=tk ss p++[ug ss a (p.count a)]:=by
 unfold tk;rw[ao,jm,sd,dh];congr 1
 ·apply List.map_congr_left
  intro i hi;have hi:i<p.length:=j3.mp hi;have D:(p++[a]).getD i 0=p.getD i 0:=by
   rw[bx,bx,aw hi]
  rw[D,gq (by lia)]
 ·have D:(p++[a]).getD p.length 0=a:=by simp
  simp only[ci,du];rw[D,j2]
def zzq(ss:mu)(os:h8):(tk ss os).length=os.length:=by simp[tk]
theorem Whole.at{ss:mu}{p q:h8}{a:Nat}(h:Whole ss (p++a::q)):∃s,ss[a-1]?=some s/\p.count a<s.length/\s[p.count a]?=some (ug ss a (p.count a))/\1<=a/\a<=ss.length:=by
 obtain⟨h1,h2⟩:=h.lo a (by simp);have D:a-1<ss.length:=by lia
 have J:=h.cnt (a-1) ss[a-1] (by simp[D]);rw[show a-1+1=a by lia,List.count_append,List.count_cons_self] at J;have I:p.count a<ss[a-1].length:=by lia
 refine⟨ss[a-1],by simp[D],I,?_,h1,h2⟩;unfold ug;simp[D,I]
theorem zrv(ts:mv)(j:Nat):(gz ts).count (j+1)=(ofS ts j).flatten.length:=by
 induction ts with
 | nil=>simp[gz,ofS]
 | cons t ts ih =>
   rw[show t::ts=[t]++ts from rfl,rg,wb,List.count_append,ih];by_cases e:t.1=j+1
   ·rw[ib,zz t ts j e,cw,ao,e,List.count_replicate_self]
   ·rw[ib,zhw t ts j e,List.count_replicate,if_neg (by simpa using e)]
    lia
def TurnsOk.whole(ok:TurnsOk ss ts):Whole ss (gz ts):=by
 refine⟨λa I=>?_,λj s J=>?_⟩
 ·obtain⟨l,R,D⟩:=gi.mp I
  obtain⟨t,U,rfl⟩:=fy.mp R;rw[List.eq_of_mem_replicate D];exact ok.lo t U
 ·rw[zrv,ok.part j s J]
def cntD(n:Nat)(f:Nat->Int):k8:=(List.range n).map λj=>D.int (f j)
def znx(n:Nat)(f:Nat->Int):(cntD n f).length=n:=by simp[cntD]
def zqk(n:Nat)(f:Nat->Int)(j:Nat)(h:j<n):atI (cntD n f) (j:Int)=some (.int (f j)):=lb (λj:Nat=>D.int (f j)) (by simp[h])
def zrw(n:Nat)(f g:Nat->Int)(j:Nat)(h:∀i,i<n->i≠j->g i=f i):(cntD n f).set j (.int (g j))=cntD n g:=by
 apply dz;intro i;unfold cntD;rw[ie];by_cases hi:i<n
 ·by_cases e:j=i
  ·subst e;simp[hi]
  ·rw[if_neg e]
   simp[hi,h i hi (Ne.symm e)]
 ·by_cases e:j=i
  ·subst e;simp[hi]
  ·rw[if_neg e];simp[hi]
def zrx(n:Nat)(f:Nat->Int)(j:Nat)(h:j<n):(cntD n f)[j]?=some (.int (f j)):=by simp[cntD,h]
def zql(h:ds.length=ar)(D:g (jk n ds)=some (.nx,e')):runD n ar g ds=some .non:=by
 unfold runD;rw[if_pos h,D]
theorem zl1(J:1<=a)(R:a<=ss.length):zhl [ssL ss,.int (a:Int)]=some .non:=by
 have I:decide ((a:Int)<1)=false:=by simp;lia
 have n2:decide (((ss.map λs=>D.lst (s.map sD)).length:Int)<(a:Int))=false:=by rw[ah];simp;lia
 refine zql (e':=[some (.sh (ssL ss)),some (.sh (.int (a:Int)))]) rfl ?_;show zhk [some (.sh (ssL ss)),some (.sh (.int (a:Int)))]=_;unfold ssL;generalize (ss.map λs=>D.lst (s.map sD))=L at *;simp only[zhk,sIf,sNil,fOr,fTst,fBin,fVar,fC,ii,dLt,dGt,af,ai,ac,ak,ax,az,I,n2,bz,if_false]
def lenF(ss:mu)(p:h8)(j:Nat):Int:=((ss.getD j []).length:Int)-(p.count (j+1):Int)
def zx9(ss:mu):(ss.map λs=>D.int (s.length:Int))=cntD ss.length (lenF ss []):=by
 apply dz;intro i;unfold cntD lenF;by_cases h:i<ss.length
 ·simp[h]
 ·simp[h]
def zvg(ss:mu):m8 fYes (ii 0) [] (ss.map λs=>D.lst (s.map sD))=some (cntD ss.length (lenF ss [])):=by
 rw[<-zx9];exact nr (te:=ii 0) (base:=[]) (λs:l0=>D.lst (s.map sD)) (λs:l0=>D.int (s.length:Int)) ss λs _=>⟨_,by simp;rfl⟩
def zu(p:h8)(a b:Nat):(p++[a]).count b=p.count b+if a=b then 1 else 0:=by
 by_cases h:a=b
 ·simp[h]
 ·simp[h]
theorem zvh(ss:mu)(p:h8)(a:Nat)(h1:1<=a):lenF ss (p++[a]) (a-1)=lenF ss p (a-1)-1/\∀i,i≠a-1->lenF ss (p++[a]) i=lenF ss p i:=by
 unfold lenF;refine⟨?_,λi hi=>?_⟩
 ·rw[zu,if_pos (by lia)];lia
 ·rw[zu,if_neg (by lia)];lia
def zs4(h:Whole ss os)(j:Nat)(D:j<ss.length):lenF ss os j=0:=by
 unfold lenF;rw[h.cnt j ss[j] (by simp[D])];simp[D]
variable{p:h8}
theorem zya(h:Whole ss (p++a::q)):0<lenF ss p (a-1):=by
 obtain⟨s,D,I,_,h1,h2⟩:=h.at;unfold lenF;rw[show a-1+1=a by lia,bx,D];simp
 lia
def zvi(n:Nat)(f:Nat->Int):ints? (cntD n f)=some ((List.range n).map f):=by
 have:cntD n f=((List.range n).map f).map D.int:=by unfold cntD;rw[iw];rfl
 rw[this,zt7]
theorem zry(f:Nat->Int):∀n:Nat,(∀j,j<n->f j=0)->((List.range n).map f).sum=0
 | 0,_=>rfl
 | n+1,h=>by
   rw[sd,dh,List.sum_append,zry f n λj D=>h j (by lia)];simp[h n (by lia)]
theorem zl2(h:Whole ss os)(u:ss.length<=1000):zhn [ssL ss,.lst (iD os)]=some .non:=by
 obtain⟨e',h1,V,rfl⟩:=vy (i:=3) (g:=zed) (λa:Nat=>D.int (a:Int)) (λp e=>∃V,e=[some (.sh (ssL ss)),some (.sh (.lst (iD os))),some (.ow (cntD ss.length (lenF ss p))),V]) os
  [some (.sh (ssL ss)),some (.sh (.lst (iD os))),some (.ow (cntD ss.length (lenF ss []))),none] ⟨none,rfl⟩ (by
   rintro p a q e Y ⟨V,rfl⟩;have d:Whole ss (p++a::q):=by rw[<-Y];exact h
   obtain⟨s,v,f,_,k,w⟩:=d.at;have x:=zya d;obtain⟨l,m⟩:=zvh ss p a k;have Z:(a:Int)-1=((a-1:Nat):Int):=by lia
   have b:=zqk ss.length (lenF ss p) (a-1) (by lia);have R:=zrx ss.length (lenF ss p) (a-1) (by lia);have I:=zrw ss.length (lenF ss p) (lenF ss (p++[a])) (a-1) (λi _ hi=>m i hi);rw[l] at I;have n:decide (lenF ss p (a-1)=0)=false:=by simp;lia
   have c:a-1<(cntD ss.length (lenF ss p)).length:=by rw[znx];lia
   have o:(0:Int)<=((a-1:Nat):Int):=by lia
   refine⟨[some (.sh (ssL ss)),some (.sh (.lst (iD os))),some (.ow (cntD ss.length (lenF ss (p++[a])))),some (.sh (.int (a:Int)))],?_,_,rfl⟩;rw[<-I];generalize cntD ss.length (lenF ss p)=L at *;simp only[zed,sSeq,sIf,sNil,uh,zxf,fTst,fBin,fIxV,ixSl,fVar,fC,dSub,dEq,af,ai,ac,ak,ax,az,Z,b,n,bz,if_false,o,if_true,f8,R,c])
 have Z:((List.range ss.length).map (lenF ss os)).sum=0:=zry _ _ λj r=>zs4 h j r;have J:=zvi ss.length (lenF ss os);have f:=zvg ss;have t:Few (ss.map λs=>D.lst (s.map sD)).length:=few (by rw[ah];lia);refine zql (e':=[some (.sh (ssL ss)),some (.sh (.lst (iD os))),some (.ow (cntD ss.length (lenF ss os))),V]) rfl ?_;show zhm [some (.sh (ssL ss)),some (.sh (.lst (iD os))),none,none]=_;have U:forL 3 zed (iD os) [some (.sh (ssL ss)),some (.sh (.lst (iD os))),some (.ow (cntD ss.length (lenF ss []))),none]=_:=h1;unfold ssL at U ⊢;generalize iD os=O at *;generalize (ss.map λs=>D.lst (s.map sD))=L at *;simp[zhm,ip,zxk,t,f,U,J,Z,Int.lt_irrefl]
def zl3(h:Whole ss os)(R:ss.length<=1000):zhp [ssL ss,.lst (iD os)]=some .non:=by
 obtain⟨e',h1,v2,rfl⟩:=vy (i:=2) (g:=zee) (λa:Nat=>D.int (a:Int)) (λp e=>∃v2,e=[some (.sh (ssL ss)),some (.sh (.lst (iD os))),v2]) os
  [some (.sh (ssL ss)),some (.sh (.lst (iD os))),none] ⟨none,rfl⟩ (by
   rintro p a q e I ⟨v2,rfl⟩;obtain⟨U,V⟩:=h.lo a (by rw[I];simp);have Y:=zl1 (ss:=ss) U V;simp[zee,Y])
 have h2:=zl2 h R;refine zql (e':=[some (.sh (ssL ss)),some (.sh (.lst (iD os))),v2]) rfl ?_;show zho [some (.sh (ssL ss)),some (.sh (.lst (iD os))),none]=_;have J:forL 2 zee (iD os) [some (.sh (ssL ss)),some (.sh (.lst (iD os))),none]=_:=h1;generalize iD os=O at *;simp[zho,J,h2]
def cntF(p:h8)(j:Nat):Int:=(p.count (j+1):Int)
theorem zvj(p:h8)(a:Nat)(h1:1<=a):cntF (p++[a]) (a-1)=cntF p (a-1)+1/\∀i,i≠a-1->cntF (p++[a]) i=cntF p i:=by
 unfold cntF;refine⟨?_,λi hi=>?_⟩
 ·rw[zu,if_pos (by lia)];lia
 ·rw[zu,if_neg (by lia)];lia
def zms(ss:mu):m8 fYes (fC (.int 0)) [] (ss.map λs=>D.lst (s.map sD))=some (cntD ss.length (cntF [])):=by
 rw[nr (te:=fC (.int 0)) (base:=[]) (λs:l0=>D.lst (s.map sD)) (λs:l0=>D.int 0) ss λs _=>⟨_,by simp;rfl⟩];congr 1;apply dz;intro i;unfold cntD cntF;by_cases h:i<ss.length
 ·simp[h]
 ·simp[h]
theorem zzr(R:Whole ss (p++a::q)) :
  (a:Int)-1=((a-1:Nat):Int)/\atI (cntD ss.length (cntF p)) ((a-1:Nat):Int)=some (.int (p.count a:Int))/\(cntD ss.length (cntF p))[a-1]?=some (.int (p.count a:Int)) /\
    (cntD ss.length (cntF p)).set (a-1) (.int ((p.count a:Int)+1))=cntD ss.length (cntF (p++[a]))/\a-1<(cntD ss.length (cntF p)).length/\ixN (cntD ss.length (cntF p)).length ((a-1:Nat):Int)=some (a-1) /\
    ∃s:l0,atI (ss.map λs=>D.lst (s.map sD)) ((a-1:Nat):Int)=some (.lst (s.map sD))/\atI (s.map sD) (p.count a:Int)=some (sD (ug ss a (p.count a))):=by
 obtain⟨s,U,c,V,Y,d⟩:=R.at;obtain⟨Z,b⟩:=zvj p a Y;have J:cntF p (a-1)=(p.count a:Int):=by unfold cntF;rw[show a-1+1=a by lia]
 have I:=zrw ss.length (cntF p) (cntF (p++[a])) (a-1) (λi _ hi=>b i hi);rw[Z,J] at I;refine⟨by lia,?_,?_,I,by rw[znx];lia,?_,s,lb (λs:l0=>D.lst (s.map sD)) U,lb sD V⟩
 ·rw[zqk _ _ _ (by lia),J]
 ·rw[zrx _ _ _ (by lia),J]
 ·rw[qr (by lia) (by rw[znx];lia)]
  congr 1
theorem zl4(h:Whole ss os)(k:ss.length<=1000)(j:os.length<=1000):zhr [ssL ss,.lst (iD os)]=some (.lst ((tk ss os).map sD)):=by
 obtain⟨e',h1,Y,rfl⟩:=vy (i:=4) (g:=zef) (λa:Nat=>D.int (a:Int)) (λp e=>∃Y,e=[some (.sh (ssL ss)),some (.sh (.lst (iD os))),some (.ow (cntD ss.length (cntF p))),some (.ow ((tk ss p).map sD)),Y]) os
  [some (.sh (ssL ss)),some (.sh (.lst (iD os))),some (.ow (cntD ss.length (cntF []))),some (.ow []),none] ⟨none,rfl⟩ (by
   rintro p a q e I ⟨Y,rfl⟩;have l:Whole ss (p++a::q):=by rw[<-I];exact h
   obtain⟨m,Z,J,R,b,n,s,c,d⟩:=zzr l;have f:Few (((tk ss p).map sD).length+1):=few (by rw[ah,zzq];rw[I] at j;simp at j;lia);have o:(0:Int)<=((a-1:Nat):Int):=by lia
   have r:dIx (.lst (s.map sD)) (.int (p.count a:Int))=some (sD (ug ss a (p.count a))):=d;refine⟨[some (.sh (ssL ss)),some (.sh (.lst (iD os))),some (.ow (cntD ss.length (cntF (p++[a])))),some (.ow ((tk ss (p++[a])).map sD)),some (.sh (.int (a:Int)))],?_,_,rfl⟩;rw[<-R,zqj,dh,ci,du];unfold ssL;generalize (tk ss p).map sD=M at *;generalize s.map sD=S at *;simp only[zef,sSeq,jg,uh,zxf,qv,y8,fBin,fIxV,ixSl,fVar,fC,dSub,ja,af,ai,ac,ak,ax,az,m,Z,c,r,f,o,if_true,f8,J,b])
 have U:=zl3 h k;have t:=zms ss;have f:Few (ss.map λs=>D.lst (s.map sD)).length:=few (by rw[ah];lia);refine j6 (e':=[some (.sh (ssL ss)),some (.sh (.lst (iD os))),some (.ow (cntD ss.length (cntF os))),some (.sh (.lst ((tk ss os).map sD))),Y]) rfl ?_;show zhq [some (.sh (ssL ss)),some (.sh (.lst (iD os))),none,none,none]=_;have V:forL 4 zef (iD os) [some (.sh (ssL ss)),some (.sh (.lst (iD os))),some (.ow (cntD ss.length (cntF []))),some (.ow []),none]=_:=h1;unfold ssL at V U ⊢;generalize (ss.map λs=>D.lst (s.map sD))=L at *;simp[zhq,ip,U,f,t,V]
def m7(h:Int):List (Nat×Sk)->List ia
 | []=>[]
 | x::r=>[x.2.1,(x.1:Int),h,h+x.2.2.1]::m7 (h+x.2.2.1) r
def zyb(x:Sk)(r:l0):hrs (x::r)=x.2.1+hrs r:=rfl
def zmt(x:Nat×Sk):∀(p:List (Nat×Sk)) (h:Int),m7 h (p++[x])=m7 h p++[[x.2.1,(x.1:Int),h+hrs (p.map (·.2)),h+hrs (p.map (·.2))+x.2.2.1]]
 | [],h=>by simp[m7,hrs]
 | y::p,h=>by
   rw[ky,m7,m7,zmt x p,ci,zyb];rw[<-Int.add_assoc];rfl
def zrz(x:Sk):wm [sD x]=some (.int x.2.1):=rfl
def zvk(x:Sk):ye [sD x]=some (.int x.2.2):=rfl
def zvl(x:Sk):zfu [sD x]=some (.int x.1):=rfl
def zlr:∀(p:List (Nat×Sk)) (h:Int),(m7 h p).length=p.length
 | [],_=>rfl
 | x::p,h=>by rw[m7,am,am,zlr p]
theorem zny(h:Whole ss os)(V:ss.length<=1000)(d:os.length<=900):zgk [ssL ss,.lst (iD os)]=some (.lst ((m7 0 (os.zip (tk ss os))).map iT)):=by
 have Y:=zl4 h V (by lia);obtain⟨e',h1,I,J,v5,R,rfl,rfl⟩:=zn (ix:=[4,5]) (g:=zgx) (λx:Nat×Sk=>[D.int (x.1:Int),sD x.2])
  (λp e=>∃I J v5 R,e=[some (.sh (ssL ss)),some (.sh (.lst (iD os))),some (.ow ((m7 0 p).map iT)),I,J,v5,R]/\I=some (.sh (.int (hrs (p.map (·.2)))))) (os.zip (tk ss os))
  [some (.sh (ssL ss)),some (.sh (.lst (iD os))),some (.ow []),some (.sh (.int 0)),none,none,none] ⟨_,none,none,none,rfl,rfl⟩ (λ_ _=>rfl) (by
   rintro p x q e U ⟨I,J,v5,R,rfl,rfl⟩;have Z:Few (((m7 0 p).map iT).length+1):=few (by
    rw[ah,zlr];have:=congrArg List.length U;simp[se] at this
    lia)
   have a:iT [x.2.1,(x.1:Int),0+hrs (p.map (·.2)),0+hrs (p.map (·.2))+x.2.2.1]=.tup [.int x.2.1,.int (x.1:Int),.int (hrs (p.map (·.2))),.int (hrs (p.map (·.2))+x.2.2.1)]:=by simp[iT]
   have b:hrs ((p++[x]).map (·.2))=hrs (p.map (·.2))+x.2.2.1:=by rw[dh,q9];simp[hrs]
   rw[zmt,dh,ci,du,a,b];generalize (m7 0 p).map iT=M at *;simp[sw,zgx,zrz,zvl,Z])
 refine j6 (e':=[some (.sh (ssL ss)),some (.sh (.lst (iD os))),some (.sh (.lst ((m7 0 (os.zip (tk ss os))).map iT))),some (.sh (.int (hrs ((os.zip (tk ss os)).map (·.2))))),J,v5,R]) rfl ?_;show zin [some (.sh (ssL ss)),some (.sh (.lst (iD os))),none,none,none,none,none]=_;have c:iZp [.lst (iD os),.lst ((tk ss os).map sD)]=some ((os.zip (tk ss os)).map λx=>D.tup [D.int (x.1:Int),sD x.2]):=by
  show some (zipD (iD os) ((tk ss os).map sD))=_;unfold iD;rw[zrt]
 simp only[zin,sSeq,sOwn,sSet,qk,sRet,fz,fNil,fC,i5,d7,au,fVar,af,ai,ac,ak,ax,az,b6,gp,if_true,Y,c,h1]
def zvm(p q:mv)(j:Nat):ofS (p++q) j=ofS p j++ofS q j:=by unfold ofS;rw[jd,dh]
theorem zvn(f:α->Int){l l':List α}(p:l.Perm l'):(l.map f).sum=(l'.map f).sum:=by
 induction p with
 | nil=>rfl
 | cons x _ ih=>simp[gc,ih]
 | swap x y l=>simp[gc];lia
 | trans _ _ h1 h2=>rw[h1,h2]
def r3(r:ia):Int:=r.getD 2 0
def srt(r:ia):ia:=[if r.getD 0 0<=r.getD 1 0 then r.getD 0 0 else r.getD 1 0,if r.getD 0 0<=r.getD 1 0 then r.getD 1 0 else r.getD 0 0]
def zyc(l:k8):isiT (tyD (D.lst l)) "list" = true:=rfl
theorem zqm(h:Whole ss os)(z:ss.length<=1000):zeg [.lst (iD os),ssL ss]=some (.bl true):=by
 obtain⟨e',h1,R,rfl⟩:=vy (i:=3) (g:=zdc) (λa:Nat=>D.int (a:Int)) (λp e=>∃R,e=[some (.sh (.lst (iD os))),some (.sh (ssL ss)),some (.ow (cntD ss.length (cntF p))),R,none]) os
  [some (.sh (.lst (iD os))),some (.sh (ssL ss)),some (.ow (cntD ss.length (cntF []))),none,none] ⟨none,rfl⟩ (by
   rintro p a q e Z ⟨R,rfl⟩;have j:Whole ss (p++a::q):=by rw[<-Z];exact h
   obtain⟨m,I,l,U,n,b,s,J,o⟩:=zzr j;obtain⟨_,_,_,_,A,B⟩:=j.at;have r:=vt (a:Int);have t:decide ((a:Int)<1)=false:=decide_eq_false (by lia);have u:decide ((a:Int) > ((ss.map λs=>D.lst (s.map sD)).length:Int))=false:=decide_eq_false (by rw[ah];lia);refine⟨[some (.sh (.lst (iD os))),some (.sh (ssL ss)),some (.ow (cntD ss.length (cntF (p++[a])))),some (.sh (.int (a:Int))),none],?_,_,rfl⟩;rw[<-U];unfold ssL;simp only[zdc,sSeq,sIf,sNil,xm,zwy,fOr,fNot,fTst,d7,au,fNil,fBin,fIxV,ixSl,ii,fVar,fC,dSub,ja,dLt,dGt,af,ai,ac,ak,ax,az,r,t,u,m,I,J,if_true,b,m6,bz,if_false])
 obtain⟨C,h2,Y,rfl⟩:=tu (i:=4) (g:=zev) (λk e=>∃Y,e=[some (.sh (.lst (iD os))),some (.sh (ssL ss)),some (.ow (cntD ss.length (cntF os))),R,Y]) (rngD 0 ss.length)
  [some (.sh (.lst (iD os))),some (.sh (ssL ss)),some (.ow (cntD ss.length (cntF os))),R,none] ⟨none,rfl⟩ (by
   rintro k d e v ⟨Y,rfl⟩;obtain⟨rfl,c⟩:=tj v;have I:=zqk ss.length (cntF os) k c;have J:atI (ss.map λs=>D.lst (s.map sD)) (k:Int)=some (.lst (ss[k].map sD)):=lb (λs:l0=>D.lst (s.map sD)) (av c);have f:cntF os k=(ss[k].length:Int):=by unfold cntF;rw[h.cnt k ss[k] (av c)]
   have w:bLen [.lst (ss[k].map sD)]=some (.int (ss[k].length:Int)):=by show some (D.int ((ss[k].map sD).length:Nat))=_;rw[ah]
   rw[f] at I;unfold ssL;simp[zev,I,J,w])
 have f:=zms ss;have x:Few (ss.map λs=>D.lst (s.map sD)).length:=few (by rw[ah];lia);have y:iR1 [.int ((ss.map λs=>D.lst (s.map sD)).length:Int)]=some (rngD 0 ss.length):=by rw[ah];exact nk _ (by lia)
 refine j6 (e':=[some (.sh (.lst (iD os))),some (.sh (ssL ss)),some (.ow (cntD ss.length (cntF os))),R,Y]) rfl ?_;show zf9 [some (.sh (.lst (iD os))),some (.sh (ssL ss)),none,none,none]=_;have V:forL 3 zdc (iD os) [some (.sh (.lst (iD os))),some (.sh (ssL ss)),some (.ow (cntD ss.length (cntF []))),none,none]=_:=h1;unfold ssL at V h2 ⊢;generalize (ss.map λs=>D.lst (s.map sD))=L at *;simp[zf9,ip,x,f,V,h2,y,zyc]
def cmp(h:Int):l0->Int->Int
 | [],_=>0
 | x::r,k=>if x.1=k then h+x.2.1 else cmp (h+x.2.1) r k
def PS(w C:Sk->Int)(P:Int):l0->Int
 | x::y::r=>-(P+w x)*(C y-C x-y.2.1)+PS w C (P+w x) (y::r)
 | _=>0
def z5e(U:Whole ss os)(V:ss[j]?=some s):s.Sublist (tk ss os):=by
 have J:∀p:h8,∀q,os=p++q->(s.take (p.count (j+1))).Sublist (tk ss p):=by
  apply zvf
  ·intro q _;simp
  ·intro p a I q R
   rw[dg,ib] at R;have I:=I (a::q) R;rw[zqj,zu];by_cases e:a=j+1
   ·subst e
    rw[if_pos rfl];obtain⟨s',D,Z,Y,_,_⟩:=(R ▸ U).at;rw[Nat.add_sub_cancel,V] at D;cases D;have:s.take (p.count (j+1)+1)=s.take (p.count (j+1))++[ug ss (j+1) (p.count (j+1))]:=by
     rw[List.take_succ,Y];rfl
    rw[this];exact List.Sublist.append I (List.Sublist.refl _)
   ·rw[if_neg e,Nat.add_zero]
    exact I.trans (List.sublist_append_left _ _)
 have:=J os [] (by simp);rw[U.cnt j s V,List.take_length] at this;exact this
theorem z65(ok:TurnsOk ss ts)(J:Whole ss os)(D:t∈ts):t.2.Sublist (tk ss os):=by
 obtain⟨h1,h2⟩:=ok.lo t D;have I:ss[t.1-1]?=some ss[t.1-1]:=av (by lia);refine List.Sublist.trans ?_ (z5e J I);rw[<-ok.part _ _ I];apply ek;refine fy.mpr ⟨t,i8.mpr ⟨D,?_⟩,rfl⟩;simp
 lia
theorem zzs{ss:mu}{a:Nat}{s:l0}(I:ss[a-1]?=some s)(p:h8):∀k:Nat,p.count a+k<=s.length->tk ss (p++List.replicate k a)=tk ss p++(s.drop (p.count a)).take k
 | 0,_=>by simp
 | k+1,h=>by
   rw[List.replicate_succ',<-dg,zqj,zzs I p k (by lia),dg];have D:p.count a+k<s.length:=by lia
   rw[List.take_succ];unfold ug;rw[bx,bx,I];simp[D]
theorem z1u(ok:TurnsOk ss ts):tk ss (gz ts)=(ts.map (·.2)).flatten:=by
 have I:∀p:mv,∀q,ts=p++q->tk ss (gz p)=(p.map (·.2)).flatten:=by
  apply zvf
  ·intro q _;rfl
  ·intro p t J q D
   rw[dg,ib] at D;have J:=J (t::q) D;obtain⟨h1,h2⟩:=ok.lo t (by rw[D];simp);have V:ss[t.1-1]?=some ss[t.1-1]:=av (by lia);have R:=ok.part _ _ V;rw[D,zvm,zz t q (t.1-1) (by lia),e7,cw] at R;have U:=zrv p (t.1-1);rw[show t.1-1+1=t.1 by lia] at U;rw[rg,wb,zzs V _ _ (by rw[U,<-R];simp),J,U,<-R];simp
 exact I ts [] (by simp)
theorem zvo(l:mu):(l.map λs:l0=>(s.length:Int)).sum=(l.flatten.length:Int):=by
 induction l with
 | nil=>rfl
 | cons a l ih=>rw[ci,gc,ih,cw,ao];lia
theorem zpf(ss:mu)(R:ss.length<=1000):ze6 [ssL ss]=some (.int (ss.flatten.length:Int)):=by
 have c:=nr (te:=ii 0) (base:=[]) (λs:l0=>D.lst (s.map sD)) (λs:l0=>D.int (s.length:Int)) ss λs _=>⟨_,by simp;rfl⟩;have I:=xg (λs:l0=>(s.length:Int)) ss;have J:Few (ss.map λs=>D.lst (s.map sD)).length:=few (by rw[ah];lia);rw[zvo] at I;refine j6 (e':=[some (.sh (ssL ss))]) rfl ?_;show zgy [some (.sh (ssL ss))]=_;unfold ssL;generalize (ss.map λs=>D.lst (s.map sD))=L at *;simp[zgy,ip,J,c,I]
theorem zqn(ss:mu)(R:∀s∈ss,s.length<=1000):zht [ssL ss]=some (.int (lss ss.flatten)):=by
 obtain⟨e',h1,v2,rfl⟩:=vy (i:=2) (g:=zeh) (λs:l0=>D.lst (s.map sD)) (λp e=>∃v2,e=[some (.sh (ssL ss)),some (.sh (.int (lss p.flatten))),v2]) ss
  [some (.sh (ssL ss)),some (.sh (.int 0)),none] ⟨none,rfl⟩ (by
   rintro p s q e I ⟨v2,rfl⟩;have c:=nr (te:=d7 ye (au (fVar 0) fNil)) (base:=[]) sD (λx:Sk=>D.int x.2.2) s λx _=>⟨_,by simp[zvk];rfl⟩;have U:=xg (λx:Sk=>x.2.2) s;have V:Few (s.map sD).length:=few (by rw[ah];have:=R s (by rw[I];simp);lia);have Y:lss (p++[s]).flatten=lss p.flatten+(s.map λx:Sk=>x.2.2).sum:=by rw[e7,qz];simp[lss]
   rw[Y];generalize s.map sD=L at *;simp[zeh,ip,V,c,U])
 refine j6 (e':=[some (.sh (ssL ss)),some (.sh (.int (lss ss.flatten))),v2]) rfl ?_;show zhs [some (.sh (ssL ss)),none,none]=_;have J:forL 2 zeh (ss.map λs=>D.lst (s.map sD)) [some (.sh (ssL ss)),some (.sh (.int 0)),none]=_:=h1;unfold ssL at *;simp[zhs,J]
theorem qo(h:ss[a-1]?=some s)(I:1<=a):atI (ss.map λs=>D.lst (s.map sD)) ((a:Int)-1)=some (.lst (s.map sD)):=by
 rw[show((a:Int)-1)=((a-1:Nat):Int) by lia];exact lb _ h
variable{x:Sk}
def zzt(h:ss[a-1]?=some (x::r))(D:1<=a):zi4 [ssL ss,.int (a:Int)]=some (sD x):=by
 have h1:=qo h D;have h2:atI ((x::r).map sD) (0:Int)=some (sD x):=lb sD (k:=0) rfl;refine j6 (e':=[some (.sh (ssL ss)),some (.sh (.int (a:Int)))]) rfl ?_;show zkg [some (.sh (ssL ss)),some (.sh (.int (a:Int)))]=_;unfold ssL;generalize (x::r).map sD=M at *;simp[zkg,h1,h2]
def zvp(l:List α)(k:Nat)(x:α)(h:k<l.length):l.take k++[x]++l.drop (k+1)=l.set k x:=by
 rw[List.set_eq_take_append_cons_drop,if_pos h];simp
def zr0(l:k8)(k:Nat)(h:k<=l.length):cutD l none (some (k:Int))=l.take k:=by
 have:=z1o (l.take k) (l.drop k);rwa [List.take_append_drop,dy,Nat.min_eq_left h] at this
def zl(l:k8)(k:Nat)(h:k<=l.length):cutD l (some (k:Int)) none=l.drop k:=by
 have:=zu9 (l.take k) (l.drop k);rwa [List.take_append_drop,dy,Nat.min_eq_left h] at this
theorem zhx(s:l0)(Z:1<=a)(b:a<=ss.length)(c:ss.length<=1000):yl [ssL ss,.int (a:Int),.lst (s.map sD)]=some (ssL (ss.set (a-1) s)):=by
 have d:(ss.map λs=>D.lst (s.map sD)).length=ss.length:=ah ..;have J:=zr0 (ss.map λs=>D.lst (s.map sD)) (a-1) (by lia);have R:=zl (ss.map λs=>D.lst (s.map sD)) a (by lia);have U:((a:Int)-1)=((a-1:Nat):Int):=by lia
 have I:=zvp (ss.map λs=>D.lst (s.map sD)) (a-1) (D.lst (s.map sD)) (by lia);rw[show a-1+1=a by lia] at I;have V:Few ((((ss.map λs=>D.lst (s.map sD)).take (a-1)).length)+(0+1)):=few (by simp only[dy];lia);have f2:Few (((ss.map λs=>D.lst (s.map sD)).take (a-1)++[D.lst (s.map sD)]).length+((ss.map λs=>D.lst (s.map sD)).drop a).length):=few (by simp[dy,d9];lia);have Y:ssL (ss.set (a-1) s)=.lst ((ss.map λs=>D.lst (s.map sD)).set (a-1) (D.lst (s.map sD))):=by unfold ssL;rw[gw]
 refine j6 (e':=[some (.sh (ssL ss)),some (.sh (.int (a:Int))),some (.sh (.lst (s.map sD)))]) rfl ?_;show zio [some (.sh (ssL ss)),some (.sh (.int (a:Int))),some (.sh (.lst (s.map sD)))]=_;rw[Y,<-I];unfold ssL;generalize s.map sD=M at *;simp only[zio,sRet,fLst,fCat,fSl,fO0,fO1,fz,au,fNil,fVar,fBin,fC,dSub,U,af,ai,ac,ak,J,R,V,f2,if_true,am,b6,show(0+1<=64)=True by simp]
theorem zmu(h:ss[a-1]?=some (x::r))(D:1<=a)(I:ss.length<=1000):zfv [ssL ss,.int (a:Int)]=some (ssL (ss.set (a-1) r)):=by
 have h1:=qo h D;have R:=(aj.mp h).1;have c:cutD ((x::r).map sD) (some ((1:Nat):Int)) none=((x::r).map sD).drop 1:=zl _ 1 (by simp);have J:=zhx (ss:=ss) r D (by lia) I;refine j6 (e':=[some (.sh (ssL ss)),some (.sh (.int (a:Int)))]) rfl ?_;show zhu [some (.sh (ssL ss)),some (.sh (.int (a:Int)))]=_;have c:cutD ((x::r).map sD) (some (1:Int)) none=r.map sD:=c;unfold ssL at *;generalize (x::r).map sD=M at *;simp[zhu,h1,c,J]
variable{p:List Hs}
theorem z5f{p b:l0}{B:l0}(h:B=p++b)(g:Good B):¬gt (blk B) (blk b):=by
 have h1:=g.beg p ⟨b,h.symm⟩;have D:hrs B=hrs p+hrs b:=by rw[h,q9]
 have I:lss B=lss p+lss b:=by rw[h,qz]
 show ¬lss b*hrs B<lss B*hrs b;rw[D,I] at h1 ⊢;simp only[im,jo] at h1 ⊢
 lia
def zyd(a:Nat)(D:mu)(j:Nat):ofS (D.map λb=>(a,b)) j=if a=j+1 then D else[]:=by
 unfold ofS;induction D with
 | nil=>simp
 | cons b r ih =>
   rw[ci];by_cases h:a=j+1
   ·rw[ku (by simp[h]),ci,ih,if_pos h,if_pos h]
   ·rw[kv (by simp[h]),ih,if_neg h,if_neg h]
def zs5(a:Nat)(D:mu):gz (D.map λb=>(a,b))=List.replicate D.flatten.length a:=by
 unfold gz;induction D with
 | nil=>simp
 | cons b r ih =>
   rw[ci,ci,cw,ih,cw,ao,List.replicate_append_replicate]
theorem zpg(ok:TurnsOk ss ((a,x::r)::ts))(w:∀y∈ss.flatten,i9 y)(i:ss.flatten.length<=14) :
  ∃tl V,ss[a-1]?=some (x::tl)/\1<=a/\a<=ss.length/\TurnsOk (ss.set (a-1) tl) V/\gz V=List.replicate r.length a++gz ts/\(V.map (·.2)).flatten=r++(ts.map (·.2)).flatten:=by
 have lo:=ok.lo (a,x::r) (by simp);have G:=ok.good (a,x::r) (by simp);have Y:=ok.sk w (a,x::r) (by simp);have k:=ok.len1 (a,x::r) (by simp);have l:=ok.left;have J:=zmr (n:=ss.length) (t:=(a,x::r)) (ts:=ts) lo.1 lo.2;rw[l] at J;obtain⟨I,R,_⟩:=ziq r (λy m=>Y y (by simp[m])) (by rw[am] at k;lia);have pos:∀b∈I,0<hrs b:=λb D=>qy b (λy m=>Y y (ay _ (by rw[<-R.flat];exact gi.mpr ⟨b,by simpa using D,m⟩))) (R.good b D).ne;have o:0<hrs (x::r):=qy _ Y (by simp);have A:=zqc I R.desc pos;have B:∀b∈I,¬gt (blk (x::r)) (blk b):=by
  cases I with
  | nil=>intro b D;cases D
  | cons bl rs' =>
    have p:x::r=(x::rs'.reverse.flatten)++bl:=by rw[<-R.flat];simp
    have C:=z5f p G;intro b D;rcases cb.mp D with rfl | hb'
    ·exact C
    ·exact z48 (pos b D) (pos bl (by simp)) o (λz=>ur ((fc.mp A).1 b hb') z) C
 have f:=ok.srt;obtain⟨q,v⟩:=fc.mp f;have g:∀t∈I.reverse.map (λb=>(a,b))++ts,1<=t.1/\t.1<=ss.length:=λt Z=>by
  rcases db.mp Z with h | h
  ·obtain⟨b,_,rfl⟩:=fy.mp h;exact lo
  ·exact ok.lo t (by simp[h])
 have d:iq ss.length (I.reverse.map (λb=>(a,b))++ts)=ss.set (a-1) (r++(ofS ts (a-1)).flatten):=by
  apply dz;intro j;by_cases U:j<ss.length
  ·rw[o6 U,ie,zvm,zyd]
   by_cases e:a-1=j
   ·subst e
    rw[if_pos (by lia),if_pos rfl,if_pos U,e7,R.flat]
   ·rw[if_neg (by lia),if_neg e]
    have:=ok.part j ss[j] (by simp[U]);rw[zhw _ _ _ (by simp;lia)] at this;simp[this,U]
  ·rw[cz (by rw[mi];lia),cz (by rw[dq];lia)]
 refine⟨r++(ofS ts (a-1)).flatten,I.reverse.map (λb=>(a,b))++ts,J,lo.1,lo.2,?_,?_,?_⟩
 ·rw[<-d]
  refine⟨λt Z=>by rw[mi];exact g t Z,λt Z=>?_,λj s U=>?_,?_,zjh g⟩
  ·rcases db.mp Z with h | h
   ·obtain⟨b,D,rfl⟩:=fy.mp h;exact R.good b (by simpa using D)
   ·exact ok.good t (by simp[h])
  ·have i:=(aj.mp U).1
   rw[mi] at i;rw[o6 i] at U;exact bh U
  ·rw[il]
   refine⟨?_,v,λt Z u E=>?_⟩
   ·rw[List.pairwise_map,List.pairwise_reverse]
    exact A.imp λh=>.inl h
   ·obtain⟨b,D,rfl⟩:=fy.mp Z
    have D:b∈I:=by simpa using D
    have F:0<hrs u.2:=ok.pos w u (by simp[E]);rcases q u E with z | ⟨z1,z2⟩
    ·exact .inl (z63 (n:=blk b) (c:=blk (x::r)) (b:=blk u.2) (pos b D) o F (B b D) z)
    ·exact .inr ⟨z48 (n:=blk b) (c:=blk (x::r)) (b:=blk u.2) (pos b D) o F (B b D) z1,z2⟩
 ·rw[rg,zs5,R.flat]
 ·rw[dh,e7,iw]
  show((I.reverse.map λb=>b).flatten)++_=_;rw[List.map_id',R.flat]
def zdp:FS:=sIf (fOr (fTst (fBin dLt (fVar 1) (fC (.int 1)))) (fTst (fBin dGt (fVar 1) (ii 0)))) (lc "UnknownStack" (some)) (sNil)
def yp:ln->k8->k9:=runQ 2 0 2 zdp
def u8:ln->k8->ka:=xQ 2 0 2 zdp
def zis:FS:=sSeq (sIf (fTst (fBin dEq (ii 0) (fC (.int 0)))) (sRet (fC (.int 0))) (sNil)) (sRet (fBin dIx (fIxV 0 (fUn dNeg (fC (.int 1)))) (fC (.int 1))))
def zgn:k8->k9:=runD 1 1 zis
def zg3:FS:=sIf (fOr (fTst (fBin dLt (fVar 0) (fC (.int 0)))) (fTst (fBin dGt (fVar 0) (fC (.int 5))))) (lc "BadCount" ((λz=>(some z).bind ((λz=>((vInt (fC (.int 5))) z).bind ((λz=>(some z).bind (some)))))))) (sNil)
def ze8:ln->k8->k9:=runQ 1 0 1 zg3
def ze9:ln->k8->ka:=xQ 1 0 1 zg3
def zdq:FS:=sIf (fOr (fTst (fBin dLt (fVar 0) (fC (.int 1)))) (fTst (fBin dGt (fVar 0) (fC (.int 60))))) (lc "BadHours" ((λz=>(some z).bind ((λz=>((vInt (fC (.int 60))) z).bind ((λz=>(some z).bind (some)))))))) (sNil)
def zfa:ln->k8->k9:=runQ 1 0 1 zdq
def yo:ln->k8->ka:=xQ 1 0 1 zdq
def zej:FS:=sIf (fOr (fTst (fBin dLt (fVar 0) (fC (.int 0)))) (fTst (fBin dGt (fVar 0) (fC (.int 100))))) (lc "BadLoss" ((λz=>(some z).bind ((λz=>((vInt (fC (.int 100))) z).bind (some)))))) (sNil)
def zek:ln->k8->k9:=runQ 1 0 1 zej
def wf:ln->k8->ka:=xQ 1 0 1 zej
def zfx:FS:=sIf (fTst (fBin dGe (d7 ze6 (au (fVar 0) (fNil))) (fC (.int 14)))) (lc "HouseFull" ((λz=>((vInt (fC (.int 14))) z).bind ((λz=>(some z).bind (some)))))) (sNil)
def zfy:ln->k8->k9:=runQ 1 0 1 zfx
def yh:ln->k8->ka:=xQ 1 0 1 zfx
def zfb:FS:=sIf (fTst (fBin dGe (ii 0) (fC (.int 60)))) (lc "DeedsFull" ((λz=>((vInt (fC (.int 60))) z).bind ((λz=>(some z).bind (some)))))) (sNil)
def wo:ln->k8->k9:=runQ 1 0 1 zfb
def t0:ln->k8->ka:=xQ 1 0 1 zfb
def zj0:FS:=sRet (fBin ja (fC (.int 1)) (d7 bLen (au (fLst (ip (fiS (fVar 0)) [] (fTst (fBin dEq (fIxV 0 (fC (.int 0))) (fC (.str "put")))) (fVar 0))) (fNil))))
def zfz:k8->k9:=runD 1 1 zj0
def zde:FS:=sSeq (sXp (l6 ze9 [] (au (fVar 1) (fNil))) (jg (iu ze8 [] (au (fVar 1) (fNil))))) (sSeq (yy 0 "House" "kept" (fz (fNil))) (yy 0 "House" "states" (fz (au (fTup (au (fLst (ip (i5 iR1 (au (fVar 1) (fNil))) [] fYes (fLst (fz (fNil))))) (au (fLst (fz (fNil))) (fNil)))) (fNil)))))
def zcg:ln->k8->lx:=runL 2 1 1 zde
def zew:ln->k8->Option (Str×ln):=xL 2 1 1 zde
def zg4:FS:=sRet (fBin dIx (pIx (.at (.ins false "House" ij)) 0 1 (-1)) (fC (.int 0)))
def n9:ln->k8->k9:=runQ 1 1 0 zg4
def zl6:ln->k8->ka:=xQ 1 1 0 zg4
def zg5:FS:=sRet (fBin dIx (pIx (.at (.ins false "House" ij)) 0 1 (-1)) (fC (.int 1)))
def rn:ln->k8->k9:=runQ 1 1 0 zg5
def zl7:ln->k8->ka:=xQ 1 1 0 zg5
def zhy:FS:=sSeq (jg (qu (.at (.ins false "House" ij)) 0 0 (fVar 1))) (jg (qu (.at (.ins false "House" ij)) 0 1 (fTup (au (fVar 2) (au (fVar 3) (fNil))))))
def qg:ln->k8->lx:=runL 4 1 3 zhy
def znz:ln->k8->Option (Str×ln):=xL 4 1 3 zhy
def t3:FS:=sSeq (sSet 4 (fK (.ins false "House" ij) 0 (iu n9 [0] (fNil)))) (sSeq (sXp (l6 u8 [] (au (fVar 4) (au (fVar 1) (fNil)))) (jg (iu yp [] (au (fVar 4) (au (fVar 1) (fNil)))))) (sSeq (sXp (l6 yo [] (au (fVar 2) (fNil))) (jg (iu zfa [] (au (fVar 2) (fNil))))) (sSeq (sXp (l6 wf [] (au (fVar 3) (fNil))) (jg (iu zek [] (au (fVar 3) (fNil))))) (sSeq (sXp (l6 yh [] (au (fVar 4) (fNil))) (jg (iu zfy [] (au (fVar 4) (fNil))))) (sSeq (sXp (xFrz true (l6 t0 [] (au (oj (.ins false "House" ij) 0 0) (fNil)))) (jg (fFrz true (iu wo [] (au (oj (.ins false "House" ij) 0 0) (fNil)))))) (sSeq (sSet 5 (fFrz true (d7 zfz (au (oj (.ins false "House" ij) 0 0) (fNil))))) (sSeq (sSet 6 (fLst (fCat (fLst (fz (au (fTup (au (fVar 5) (au (fVar 2) (au (fVar 3) (fNil))))) (fNil)))) (fIxV 4 (fBin dSub (fVar 1) (fC (.int 1))))))) (sSeq (jg (fK (.ins false "House" ij) 0 (kg qg [0] (au (fTup (au (fC (.str "put")) (au (fVar 1) (au (fVar 2) (au (fVar 3) (fNil)))))) (au (d7 yl (au (fVar 4) (au (fVar 1) (au (fVar 6) (fNil))))) (au (fK (.ins false "House" ij) 0 (iu rn [0] (fNil))) (fNil))))))) (sRet (fVar 5))))))))))
def z0:ln->k8->lx:=runL 7 1 3 t3
def yk:ln->k8->Option (Str×ln):=xL 7 1 3 t3
def zgc:FS:=sRet (fLst (ip (fiS (fK (.ins false "House" ij) 0 (iu n9 [0] (fNil)))) [] fYes (fLst (i5 nz (au (fVar 0) (fNil))))))
def zda:ln->k8->k9:=runQ 1 1 0 zgc
def zls:ln->k8->ka:=xQ 1 1 0 zgc
def zhz:FS:=sRet (d7 zgn (au (fK (.ins false "House" ij) 0 (iu rn [0] (fNil))) (fNil)))
def u9:ln->k8->k9:=runQ 1 1 0 zhz
def zn0:ln->k8->ka:=xQ 1 1 0 zhz
def zfc:FS:=sIf (fTst (fBin dEq (d7 ze6 (au (fVar 0) (fNil))) (fC (.int 0)))) (lc "NothingWaits" (some)) (sNil)
def zfd:ln->k8->k9:=runQ 1 0 1 zfc
def yn:ln->k8->ka:=xQ 1 0 1 zfc
def yj:FS:=sSeq (sSet 1 (fK (.ins false "House" ij) 0 (iu n9 [0] (fNil)))) (sSeq (sXp (l6 yn [] (au (fVar 1) (fNil))) (jg (iu zfd [] (au (fVar 1) (fNil))))) (sSeq (sXp (xFrz true (l6 t0 [] (au (oj (.ins false "House" ij) 0 0) (fNil)))) (jg (fFrz true (iu wo [] (au (oj (.ins false "House" ij) 0 0) (fNil)))))) (sSeq (sSet 2 (fBin dIx (fLst (i5 wg (au (fVar 1) (fNil)))) (fC (.int 0)))) (sSeq (sSet 3 (d7 zi4 (au (fVar 1) (au (fVar 2) (fNil))))) (sSeq (sSet 4 (fK (.ins false "House" ij) 0 (iu u9 [0] (fNil)))) (sSeq (sSet 5 (fTup (au (fVar 4) (au (fBin ja (fVar 4) (d7 wm (au (fVar 3) (fNil)))) (au (d7 zht (au (fVar 1) (fNil))) (fNil)))))) (sSeq (jg (fK (.ins false "House" ij) 0 (kg qg [0] (au (fTup (au (fC (.str "dry")) (fNil))) (au (d7 zfv (au (fVar 1) (au (fVar 2) (fNil)))) (au (fLst (fCat (fK (.ins false "House" ij) 0 (iu rn [0] (fNil))) (fLst (fz (au (fVar 5) (fNil)))))) (fNil))))))) (sRet (fVar 3)))))))))
def u6:ln->k8->lx:=runL 6 1 0 yj
def yi:ln->k8->Option (Str×ln):=xL 6 1 0 yj
def zg6:FS:=sRet (fLst (i5 wg (au (fK (.ins false "House" ij) 0 (iu n9 [0] (fNil))) (fNil))))
def u7:ln->k8->k9:=runQ 1 1 0 zg6
def zl8:ln->k8->ka:=xQ 1 1 0 zg6
def zji:FS:=sRet (d7 bSum (au (fLst (ip (fiS (fVar 0)) [] fYes (d7 bSum (au (fLst (ip (fiS (fVar 0)) [] fYes (fIxV 0 (fC (.int 2))))) (fNil))))) (fNil)))
def zh0:k8->k9:=runD 1 1 zji
def zfe:FS:=sSet 1 (fLst (fCat (fVar 1) (fLst (fRep (fz (au (fVar 4) (fNil))) (fBin dSub (fVar 3) (fVar 2))))))
def zit:FS:=sSeq (sSet 1 (fLst (fz (fNil)))) (sSeq (qk [2,3,4] (fiS (fVar 0)) (zfe)) (sRet (fVar 1)))
def ziu:k8->k9:=runD 5 1 zit
def zlt:FS:=sRet (fBin dIx (fLst (fz (au (fC (.int 5)) (au (fC (.int 3)) (au (fC (.int 2)) (au (fC (.int 4)) (au (fC (.int 1)) (au (fC (.int 5)) (au (fC (.int 0)) (au (fC (.int 4)) (au (fC (.int 3)) (au (fC (.int 5)) (au (fC (.int 2)) (au (fC (.int 4)) (fNil))))))))))))))) (fBin dMod (fVar 0) (fC (.int 12))))
def zh1:k8->k9:=runD 1 1 zlt
def zh2:FS:=sRet (d7 zgk (au (fK (.ins false "House" ij) 0 (iu n9 [0] (fNil))) (au (fK (.ins false "House" ij) 0 (iu u7 [0] (fNil))) (fNil))))
def zel:ln->k8->k9:=runQ 1 1 0 zh2
def zn1:ln->k8->ka:=xQ 1 1 0 zh2
def zlu:FS:=sSeq (sSet 2 (ii 1)) (sSeq (sSet 3 (fLst (fz (au (fC (.str "put")) (au (fC (.str "put")) (au (fC (.str "tell")) (au (fC (.str "dry")) (au (fC (.str "put")) (au (fC (.str "go")) (au (fC (.str "put")) (au (fC (.str "put")) (au (fC (.str "back")) (au (fC (.str "tell")) (au (fC (.str "put")) (au (fC (.str "dry")) (fNil)))))))))))))))) (sSeq (sSet 4 (fIxV 3 (fBin dMod (fVar 0) (fC (.int 12))))) (sSeq (sSet 5 (fBin dMod (fBin dDiv (fVar 0) (fC (.int 12))) (fC (.int 16)))) (sSeq (sSet 6 (fBin dDiv (fVar 0) (fC (.int 192)))) (sSeq (sSet 7 (fBin ja (fC (.int 1)) (fBin dMod (fVar 6) (d7 bMax (au (fVar 2) (au (fC (.int 1)) (fNil))))))) (sSeq (sSet 6 (fBin dDiv (fVar 6) (fC (.int 5)))) (sSeq (sIf (fOr (fTst (fBin dEq (fVar 5) (fC (.int 5)))) (fTst (fBin dEq (fVar 2) (fC (.int 0))))) (sSet 7 (fBin dIx (fLst (fz (au (fC (.int 0)) (au (fBin ja (fVar 2) (fC (.int 1))) (au (fUn dNeg (fC (.int 1))) (au (fBin dPow (fC (.int 10)) (fC (.int 12))) (fNil))))))) (fBin dMod (fVar 6) (fC (.int 4))))) (sNil)) (sSeq (sSet 8 (fBin ja (fC (.int 1)) (fBin dMod (fVar 6) (fC (.int 60))))) (sSeq (sIf (fTst (fBin dEq (fVar 5) (fC (.int 6)))) (sSet 8 (fBin dIx (fLst (fz (au (fC (.int 0)) (au (fC (.int 61)) (au (fUn dNeg (fC (.int 1))) (au (fBin dPow (fC (.int 10)) (fC (.int 12))) (fNil))))))) (fBin dMod (fVar 6) (fC (.int 4))))) (sNil)) (sSeq (sSet 9 (fBin dMod (fBin dDiv (fVar 6) (fC (.int 60))) (fC (.int 101)))) (sSeq (sIf (fTst (fBin dGt (fVar 5) (fC (.int 9)))) (sSeq (sSet 8 (fBin ja (fC (.int 1)) (fBin dMod (fVar 8) (fC (.int 3))))) (sSet 9 (fBin dMod (fVar 9) (fC (.int 4))))) (sNil)) (sSeq (sIf (fTst (fBin dEq (fVar 5) (fC (.int 7)))) (sSet 9 (fBin dIx (fLst (fz (au (fUn dNeg (fC (.int 1))) (au (fC (.int 101)) (au (fUn dNeg (fBin dPow (fC (.int 10)) (fC (.int 12)))) (au (fBin dPow (fC (.int 10)) (fC (.int 12))) (fNil))))))) (fBin dMod (fBin dDiv (fVar 6) (fC (.int 60))) (fC (.int 4))))) (sNil)) (sSeq (sSet 10 (fC (.int 0))) (sSeq (sIf (fAnd (fTst (fBin dLe (fC (.int 1)) (fVar 7))) (fTst (fBin dLe (fVar 7) (fVar 2)))) (sSet 10 (d7 bLen (au (fIxV 1 (fBin dSub (fVar 7) (fC (.int 1)))) (fNil)))) (sNil)) (sSeq (sSet 11 (fBin ja (fC (.int 1)) (fBin dMod (fBin dDiv (fVar 6) (fC (.int 6060))) (d7 bMax (au (fVar 10) (au (fC (.int 1)) (fNil))))))) (sSeq (sIf (fTst (fBin dEq (fVar 5) (fC (.int 8)))) (sSet 11 (fBin dIx (fLst (fz (au (fC (.int 0)) (au (fBin ja (fVar 10) (fC (.int 1))) (au (fUn dNeg (fC (.int 1))) (au (fBin dPow (fC (.int 10)) (fC (.int 12))) (fNil))))))) (fBin dMod (fBin dDiv (fVar 6) (fC (.int 6060))) (fC (.int 4))))) (sNil)) (sSeq (sIf (fTst (fBin dEq (fVar 4) (fC (.str "put")))) (sRet (fTup (au (fC (.str "put")) (au (fVar 7) (au (fVar 8) (au (fVar 9) (fNil))))))) (sNil)) (sSeq (sIf (fTst (fBin dEq (fVar 4) (fC (.str "tell")))) (sRet (fTup (au (fC (.str "tell")) (au (fVar 7) (au (fVar 11) (au (fVar 9) (fNil))))))) (sNil)) (sSeq (sIf (fTst (fBin dEq (fVar 4) (fC (.str "go")))) (sRet (fTup (au (fC (.str "go")) (au (fVar 7) (fNil))))) (sNil)) (sRet (fTup (au (fVar 4) (fNil)))))))))))))))))))))))
def zy:k8->k9:=runD 12 2 zlu
def zjb:FS:=sSeq (sSet 3 (fIxV 2 (fC (.int 0)))) (sSeq (sIf (fTst (fBin dEq (fVar 3) (fC (.str "back")))) (sRet (fBin dIx (fLst (fz (au (fC (.str "")) (au (fC (.str "nothing done")) (fNil))))) (d7 bInt (au (fBin dEq (fVar 1) (fC (.int 0))) (fNil))))) (sNil)) (sSeq (sIf (fTst (fBin dEq (fVar 3) (fC (.str "dry")))) (sIf (fTst (fBin dEq (d7 bSum (au (fLst (ip (fiS (fVar 0)) [] fYes (ii 0))) (fNil))) (fC (.int 0)))) (sRet (fC (.str "nothing waits"))) (sNil)) (sIf (fOr (fTst (fBin dLt (fIxV 2 (fC (.int 1))) (fC (.int 1)))) (fTst (fBin dGt (fIxV 2 (fC (.int 1))) (ii 0)))) (sRet (fC (.str "unknown stack"))) (sIf (fAnd (fTst (fBin dNe (fVar 3) (fC (.str "put")))) (fTst (fBin dEq (d7 bLen (au (fIxV 0 (fBin dSub (fIxV 2 (fC (.int 1))) (fC (.int 1)))) (fNil))) (fC (.int 0))))) (sRet (fC (.str "empty stack"))) (sNil)))) (sSeq (sIf (fAnd (fTst (fBin dEq (fVar 3) (fC (.str "tell")))) (fOr (fTst (fBin dLt (fIxV 2 (fC (.int 2))) (fC (.int 1)))) (fTst (fBin dGt (fIxV 2 (fC (.int 2))) (d7 bLen (au (fIxV 0 (fBin dSub (fIxV 2 (fC (.int 1))) (fC (.int 1)))) (fNil))))))) (sRet (fC (.str "unknown place"))) (sNil)) (sSeq (sIf (fAnd (fTst (fBin dEq (fVar 3) (fC (.str "put")))) (fOr (fTst (fBin dLt (fIxV 2 (fC (.int 2))) (fC (.int 1)))) (fTst (fBin dGt (fIxV 2 (fC (.int 2))) (fC (.int 60)))))) (sRet (fC (.str "bad hours"))) (sNil)) (sSeq (sIf (fAnd (fOr (fTst (fBin dEq (fVar 3) (fC (.str "put")))) (fTst (fBin dEq (fVar 3) (fC (.str "tell"))))) (fOr (fTst (fBin dLt (fIxV 2 (fC (.int 3))) (fC (.int 0)))) (fTst (fBin dGt (fIxV 2 (fC (.int 3))) (fC (.int 100)))))) (sRet (fC (.str "bad loss"))) (sNil)) (sSeq (sIf (fAnd (fTst (fBin dEq (fVar 3) (fC (.str "put")))) (fTst (fBin dGe (d7 bSum (au (fLst (ip (fiS (fVar 0)) [] fYes (ii 0))) (fNil))) (fC (.int 14))))) (sRet (fC (.str "house full"))) (sNil)) (sSeq (sIf (fTst (fBin dGe (fVar 1) (fC (.int 60)))) (sRet (fC (.str "deeds full"))) (sNil)) (sRet (fC (.str ""))))))))))
def zdr:k8->k9:=runD 4 3 zjb
def tw:FS:=sSeq (vh 3 (ui (fiS (fVar 0)) [] (i5 nz (au (fVar 0) (fNil))))) (sSeq (sSet 4 (fC (.int 0))) (sSeq (sIf (fTst (fBin dGt (ii 1) (fC (.int 1)))) (sSet 4 (fBin dSub (fIxV 1 (fC (.int 1))) (fC (.int 1)))) (sNil)) (sSeq (sIf (fTst (fBin dEq (fIxV 1 (fC (.int 0))) (fC (.str "put")))) (sSeq (ue 3 (fVar 4) (sg false (fCat (fLst (fz (au (fTup (au (fVar 2) (au (fIxV 1 (fC (.int 2))) (au (fIxV 1 (fC (.int 3))) (fNil))))) (fNil)))) (fIxV 3 (fVar 4))))) (sRet (fLst (fz (au (fVar 3) (au (fVar 2) (fNil))))))) (sNil)) (sSeq (sIf (fTst (fBin dEq (fIxV 1 (fC (.int 0))) (fC (.str "tell")))) (sSeq (sSet 5 (fFrz false (fBin dIx (fIxV 3 (fVar 4)) (fBin dSub (fIxV 1 (fC (.int 2))) (fC (.int 1)))))) (sSeq (zro 3 (fVar 4) (fBin dSub (fIxV 1 (fC (.int 2))) (fC (.int 1))) (fTup (au (fIxV 5 (fC (.int 0))) (au (fIxV 5 (fC (.int 1))) (au (fIxV 1 (fC (.int 3))) (fNil)))))) (sRet (fLst (fz (au (fVar 3) (au (fIxV 5 (fC (.int 2))) (fNil)))))))) (sNil)) (sSeq (sIf (fTst (fBin dEq (fIxV 1 (fC (.int 0))) (fC (.str "dry")))) (sSet 4 (fBin dSub (fBin dIx (fBin dIx (d7 z7 (au (fVar 0) (fNil))) (fC (.int 0))) (fC (.int 0))) (fC (.int 1)))) (sNil)) (sSeq (sSet 5 (fFrz false (fBin dIx (fIxV 3 (fVar 4)) (fC (.int 0))))) (sSeq (ue 3 (fVar 4) (sg false (fSl (fIxV 3 (fVar 4)) (fO1 (fC (.int 1))) (fO0)))) (sRet (fLst (fz (au (fVar 3) (au (fVar 5) (fNil)))))))))))))
def rq:k8->k9:=runD 6 3 tw
def zem:FS:=sSeq (sIf (fTst (fIsi "tuple" (fVar 1))) (sRet (d7 qh (au (fVar 0) (au (fVar 1) (fNil))))) (sNil)) (sRet (wy (d7 qf (au (fVar 0) (fNil))) (fBin dEq (fVar 0) (fVar 1))))
def yr:k8->k9:=runD 2 2 zem
def zjj:FS:=zxt (fAgL (pCd (fLst (ip (i5 iR1 (au (fVar 0) (fNil))) [] fYes (fLst (fz (fNil))))) (pCo (fz (fNil)) (pCo (fz (fNil)) (pCd (fLst (fz (fNil))) (pNil))))))
def zh3:k8->Option Ag:=runG 1 1 zjj
def zqo:k8->ka:=xG 1 1 zjj
def zf0:FS:=sIf (fTst (fBin dEq (d7 bLen (au (fIxV 0 (fBin dSub (fVar 1) (fC (.int 1)))) (fNil))) (fC (.int 0)))) (lc "EmptyStack" ((λz=>(some z).bind ((λz=>((vInt (fVar 1)) z).bind (some)))))) (sNil)
def zen:ln->k8->k9:=runQ 2 0 2 zf0
def we:ln->k8->ka:=xQ 2 0 2 zf0
def wd:FS:=sSeq (sSet 2 (fK (.ins false "House" ij) 0 (iu n9 [0] (fNil)))) (sSeq (sXp (l6 u8 [] (au (fVar 2) (au (fVar 1) (fNil)))) (jg (iu yp [] (au (fVar 2) (au (fVar 1) (fNil)))))) (sSeq (sXp (l6 we [] (au (fVar 2) (au (fVar 1) (fNil)))) (jg (iu zen [] (au (fVar 2) (au (fVar 1) (fNil)))))) (sSeq (sXp (xFrz true (l6 t0 [] (au (oj (.ins false "House" ij) 0 0) (fNil)))) (jg (fFrz true (iu wo [] (au (oj (.ins false "House" ij) 0 0) (fNil)))))) (sSeq (jg (fK (.ins false "House" ij) 0 (kg qg [0] (au (fTup (au (fC (.str "go")) (au (fVar 1) (fNil)))) (au (d7 zfv (au (fVar 2) (au (fVar 1) (fNil)))) (au (fK (.ins false "House" ij) 0 (iu rn [0] (fNil))) (fNil))))))) (sRet (d7 zi4 (au (fVar 2) (au (fVar 1) (fNil)))))))))
def zx:ln->k8->lx:=runL 3 1 1 wd
def yd:ln->k8->Option (Str×ln):=xL 3 1 1 wd
def zds:FS:=sIf (fOr (fTst (fBin dLt (fVar 1) (fC (.int 1)))) (fTst (fBin dGt (fVar 1) (ii 0)))) (lc "UnknownPlace" (some)) (sNil)
def zff:ln->k8->k9:=runQ 2 0 2 zds
def ym:ln->k8->ka:=xQ 2 0 2 zds
def zqp:FS:=sRet (fTup (au (d7 zfu (au (fVar 0) (fNil))) (au (d7 wm (au (fVar 0) (fNil))) (au (fVar 1) (fNil)))))
def zjk:k8->k9:=runD 2 2 zqp
def rj:FS:=sSeq (sSet 4 (fK (.ins false "House" ij) 0 (iu n9 [0] (fNil)))) (sSeq (sXp (l6 u8 [] (au (fVar 4) (au (fVar 1) (fNil)))) (jg (iu yp [] (au (fVar 4) (au (fVar 1) (fNil)))))) (sSeq (sXp (l6 we [] (au (fVar 4) (au (fVar 1) (fNil)))) (jg (iu zen [] (au (fVar 4) (au (fVar 1) (fNil)))))) (sSeq (sSet 5 (fIxV 4 (fBin dSub (fVar 1) (fC (.int 1))))) (sSeq (sXp (l6 ym [] (au (fVar 5) (au (fVar 2) (fNil)))) (jg (iu zff [] (au (fVar 5) (au (fVar 2) (fNil)))))) (sSeq (sXp (l6 wf [] (au (fVar 3) (fNil))) (jg (iu zek [] (au (fVar 3) (fNil))))) (sSeq (sXp (xFrz true (l6 t0 [] (au (oj (.ins false "House" ij) 0 0) (fNil)))) (jg (fFrz true (iu wo [] (au (oj (.ins false "House" ij) 0 0) (fNil)))))) (sSeq (sSet 6 (fIxV 5 (fBin dSub (fVar 2) (fC (.int 1))))) (sSeq (sSet 7 (fLst (fCat (fLst (fCat (fLst (fSl (fVar 5) (fO0) (fO1 (fBin dSub (fVar 2) (fC (.int 1)))))) (fLst (fz (au (d7 zjk (au (fVar 6) (au (fVar 3) (fNil)))) (fNil)))))) (fLst (fSl (fVar 5) (fO1 (fVar 2)) (fO0)))))) (sSeq (jg (fK (.ins false "House" ij) 0 (kg qg [0] (au (fTup (au (fC (.str "tell")) (au (fVar 1) (au (fVar 2) (au (fVar 3) (fNil)))))) (au (d7 yl (au (fVar 4) (au (fVar 1) (au (fVar 7) (fNil))))) (au (fK (.ins false "House" ij) 0 (iu rn [0] (fNil))) (fNil))))))) (sRet (d7 ye (au (fVar 6) (fNil)))))))))))))
def zeo:ln->k8->lx:=runL 8 1 3 rj
def yg:ln->k8->Option (Str×ln):=xL 8 1 3 rj
inductive Deed where
 | put (a h l:Int) | tell (a p l:Int) | go (a:Int) | dry
abbrev mx:=List Deed
def dD:Deed->D
 | .put a h l=>.tup [.str "put",.int a,.int h,.int l]
 | .tell a p l=>.tup [.str "tell",.int a,.int p,.int l]
 | .go a=>.tup [.str "go",.int a]
 | .dry=>.tup [.str "dry"]
def Deed.isPut:Deed->Bool | .put ..=>true | _=>false
abbrev Spn:=Int×Int×Int
abbrev m1:=List Spn
abbrev Hs:=mu×m1
abbrev m2:=List Hs
def spL(sp:m1):D:=.lst (sp.map sD)
def stD(s:Hs):D:=.tup [ssL s.1,spL s.2]
abbrev kH:AK:=.ins false "House" ij
def hP(k:mx)(s:m2):la:=[.o (k.map dD),.o (s.map stD)]
abbrev hA(k:mx)(s:m2):Ag:=(kH,hP k s)
variable{e:DE0}{κ:AK}{l:Option Nat}{ps:la}
def zr1(h:e[i]?=some (some (.ag κ l ps)))(D:ps[j]?=some (.o ds)):lh (.at κ) i j e=some ds:=by
 unfold lh agAt;rw[if_pos (show Acc.ok (.at κ) e i j from(show isK κ e i from .inl ⟨_,_,h⟩)),h];dsimp;rw[D]
def zr2(h:e[i]?=some (some (.ro κ ps)))(D:ps[j]?=some (.o ds)):lh (.at κ) i j e=some ds:=by
 unfold lh agAt;rw[if_pos (show Acc.ok (.at κ) e i j from(show isK κ e i from .inr ⟨_,h⟩)),h];dsimp;rw[D]
variable{f:FE}
def zye(h:e[i]?=some (some (.ag κ l ps))):fK κ i f e=f e:=if_pos (.inl ⟨_,_,h⟩)
def yw(h:e[i]?=some (some (.ro κ ps))):fK κ i f e=f e:=if_pos (.inr ⟨_,h⟩)
def z5g{f:XF}(h:e[i]?=some (some (.ag κ l ps))):xK κ i f e=f e:=if_pos (.inl ⟨_,_,h⟩)
variable{r:k8×DE0}{m:ln->k8->k9}{F:FA}
def zk7(h:e[i]?=some (some (.ro κ ps)))(D:F e=some r)(h2:r.2[i]?=some (some (.ro κ ps))):iu m [i] F e=(m [(κ,ps)] r.1).map λd=>(d,r.2):=by
 unfold iu;rw[if_pos (show aggs e [i] from λk I=>by rw[cr.mp I];exact⟨_,h⟩),D];simp[getR,h2]
def zyf(h:e[i]?=some (some (.ag κ l ps)))(D:F e=some r)(h2:r.2[i]?=some (some (.ag κ l ps))):iu m [i] F e=(m [(κ,ps)] r.1).map λd=>(d,r.2):=by
 unfold iu;rw[if_pos (show aggs e [i] from λk I=>by rw[cr.mp I];exact⟨_,h⟩),D];simp[getR,h2]
def mh:iu m [] F e=(F e).bind λr=>(m [] r.1).map λd=>(d,r.2):=by
 unfold iu;rw[if_pos (show aggs e [] from λk D=>nomatch D)];rfl
variable{x:ln->k8->Option (Str×ln)}
def l8{x:ln->k8->ka}:l6 x [] F e=(F e).bind λr=>(x [] r.1).map λd=>(d,r.2):=by
 unfold l6;rw[if_pos (show aggs e [] from λk I=>nomatch I)];rfl
variable{d:D}{ps':la}
def zyg{m:ln->k8->lx}(h:e[i]?=some (some (.ag κ l ps)))(I:F e=some r)(h2:r.2[i]?=some (some (.ag κ l ps)))(J:m [(κ,ps)] r.1=some (d,[(κ,ps')])):kg m [i] F e=some (d,r.2.set i (some (.ag κ l ps'))):=by
 unfold kg;rw[if_pos (show aggs e [i] from λk R=>by rw[cr.mp R];exact⟨_,h⟩),I];simp[getA,h2,J,putA]
def zvr(h:e[i]?=some (some (.ag κ l ps)))(D:F e=some r)(h2:r.2[i]?=some (some (.ag κ l ps))){d:Str}(I:x [(κ,ps)] r.1=some (d,[(κ,ps')])):mf x [i] F e=some (d,r.2.set i (some (.ag κ l ps'))):=by
 unfold mf;rw[if_pos (show aggs e [i] from λk J=>by rw[cr.mp J];exact⟨_,h⟩),D];simp[getA,h2,I,putA]
def zvs(h:e[i]?=some (some (.ag κ l ps)))(D:F e=some r)(h2:r.2[i]?=some (some (.ag κ l ps)))(I:x [(κ,ps)] r.1=none):mf x [i] F e=none:=by
 unfold mf;rw[if_pos (show aggs e [i] from λk J=>by rw[cr.mp J];exact⟨_,h⟩),D];simp only[getA,h2,ak,ac,I];rfl
theorem zqq(xs:k8)(x:D):atI (xs++[x]) (-1)=some x:=by
 unfold atI ixN;rw[if_neg (by decide),if_pos (by simp;lia),show(-1+((xs++[x]).length:Int)).toNat=xs.length by simp;lia];simp
variable{k:mx}{s:Hs}
def qd:n9 [hA k (p++[s])] []=some (ssL s.1):=by
 unfold n9 runQ;have h:lh (.at kH) 0 1 (j8 1 [hA k (p++[s])] [])=some ((p++[s]).map stD):=zr2 (ps:=hP k (p++[s])) rfl rfl;simp[zg4,pIx,h,zqq,stD];rfl
def zp:rn [hA k (p++[s])] []=some (spL s.2):=by
 unfold rn runQ;have h:lh (.at kH) 0 1 (j8 1 [hA k (p++[s])] [])=some ((p++[s]).map stD):=zr2 (ps:=hP k (p++[s])) rfl rfl;simp[zg5,pIx,h,zqq,stD];rfl
theorem zs6(R:s.1.length<=1000):zda [hA k (p++[s])] []=some (ssL s.1):=by
 unfold zda runQ;have c:=nr (te:=fLst (i5 nz (au (fVar 0) (fNil)))) (base:=[]) (λs:l0=>D.lst (s.map sD)) (λs:l0=>D.lst (s.map sD)) s.1 λs _=>⟨_,by simp;rfl⟩;have J:Few (s.1.map λs=>D.lst (s.map sD)).length:=few (by rw[ah];lia);have I:(j8 1 [hA k (p++[s])] [])[0]?=some (some (.ro kH (hP k (p++[s])))):=rfl;have h1:=zk7 (m:=n9) (F:=fNil) I (r:=([],j8 1 [hA k (p++[s])] [])) rfl I;have h2:=yw (f:=iu n9 [0] fNil) I;simp[qd] at h1;simp only[zgc,sRet,fLst,ip,fiS,h2,h1,ac,ssL] at c ⊢;generalize (s.1.map λs=>D.lst (s.map sD))=L at *;simp[J,c]
def hrOf(sp:m1):Int:=match sp.getLast? with | none=>0 | some x=>x.2.1
theorem zn2(sp:m1):zgn [spL sp]=some (.int (hrOf sp)):=by
 unfold zgn runD spL hrOf;cases h:sp.getLast? with
 | none =>
   rw[wq.mp h];simp[zis,jk]
 | some x =>
   obtain⟨q,rfl⟩:=wp.mp h;have I:jk 1 [D.lst ((q++[x]).map sD)]=[some (.sh (.lst (q.map sD++[sD x])))]:=by simp[jk]
   have h1:atI (q.map sD++[sD x]) (-1)=some (sD x):=zqq _ _;have h2:((q.map sD++[sD x]).length:Int)≠0:=by simp;lia
   rw[I];generalize q.map sD++[sD x]=L at *;have J:decide ((L.length:Int)=0)=false:=decide_eq_false h2;simp only[zis,sSeq,sIf,fTst,fBin,ii,af,ac,fC,dEq,ak,J,bz,if_false,sNil,sRet,fIxV,fUn,dNeg,ixSl,h1,sD,dIx];rfl
def zqr:u9 [hA k (p++[s])] []=some (.int (hrOf s.2)):=by
 unfold u9 runQ;have D:(j8 1 [hA k (p++[s])] [])[0]?=some (some (.ro kH (hP k (p++[s])))):=rfl;have h1:=zk7 (m:=rn) (F:=fNil) D (r:=([],j8 1 [hA k (p++[s])] [])) rfl D;have h2:=yw (f:=iu rn [0] fNil) D;simp[zp] at h1;simp[zhz,h2,h1,zn2]
theorem x6{a:Int}(h1:1<=a)(h2:a<=ss.length):u8 [] [ssL ss,.int a]=none/\yp [] [ssL ss,.int a]=some .non:=by
 have e:j8 2 [] [ssL ss,.int a]=[some (.sh (ssL ss)),some (.sh (.int a))]:=rfl;have l:((ss.map λs=>D.lst (s.map sD)).length:Int)=ss.length:=by rw[ah]
 unfold u8 yp xQ runQ;rw[if_pos ⟨rfl,rfl⟩,if_pos ⟨rfl,rfl⟩,e];unfold ssL at *;generalize (ss.map λs=>D.lst (s.map sD))=L at *;simp[zdp,show ¬a<1 by lia,show ¬((L.length:Int)<a) by lia]
theorem zqs{a:Int}(h:a<1\/ss.length<a):u8 [] [ssL ss,.int a]=some ("UnknownStack" : Str):=by
 have e:j8 2 [] [ssL ss,.int a]=[some (.sh (ssL ss)),some (.sh (.int a))]:=rfl;have l:((ss.map λs=>D.lst (s.map sD)).length:Int)=ss.length:=by rw[ah]
 unfold u8 xQ;rw[if_pos ⟨rfl,rfl⟩,e];unfold ssL at *;generalize (ss.map λs=>D.lst (s.map sD))=L at *;by_cases h1:a<1
 ·simp[zdp,h1,lc]
 ·simp[zdp,h1,show((L.length:Int)<a) by lia,lc]
variable{h:Int}
theorem zr3(h1:1<=h)(h2:h<=60):yo [] [.int h]=none/\zfa [] [.int h]=some .non:=by
 unfold yo zfa xQ runQ;rw[if_pos ⟨rfl,rfl⟩,if_pos ⟨rfl,rfl⟩,show j8 1 [] [.int h]=[some (.sh (.int h))] from rfl];simp[zdq,show ¬h<1 by lia,show ¬60<h by lia]
theorem z1v(D:h<1\/60<h):yo [] [.int h]=some ("BadHours" : Str):=by
 unfold yo xQ;rw[if_pos ⟨rfl,rfl⟩,show j8 1 [] [.int h]=[some (.sh (.int h))] from rfl];by_cases h1:h<1
 ·simp[zdq,h1,lc,vInt]
 ·simp[zdq,h1,show 60<h by lia,lc,vInt]
theorem zn3(h1:0<=h)(h2:h<=100):wf [] [.int h]=none/\zek [] [.int h]=some .non:=by
 unfold wf zek xQ runQ;rw[if_pos ⟨rfl,rfl⟩,if_pos ⟨rfl,rfl⟩,show j8 1 [] [.int h]=[some (.sh (.int h))] from rfl];simp[zej,show ¬h<0 by lia,show ¬100<h by lia]
theorem zzu(D:h<0\/100<h):wf [] [.int h]=some ("BadLoss" : Str):=by
 unfold wf xQ;rw[if_pos ⟨rfl,rfl⟩,show j8 1 [] [.int h]=[some (.sh (.int h))] from rfl];by_cases h1:h<0
 ·simp[zej,h1,lc,vInt]
 ·simp[zej,h1,show 100<h by lia,lc,vInt]
theorem zyh(h1:0<=h)(h2:h<=5):ze9 [] [.int h]=none/\ze8 [] [.int h]=some .non:=by
 unfold ze9 ze8 xQ runQ;rw[if_pos ⟨rfl,rfl⟩,if_pos ⟨rfl,rfl⟩,show j8 1 [] [.int h]=[some (.sh (.int h))] from rfl];simp[zg3,show ¬h<0 by lia,show ¬5<h by lia]
theorem zvt(ss:mu)(D:ss.length<=1000):(if ss.flatten.length<14 then yh [] [ssL ss]=none/\zfy [] [ssL ss]=some .non else yh [] [ssL ss]=some ("HouseFull" : Str)):=by
 have h:=zpf ss D;generalize ss.flatten.length=n at *;split <;> rename_i I
 ·unfold yh zfy xQ runQ
  rw[if_pos ⟨rfl,rfl⟩,if_pos ⟨rfl,rfl⟩,show j8 1 [] [ssL ss]=[some (.sh (ssL ss))] from rfl];simp[zfx,h,show ¬(14:Int)<=(n:Int) by lia]
 ·unfold yh xQ
  rw[if_pos ⟨rfl,rfl⟩,show j8 1 [] [ssL ss]=[some (.sh (ssL ss))] from rfl];simp[zfx,h,show(14:Int)<=(n:Int) by lia,lc,vInt]
theorem uz(ds:k8):(if ds.length<60 then t0 [] [.lst ds]=none/\wo [] [.lst ds]=some .non else t0 [] [.lst ds]=some ("DeedsFull" : Str)):=by
 split <;> rename_i I
 ·unfold t0 wo xQ runQ
  rw[if_pos ⟨rfl,rfl⟩,if_pos ⟨rfl,rfl⟩,show j8 1 [] [.lst ds]=[some (.sh (.lst ds))] from rfl];simp[zfb,show ¬(60:Int)<=(ds.length:Int) by lia]
 ·unfold t0 xQ
  rw[if_pos ⟨rfl,rfl⟩,show j8 1 [] [.lst ds]=[some (.sh (.lst ds))] from rfl];simp[zfb,show(60:Int)<=(ds.length:Int) by lia,lc,vInt]
def j1(k:mx):Int:=1+(k.filter Deed.isPut).length
theorem z1w(k:mx)(J:k.length<=1000):zfz [.lst (k.map dD)]=some (.int (j1 k)):=by
 have c:=zk1 (tt:=fTst (fBin dEq (fIxV 0 (fC (.int 0))) (fC (.str "put")))) (te:=fVar 0) (base:=[]) dD dD Deed.isPut k λx _=>by
  cases x with
  | put a h l=>exact⟨_,rfl,λ_=>⟨_,rfl⟩⟩
  | tell a p l=>exact⟨_,rfl,λz=>nomatch z⟩
  | go a=>exact⟨_,rfl,λz=>nomatch z⟩
  | dry=>exact⟨_,rfl,λz=>nomatch z⟩
 have I:Few (k.map dD).length:=few (by rw[ah];lia);unfold zfz runD;rw[if_pos (show[D.lst (k.map dD)].length=1 from rfl),show jk 1 [D.lst (k.map dD)]=[some (.sh (.lst (k.map dD)))] from rfl];unfold j1;generalize k.map dD=L at *;simp[zj0,ip,I,c]
def fK0:fK κ 0 f (some (.ag κ l ps)::e)=f (some (.ag κ l ps)::e):=zye rfl
def fK0r:fK κ 0 f (some (.ro κ ps)::e)=f (some (.ro κ ps)::e):=yw rfl
variable{sl:Sl}
def cQ0:iu m [0] F (some sl::e)=(F (some sl::e)).bind λr=>(getR r.2 [0]).bind λags=>(m ags r.1).map λd=>(d,r.2):=if_pos λk D=>by rw[cr.mp D];exact⟨_,rfl⟩
def cL0{m:ln->k8->lx}:kg m [0] F (some sl::e)=(F (some sl::e)).bind λr=>(getA r.2 [0]).bind λags=>(m ags r.1).bind λq=>if q.2.map (·.1)=ags.map (·.1) then some (q.1,putA r.2 [0] q.2) else none:=if_pos λk I=>by rw[cr.mp I];exact⟨_,rfl⟩
def zyi:getA (some (.ag κ l ps)::e) [0]=some [(κ,ps)]:=rfl
variable{κ':AK}
def zyj:putA (some (.ag κ l ps)::e) [0] [(κ',ps')]=some (.ag κ' l ps')::e:=rfl
def me:getR (some (.ag κ l ps)::e) [0]=some [(κ,ps)]:=rfl
def z5h:getR (some (.ro κ ps)::e) [0]=some [(κ,ps)]:=rfl
def ub:oj kH 0 0 (frz true (some (.ag kH l (hP k p))::e))=some (.lst (k.map dD),frz true (some (.ag kH l (hP k p))::e)):=by
 unfold oj;rw[if_pos (show isK kH (frz true (some (.ag kH l (hP k p))::e)) 0 from .inr ⟨[.d (.lst (k.map dD)),.d (.lst (p.map stD))],rfl⟩)];rfl
variable{r:Nat}
def zmv(h:e[i]?=some (some (.ag κ (some r) ps)))(I:∀c fs,κ≠.ins true c fs)(D:ps[j]?=some (.o ds))(J:f e=some (d,e))(R:Few (ds.length+1)) :
  qu (.at κ) i j f e=some (.non,e.set i (some (.ag κ (some r) (ps.set j (.o (ds++[d])))))):=by
 unfold qu;rw[h];dsimp only;rw[if_pos (show labO κ (some r) from⟨rfl,I⟩),zr1 h D,ac,J,ac];unfold appP;rw[h];dsimp only;rw[D];dsimp only;rw[if_pos ⟨rfl,rfl,rfl,R⟩];unfold setP;rw[h]
theorem zn4{d:Deed}{sp:m1}(D:k.length<=1000)(I:p.length<=1000):qg [hA k p] [dD d,ssL ss,spL sp]=some (.non,[hA (k++[d]) (p++[(ss,sp)])]):=by
 have h1:=zmv (e:=[some (.ag kH (some 0) (hP k p)),some (.sh (dD d)),some (.sh (ssL ss)),some (.sh (spL sp))]) (i:=0) (j:=0) (f:=fVar 1) rfl (λc fs z=>nomatch z) rfl rfl (few (by rw[ah];lia));have h2:=zmv (e:=[some (.ag kH (some 0) ((hP k p).set 0 (.o (k.map dD++[dD d])))),some (.sh (dD d)),some (.sh (ssL ss)),some (.sh (spL sp))]) (i:=0) (j:=1) (f:=fTup (au (fVar 2) (au (fVar 3) fNil))) (ds:=p.map stD) rfl (λc fs z=>nomatch z) rfl rfl (few (by rw[ah];lia));unfold qg runL;rw[if_pos ⟨rfl,rfl⟩,show jw 4 [hA k p] [dD d,ssL ss,spL sp]=[some (.ag kH (some 0) (hP k p)),some (.sh (dD d)),some (.sh (ssL ss)),some (.sh (spL sp))] from rfl];simp[zhy,h1,h2];unfold hA hP;rw[dh,dh];rfl
def putX(ss:mu)(n:Nat)(a h l:Int):ka:=if a<1\/(ss.length:Int)<a then some "UnknownStack" else if h<1\/60<h then some "BadHours" else if l<0\/100<l then some "BadLoss" else if ss.flatten.length<14 then(if n<60 then none else some "DeedsFull") else some "HouseFull"
def putS(ss:mu)(a:Nat)(x:Sk):mu:=ss.set (a-1) (x::ss.getD (a-1) [])
theorem z5i{l:Int}(I:putX s.1 k.length a h l=none)(o:s.1.length<=5)(q:p.length<=100) :
  yk [hA k (p++[s])] [.int a,.int h,.int l]=none/\z0 [hA k (p++[s])] [.int a,.int h,.int l]=some (.int (j1 k),[hA (k++[.put a h l]) (p++[s]++[(putS s.1 a (j1 k,h,l),s.2)])]):=by
 unfold putX at I;split at I
 ·cases I
 split at I
 ·cases I
 split at I
 ·cases I
 split at I;case isFalse=>cases I
 rename_i Z;split at I;case isFalse=>cases I
 rename_i b;have k1:=x6 (ss:=s.1) (a:=a) (by lia) (by lia);have k2:=zr3 (h:=h) (by lia) (by lia);have k3:=zn3 (h:=l) (by lia) (by lia);have Y:=zvt s.1 (by lia);rw[if_pos Z] at Y;have k5:=uz (k.map dD);rw[if_pos (by rw[ah];exact b)] at k5;have c:=z1w k (by lia);have J:(a-1:Nat)<s.1.length:=by lia
 have e:atI (s.1.map λs=>D.lst (s.map sD)) ((a:Int)-1)=some (.lst ((s.1.getD (a-1) []).map sD)):=by
  rw[show(a:Int)-1=((a-1:Nat):Int) by lia,lb (λs:l0=>D.lst (s.map sD)) (av J),bx,av J];rfl
 have f:=zhx (ss:=s.1) (a:=a) ((j1 k,h,l)::s.1.getD (a-1) []) (by lia) (by lia) (by lia);have g:=zn4 (k:=k) (p:=p++[s]) (d:=.put a h l) (ss:=putS s.1 a (j1 k,h,l)) (sp:=s.2) (by lia) (by simp;lia);have i:=qd (k:=k) (p:=p) (s:=s);have j:=zp (k:=k) (p:=p) (s:=s);have m:Few (0+1+((s.1.getD (a-1) []).map sD).length):=few (by
  have:(s.1.getD (a-1) []).length<=s.1.flatten.length:=by
   rw[bx,av J];exact(ek (kt J)).length_le
  rw[ah];lia)
 have n:jw 7 [hA k (p++[s])] [.int a,.int h,.int l]=[some (.ag kH (some 0) (hP k (p++[s]))),some (.sh (.int a)),some (.sh (.int h)),some (.sh (.int l)),none,none,none]:=rfl;have U:qg [(kH,hP k (p++[s]))] [.tup [.str "put",.int a,.int h,.int l],ssL (putS s.1 a (j1 k,h,l)),spL s.2]=some (.non,[hA (k++[.put a h l]) (p++[s]++[(putS s.1 a (j1 k,h,l),s.2)])]):=g;have V:yl [ssL s.1,.int a,.lst (.tup [.int (j1 k),.int h,.int l]::(s.1.getD (a-1) []).map sD)]=some (ssL (putS s.1 a (j1 k,h,l))):=f;have R:t3 (jw 7 [hA k (p++[s])] [.int a,.int h,.int l])=some (.rt (.int (j1 k)),[some (.ag kH (some 0) (hP (k++[.put a h l]) (p++[s]++[(putS s.1 a (j1 k,h,l),s.2)]))),some (.sh (.int a)),some (.sh (.int h)),some (.sh (.int l)),some (.sh (ssL s.1)),some (.sh (.int (j1 k))),some (.sh (.lst (.tup [.int (j1 k),.int h,.int l]::(s.1.getD (a-1) []).map sD)))]):=by
  rw[n];generalize (s.1.getD (a-1) []).map sD=TL at *;unfold ssL at *;simp[t3,fK0,cQ0,me,i,l8,mh,k1,k2,k3,Y,xFrz,fFrz,ub,k5,noL,c,e,m,cL0,zyi,V,j,U,zyj]
 exact⟨by unfold yk xL;rw[if_pos ⟨rfl,rfl⟩,R],by unfold z0 runL;rw[if_pos ⟨rfl,rfl⟩,R];rfl⟩
def newS(n:Nat):Hs:=(List.replicate n [],[])
theorem z1x(Z:n<=5):zew [(.ins true "House" [],[])] [.int n]=none/\zcg [(.ins true "House" [],[])] [.int n]=some (.non,[(.ins true "House" ij,hP [] [newS n])]):=by
 have k1:=zyh (h:=n) (by lia) (by lia);have J:Few (rngD 0 n).length:=few (by rw[tx];lia);have c:=nr (te:=fLst (fz fNil)) (base:=[]) (λi:Nat=>D.int (0+(i:Int))) (λ_:Nat=>D.lst []) (List.range n) λi _=>⟨_,rfl⟩;have R:=nk n (by lia);have U:jw 2 [(AK.ins true "House" [],[])] [.int n]=[some (.ag (.ins true "House" []) (some 0) []),some (.sh (.int n))]:=rfl;have V:(List.range n).map (λ_=>D.lst [])=(List.replicate n ([]:l0)).map λs=>D.lst (s.map sD):=by
  rw[List.map_const',j9,nj,du]
 have I:zde (jw 2 [(AK.ins true "House" [],[])] [.int n])=some (.nx,[some (.ag (.ins true "House" ij) (some 0) (hP [] [newS n])),some (.sh (.int n))]):=by
  rw[U];unfold rngD at R J;rw[V] at c;have Y:(True/\(Str.ofString "kept")∉([]:g7)/\0<900):=⟨trivial,by simp,by decide⟩;simp only[zde,sSeq,sXp,l8,mh,au,fVar,fNil,ai,af,ac,k1,lr,ak,jg,yy,fz,b6,gp,if_true,ax,lu,fTup,fLst,ip,i5,R,J,c,du,am,show 0+1+1<=64 by decide,show 0+1<=64 by decide];rw[if_pos Y];simp only[ac,ai,af,R,J,c,if_true,ak,am,b6,show 0+1+1<=64 by decide,show 0+1<=64 by decide];rfl
 exact⟨by unfold zew xL;rw[if_pos ⟨rfl,rfl⟩,I],by unfold zcg runL;rw[if_pos ⟨rfl,rfl⟩,I];rfl⟩
def z1y(D:n<=5)(I:F e=some ([.int n],e')):yz "House" zcg F e=some ((kH,hP [] [newS n]),e'):=by
 unfold yz;rw[I,ac,(z1x D).2];rfl
def zvu(h:e[i]?=some (some (.ag kH l (hP k p)))):(frz false e)[i]?=some (some (.ro kH (hP k p))):=by
 unfold frz;rw[bu,h];rfl
def z66(h:e[i]?=some (some (.ag kH l (hP k p)))):fK kH i (iu m [i] fNil) (frz false e)=(m [hA k p] []).map λd=>(d,frz false e):=by
 rw[yw (zvu h)];exact zk7 (zvu h) (r:=([],frz false e)) rfl (zvu h)
def yv(h:e[i]?=some (some (.ag kH l (hP k p)))):fK kH i (iu m [i] fNil) e=(m [hA k p] []).map λd=>(d,e):=by
 rw[zye h];exact zyf h (r:=([],e)) rfl h
variable{m:ln->k8->Option (Str×ln)}
def uq{m:ln->k8->lx}(h:e[i]?=some (some (.ag κ l ps)))(I:F e=some (ds,e))(J:m [(κ,ps)] ds=some (d,[(κ,ps')])):kg m [i] F e=some (d,e.set i (some (.ag κ l ps'))):=zyg h (r:=(ds,e)) I h J
def zr4{d:Str}(h:e[i]?=some (some (.ag κ l ps)))(D:F e=some (ds,e))(I:m [(κ,ps)] ds=some (d,[(κ,ps')])):mf m [i] F e=some (d,e.set i (some (.ag κ l ps'))):=zvr h (r:=(ds,e)) D h I
def zr5(h:e[i]?=some (some (.ag κ l ps)))(D:F e=some (ds,e))(I:m [(κ,ps)] ds=none):mf m [i] F e=none:=zvs h (r:=(ds,e)) D h I
def plD:D->Prop | .int _=>True | .str _=>True | _=>False
theorem zw(xs:k8)(R:∀x∈xs,plD x)(Y:xs.length<=1000):qh [.tup xs,.tup xs]=some (.bl true):=by
 obtain⟨e',h1,v2,rfl⟩:=tu (i:=2) (g:=wn) (λk e=>∃v2,e=[some (.sh (.tup xs)),some (.sh (.tup xs)),v2]) (rngD 0 xs.length) [some (.sh (.tup xs)),some (.sh (.tup xs)),none] ⟨none,rfl⟩ (by
  rintro k d e U ⟨v2,rfl⟩;obtain⟨rfl,I⟩:=tj U;have J:atI xs (k:Int)=some xs[k]:=by
   unfold atI;rw[qr (by lia) (by lia)];simp[I]
  have V:=R _ (kt I);generalize xs[k]=x at *;cases x with
  | int i=>simp[wn,J,vt]
  | str i=>simp[wn,J]
  | _=>exact V.elim)
 have hi:=nk xs.length (by lia);refine j6 (e':=?w) rfl ?h;show zc5 [some (.sh (.tup xs)),some (.sh (.tup xs)),none]=_;simp[zc5,hi,h1];rfl
def zn5(h:wg [ssL s.1]=some (iD os)):u7 [hA k (p++[s])] []=some (.lst (iD os)):=by
 unfold u7 runQ;have D:(j8 1 [hA k (p++[s])] [])[0]?=some (some (.ro kH (hP k (p++[s])))):=rfl;have h1:=zk7 (m:=n9) (F:=fNil) D (r:=([],j8 1 [hA k (p++[s])] [])) rfl D;have h2:=yw (f:=iu n9 [0] fNil) D;simp[qd] at h1;simp[zg6,h2,h1,h]
theorem zr6(ss:mu)(D:ss.length<=1000):(if 0<ss.flatten.length then yn [] [ssL ss]=none/\zfd [] [ssL ss]=some .non else yn [] [ssL ss]=some ("NothingWaits" : Str)):=by
 have h:=zpf ss D;generalize ss.flatten.length=n at *;split <;> rename_i I
 ·unfold yn zfd xQ runQ
  rw[if_pos ⟨rfl,rfl⟩,if_pos ⟨rfl,rfl⟩,show j8 1 [] [ssL ss]=[some (.sh (ssL ss))] from rfl];simp[zfc,h,show ¬n=0 by lia]
 ·unfold yn xQ
  rw[if_pos ⟨rfl,rfl⟩,show j8 1 [] [ssL ss]=[some (.sh (ssL ss))] from rfl];simp[zfc,h,show n=0 by lia,lc]
def dryS(s:Hs)(a:Nat)(x:Sk)(tl:l0):Hs:=(s.1.set (a-1) tl,s.2++[(hrOf s.2,hrOf s.2+x.2.1,lss s.1.flatten)])
variable{x:Sk}{tl:l0}
theorem zzv(Y:wg [ssL s.1]=some (iD (a::os)))(R:s.1[a-1]?=some (x::tl))(U:1<=a)(Z:k.length<60)(q:s.1.length<=5)(r:p.length<=100)(b:∀y∈s.1,y.length<=1000)(c:s.2.length<=1000)(e:0<s.1.flatten.length) :
  yi [hA k (p++[s])] []=none/\u6 [hA k (p++[s])] []=some (sD x,[hA (k++[.dry]) (p++[s]++[dryS s a x tl])]):=by
 have k1:=zr6 s.1 (by lia);rw[if_pos e] at k1;have k5:=uz (k.map dD);rw[if_pos (by rw[ah];exact Z)] at k5;have f:=zzt R U;have g:=zmu R U (by lia);have h:=zqn s.1 b;have i:qg [(kH,hP k (p++[s]))] [.tup [.str "dry"],ssL (s.1.set (a-1) tl),.lst (s.2.map sD++[.tup [.int (hrOf s.2),.int (hrOf s.2+x.2.1),.int (lss s.1.flatten)]])]=some (.non,[hA (k++[.dry]) (p++[s]++[dryS s a x tl])]):=by
  have:=zn4 (k:=k) (p:=p++[s]) (d:=.dry) (ss:=s.1.set (a-1) tl) (sp:=s.2++[(hrOf s.2,hrOf s.2+x.2.1,lss s.1.flatten)]) (by lia) (by simp;lia);unfold spL at this;rw[dh] at this;exact this
 have j:=qd (k:=k) (p:=p) (s:=s);have V:=zp (k:=k) (p:=p) (s:=s);have l:=zqr (k:=k) (p:=p) (s:=s);have kd:wm [sD x]=some (.int x.2.1):=zrz x;have m:Few ((s.2.map sD).length+(0+1)):=few (by rw[ah];lia);have J:atI (iD (a::os)) 0=some (.int (a:Int)):=by unfold iD;exact lb (k:=0) (λn:Nat=>D.int (n:Int)) rfl
 have o:jw 6 [hA k (p++[s])] []=[some (.ag kH (some 0) (hP k (p++[s]))),none,none,none,none,none]:=rfl;have I:∃e',yj (jw 6 [hA k (p++[s])] [])=some (.rt (sD x),some (.ag kH (some 0) (hP (k++[.dry]) (p++[s]++[dryS s a x tl])))::e'):=by
  rw[o];unfold spL at V;generalize s.2.map sD=SP at *;simp[yj,fK0,cQ0,me,j,l8,mh,k1,xFrz,fFrz,ub,k5,noL,f,Y,J,l,kd,h,g,V,m,cL0,zyi,i,zyj]
 obtain⟨e',I⟩:=I;exact⟨by unfold yi xL;rw[if_pos ⟨rfl,rfl⟩,I],by unfold u6 runL;rw[if_pos ⟨rfl,rfl⟩,I];rfl⟩
def ua:Int->m1->Prop
 | _,[]=>True
 | b,x::r=>x.1=b/\x.1<=x.2.1/\ua x.2.1 r
def o8:Int->m1->Int
 | b,[]=>b
 | _,x::r=>o8 x.2.1 r
def zj2:∀(sp:m1) (b:Int) (x:Spn),o8 b (sp++[x])=x.2.1
 | [],_,_=>rfl
 | y::r,_,x=>zj2 r y.2.1 x
def zr7(sp:m1):hrOf sp=o8 0 sp:=by
 unfold hrOf;cases h:sp.getLast? with
 | none=>rw[wq.mp h];rfl
 | some x=>obtain⟨q,rfl⟩:=wp.mp h;rw[zj2]
def zpj:∀(sp:m1) (b:Int) (x:Spn),ua b sp->x.1=o8 b sp->x.1<=x.2.1->ua b (sp++[x])
 | [],_,_,_,h,h2=>⟨h,h2,trivial⟩
 | y::r,_,x,hc,h,h2=>⟨hc.1,hc.2.1,zpj r _ x hc.2.2 h h2⟩
theorem zyk:∀(sp:m1) (b:Int),ua b sp->b<=o8 b sp
 | [],b,_=>Int.le_refl b
 | y::r,b,hc=>by have:=zyk r _ hc.2.2;have:=hc.1;have:=hc.2.1;show b<=o8 y.2.1 r;lia
def rts(sp:m1):ia:=(sp.map λx=>List.replicate (x.2.1-x.1).toNat x.2.2).flatten
theorem zqt:∀(sp:m1) (b:Int),ua b sp->((rts sp).length:Int)=o8 b sp-b
 | [],b,_=>by show(0:Int)=b-b;lia
 | x::r,b,hc=>by
   have D:=zqt r _ hc.2.2;have e:rts (x::r)=List.replicate (x.2.1-x.1).toNat x.2.2++rts r:=rfl;rw[e,ao,fb];have:=hc.1;have:=hc.2.1;show _=o8 x.2.1 r-b
   lia
theorem z1z(ss:mu)(U:ss.length<=1000)(R:∀s∈ss,s.length<=1000):zh0 [ssL ss]=some (.int (lss ss.flatten)):=by
 have c:=nr (te:=d7 bSum (au (fLst (ip (fiS (fVar 0)) [] fYes (fIxV 0 (fC (.int 2))))) (fNil))) (base:=[]) (λs:l0=>D.lst (s.map sD)) (λs:l0=>D.int (s.map λx:Sk=>x.2.2).sum) ss λs V=>by
  have Y:=nr (te:=fIxV 0 (fC (.int 2))) (base:=[]) sD (λx:Sk=>D.int x.2.2) s λx _=>⟨_,by simp[sD,y7];rfl⟩;have I:=xg (λx:Sk=>x.2.2) s;have J:Few (s.map sD).length:=few (by rw[ah];have:=R s V;lia);generalize s.map sD=L at *;exact⟨_,by simp[ip,J,Y,I];rfl⟩
 have I:=xg (λs:l0=>(s.map λx:Sk=>x.2.2).sum) ss;have J:Few (ss.map λs=>D.lst (s.map sD)).length:=few (by rw[ah];lia);have Z:(ss.map λs:l0=>(s.map λx:Sk=>x.2.2).sum).sum=lss ss.flatten:=by
  clear c I J U R;induction ss with
  | nil=>rfl
  | cons a l ih=>rw[ci,gc,ih,cw,qz];rfl
 rw[Z] at I;refine j6 (e':=[some (.sh (ssL ss))]) rfl ?_;show zji [some (.sh (ssL ss))]=_;unfold ssL;generalize (ss.map λs=>D.lst (s.map sD))=L at *;simp[zji,ip,J] at c ⊢;simp[c,I]
def zvw(a b:m1):rts (a++b)=rts a++rts b:=by simp[rts]
theorem zyl(sp:m1)(I:ua b sp)(i:o8 b sp-b<=100000):ziu [spL sp]=some (.lst ((rts sp).map D.int)):=by
 have Z:=zqt sp b I;obtain⟨e',V,v2,R,U,rfl⟩:=zn (ix:=[2,3,4]) (g:=zfe) (λx:Spn=>[D.int x.1,.int x.2.1,.int x.2.2]) (λp e=>∃v2 R U,e=[some (.sh (spL sp)),some (.sh (.lst ((rts p).map D.int))),v2,R,U]) sp
  [some (.sh (spL sp)),some (.sh (.lst [])),none,none,none] ⟨none,none,none,rfl⟩ (λ_ _=>rfl) (by
   rintro p x q e J ⟨v2,R,U,rfl⟩;have a:(rts p).length+(x.2.1-x.1).toNat<=100000:=by
    have:(rts sp).length=(rts p).length+((x.2.1-x.1).toNat+(rts q).length):=by rw[J,zvw,ao];congr 1;show(List.replicate _ _++rts q).length=_;simp
    lia
   have Y:Bnd (-(2 ^ 62)) (2 ^ 62) (x.2.1-x.1):=by
    have:-100000<=x.2.1-x.1:=by
     have c:∀(l:m1) (b:Int),ua b l->x∈l->x.1<=x.2.1:=by
      intro l;induction l with
      | nil=>intro b _ h;cases h
      | cons y r ih=>intro b I h;rcases cb.mp h with rfl | h;exact I.2.1;exact ih _ I.2.2 h
     have:=c sp b I (by rw[J];simp)
     lia
    exact⟨by lia,by lia⟩
   have d:Few ((0+1)*(x.2.1-x.1).toNat):=by show _<=_;lia
   have f2:Few (((rts p).map D.int).length+(List.replicate (x.2.1-x.1).toNat (D.int x.2.2)).length):=by show _<=_;rw[ah,fb];lia
   have f:(rts (p++[x])).map D.int=(rts p).map D.int++List.replicate (x.2.1-x.1).toNat (D.int x.2.2):=by rw[zvw,dh,show rts [x]=List.replicate (x.2.1-x.1).toNat x.2.2 by simp[rts],nj]
   refine⟨[some (.sh (spL sp)),some (.sh (.lst ((rts (p++[x])).map D.int))),some (.sh (.int x.1)),some (.sh (.int x.2.1)),some (.sh (.int x.2.2))],?_,_,_,_,rfl⟩;rw[f];simp only[sw,zfe,sSet,fLst,fCat,fRep,fz,au,fNil,fVar,fBin,dSub,af,ai,ac,ak,ax,az,am,b6,show 0+1<=64 by decide,if_true,d,Y,and_self,zqh,f2])
 have V:forU [2,3,4] zfe (sp.map sD) [some (.sh (spL sp)),some (.sh (.lst [])),none,none,none]=_:=V;refine j6 (e':=[some (.sh (spL sp)),some (.sh (.lst ((rts sp).map D.int))),v2,R,U]) rfl ?_;show zit [some (.sh (spL sp)),none,none,none,none]=_;unfold spL at *;simp[zit,V]
def drP(ss:mu)(p:h8):List k8:=(List.range ss.length).map λj=>((ss.getD j []).drop (p.count (j+1))).map sD
def zvx(ss:mu):ss.map (λs=>s.map sD)=drP ss []:=by
 unfold drP;apply dz;intro i;by_cases h:i<ss.length
 ·simp[h]
 ·simp[h]
theorem zym(ss:mu)(J:ss.length<=1000):zgm [ssL ss]=some (drP ss []):=by
 rw[<-zvx];have c:=zj7 (te:=i5 nz (au (fVar 0) (fNil))) (base:=[]) (λs:l0=>D.lst (s.map sD)) (λs:l0=>s.map sD) ss λs _=>⟨_,by simp;rfl⟩;have I:Few (ss.map λs=>D.lst (s.map sD)).length:=few (by rw[ah];lia);unfold zgm wv;rw[if_pos (show[ssL ss].length=1 from rfl)];have:zgl (jk 1 [ssL ss])=some (.r2 (ss.map λs=>s.map sD),[some (.sh (ssL ss))]):=by
  show zgl [some (.sh (.lst (ss.map λs:l0=>D.lst (s.map sD))))]=_;unfold ssL;generalize (ss.map λs=>D.lst (s.map sD))=L at *;simp[zgl,zq8,ui,I,c]
 rw[this]
def z10(D:wg [ssL s.1]=some (iD os))(h:zgk [ssL s.1,.lst (iD os)]=some d):zel [hA k (p++[s])] []=some d:=by
 unfold zel runQ;rw[if_pos ⟨rfl,rfl⟩,show j8 1 [hA k (p++[s])] []=[some (.ro kH (hP k (p++[s])))] from rfl];simp[zh2,fK0r,cQ0,z5h,qd,zn5 D,h]
variable{t:l0}
theorem zn6(h:ss[a-1]?=some t)(I:1<=a)(J:ss.length<=1000):(if t.length=0 then we [] [ssL ss,.int (a:Int)]=some ("EmptyStack" : Str) else we [] [ssL ss,.int (a:Int)]=none/\zen [] [ssL ss,.int (a:Int)]=some .non):=by
 have h1:=qo h I;have R:=(aj.mp h).1;have e:j8 2 [] [ssL ss,.int (a:Int)]=[some (.sh (ssL ss)),some (.sh (.int (a:Int)))]:=rfl;have D:((t.map sD).length:Int)=t.length:=by rw[ah]
 generalize t.map sD=T at *;split <;> rename_i U
 ·unfold we xQ
  rw[if_pos ⟨rfl,rfl⟩,e];unfold ssL;have c:decide ((T.length:Int)=0)=true:=decide_eq_true (by lia);simp only[zf0,sIf,fTst,fBin,d7,au,fIxV,ixSl,fVar,fC,fNil,dSub,af,ai,ac,ak,h1,bLen,dEq,c,if_true,lc,vInt,show((a:Int)).natAbs<1000000 by lia]
 ·unfold we zen xQ runQ
  rw[if_pos ⟨rfl,rfl⟩,if_pos ⟨rfl,rfl⟩,e];unfold ssL;have c:decide ((T.length:Int)=0)=false:=decide_eq_false (by lia);simp only[zf0,sIf,fTst,fBin,d7,au,fIxV,ixSl,fVar,fC,fNil,dSub,af,ai,ac,ak,h1,bLen,dEq,c,bz,if_false,sNil,and_self]
def goS(s:Hs)(a:Nat)(tl:l0):Hs:=(s.1.set (a-1) tl,s.2)
theorem z67(I:s.1[a-1]?=some (x::tl))(J:1<=a)(R:k.length<60)(e:s.1.length<=5)(f:p.length<=100) :
  yd [hA k (p++[s])] [.int (a:Int)]=none/\zx [hA k (p++[s])] [.int (a:Int)]=some (sD x,[hA (k++[.go a]) (p++[s]++[goS s a tl])]):=by
 have g:=(aj.mp I).1;have k1:=x6 (ss:=s.1) (a:=a) (by lia) (by lia);have k2:=zn6 I J (by lia);rw[if_neg (by simp)] at k2;have k5:=uz (k.map dD);rw[if_pos (by rw[ah];exact R)] at k5;have U:=zzt I J;have V:=zmu I J (by lia);have Y:qg [(kH,hP k (p++[s]))] [.tup [.str "go",.int (a:Int)],ssL (s.1.set (a-1) tl),spL s.2]=some (.non,[hA (k++[.go a]) (p++[s]++[goS s a tl])]):=zn4 (k:=k) (p:=p++[s]) (d:=.go a) (ss:=s.1.set (a-1) tl) (sp:=s.2) (by lia) (by simp;lia);have Z:=qd (k:=k) (p:=p) (s:=s);have b:=zp (k:=k) (p:=p) (s:=s);have c:jw 3 [hA k (p++[s])] [.int (a:Int)]=[some (.ag kH (some 0) (hP k (p++[s]))),some (.sh (.int (a:Int))),none]:=rfl;have D:wd (jw 3 [hA k (p++[s])] [.int (a:Int)])=some (.rt (sD x),[some (.ag kH (some 0) (hP (k++[.go a]) (p++[s]++[goS s a tl]))),some (.sh (.int (a:Int))),some (.sh (ssL s.1))]):=by
  rw[c];generalize spL s.2=SP at *;simp[wd,fK0,cQ0,me,Z,l8,mh,k1,k2,xFrz,fFrz,ub,k5,noL,U,V,b,cL0,zyi,Y,zyj]
 exact⟨by unfold yd xL;rw[if_pos ⟨rfl,rfl⟩,D],by unfold zx runL;rw[if_pos ⟨rfl,rfl⟩,D];rfl⟩
theorem zr8{m:Int}:(if m<1\/(t.length:Int)<m then ym [] [.lst (t.map sD),.int m]=some ("UnknownPlace" : Str) else ym [] [.lst (t.map sD),.int m]=none/\zff [] [.lst (t.map sD),.int m]=some .non):=by
 have e:j8 2 [] [.lst (t.map sD),.int m]=[some (.sh (.lst (t.map sD))),some (.sh (.int m))]:=rfl;have D:((t.map sD).length:Int)=t.length:=by rw[ah]
 generalize t.map sD=T at *;split <;> rename_i I
 ·unfold ym xQ
  rw[if_pos ⟨rfl,rfl⟩,e];by_cases h1:m<1
  ·simp[zds,h1,lc]
  ·simp[zds,h1,show(T.length:Int)<m by lia,lc]
 ·unfold ym zff xQ runQ
  rw[if_pos ⟨rfl,rfl⟩,if_pos ⟨rfl,rfl⟩,e];simp[zds,show ¬m<1 by lia,show ¬(T.length:Int)<m by lia]
def zpk(x:Sk)(l:Int):zjk [sD x,.int l]=some (sD (x.1,x.2.1,l)):=by
 rfl
theorem z11{m:Nat}{l:Int}(J:s.1[a-1]?=some t)(U:t[m-1]?=some x)(R:1<=a)(A:1<=m)(e:0<=l)(h1:l<=100)(f:k.length<60)(B:s.1.length<=5)(g:t.length<=1000)(C:p.length<=100) :
  yg [hA k (p++[s])] [.int (a:Int),.int (m:Int),.int l]=none/\zeo [hA k (p++[s])] [.int (a:Int),.int (m:Int),.int l]=some (.int x.2.2,[hA (k++[.tell a m l]) (p++[s]++[(s.1.set (a-1) (t.set (m-1) (x.1,x.2.1,l)),s.2)])]):=by
 have E:=(aj.mp J).1;have F:=(aj.mp U).1;have k1:=x6 (ss:=s.1) (a:=a) (by lia) (by lia);have k2:=zn6 J R (by lia);rw[if_neg (by lia)] at k2;have k3:=zr8 (t:=t) (m:=m);rw[if_neg (by lia)] at k3;have i:=zn3 (h:=l) e h1;have k5:=uz (k.map dD);rw[if_pos (by rw[ah];exact f)] at k5;have j:=qo J R;have n:atI (t.map sD) ((m:Int)-1)=some (sD x):=by
  rw[show(m:Int)-1=((m-1:Nat):Int) by lia];exact lb sD U
 have V:=zhx (ss:=s.1) (a:=a) (t.set (m-1) (x.1,x.2.1,l)) R (by lia) (by lia);have G:(t.map sD).length=t.length:=ah ..;have b:=zr0 (t.map sD) (m-1) (by lia);rw[show((m-1:Nat):Int)=(m:Int)-1 by lia] at b;have o:=zl (t.map sD) m (by lia);have c:=zvp (t.map sD) (m-1) (sD (x.1,x.2.1,l)) (by lia);rw[show m-1+1=m by lia] at c;have q:Few (((t.map sD).take (m-1)).length+(0+1)):=few (by simp only[dy];lia);have f2:Few (((t.map sD).take (m-1)++[sD (x.1,x.2.1,l)]).length+((t.map sD).drop m).length):=few (by simp[dy,d9];lia);have r:(t.set (m-1) (x.1,x.2.1,l)).map sD=(t.map sD).set (m-1) (sD (x.1,x.2.1,l)):=gw ..;rw[r,<-c] at V;have u:qg [(kH,hP k (p++[s]))] [.tup [.str "tell",.int (a:Int),.int (m:Int),.int l],ssL (s.1.set (a-1) (t.set (m-1) (x.1,x.2.1,l))),spL s.2]=some (.non,[hA (k++[.tell a m l]) (p++[s]++[(s.1.set (a-1) (t.set (m-1) (x.1,x.2.1,l)),s.2)])]):=zn4 (k:=k) (p:=p++[s]) (d:=.tell a m l) (ss:=s.1.set (a-1) (t.set (m-1) (x.1,x.2.1,l))) (sp:=s.2) (by lia) (by simp;lia);have v:=qd (k:=k) (p:=p) (s:=s);have w:=zp (k:=k) (p:=p) (s:=s);have y:=zpk x l;have kd:=zvk x;have z:jw 8 [hA k (p++[s])] [.int (a:Int),.int (m:Int),.int l]=[some (.ag kH (some 0) (hP k (p++[s]))),some (.sh (.int (a:Int))),some (.sh (.int (m:Int))),some (.sh (.int l)),none,none,none,none]:=rfl;have I:∃e',rj (jw 8 [hA k (p++[s])] [.int (a:Int),.int (m:Int),.int l])=some (.rt (.int x.2.2),some (.ag kH (some 0) (hP (k++[.tell a m l]) (p++[s]++[(s.1.set (a-1) (t.set (m-1) (x.1,x.2.1,l)),s.2)])))::e'):=by
  rw[z];unfold ssL at *;generalize (s.1.map λs=>D.lst (s.map sD))=SL at *;generalize (t.map sD).take (m-1)=TA at *;generalize (t.map sD).drop m=TB at *;generalize t.map sD=T at *;generalize sD (x.1,x.2.1,l)=Y at *;generalize sD x=Z at *;refine⟨[some (.sh (.int (a:Int))),some (.sh (.int (m:Int))),some (.sh (.int l)),some (.sh (.lst SL)),some (.sh (.lst T)),some (.sh Z),some (.sh (.lst (TA++[Y]++TB)))],?_⟩;simp only[rj,sSeq,sSet,sXp,jg,fK0,cQ0,fNil,ac,me,v,ak,az,ax,l8,mh,au,fVar,ai,af,k1,k2,k3,i,lr,xFrz,fFrz,ub,k5,noL,if_true,d7,fIxV,ixSl,fBin,fC,dSub,j,n,fLst,fCat,fSl,fO0,fO1,b,o,fz,y,q,f2,fTup,am,b6,show 0+1<=64 by decide,show 0+1+1+1+1<=64 by decide,V,w,cL0,zyi,u,ci,du,zyj,sRet,kd]
 obtain⟨e',I⟩:=I;exact⟨by unfold yg xL;rw[if_pos ⟨rfl,rfl⟩,I],by unfold zeo runL;rw[if_pos ⟨rfl,rfl⟩,I];rfl⟩
abbrev dsO(ss:mu):List k8:=ss.map λs=>s.map sD
def zvy(h:e[j]?=some (some (.sh d))):(frz false e)[j]?=some (some (.sh d)):=by
 unfold frz;rw[bu,h];rfl
def zr9(h:e[j]?=some (some (.o2 (dsO ss)))):(frz false e)[j]?=some (some (.sh (ssL ss))):=by
 unfold frz;rw[bu,h];show some (some (Sl.sh (.lst ((dsO ss).map D.lst))))=_;unfold dsO ssL;rw[iw];rfl
def zzw(r:l0):noLs (r.map sD)=true:=by
 induction r with
 | nil=>rfl
 | cons x r ih=>rw[ci];unfold noLs;rw[ih];rfl
variable{c w:Str}
def zvz(h:xi c=some w):((List.range 13).filter λk=>c==lg.getD k "").map (λk=>D.str (o9.getD k ""))=[D.str w]:=by
 have I:c∈lg:=zmn (by unfold kdT;rw[h];rfl);simp[lg] at I;rcases I with rfl | rfl | rfl | rfl | rfl | rfl | rfl | rfl | rfl | rfl | rfl | rfl | rfl <;> cases h <;> rfl
theorem zyn(c:Str)(d:D)(h:kdT c=some d):runK 4 z1k c d:=by
 obtain⟨w,J,rfl⟩:=gv.mp h;intro ea;have R:iR1 [.int 13]=some (rngD 0 13):=nk 13 (by decide);have U:∀n,n<=100->Few n=True:=λn a=>eq_true (few (by lia));have cmp:=zk1 (tt:=fAnd (fTst (fIxV 2 (fVar 0))) (fTst (fIsx ea 3 true))) (te:=fIxV 1 (fVar 0)) (base:=[some (.sh (.lst (o9.map D.str))),some (.sh (.lst (lg.map λn=>D.bl (c==n)))),some (.sh (.exc ea))]) (λj:Nat=>D.int (0+(j:Int))) (λk=>D.str (o9.getD k "")) (λk=>c==lg.getD k "") (List.range 13) (λk I=>by
  have I:=j3.mp I;have V:atI (lg.map λn=>D.bl (c==n)) (0+(k:Int))=some (.bl (c==lg.getD k "")):=by
   rw[lp,lb (λn:Str=>D.bl (c==n)) (av (show k<lg.length from I)),bx,av (show k<lg.length from I)];rfl
  have Y:atI (o9.map D.str) (0+(k:Int))=some (.str (o9.getD k "")):=by
   rw[lp,lb D.str (av (show k<o9.length from I)),bx,av (show k<o9.length from I)];rfl
  generalize (lg.map λn=>D.bl (c==n))=KL at *;generalize o9.map D.str=WL at *;refine⟨[some (.sh (.int (0+(k:Int)))),some (.sh (.lst WL)),some (.sh (.lst KL)),some (.sh (.exc ea))],?_,λ_=>⟨_,by simp only[fIxV,fVar,ixSl,af,ai,ac,ak,Y];rfl⟩⟩;generalize (c==lg.getD k "")=bb at *;cases bb <;> simp only[fAnd,fTst,fIxV,fVar,ixSl,fIsx,V,af,ai,ac,ak,bz,if_false,if_true])
 rw[zvz J] at cmp;have cmp:m8 (fAnd (fTst (fIxV 2 (fVar 0))) (fTst (fIsx ea 3 true))) (fIxV 1 (fVar 0)) [some (.sh (.lst (o9.map D.str))),some (.sh (.lst (lg.map λn=>D.bl (c==n)))),some (.sh (.exc ea))] (rngD 0 13)=some [D.str w]:=cmp;have Z:(rngD 0 13).length=13:=rfl;refine⟨[some (.sh (.exc ea)),some (.sh (.lst (lg.map λn=>D.bl (c==n)))),some (.sh (.lst (o9.map D.str))),some (.sh (.lst [.str w]))],?_⟩;show z1k ea c [some (.sh (.exc ea)),none,none,none]=_;simp[lg,o9] at cmp ⊢;simp[z1k,fIsx,U,ip,R,Z,capt,cmp,bTup]
def zeq:FS:=sSeq (sIf (fTst (fBin dEq (pLen (.at (.ins false "House" ij)) 0 0) (fC (.int 0)))) (lc "NothingDone" (some)) (sNil)) (sSeq (jg (pPop (.at (.ins false "House" ij)) 0 1)) (sRet (pPop (.at (.ins false "House" ij)) 0 0)))
def zer:ln->k8->lx:=runL 1 1 0 zeq
def yf:ln->k8->Option (Str×ln):=xL 1 1 0 zeq
def pk:FS:=sSeq (sIf (fTst (fBin dEq (fIxV 1 (fC (.int 0))) (fC (.str "put")))) (sXp (xK (.ins false "House" ij) 0 (mf yk [0] (au (fIxV 1 (fC (.int 1))) (au (fIxV 1 (fC (.int 2))) (au (fIxV 1 (fC (.int 3))) (fNil)))))) (sRet (fK (.ins false "House" ij) 0 (kg z0 [0] (au (fIxV 1 (fC (.int 1))) (au (fIxV 1 (fC (.int 2))) (au (fIxV 1 (fC (.int 3))) (fNil)))))))) (sNil)) (sSeq (sIf (fTst (fBin dEq (fIxV 1 (fC (.int 0))) (fC (.str "tell")))) (sXp (xK (.ins false "House" ij) 0 (mf yg [0] (au (fIxV 1 (fC (.int 1))) (au (fIxV 1 (fC (.int 2))) (au (fIxV 1 (fC (.int 3))) (fNil)))))) (sRet (fK (.ins false "House" ij) 0 (kg zeo [0] (au (fIxV 1 (fC (.int 1))) (au (fIxV 1 (fC (.int 2))) (au (fIxV 1 (fC (.int 3))) (fNil)))))))) (sNil)) (sSeq (sIf (fTst (fBin dEq (fIxV 1 (fC (.int 0))) (fC (.str "go")))) (sXp (xK (.ins false "House" ij) 0 (mf yd [0] (au (fIxV 1 (fC (.int 1))) (fNil)))) (sRet (fK (.ins false "House" ij) 0 (kg zx [0] (au (fIxV 1 (fC (.int 1))) (fNil)))))) (sNil)) (sSeq (sIf (fTst (fBin dEq (fIxV 1 (fC (.int 0))) (fC (.str "dry")))) (sXp (xK (.ins false "House" ij) 0 (mf yi [0] (fNil))) (sRet (fK (.ins false "House" ij) 0 (kg u6 [0] (fNil))))) (sNil)) (sXp (xK (.ins false "House" ij) 0 (mf yf [0] (fNil))) (sRet (fK (.ins false "House" ij) 0 (kg zer [0] (fNil))))))))
def zh5:ln->k8->lx:=runL 2 1 1 pk
def yc:ln->k8->Option (Str×ln):=xL 2 1 1 pk
def zgp:FS:=sSeq (sSet 2 (fTup (au (fC (.str "refused")) (au (fC (.str "")) (fNil))))) (sSeq (sTry (sXp (mf yc [0] (au (fVar 1) (fNil))) (sRet (kg zh5 [0] (au (fVar 1) (fNil))))) 3 2 kdT) (sRet (fVar 2)))
def pv:ln->k8->lx:=runL 4 1 1 zgp
def zpl:ln->k8->Option (Str×ln):=xL 4 1 1 zgp
def yb:FS:=sSeq (vk 1 [3,4,5,6]) (sSeq (sSet 7 (d7 zdr (au (fVar 3) (au (pLen (.al 4) 1 1) (au (fVar 2) (fNil)))))) (sSeq (sSet 8 (kg pv [0] (au (fVar 2) (fNil)))) (sSeq (sIf (fTst (fBin dNe (fVar 7) (fC (.str "")))) (sRet (d7 qh (au (fVar 8) (au (fTup (au (fC (.str "refused")) (au (fVar 7) (fNil)))) (fNil))))) (sNil)) (sSeq (sIf (fTst (fBin dEq (fIxV 2 (fC (.int 0))) (fC (.str "back")))) (sSeq (sSet 9 (pPop (.al 5) 1 2)) (sSeq (qj 1 0 (fIxV 9 (fC (.int 0)))) (sSeq (qj 1 3 (fIxV 9 (fC (.int 1)))) (sRet (d7 qh (au (fVar 8) (au (pPop (.al 4) 1 1) (fNil)))))))) (sNil)) (sSeq (sSet 10 (d7 rq (au (fVar 3) (au (fVar 2) (au (fFrz false (fBin ja (fC (.int 1)) (d7 bLen (au (fLst (ip (fiS (fVar 4)) [] (fTst (fBin dEq (fIxV 0 (fC (.int 0))) (fC (.str "put")))) (fVar 0))) (fNil))))) (fNil)))))) (sSeq (jg (qu (.al 5) 1 2 (fTup (au (fVar 3) (au (fVar 6) (fNil)))))) (sSeq (jg (qu (.al 4) 1 1 (fVar 2))) (sSeq (qj 1 0 (fIxV 10 (fC (.int 0)))) (sSeq (sIf (fTst (fBin dEq (fIxV 2 (fC (.int 0))) (fC (.str "dry")))) (sSeq (sSet 11 (d7 bLen (au (d7 ziu (au (fVar 6) (fNil))) (fNil)))) (qj 1 3 (fLst (fCat (fVar 6) (fLst (fz (au (fTup (au (fVar 11) (au (fBin ja (fVar 11) (fBin dIx (fIxV 10 (fC (.int 1))) (fC (.int 1)))) (au (d7 zh0 (au (fVar 3) (fNil))) (fNil))))) (fNil)))))))) (sNil)) (sRet (d7 yr (au (fVar 8) (au (fIxV 10 (fC (.int 1))) (fNil))))))))))))))
def tq:ln->k8->lx:=runL 12 2 1 yb
def zs7:ln->k8->Option (Str×ln):=xL 12 2 1 yb
variable{ags:ln}
def xf{p:Nat}{t:ln}(h1:ags.length=p)(h2:ds.length=ar)(D:g (jw n ags ds)=some (.xc c,e))(I:outA e 0 (List.range p)=some t):xL n p ar g ags ds=some (c,t):=by
 unfold xL;rw[if_pos ⟨h1,h2⟩,D];dsimp only;rw[I];rfl
variable{a:Int}
theorem z68{l:Int}(D:putX s.1 k.length a h l=some c)(d:s.1.length<=5):yk [hA k (p++[s])] [.int a,.int h,.int l]=some (c,[hA k (p++[s])]):=by
 have I:=qd (k:=k) (p:=p) (s:=s);have U:jw 7 [hA k (p++[s])] [.int a,.int h,.int l]=[some (.ag kH (some 0) (hP k (p++[s]))),some (.sh (.int a)),some (.sh (.int h)),some (.sh (.int l)),none,none,none]:=rfl;have k5:=uz (k.map dD);rw[ah] at k5;refine xf (e:=[some (.ag kH (some 0) (hP k (p++[s]))),some (.sh (.int a)),some (.sh (.int h)),some (.sh (.int l)),some (.sh (ssL s.1)),none,none]) rfl rfl ?_ rfl;rw[U];unfold putX at D;have J:=zvt s.1 (by lia);split at D
 ·cases D
  rename_i V;have k1:=zqs (ss:=s.1) (a:=a) V;simp[t3,fK0,cQ0,me,I,l8,k1]
 have k1:=x6 (ss:=s.1) (a:=a) (by lia) (by lia);split at D
 ·cases D
  rename_i Y;have k2:=z1v (h:=h) Y;simp[t3,fK0,cQ0,me,I,l8,mh,k1,k2]
 have k2:=zr3 (h:=h) (by lia) (by lia);split at D
 ·cases D
  rename_i Z;have k3:=zzu (h:=l) Z;simp[t3,fK0,cQ0,me,I,l8,mh,k1,k2,k3]
 have k3:=zn3 (h:=l) (by lia) (by lia);split at D
 ·rename_i R
  rw[if_pos R] at J;split at D
  ·cases D
  ·cases D
   rename_i b;rw[if_neg b] at k5;simp[t3,fK0,cQ0,me,I,l8,mh,k1,k2,k3,J,xFrz,ub,k5]
 ·cases D
  rename_i R;rw[if_neg R] at J;simp[t3,fK0,cQ0,me,I,l8,mh,k1,k2,k3,J]
def t9(ss:mu)(n:Nat)(a m l:Int):ka:=if a<1\/(ss.length:Int)<a then some "UnknownStack" else if (ss.getD (a.toNat-1) []).length=0 then some "EmptyStack" else if m<1\/((ss.getD (a.toNat-1) []).length:Int)<m then some "UnknownPlace" else if l<0\/100<l then some "BadLoss" else if n<60 then none else some "DeedsFull"
def goX(ss:mu)(n:Nat)(a:Int):ka:=if a<1\/(ss.length:Int)<a then some "UnknownStack" else if (ss.getD (a.toNat-1) []).length=0 then some "EmptyStack" else if n<60 then none else some "DeedsFull"
def dryX(ss:mu)(n:Nat):ka:=if 0<ss.flatten.length then(if n<60 then none else some "DeedsFull") else some "NothingWaits"
theorem uo(h:¬(a<1\/(ss.length:Int)<a)):ss[a.toNat-1]?=some (ss.getD (a.toNat-1) []):=by
 rw[bx,av (by lia)];rfl
theorem go_x(D:goX s.1 k.length a=some c)(V:s.1.length<=5):yd [hA k (p++[s])] [.int a]=some (c,[hA k (p++[s])]):=by
 have I:=qd (k:=k) (p:=p) (s:=s);have k5:=uz (k.map dD);rw[ah] at k5;refine xf (e:=[some (.ag kH (some 0) (hP k (p++[s]))),some (.sh (.int a)),some (.sh (ssL s.1))]) rfl rfl ?_ rfl;rw[show jw 3 [hA k (p++[s])] [.int a]=[some (.ag kH (some 0) (hP k (p++[s]))),some (.sh (.int a)),none] from rfl];unfold goX at D;split at D
 ·cases D
  rename_i J;have k1:=zqs (ss:=s.1) (a:=a) J;simp[wd,fK0,cQ0,me,I,l8,mh,k1]
 rename_i J;have k1:=x6 (ss:=s.1) (a:=a) (by lia) (by lia);have k2:=zn6 (uo J) (by lia) (by lia);rw[show((a.toNat:Nat):Int)=a by lia] at k2;split at D
 ·cases D
  rename_i R;rw[if_pos R] at k2;simp[wd,fK0,cQ0,me,I,l8,mh,k1,k2]
 rename_i R;rw[if_neg R] at k2;split at D
 ·cases D
 ·cases D
  rename_i U;rw[if_neg U] at k5;simp[wd,fK0,cQ0,me,I,l8,mh,k1,k2,xFrz,ub,k5]
theorem z5j{m l:Int}(I:t9 s.1 k.length a m l=some c)(i:s.1.length<=5):yg [hA k (p++[s])] [.int a,.int m,.int l]=some (c,[hA k (p++[s])]):=by
 have J:=qd (k:=k) (p:=p) (s:=s);have k5:=uz (k.map dD);rw[ah] at k5;have d:jw 8 [hA k (p++[s])] [.int a,.int m,.int l]=[some (.ag kH (some 0) (hP k (p++[s]))),some (.sh (.int a)),some (.sh (.int m)),some (.sh (.int l)),none,none,none,none]:=rfl;suffices V:∃e,rj (jw 8 [hA k (p++[s])] [.int a,.int m,.int l])=some (.xc c,[some (.ag kH (some 0) (hP k (p++[s]))),some (.sh (.int a)),some (.sh (.int m)),some (.sh (.int l)),some (.sh (ssL s.1)),e,none,none]) from let ⟨_,V⟩:=V;xf rfl rfl V rfl;rw[d];unfold t9 at I;split at I
 ·cases I
  rename_i R;have k1:=zqs (ss:=s.1) (a:=a) R;exact⟨_,by simp[rj,fK0,cQ0,me,J,l8,mh,k1];rfl⟩
 rename_i R;have k1:=x6 (ss:=s.1) (a:=a) (by lia) (by lia);have k2:=zn6 (uo R) (by lia) (by lia);have U:=qo (uo R) (by lia);rw[show((a.toNat:Nat):Int)=a by lia] at k2 U;split at I
 ·cases I
  rename_i Y;rw[if_pos Y] at k2;generalize ssL s.1=SL at *;exact⟨_,by simp[rj,fK0,cQ0,me,J,l8,mh,k1,k2];rfl⟩
 rename_i Y;rw[if_neg Y] at k2;have k3:=zr8 (t:=s.1.getD (a.toNat-1) []) (m:=m);unfold ssL at *;split at I
 ·cases I
  rename_i Z;rw[if_pos Z] at k3;generalize (s.1.getD (a.toNat-1) []).map sD=TL at *;exact⟨_,by simp[rj,fK0,cQ0,me,J,l8,mh,k1,k2,U,k3];rfl⟩
 rename_i Z;rw[if_neg Z] at k3;generalize (s.1.getD (a.toNat-1) []).map sD=TL at *;generalize (s.1.map λs=>D.lst (s.map sD))=SL at *;split at I
 ·cases I
  rename_i f;have b:=zzu (h:=l) f;exact⟨_,by simp[rj,fK0,cQ0,me,J,l8,mh,k1,k2,U,k3,b];rfl⟩
 have b:=zn3 (h:=l) (by lia) (by lia);split at I
 ·cases I
 ·cases I
  rename_i g;rw[if_neg g] at k5;exact⟨_,by simp[rj,fK0,cQ0,me,J,l8,mh,k1,k2,U,k3,b,xFrz,ub,k5];rfl⟩
theorem z69(D:dryX s.1 k.length=some c)(U:s.1.length<=5):yi [hA k (p++[s])] []=some (c,[hA k (p++[s])]):=by
 have J:=qd (k:=k) (p:=p) (s:=s);have k5:=uz (k.map dD);rw[ah] at k5;have k1:=zr6 s.1 (by lia);refine xf (e:=[some (.ag kH (some 0) (hP k (p++[s]))),some (.sh (ssL s.1)),none,none,none,none]) rfl rfl ?_ rfl;rw[show jw 6 [hA k (p++[s])] []=[some (.ag kH (some 0) (hP k (p++[s]))),none,none,none,none,none] from rfl];unfold dryX at D;split at D
 ·rename_i I
  rw[if_pos I] at k1;split at D
  ·cases D
  ·cases D
   rename_i R;rw[if_neg R] at k5;simp[yj,fK0,cQ0,me,J,l8,mh,k1,xFrz,ub,k5]
 ·cases D
  rename_i I;rw[if_neg I] at k1;simp[yj,fK0,cQ0,me,J,l8,mh,k1]
def zn7(D:ps[j]?=some (.o ds)):lh (.at kH) 0 j (some (.ag kH (some 0) ps)::e)=some ds:=zr1 rfl D
variable{s':Hs}
theorem z12{d:Deed}:yf [hA (k++[d]) (p++[s]++[s'])] []=none/\zer [hA (k++[d]) (p++[s]++[s'])] []=some (dD d,[hA k (p++[s])]):=by
 have R:jw 1 [hA (k++[d]) (p++[s]++[s'])] []=[some (.ag kH (some 0) (hP (k++[d]) (p++[s]++[s'])))]:=rfl;have h1:lh (.at kH) 0 0 [some (.ag kH (some 0) (hP (k++[d]) (p++[s]++[s'])))]=some (k.map dD++[dD d]):=by rw[zn7 (j:=0) rfl];simp
 have h2:lh (.at kH) 0 1 [some (.ag kH (some 0) (hP (k++[d]) (p++[s]++[s'])))]=some ((p++[s]).map stD++[stD s']):=by rw[zn7 (j:=1) rfl];simp
 have I:zeq (jw 1 [hA (k++[d]) (p++[s]++[s'])] [])=some (.rt (dD d),[some (.ag kH (some 0) (hP k (p++[s])))]):=by
  rw[R];have U:∀(l:k8) (x:D),(l++[x])[(l++[x]).length-1]?=some x:=λl x=>by simp
  have V:∀(l:k8) (x:D),(l++[x]).dropLast=l:=λl x=>by simp
  have Y:¬(((k.map dD++[dD d]).length:Nat):Int)=0:=by simp;lia
  have J:lh (.at kH) 0 0 [some (.ag kH (some 0) [.o (k.map dD++[dD d]),.o ((p++[s]).map stD)])]=some (k.map dD++[dD d]):=zn7 (j:=0) rfl;unfold hP at *;rw[show((k++[d]).map dD)=k.map dD++[dD d] by simp,show((p++[s]++[s']).map stD)=(p++[s]).map stD++[stD s'] by simp] at *;generalize (p++[s]).map stD=PL at *;simp only[zeq,sSeq,sIf,fTst,fBin,pLen,h1,ak,ac,fC,dEq,Y,decide_false,bz,if_false,sNil,jg,pPop,af,h2,U,V,setP,az,ax,J,sRet]
 exact⟨by unfold yf xL;rw[if_pos ⟨rfl,rfl⟩,I],by unfold zer runL;rw[if_pos ⟨rfl,rfl⟩,I];rfl⟩
def z5k:yf [hA [] p] []=some (("NothingDone" : Str),[hA [] p]):=by
 have h1:lh (.at kH) 0 0 [some (.ag kH (some 0) (hP [] p))]=some []:=zn7 (j:=0) rfl;refine xf (e:=[some (.ag kH (some 0) (hP [] p))]) rfl rfl ?_ rfl;rw[show jw 1 [hA [] p] []=[some (.ag kH (some 0) (hP [] p))] from rfl];simp[zeq,pLen,h1,show(((0:Nat):Int)=0) from rfl,lc]
inductive Cmd where
 | d (x:Deed) | back
def cD:Cmd->D
 | .d x=>dD x
 | .back=>.tup [.str "back"]
def cmdX(ss:mu)(n:Nat):Cmd->ka
 | .d (.put a h l)=>putX ss n a h l
 | .d (.tell a m l)=>t9 ss n a m l
 | .d (.go a)=>goX ss n a
 | .d .dry=>dryX ss n
 | .back=>if n=0 then some "NothingDone" else none
def dueW(o:ka):Str:=match o with | none=>"" | some c=>(xi c).getD ""
theorem zyo(R:ss.length<=1000)(e:DE0):d7 bSum (au (fLst (ip (fiS (fVar 0)) [] fYes (ii 0))) fNil) (some (.sh (ssL ss))::e)=some (.int (ss.flatten.length:Int),some (.sh (ssL ss))::e):=by
 have c:=nr (te:=ii 0) (base:=[]) (λs:l0=>D.lst (s.map sD)) (λs:l0=>D.int (s.length:Int)) ss λs _=>⟨_,by simp;rfl⟩;have I:=xg (λs:l0=>(s.length:Int)) ss;have J:Few (ss.map λs=>D.lst (s.map sD)).length:=few (by rw[ah];lia);rw[zvo] at I;unfold ssL;generalize (ss.map λs=>D.lst (s.map sD))=L at *;simp only[d7,au,fLst,ip,fiS,fVar,fNil,af,ac,ak,J,if_true,du,c,I]
def Rt(r:Option (Fl×DE0))(x:Str):Prop:=∃e',r=some (.rt (.str x),e')
section
variable {c p q:FT} {f g:FE} {u v w:FS} {e:DE0} {i:Nat} {d:D} {x y:Str} {A B:Prop} [Decidable A] [Decidable B] {a b:Int}
def setT(h:f e=some (d,e))(k:Rt (u (e.set i (some (.sh d)))) x):Rt (sSeq (sSet i f) u e) x:=by
 rw[show sSeq (sSet i f) u e=u (e.set i (some (.sh d))) by simp[h]];exact k
def ifN(h:c e=some (false,e))(k:Rt (sSeq v w e) x):Rt (sSeq (sIf c u v) w e) x:=by
 rw[show sSeq (sIf c u v) w e=sSeq v w e by simp[h]];exact k
def ifP(h:c e=some (true,e))(k:Rt (sSeq u w e) x):Rt (sSeq (sIf c u v) w e) x:=by
 rw[show sSeq (sIf c u v) w e=sSeq u w e by simp[h]];exact k
def ifT(h:c e=some (decide A,e))(k:A->y=x)(k':¬A->Rt (sSeq v w e) x):Rt (sSeq (sIf c (sRet (fC (.str y))) v) w e) x:=by
 by_cases z:A
 ·exact⟨e,by simp[h,z,k z]⟩
 ·exact ifN (by rw[h,decide_eq_false z]) (k' z)
def ifN0(h:c e=some (false,e))(k:Rt (w e) x):Rt (sSeq (sIf c u sNil) w e) x:=ifN h k
def ifT0(h:c e=some (decide A,e))(k:A->y=x)(k':¬A->Rt (w e) x):Rt (sSeq (sIf c (sRet (fC (.str y))) sNil) w e) x:=ifT h k k'
def orq(h:p e=some (decide A,e))(h':¬A->q e=some (decide B,e)):fOr p q e=some (decide (A\/B),e):=by
 by_cases z:A
 ·simp[h,z]
 ·simp[h,h' z,z]
def andF(h:p e=some (false,e)):fAnd p q e=some (false,e):=by simp[h]
def andT(h:p e=some (true,e)):fAnd p q e=q e:=by simp[h]
def ltq(h:f e=some (.int a,e))(h':g e=some (.int b,e)):fTst (fBin dLt f g) e=some (decide (a<b),e):=by simp[h,h']
def gtq(h:f e=some (.int a,e))(h':g e=some (.int b,e)):fTst (fBin dGt f g) e=some (decide (b<a),e):=by simp[h,h']
def geq(h:f e=some (.int a,e))(h':g e=some (.int b,e)):fTst (fBin dGe f g) e=some (decide (b<=a),e):=by simp[h,h']
def eqq(h:f e=some (.int a,e))(h':g e=some (.int b,e)):fTst (fBin dEq f g) e=some (decide (a=b),e):=by simp[h,h']
end
def sne:(("put" : Str) = "back")=False/\(("put" : Str) = "dry")=False/\(("put" : Str) = "tell")=False/\(("tell" : Str) = "back")=False/\(("tell" : Str) = "dry")=False/\(("tell" : Str) = "put")=False/\(("go" : Str) = "back")=False/\(("go" : Str) = "dry")=False/\(("go" : Str) = "put")=False/\(("go" : Str) = "tell")=False/\(("dry" : Str) = "back")=False/\(("dry" : Str) = "put")=False/\(("dry" : Str) = "tell")=False:=by
 refine⟨?_,?_,?_,?_,?_,?_,?_,?_,?_,?_,?_,?_,?_⟩ <;> exact eq_false (by decide)
variable{x:Str}
def at_4{x y z w:D}:atI [x,y,z,w] 0=some x/\atI [x,y,z,w] 1=some y/\atI [x,y,z,w] 2=some z/\atI [x,y,z,w] 3=some w:=⟨rfl,rfl,rfl,rfl⟩
theorem zi6(ss:mu)(n:Nat)(c:Cmd)(j:ss.length<=5):zdr [ssL ss,.int (n:Int),cD c]=some (.str (dueW (cmdX ss n c))):=by
 have V:=λe=>zyo (ss:=ss) (by lia) e;suffices J:Rt (zjb [some (.sh (ssL ss)),some (.sh (.int (n:Int))),some (.sh (cD c)),none]) (dueW (cmdX ss n c)) from let ⟨_,J⟩:=J;j6 rfl J;have I:∀(d w:D),Rt (sSeq (sIf (fTst (fBin dGe (fVar 1) (fC (.int 60)))) (sRet (fC (.str "deeds full"))) (sNil)) (sRet (fC (.str ""))) [some (.sh (ssL ss)),some (.sh (.int (n:Int))),some (.sh d),some (.sh w)]) (dueW (if n<60 then none else some "DeedsFull")):=λd w =>
  ifT0 (geq rfl rfl) (λh=>by rw[if_neg (by lia)];rfl) λh=>by rw[if_pos (by lia)];exact⟨_,rfl⟩
 have R:∀r:DE0,ii 0 (some (.sh (ssL ss))::r)=some (.int (ss.length:Int),some (.sh (ssL ss))::r):=λr=>by unfold ssL;simp
 have len1:∀(d:D) (w:D) (a:Int),fIxV 2 (fC (.int 1)) [some (.sh (ssL ss)),some (.sh (.int (n:Int))),some (.sh d),some (.sh w)]=some (.int a,[some (.sh (ssL ss)),some (.sh (.int (n:Int))),some (.sh d),some (.sh w)])->¬(a<1\/(ss.length:Int)<a)->d7 bLen (au (fIxV 0 (fBin dSub (fIxV 2 (fC (.int 1))) (fC (.int 1)))) fNil) [some (.sh (ssL ss)),some (.sh (.int (n:Int))),some (.sh d),some (.sh w)]=some (.int ((ss.getD (a.toNat-1) []).length:Int),[some (.sh (ssL ss)),some (.sh (.int (n:Int))),some (.sh d),some (.sh w)]):=λd w a h Y=>by
  have g:=qo (uo Y) (by lia);rw[show((a.toNat:Nat):Int)=a by lia] at g;have U:∀F:FE,F [some (.sh (ssL ss)),some (.sh (.int (n:Int))),some (.sh d),some (.sh w)]=some (.int (a-1),[some (.sh (ssL ss)),some (.sh (.int (n:Int))),some (.sh d),some (.sh w)])->d7 bLen (au (fIxV 0 F) fNil) [some (.sh (ssL ss)),some (.sh (.int (n:Int))),some (.sh d),some (.sh w)]=some (.int ((ss.getD (a.toNat-1) []).length:Int),[some (.sh (ssL ss)),some (.sh (.int (n:Int))),some (.sh d),some (.sh w)]):=λF Z=>by
   unfold ssL at *;simp only[d7,au,fIxV,Z,fNil,ixSl,af,g,bLen,ac,ak,ah]
  refine U _ ?_;simp only[fBin,h,fC,dSub,ac,ak]
 cases c with
 | back =>
   refine setT (d:=.str "back") rfl ?_;by_cases z:n=0
   ·subst z;exact⟨_,rfl⟩
   ·have b:((n:Int)=0)=False:=eq_false (by lia)
    refine⟨[some (.sh (ssL ss)),some (.sh (.int (n:Int))),some (.sh (cD .back)),some (.sh (.str "back"))],?_⟩;rw[show dueW (cmdX ss n .back) = "" by unfold cmdX;rw[if_neg z];rfl];generalize ssL ss=SL at *;have f:dIx (.lst [.str "",.str "nothing done"]) (.int 0)=some (.str ""):=rfl;simp only[sSeq,sIf,fTst,fBin,fVar,fC,dEq,az,ax,ai,af,ac,ak,decide_true,if_true,sRet,fLst,fz,au,fNil,d7,am,b6,show 0+1+1<=64 by decide,b,decide_false,bInt,f];rfl
 | d x =>
   cases x with
   | dry =>
     refine setT (d:=.str "dry") rfl (ifN0 (by rfl) (ifP (by rfl) ?_));show Rt _ (dueW (dryX ss n));unfold dryX;refine ifT0 (by exact eqq (V _) rfl) (λz=>by rw[if_neg (by lia)];rfl) λz=>?_;rw[if_pos (by lia)];refine ifN0 (by exact andF rfl) (ifN0 (by exact andF rfl) (ifN0 (by exact andF rfl) (ifN0 (by exact andF rfl) ?_)));exact I _ _
   | put a h l =>
     refine setT (d:=.str "put") rfl (ifN0 (by rfl) (ifN (by rfl) ?_));show Rt _ (dueW (putX ss n a h l));unfold putX;refine ifT (by exact orq (ltq (a:=a) rfl rfl) λ_=>gtq (a:=a) rfl (R _)) (λz=>by rw[if_pos z];rfl) λz=>?_;rw[if_neg z];refine ifN0 (by exact andF rfl) (ifN0 (by exact andF rfl) ?_);refine ifT0 (by exact(andT rfl).trans (orq (ltq (a:=h) rfl rfl) λ_=>gtq (a:=h) rfl rfl)) (λz=>by rw[if_pos z];rfl) λz=>?_;rw[if_neg z];refine ifT0 (by exact(andT rfl).trans (orq (ltq (a:=l) rfl rfl) λ_=>gtq (a:=l) rfl rfl)) (λz=>by rw[if_pos z];rfl) λz=>?_;rw[if_neg z];refine ifT0 (by exact(andT rfl).trans (geq (V _) rfl)) (λz=>by rw[if_neg (by lia)];rfl) λz=>?_;rw[if_pos (by lia)];exact I _ _
   | tell a m l =>
     refine setT (d:=.str "tell") rfl (ifN0 (by rfl) (ifN (by rfl) ?_));show Rt _ (dueW (t9 ss n a m l));unfold t9;refine ifT (by exact orq (ltq (a:=a) rfl rfl) λ_=>gtq (a:=a) rfl (R _)) (λz=>by rw[if_pos z];rfl) λz=>?_;rw[if_neg z];refine ifT0 (by exact(andT rfl).trans (eqq (len1 _ _ a rfl z) rfl)) (λz=>by rw[if_pos (by lia)];rfl) λi=>?_;rw[if_neg (by lia)];refine ifT0 (by exact(andT rfl).trans (orq (ltq (a:=m) rfl rfl) λ_=>gtq (a:=m) rfl (len1 _ _ a rfl z))) (λz=>by rw[if_pos z];rfl) λz=>?_;rw[if_neg z];refine ifN0 (by exact andF rfl) ?_;refine ifT0 (by exact(andT rfl).trans (orq (ltq (a:=l) rfl rfl) λ_=>gtq (a:=l) rfl rfl)) (λz=>by rw[if_pos z];rfl) λz=>?_;rw[if_neg z];refine ifN0 (by exact andF rfl) ?_;exact I _ _
   | go a =>
     refine setT (d:=.str "go") rfl (ifN0 (by rfl) (ifN (by rfl) ?_));show Rt _ (dueW (goX ss n a));unfold goX;refine ifT (by exact orq (ltq (a:=a) rfl rfl) λ_=>gtq (a:=a) rfl (R _)) (λz=>by rw[if_pos z];rfl) λz=>?_;rw[if_neg z];refine ifT0 (by exact(andT rfl).trans (eqq (len1 _ _ a rfl z) rfl)) (λz=>by rw[if_pos (by lia)];rfl) λi=>?_;rw[if_neg (by lia)];refine ifN0 (by exact andF rfl) (ifN0 (by exact andF rfl) (ifN0 (by exact andF rfl) (ifN0 (by exact andF rfl) ?_)));exact I _ _
def askX:Cmd->ln->k8->Option (Str×ln)
 | .d (.put _ _ _)=>yk | .d (.tell _ _ _)=>yg | .d (.go _)=>yd | .d .dry=>yi | .back=>yf
def askM:Cmd->ln->k8->lx
 | .d (.put _ _ _)=>z0 | .d (.tell _ _ _)=>zeo | .d (.go _)=>zx | .d .dry=>u6 | .back=>zer
def askD:Cmd->k8
 | .d (.put a h l)=>[.int a,.int h,.int l] | .d (.tell a m l)=>[.int a,.int m,.int l] | .d (.go a)=>[.int a] | _=>[]
def vo{p:Nat}{t:ln}(h1:ags.length=p)(h2:ds.length=ar)(D:g (jw n ags ds)=some (.rt d,e))(I:outA e 0 (List.range p)=some t):runL n p ar g ags ds=some (d,t)/\xL n p ar g ags ds=none:=by
 unfold runL xL;rw[if_pos ⟨h1,h2⟩,if_pos ⟨h1,h2⟩,D];dsimp only;rw[I];exact⟨rfl,rfl⟩
def xask(D:F (some (.ag kH l ps)::e)=some (ds,some (.ag kH l ps)::e))(I:m [(kH,ps)] ds=some (x,[(kH,ps')])):xK kH 0 (mf m [0] F) (some (.ag kH l ps)::e)=some (x,some (.ag kH l ps')::e):=by
 rw[z5g (i:=0) rfl];exact zr4 (i:=0) rfl D I
def xasn(D:F (some (.ag kH l ps)::e)=some (ds,some (.ag kH l ps)::e))(I:m [(kH,ps)] ds=none):xK kH 0 (mf m [0] F) (some (.ag kH l ps)::e)=none:=by
 rw[z5g (i:=0) rfl];exact zr5 (i:=0) rfl D I
variable{m:ln->k8->lx}
def mask{x:D}(I:F (some (.ag kH l ps)::e)=some (ds,some (.ag kH l ps)::e))(J:m [(kH,ps)] ds=some (x,[(kH,ps')])):fK kH 0 (kg m [0] F) (some (.ag kH l ps)::e)=some (x,some (.ag kH l ps')::e):=by
 rw[zye (i:=0) rfl];exact uq (i:=0) rfl I J
def z7a(c:Cmd)(h:askX c [(kH,ps)] (askD c)=some (x,[(kH,ps')])):yc [(kH,ps)] [cD c]=some (x,[(kH,ps')]):=by
 refine xf (e:=[some (.ag kH (some 0) ps'),some (.sh (cD c))]) rfl rfl ?_ rfl;rw[show jw 2 [(kH,ps)] [cD c]=[some (.ag kH (some 0) ps),some (.sh (cD c))] from rfl];have sn:=sne;cases c with
 | back =>
   have R:atI [D.str "back"] 0=some (.str "back"):=rfl;have J:(("back" : Str) = "put")=False/\(("back" : Str) = "tell")=False/\(("back" : Str) = "go")=False/\(("back" : Str) = "dry")=False:=by refine⟨?_,?_,?_,?_⟩ <;> exact eq_false (by decide)
   have q:=xask (l:=some 0) (F:=fNil) (e:=[some (.sh (cD .back))]) rfl h;simp only[cD,askX] at q ⊢;simp only[pk,sSeq,sIf,fTst,fBin,fIxV,ixSl,fC,dEq,af,ai,ac,ak,decide_false,bz,if_false,sNil,sXp,sRet, *]
 | d y =>
   cases y with
   | put a b z =>
     have I:=at_4 (x:=D.str "put") (y:=.int a) (z:=.int b) (w:=.int z);have q:=xask (l:=some 0) (F:=au (fIxV 1 (fC (.int 1))) (au (fIxV 1 (fC (.int 2))) (au (fIxV 1 (fC (.int 3))) fNil))) (e:=[some (.sh (cD (.d (.put a b z))))]) rfl h;simp only[cD,dD,askX] at q ⊢;simp only[pk,sSeq,sIf,fTst,fBin,fIxV,ixSl,fC,dEq,af,ai,ac,ak,decide_true,if_true,sNil,sXp,sRet, *]
   | tell a b z =>
     have I:=at_4 (x:=D.str "tell") (y:=.int a) (z:=.int b) (w:=.int z);have q:=xask (l:=some 0) (F:=au (fIxV 1 (fC (.int 1))) (au (fIxV 1 (fC (.int 2))) (au (fIxV 1 (fC (.int 3))) fNil))) (e:=[some (.sh (cD (.d (.tell a b z))))]) rfl h;simp only[cD,dD,askX] at q ⊢;simp only[pk,sSeq,sIf,fTst,fBin,fIxV,ixSl,fC,dEq,af,ai,ac,ak,decide_true,decide_false,bz,if_false,if_true,sNil,sXp,sRet, *]
   | go a =>
     have I:atI [D.str "go",.int a] 0=some (.str "go"):=rfl;have q:=xask (l:=some 0) (F:=au (fIxV 1 (fC (.int 1))) fNil) (e:=[some (.sh (cD (.d (.go a))))]) rfl h;simp only[cD,dD,askX] at q ⊢;simp only[pk,sSeq,sIf,fTst,fBin,fIxV,ixSl,fC,dEq,af,ai,ac,ak,decide_true,decide_false,bz,if_false,if_true,sNil,sXp,sRet, *]
   | dry =>
     have I:atI [D.str "dry"] 0=some (.str "dry"):=rfl;have J:(("dry" : Str) = "go")=False:=eq_false (by decide);have q:=xask (l:=some 0) (F:=fNil) (e:=[some (.sh (cD (.d .dry)))]) rfl h;simp only[cD,dD,askX] at q ⊢;simp only[pk,sSeq,sIf,fTst,fBin,fIxV,ixSl,fC,dEq,af,ai,ac,ak,decide_true,decide_false,bz,if_false,if_true,sNil,sXp,sRet, *]
def z7b(c:Cmd)(J:askX c [(kH,ps)] (askD c)=none)(h:askM c [(kH,ps)] (askD c)=some (d,[(kH,ps')])):zh5 [(kH,ps)] [cD c]=some (d,[(kH,ps')])/\yc [(kH,ps)] [cD c]=none:=by
 refine vo (e:=[some (.ag kH (some 0) ps'),some (.sh (cD c))]) rfl rfl ?_ rfl;rw[show jw 2 [(kH,ps)] [cD c]=[some (.ag kH (some 0) ps),some (.sh (cD c))] from rfl];have sn:=sne;cases c with
 | back =>
   have V:atI [D.str "back"] 0=some (.str "back"):=rfl;have U:(("back" : Str) = "put")=False/\(("back" : Str) = "tell")=False/\(("back" : Str) = "go")=False/\(("back" : Str) = "dry")=False:=by refine⟨?_,?_,?_,?_⟩ <;> exact eq_false (by decide)
   have I:=xasn (l:=some 0) (F:=fNil) (e:=[some (.sh (cD .back))]) rfl J;have q:=mask (l:=some 0) (F:=fNil) (e:=[some (.sh (cD .back))]) rfl h;simp only[cD,askX,askM] at I q ⊢;simp only[pk,sSeq,sIf,fTst,fBin,fIxV,ixSl,fC,dEq,af,ai,ac,ak,decide_false,bz,if_false,sNil,sXp,sRet, *]
 | d y =>
   cases y with
   | put a b z =>
     have R:=at_4 (x:=D.str "put") (y:=.int a) (z:=.int b) (w:=.int z);have I:=xasn (l:=some 0) (F:=au (fIxV 1 (fC (.int 1))) (au (fIxV 1 (fC (.int 2))) (au (fIxV 1 (fC (.int 3))) fNil))) (e:=[some (.sh (cD (.d (.put a b z))))]) rfl J;have q:=mask (l:=some 0) (F:=au (fIxV 1 (fC (.int 1))) (au (fIxV 1 (fC (.int 2))) (au (fIxV 1 (fC (.int 3))) fNil))) (e:=[some (.sh (cD (.d (.put a b z))))]) rfl h;simp only[cD,dD,askX,askM] at I q ⊢;simp only[pk,sSeq,sIf,fTst,fBin,fIxV,ixSl,fC,dEq,af,ai,ac,ak,decide_true,if_true,sNil,sXp,sRet, *]
   | tell a b z =>
     have R:=at_4 (x:=D.str "tell") (y:=.int a) (z:=.int b) (w:=.int z);have I:=xasn (l:=some 0) (F:=au (fIxV 1 (fC (.int 1))) (au (fIxV 1 (fC (.int 2))) (au (fIxV 1 (fC (.int 3))) fNil))) (e:=[some (.sh (cD (.d (.tell a b z))))]) rfl J;have q:=mask (l:=some 0) (F:=au (fIxV 1 (fC (.int 1))) (au (fIxV 1 (fC (.int 2))) (au (fIxV 1 (fC (.int 3))) fNil))) (e:=[some (.sh (cD (.d (.tell a b z))))]) rfl h;simp only[cD,dD,askX,askM] at I q ⊢;simp only[pk,sSeq,sIf,fTst,fBin,fIxV,ixSl,fC,dEq,af,ai,ac,ak,decide_true,decide_false,bz,if_false,if_true,sNil,sXp,sRet, *]
   | go a =>
     have R:atI [D.str "go",.int a] 0=some (.str "go"):=rfl;have I:=xasn (l:=some 0) (F:=au (fIxV 1 (fC (.int 1))) fNil) (e:=[some (.sh (cD (.d (.go a))))]) rfl J;have q:=mask (l:=some 0) (F:=au (fIxV 1 (fC (.int 1))) fNil) (e:=[some (.sh (cD (.d (.go a))))]) rfl h;simp only[cD,dD,askX,askM] at I q ⊢;simp only[pk,sSeq,sIf,fTst,fBin,fIxV,ixSl,fC,dEq,af,ai,ac,ak,decide_true,decide_false,bz,if_false,if_true,sNil,sXp,sRet, *]
   | dry =>
     have R:atI [D.str "dry"] 0=some (.str "dry"):=rfl;have U:(("dry" : Str) = "go")=False:=eq_false (by decide);have I:=xasn (l:=some 0) (F:=fNil) (e:=[some (.sh (cD (.d .dry)))]) rfl J;have q:=mask (l:=some 0) (F:=fNil) (e:=[some (.sh (cD (.d .dry)))]) rfl h;simp only[cD,dD,askX,askM] at I q ⊢;simp only[pk,sSeq,sIf,fTst,fBin,fIxV,ixSl,fC,dEq,af,ai,ac,ak,decide_true,decide_false,bz,if_false,if_true,sNil,sXp,sRet, *]
def zzx(c:Cmd)(h:askX c [(kH,ps)] (askD c)=some (x,[(kH,ps)]))(D:xi x=some w):pv [(kH,ps)] [cD c]=some (.tup [.str "refused",.str w],[(kH,ps)]):=by
 have q:=zr4 (m:=yc) (F:=au (fVar 1) fNil) (e:=[some (.ag kH (some 0) ps),some (.sh (cD c)),some (.sh (.tup [.str "refused",.str ""])),none]) (i:=0) (l:=some 0) (ps:=ps) (ds:=[cD c]) rfl rfl (z7a c h);have k1:kdT x=some (.tup [.str "refused",.str w]):=by unfold kdT;rw[D];rfl
 refine(vo (e:=[some (.ag kH (some 0) ps),some (.sh (cD c)),some (.sh (.tup [.str "refused",.str w])),none]) rfl rfl ?_ rfl).1;rw[show jw 4 [(kH,ps)] [cD c]=[some (.ag kH (some 0) ps),some (.sh (cD c)),none,none] from rfl];simp[zgp] at q ⊢;simp[sTry,q,k1]
def zv0(c:Cmd)(I:askX c [(kH,ps)] (askD c)=none)(h:askM c [(kH,ps)] (askD c)=some (d,[(kH,ps')])):pv [(kH,ps)] [cD c]=some (d,[(kH,ps')]):=by
 obtain⟨J,R⟩:=z7b c I h;have D:=zr5 (m:=yc) (F:=au (fVar 1) fNil) (e:=[some (.ag kH (some 0) ps),some (.sh (cD c)),some (.sh (.tup [.str "refused",.str ""])),none]) (i:=0) (l:=some 0) (ps:=ps) (ds:=[cD c]) rfl rfl R;have q:=uq (m:=zh5) (F:=au (fVar 1) fNil) (e:=[some (.ag kH (some 0) ps),some (.sh (cD c)),some (.sh (.tup [.str "refused",.str ""])),none]) (i:=0) (l:=some 0) (ps:=ps) (ds:=[cD c]) rfl rfl J;refine(vo (e:=[some (.ag kH (some 0) ps'),some (.sh (cD c)),some (.sh (.tup [.str "refused",.str ""])),none]) rfl rfl ?_ rfl).1;rw[show jw 4 [(kH,ps)] [cD c]=[some (.ag kH (some 0) ps),some (.sh (cD c)),none,none] from rfl];simp[zgp] at D q ⊢;simp[sTry,D,q]
theorem cp_o(ss:mu)(J:ss.length<=1000)(e:DE0):ui (fiS (fVar 0)) [] (i5 nz (au (fVar 0) fNil)) (some (.sh (ssL ss))::e)=some (dsO ss,some (.sh (ssL ss))::e):=by
 have c:=zj7 (te:=i5 nz (au (fVar 0) (fNil))) (base:=[]) (λs:l0=>D.lst (s.map sD)) (λs:l0=>s.map sD) ss λs _=>⟨_,by simp;rfl⟩;have I:Few (ss.map λs=>D.lst (s.map sD)).length:=few (by rw[ah];lia);unfold ssL dsO;generalize (ss.map λs=>D.lst (s.map sD))=L at *;simp[ui,I,c]
def yx(ss:mu):D.lst ((dsO ss).map D.lst)=ssL ss:=by unfold dsO ssL;rw[iw];rfl
variable{x:Sk}
def at_0{x:D}{l:k8}:atI (x::l) 0=some x:=by unfold atI ixN;simp
variable{a:Nat}{num:Int}
theorem zyp{l:Int}(R:1<=a)(d:a<=ss.length)(f:ss.length<=5)(g:(ss.getD (a-1) []).length<=1000):rq [ssL ss,dD (.put a h l),.int num]=some (.lst [ssL (putS ss a (num,h,l)),.int num]):=by
 have i:=λe=>cp_o ss (by lia) e;have U:=at_4 (x:=D.str "put") (y:=.int (a:Int)) (z:=.int h) (w:=.int l);have j:((1:Int)<((0+1+1+1+1:Nat):Int))=True:=eq_true (by decide);have I:ss[a-1]?=some (ss.getD (a-1) []):=by rw[bx,av (by lia)];rfl
 have k:ixN (dsO ss).length ((a:Int)-1)=some (a-1):=by
  rw[qr (by lia) (by unfold dsO;rw[ah];lia)];congr 1;lia
 have V:(dsO ss).set (a-1) (((num,h,l)::ss.getD (a-1) []).map sD)=dsO (putS ss a (num,h,l)):=by unfold putS dsO;rw[gw]
 have Y:=qo I R;have Z:Few (0+1+((ss.getD (a-1) []).map sD).length):=few (by rw[ah];lia);have b:noLs (D.tup [.int num,.int h,.int l]::(ss.getD (a-1) []).map sD)=true:=zzw ((num,h,l)::ss.getD (a-1) []);have ct:sg false (fCat (fLst (fz (au (fTup (au (fVar 2) (au (fIxV 1 (fC (.int 2))) (au (fIxV 1 (fC (.int 3))) (fNil))))) (fNil)))) (fIxV 3 (fVar 4))) [some (.sh (ssL ss)),some (.sh (dD (.put a h l))),some (.sh (.int num)),some (.o2 (dsO ss)),some (.sh (.int ((a:Int)-1))),none]=some (((num,h,l)::ss.getD (a-1) []).map sD,[some (.sh (ssL ss)),some (.sh (dD (.put a h l))),some (.sh (.int num)),some (.o2 (dsO ss)),some (.sh (.int ((a:Int)-1))),none]):=by
  have c:frz false [some (.sh (ssL ss)),some (.sh (dD (.put a h l))),some (.sh (.int num)),some (.o2 (dsO ss)),some (.sh (.int ((a:Int)-1))),none]=[some (.sh (ssL ss)),some (.sh (dD (.put a h l))),some (.sh (.int num)),some (.sh (ssL ss)),some (.sh (.int ((a:Int)-1))),none]:=by
   rw[<-yx];rfl
  unfold sg;rw[c,show((num,h,l)::ss.getD (a-1) []).map sD=D.tup [.int num,.int h,.int l]::(ss.getD (a-1) []).map sD from rfl];unfold ssL dD;generalize (ss.getD (a-1) []).map sD=TL at *;generalize (ss.map λs=>D.lst (s.map sD))=SL at *;simp[U,Y,Z,b]
 rw[<-yx (putS ss a (num,h,l)),<-V];suffices J:∃e',tw [some (.sh (ssL ss)),some (.sh (dD (.put a h l))),some (.sh (.int num)),none,none,none]=some (.rt (.lst [.lst (((dsO ss).set (a-1) (((num,h,l)::ss.getD (a-1) []).map sD)).map D.lst),.int num]),e') from let ⟨_,J⟩:=J;j6 rfl J;simp only[dD] at ct ⊢;simp only[tw,sSeq,vh,sSet,fC,ii,fIxV,ixSl,fVar,fBin,fTst,sIf,sNil,dGt,dEq,dSub,af,ai,ac,ak,ax,az,am,b6,decide_true,if_true,sRet,fLst,fz,au,fNil,ue,frsE,frs1,ci,du, *];exact⟨_,rfl⟩
theorem zv2{m:Nat}{l:Int}(I:ss[a-1]?=some t)(R:t[m-1]?=some x)(U:1<=a)(h:1<=m)(i:ss.length<=5):rq [ssL ss,dD (.tell a m l),.int num]=some (.lst [ssL (ss.set (a-1) (t.set (m-1) (x.1,x.2.1,l))),.int x.2.2]):=by
 have j:=λe=>cp_o ss (by lia) e;have sn:=sne;have V:=at_4 (x:=D.str "tell") (y:=.int (a:Int)) (z:=.int (m:Int)) (w:=.int l);have k:atI [D.int x.1,.int x.2.1,.int x.2.2] 0=some (.int x.1)/\atI [D.int x.1,.int x.2.1,.int x.2.2] 1=some (.int x.2.1)/\atI [D.int x.1,.int x.2.1,.int x.2.2] 2=some (.int x.2.2):=⟨rfl,rfl,rfl⟩;have n:((1:Int)<((0+1+1+1+1:Nat):Int))=True:=eq_true (by decide);have Y:(0+1+1<=64)=True/\(0+1+1+1<=64)=True:=⟨eq_true (by decide),eq_true (by decide)⟩;have o:=(aj.mp I).1;have p:=(aj.mp R).1;have q:ixN (dsO ss).length ((a:Int)-1)=some (a-1):=by
  rw[qr (by lia) (by unfold dsO;rw[ah];lia)];congr 1;lia
 have Z:(dsO ss)[a-1]?=some (t.map sD):=by unfold dsO;rw[bu,I];rfl
 have b:ixN (t.map sD).length ((m:Int)-1)=some (m-1):=by
  rw[qr (by lia) (by rw[ah];lia)];congr 1;lia
 have c:(dsO ss).set (a-1) ((t.map sD).set (m-1) (.tup [.int x.1,.int x.2.1,.int l]))=dsO (ss.set (a-1) (t.set (m-1) (x.1,x.2.1,l))):=by
  unfold dsO;rw[gw,gw];rfl
 have d:=qo I U;have f:atI (t.map sD) ((m:Int)-1)=some (sD x):=by
  rw[show(m:Int)-1=((m-1:Nat):Int) by lia];exact lb sD R
 have ct:fFrz false (fBin dIx (fIxV 3 (fVar 4)) (fBin dSub (fIxV 1 (fC (.int 2))) (fC (.int 1)))) [some (.sh (ssL ss)),some (.sh (dD (.tell a m l))),some (.sh (.int num)),some (.o2 (dsO ss)),some (.sh (.int ((a:Int)-1))),none]=some (sD x,[some (.sh (ssL ss)),some (.sh (dD (.tell a m l))),some (.sh (.int num)),some (.o2 (dsO ss)),some (.sh (.int ((a:Int)-1))),none]):=by
  have g:frz false [some (.sh (ssL ss)),some (.sh (dD (.tell a m l))),some (.sh (.int num)),some (.o2 (dsO ss)),some (.sh (.int ((a:Int)-1))),none]=[some (.sh (ssL ss)),some (.sh (dD (.tell a m l))),some (.sh (.int num)),some (.sh (ssL ss)),some (.sh (.int ((a:Int)-1))),none]:=by
   rw[<-yx];rfl
  unfold fFrz;rw[g];unfold ssL dD;simp[V,d,f];rfl
 rw[<-yx (ss.set (a-1) (t.set (m-1) (x.1,x.2.1,l))),<-c];suffices J:∃e',tw [some (.sh (ssL ss)),some (.sh (dD (.tell a m l))),some (.sh (.int num)),none,none,none]=some (.rt (.lst [.lst (((dsO ss).set (a-1) ((t.map sD).set (m-1) (.tup [.int x.1,.int x.2.1,.int l]))).map D.lst),.int x.2.2]),e') from let ⟨_,J⟩:=J;j6 rfl J;simp only[dD,sD] at ct ⊢;simp only[tw,sSeq,vh,sSet,fC,ii,fIxV,ixSl,fVar,fBin,fTst,sIf,sNil,dGt,dEq,dSub,af,ai,ac,ak,ax,az,am,b6,decide_true,decide_false,bz,if_false,if_true,sRet,fLst,fz,au,fNil,ue,frsE, *];simp only[zro,fTup];simp only[fC,fIxV,ixSl,fVar,fBin,dSub,af,ai,ac,ak,ax,az,am,b6,if_true,au,fNil,frsE,frs1,ci,du, *];exact⟨_,rfl⟩
theorem zsa{v1 v2:ll}(U:ss[a-1]?=some (x::tl))(V:1<=a)(h:ss.length<=5)(Y:tl.length<=1000) :
  ∃e',(sSeq (sSet 5 (fFrz false (fBin dIx (fIxV 3 (fVar 4)) (fC (.int 0))))) (sSeq (ue 3 (fVar 4) (sg false (fSl (fIxV 3 (fVar 4)) (fO1 (fC (.int 1))) (fO0)))) (sRet (fLst (fz (au (fVar 3) (au (fVar 5) (fNil)))))))) [some (.sh (ssL ss)),v1,v2,some (.o2 (dsO ss)),some (.sh (.int ((a:Int)-1))),none]=some (.rt (.lst [ssL (ss.set (a-1) tl),sD x]),e'):=by
 have i:=(aj.mp U).1;have Z:ixN (dsO ss).length ((a:Int)-1)=some (a-1):=by
  rw[qr (by lia) (by unfold dsO;rw[ah];lia)];congr 1;lia
 have b:(dsO ss).set (a-1) (tl.map sD)=dsO (ss.set (a-1) tl):=by unfold dsO;rw[gw]
 have I:=qo U V;have c:atI (sD x::tl.map sD) 0=some (sD x):=at_0;have J:=zl (sD x::tl.map sD) 1 (by simp);have d:noLs (tl.map sD)=true:=zzw tl;have R:(0+1+1<=64)=True:=eq_true (by decide);have e:(frz false [some (.sh (ssL ss)),v1,v2,some (.o2 (dsO ss)),some (.sh (.int ((a:Int)-1))),none])[3]?=some (some (.sh (ssL ss)))/\(frz false [some (.sh (ssL ss)),v1,v2,some (.o2 (dsO ss)),some (.sh (.int ((a:Int)-1))),none])[4]?=some (some (.sh (.int ((a:Int)-1)))):=⟨zr9 rfl,zvy rfl⟩;have f:(frz false [some (.sh (ssL ss)),v1,v2,some (.o2 (dsO ss)),some (.sh (.int ((a:Int)-1))),some (.sh (sD x))])[3]?=some (some (.sh (ssL ss)))/\(frz false [some (.sh (ssL ss)),v1,v2,some (.o2 (dsO ss)),some (.sh (.int ((a:Int)-1))),some (.sh (sD x))])[4]?=some (some (.sh (.int ((a:Int)-1)))):=⟨zr9 rfl,zvy rfl⟩;have ct:fFrz false (fBin dIx (fIxV 3 (fVar 4)) (fC (.int 0))) [some (.sh (ssL ss)),v1,v2,some (.o2 (dsO ss)),some (.sh (.int ((a:Int)-1))),none]=some (sD x,[some (.sh (ssL ss)),v1,v2,some (.o2 (dsO ss)),some (.sh (.int ((a:Int)-1))),none]):=by
  unfold fFrz;unfold ssL at *;simp[e,I,c];rfl
 have g:sg false (fSl (fIxV 3 (fVar 4)) (fO1 (fC (.int 1))) (fO0)) [some (.sh (ssL ss)),v1,v2,some (.o2 (dsO ss)),some (.sh (.int ((a:Int)-1))),some (.sh (sD x))]=some (tl.map sD,[some (.sh (ssL ss)),v1,v2,some (.o2 (dsO ss)),some (.sh (.int ((a:Int)-1))),some (.sh (sD x))]):=by
  unfold sg;unfold ssL at *;rw[ci] at I;generalize tl.map sD=TL at *;generalize (ss.map λs=>D.lst (s.map sD))=SL at *;have J:cutD (sD x::TL) (some 1) none=TL:=J;simp[f,I,J,d]
 rw[<-yx (ss.set (a-1) tl),<-b];generalize tl.map sD=TL at *;generalize dsO ss=SO at *;simp only[sSeq,sSet,ct,ak,ac,ax,az,ue,g,af,ai,frsE,frs1,ci,du,fVar,Z,sRet,fLst,fz,au,fNil,am,b6,R,if_true];exact⟨_,rfl⟩
theorem z13(J:ss[a-1]?=some (x::tl))(R:1<=a)(U:ss.length<=5)(I:tl.length<=1000):rq [ssL ss,dD (.go a),.int num]=some (.lst [ssL (ss.set (a-1) tl),sD x]):=by
 obtain⟨e',st⟩:=zsa (v1:=some (.sh (dD (.go a)))) (v2:=some (.sh (.int num))) J R U I;have V:=λe=>cp_o ss (by lia) e;have sn:=sne;have Y:atI [D.str "go",.int (a:Int)] 0=some (.str "go")/\atI [D.str "go",.int (a:Int)] 1=some (.int (a:Int)):=⟨rfl,rfl⟩;have Z:((1:Int)<((0+1+1:Nat):Int))=True:=eq_true (by decide);refine j6 (e':=e') rfl (?_:tw [some (.sh (ssL ss)),some (.sh (dD (.go a))),some (.sh (.int num)),none,none,none]=_);rw[<-st];simp only[dD];simp[tw,V,Y,sn]
variable{v:D}
theorem zsb{u w:D}{ts:k8}(J:z7 [ssL ss]=some (.lst (.tup [.int (a:Int),u,v,w]::ts)))(R:ss[a-1]?=some (x::tl))(U:1<=a)(V:ss.length<=5)(I:tl.length<=1000):rq [ssL ss,dD .dry,.int num]=some (.lst [ssL (ss.set (a-1) tl),sD x]):=by
 obtain⟨e',st⟩:=zsa (v1:=some (.sh (dD .dry))) (v2:=some (.sh (.int num))) R U V I;have Y:=λe=>cp_o ss (by lia) e;have sn:=sne;have Z:atI [D.str "dry"] 0=some (.str "dry"):=rfl;have b:atI (.tup [.int (a:Int),u,v,w]::ts) 0=some (.tup [.int (a:Int),u,v,w]):=at_0;have c:atI [D.int (a:Int),u,v,w] 0=some (.int (a:Int)):=rfl;have d:((1:Int)<((0+1:Nat):Int))=False:=eq_false (by decide);refine j6 (e':=e') rfl (?_:tw [some (.sh (ssL ss)),some (.sh (dD .dry)),some (.sh (.int num)),none,none,none]=_);rw[<-st];simp only[dD];simp[tw,Y,Z,sn,J,b,c]
def stP(k:mx)(p:m2)(s:Hs):la:=[.d (ssL s.1),.o (k.map dD),.o (p.map stD),.d (spL s.2)]
structure SI (n i:Nat) (s:Hs):Prop where
 len:s.1.length=n
 few:s.1.flatten.length<=14
 good:∀x∈s.1.flatten,i9 x
 chain:ua 0 s.2
 rate:∀x∈s.2,0<=x.2.2/\x.2.2<=100000
 sp:s.2.length<=i
 hour:o8 0 s.2<=60*s.2.length
def Stp(k:mx)(s:Hs)(d:Deed)(s':Hs):Prop:=cmdX s.1 k.length (.d d)=none/\∃ans,rq [ssL s.1,dD d,.int (j1 k)]=some (.lst [ssL s'.1,ans])/\match d with | .dry=>∃x:Sk,ans=sD x/\s'.2=s.2++[(hrOf s.2,hrOf s.2+x.2.1,lss s.1.flatten)] | _=>s'.2=s.2
structure HI (n:Nat) (k:mx) (p:m2) (s:Hs):Prop where
 n5:n<=5
 k60:k.length<=60
 kp:p.length=k.length
 all:∀i t,(p++[s])[i]?=some t->SI n i t
 st0:(p++[s])[0]?=some (newS n)
 tr:∀i d t t',k[i]?=some d->(p++[s])[i]?=some t->(p++[s])[i+1]?=some t'->Stp (k.take i) t d t'
def HI.at(h:HI n k p s):SI n k.length s:=h.all k.length s (by rw[<-h.kp];simp)
variable{x:Str}
def xt{x:Nat}(h:e[i]?=some (some (.ag .ls (some r) ps)))(h2:e[x]?=some (some (.al r (pd ps j))))(D:ps[j]?=some (.o ds)):lh (.al x) i j e=some ds:=by
 unfold lh agAt;rw[if_pos (show Acc.ok (.al x) e i j from⟨_,_,_,h,h2⟩),h];dsimp;rw[D]
def z5l(h:c∈lg):∃w,xi c=some w/\(w=("" : Str))=False:=by
 simp[lg] at h;rcases h with rfl | rfl | rfl | rfl | rfl | rfl | rfl | rfl | rfl | rfl | rfl | rfl | rfl <;> exact⟨_,rfl,eq_false (by decide)⟩
variable{c:Cmd}
def zyq(h:cmdX ss n c=some x):x∈lg:=by
 cases c with
 | back =>
   simp only[cmdX] at h;split at h
   ·cases h;decide
   ·cases h
 | d y =>
   cases y with
   | put a b l=>simp only[cmdX,putX] at h;(repeat' split at h) <;> (first | cases h) <;> decide
   | tell a b l=>simp only[cmdX,t9] at h;(repeat' split at h) <;> (first | cases h) <;> decide
   | go a=>simp only[cmdX,goX] at h;(repeat' split at h) <;> (first | cases h) <;> decide
   | dry=>simp only[cmdX,dryX] at h;(repeat' split at h) <;> (first | cases h) <;> decide
def zv3(hi:HI n k p s)(h:cmdX s.1 k.length c=some x):askX c [hA k (p++[s])] (askD c)=some (x,[hA k (p++[s])]):=by
 have l5:s.1.length<=5:=by rw[hi.at.len];exact hi.n5
 cases c with
 | back =>
   simp only[cmdX] at h;split at h
   ·cases h
    rename_i q;obtain rfl:=fq q;exact z5k
   ·cases h
 | d y =>
   cases y with
   | put a b l=>exact z68 h l5
   | tell a b l=>exact z5j h l5
   | go a=>exact go_x h l5
   | dry=>exact z69 h l5
def z5m(hi:HI n k p s)(h:cmdX s.1 k.length c=some x):tq [hA k (p++[s]),(.ls,stP k p s)] [cD c]=some (.bl true,[hA k (p++[s]),(.ls,stP k p s)]):=by
 obtain⟨w,I,D⟩:=z5l (zyq h);have rf:=zi6 s.1 k.length c (by rw[hi.at.len];exact hi.n5);rw[h,show dueW (some x)=w by show(xi x).getD "" = w;rw[I];rfl] at rf;have cl:=zzx c (zv3 hi h) I;have R:=zw [.str "refused",.str w] (by simp[plD]) (by simp);have U:((k.map dD).length:Int)=k.length:=by rw[ah]
 have pl:=xt (e:=[some (.ag kH (some 0) (hP k (p++[s]))),some (.ag .ls (some 1) (stP k p s)),some (.sh (cD c)),some (.sh (ssL s.1)),some (.al 1 0),some (.al 1 1),some (.sh (spL s.2)),none,none,none,none,none]) (i:=1) (x:=4) (j:=1) (ds:=k.map dD) rfl rfl rfl;have J:=uq (m:=pv) (F:=au (fVar 2) fNil) (e:=[some (.ag kH (some 0) (hP k (p++[s]))),some (.ag .ls (some 1) (stP k p s)),some (.sh (cD c)),some (.sh (ssL s.1)),some (.al 1 0),some (.al 1 1),some (.sh (spL s.2)),some (.sh (.str w)),none,none,none,none]) (i:=0) (l:=some 0) (ps:=hP k (p++[s])) (ds:=[cD c]) rfl rfl cl;refine(vo (e:=[some (.ag kH (some 0) (hP k (p++[s]))),some (.ag .ls (some 1) (stP k p s)),some (.sh (cD c)),some (.sh (ssL s.1)),some (.al 1 0),some (.al 1 1),some (.sh (spL s.2)),some (.sh (.str w)),some (.sh (.tup [.str "refused",.str w])),none,none,none]) rfl rfl ?_ rfl).1;rw[show jw 12 [hA k (p++[s]),(.ls,stP k p s)] [cD c]=[some (.ag kH (some 0) (hP k (p++[s]))),some (.ag .ls (some 1) (stP k p s)),some (.sh (cD c)),none,none,none,none,none,none,none,none,none] from rfl];have un:vk 1 [3,4,5,6] [some (.ag kH (some 0) (hP k (p++[s]))),some (.ag .ls (some 1) (stP k p s)),some (.sh (cD c)),none,none,none,none,none,none,none,none,none]=some (.nx,[some (.ag kH (some 0) (hP k (p++[s]))),some (.ag .ls (some 1) (stP k p s)),some (.sh (cD c)),some (.sh (ssL s.1)),some (.al 1 0),some (.al 1 1),some (.sh (spL s.2)),none,none,none,none,none]):=rfl;generalize hP k (p++[s])=HP at *;generalize spL s.2=SP at *;rw[<-U] at rf;generalize k.map dD=KL at *;simp at J;simp[yb,un,pLen,pl,rf];simp[J,D,R]
theorem z5n(D:e[4]?=some (some (.sh (.lst (k.map dD)))))(J:k.length<=1000):fBin ja (fC (.int 1)) (d7 bLen (au (fLst (ip (fiS (fVar 4)) [] (fTst (fBin dEq (fIxV 0 (fC (.int 0))) (fC (.str "put")))) (fVar 0))) (fNil))) e=some (.int (j1 k),e):=by
 have c:=zk1 (tt:=fTst (fBin dEq (fIxV 0 (fC (.int 0))) (fC (.str "put")))) (te:=fVar 0) (base:=[]) dD dD Deed.isPut k λx _=>by
  cases x with
  | put a h l=>exact⟨_,rfl,λ_=>⟨_,rfl⟩⟩
  | tell a p l=>exact⟨_,rfl,λz=>nomatch z⟩
  | go a=>exact⟨_,rfl,λz=>nomatch z⟩
  | dry=>exact⟨_,rfl,λz=>nomatch z⟩
 have I:Few (k.map dD).length:=few (by rw[ah];lia);unfold j1;generalize k.map dD=L at *;simp[ip,D,I,c]
variable{x:Sk}
def zsc{x:Nat}(h:e[1]?=some (some (.ag .ls (some r) ps)))(h2:e[x]?=some (some (.al r (pd ps j))))(D:ps[j]?=some (.o ds))(I:f e=some (d,e))(J:Few (ds.length+1)) :
  qu (.al x) 1 j f e=some (.non,e.set 1 (some (.ag .ls (some r) (ps.set j (.o (ds++[d])))))):=by
 unfold qu;rw[h];dsimp only;rw[if_pos (show labO .ls (some r) from⟨rfl,λ_ _ z=>nomatch z⟩),xt h h2 D,ac,I,ac];unfold appP;rw[h];dsimp only;rw[D];dsimp only;rw[if_pos ⟨rfl,rfl,rfl,J⟩];unfold setP;rw[h]
def z5o:Deed->Bool | .dry=>true | _=>false
variable{d:Deed}{ss':mu}{ans:D}
theorem z7c(hi:HI n k p s)(V:z5o d=false)(h:cmdX s.1 k.length (.d d)=none)(c:k.length<=100)(cl:pv [hA k (p++[s])] [dD d]=some (ans,[hA (k++[d]) (p++[s]++[(ss',s.2)])]))(st:rq [ssL s.1,dD d,.int (j1 k)]=some (.lst [ssL ss',ans]))(I:yr [ans,ans]=some (.bl true))(g:noL ans=true) :
  tq [hA k (p++[s]),(.ls,stP k p s)] [dD d]=some (.bl true,[hA (k++[d]) (p++[s]++[(ss',s.2)]),(.ls,stP (k++[d]) (p++[s]) (ss',s.2))]):=by
 have rf:=zi6 s.1 k.length (.d d) (by rw[hi.at.len];exact hi.n5);rw[h,show dueW none = "" from rfl] at rf;have D:((k.map dD).length:Int)=k.length:=by rw[ah]
 obtain⟨w,ws,ew,hb,hdr⟩:∃w ws,dD d=.tup (.str w::ws)/\(w=("back" : Str))=False/\(w=("dry" : Str))=False:=by
  cases d with
  | put a h l=>exact⟨_,_,rfl,eq_false (by decide),eq_false (by decide)⟩
  | tell a h l=>exact⟨_,_,rfl,eq_false (by decide),eq_false (by decide)⟩
  | go a=>exact⟨_,_,rfl,eq_false (by decide),eq_false (by decide)⟩
  | dry=>cases V
 have pl:=xt (e:=[some (.ag kH (some 0) (hP k (p++[s]))),some (.ag .ls (some 1) (stP k p s)),some (.sh (dD d)),some (.sh (ssL s.1)),some (.al 1 0),some (.al 1 1),some (.sh (spL s.2)),none,none,none,none,none]) (i:=1) (x:=4) (j:=1) (ds:=k.map dD) rfl rfl rfl;have Y:=uq (m:=pv) (F:=au (fVar 2) fNil) (e:=[some (.ag kH (some 0) (hP k (p++[s]))),some (.ag .ls (some 1) (stP k p s)),some (.sh (dD d)),some (.sh (ssL s.1)),some (.al 1 0),some (.al 1 1),some (.sh (spL s.2)),some (.sh (.str "")),none,none,none,none]) (i:=0) (l:=some 0) (ps:=hP k (p++[s])) (ds:=[dD d]) rfl rfl cl;have nm:fFrz false (fBin ja (fC (.int 1)) (d7 bLen (au (fLst (ip (fiS (fVar 4)) [] (fTst (fBin dEq (fIxV 0 (fC (.int 0))) (fC (.str "put")))) (fVar 0))) (fNil)))) [some (.ag kH (some 0) (hP (k++[d]) (p++[s]++[(ss',s.2)]))),some (.ag .ls (some 1) (stP k p s)),some (.sh (dD d)),some (.sh (ssL s.1)),some (.al 1 0),some (.al 1 1),some (.sh (spL s.2)),some (.sh (.str "")),some (.sh ans),none,none,none]=some (.int (j1 k),[some (.ag kH (some 0) (hP (k++[d]) (p++[s]++[(ss',s.2)]))),some (.ag .ls (some 1) (stP k p s)),some (.sh (dD d)),some (.sh (ssL s.1)),some (.al 1 0),some (.al 1 1),some (.sh (spL s.2)),some (.sh (.str "")),some (.sh ans),none,none,none]):=by
  unfold fFrz;rw[z5n (k:=k) rfl (by lia)];rfl
 have Z:=zsc (e:=[some (.ag kH (some 0) (hP (k++[d]) (p++[s]++[(ss',s.2)]))),some (.ag .ls (some 1) (stP k p s)),some (.sh (dD d)),some (.sh (ssL s.1)),some (.al 1 0),some (.al 1 1),some (.sh (spL s.2)),some (.sh (.str "")),some (.sh ans),none,some (.sh (.lst [ssL ss',ans])),none]) (x:=5) (j:=2) (ds:=p.map stD) (f:=fTup (au (fVar 3) (au (fVar 6) fNil))) (d:=stD s) rfl rfl rfl rfl (few (by rw[ah];have:=hi.kp;lia));have b:=zsc (e:=[some (.ag kH (some 0) (hP (k++[d]) (p++[s]++[(ss',s.2)]))),some (.ag .ls (some 1) [.d (ssL s.1),.o (k.map dD),.o (p.map stD++[stD s]),.d (spL s.2)]),some (.sh (dD d)),some (.sh (ssL s.1)),some (.al 1 0),some (.al 1 1),some (.sh (spL s.2)),some (.sh (.str "")),some (.sh ans),none,some (.sh (.lst [ssL ss',ans])),none]) (x:=4) (j:=1) (ds:=k.map dD) (f:=fVar 2) (d:=dD d) rfl rfl rfl rfl (few (by rw[ah];lia));have J:atI (.str w::ws) 0=some (.str w):=at_0;have R:atI [ssL ss',ans] 0=some (ssL ss')/\atI [ssL ss',ans] 1=some ans:=⟨rfl,rfl⟩;refine(vo (e:=[some (.ag kH (some 0) (hP (k++[d]) (p++[s]++[(ss',s.2)]))),some (.ag .ls (some 1) (stP (k++[d]) (p++[s]) (ss',s.2))),some (.sh (dD d)),some (.sh (ssL s.1)),some (.al 1 0),some (.al 1 1),some (.sh (spL s.2)),some (.sh (.str "")),some (.sh ans),none,some (.sh (.lst [ssL ss',ans])),none]) rfl rfl ?_ rfl).1;rw[show jw 12 [hA k (p++[s]),(.ls,stP k p s)] [dD d]=[some (.ag kH (some 0) (hP k (p++[s]))),some (.ag .ls (some 1) (stP k p s)),some (.sh (dD d)),none,none,none,none,none,none,none,none,none] from rfl];have un:vk 1 [3,4,5,6] [some (.ag kH (some 0) (hP k (p++[s]))),some (.ag .ls (some 1) (stP k p s)),some (.sh (dD d)),none,none,none,none,none,none,none,none,none]=some (.nx,[some (.ag kH (some 0) (hP k (p++[s]))),some (.ag .ls (some 1) (stP k p s)),some (.sh (dD d)),some (.sh (ssL s.1)),some (.al 1 0),some (.al 1 1),some (.sh (spL s.2)),none,none,none,none,none]):=rfl;have U:stP (k++[d]) (p++[s]) (ss',s.2)=[.d (ssL ss'),.o (k.map dD++[dD d]),.o (p.map stD++[stD s]),.d (spL s.2)]:=by unfold stP;simp
 have rf:zdr [ssL s.1,.int (k.length:Int),dD d]=some (.str ""):=rf;rw[U];rw[<-D] at rf;unfold stP at *;generalize dD d=DD at *;subst ew;clear U D cl;generalize hP (k++[d]) (p++[s]++[(ss',s.2)])=HP2 at *;generalize k.map dD=KL at *;simp[yb,un,pLen,pl,rf];simp[Y,J,hb];simp[nm,st,Z,b,qj,R,hdr,I];simp[R,J,hdr,I]
def zzy{x:Nat}{d:D}(h:e[1]?=some (some (.ag .ls (some r) ps)))(h2:e[x]?=some (some (.al r (pd ps j))))(I:ps[j]?=some (.o (ds++[d]))) :
  pPop (.al x) 1 j e=some (d,e.set 1 (some (.ag .ls (some r) (ps.set j (.o ds))))):=by
 unfold pPop;rw[xt h h2 I,ac,show(ds++[d])[(ds++[d]).length-1]?=some d by simp,ak,show(ds++[d]).dropLast=ds by simp];unfold setP;rw[h]
def z7d(d:Deed):∃xs,dD d=.tup xs/\(∀x∈xs,plD x)/\xs.length<=1000:=by
 cases d <;> exact⟨_,rfl,by simp[plD],by simp⟩
def z14(hi:HI n (k++[d]) (p++[s]) s') :
  tq [hA (k++[d]) (p++[s]++[s']),(.ls,stP (k++[d]) (p++[s]) s')] [cD .back]=some (.bl true,[hA k (p++[s]),(.ls,stP k p s)]):=by
 have h:cmdX s'.1 (k++[d]).length .back=none:=by simp[cmdX]
 have rf:=zi6 s'.1 (k++[d]).length .back (by rw[hi.at.len];exact hi.n5);rw[h,show dueW none = "" from rfl] at rf;obtain⟨xs,ex,U,V⟩:=z7d d;have J:=zw xs U V;rw[<-ex] at J;have R:=z12 (k:=k) (p:=p) (s:=s) (d:=d) (s':=s');have cl:=zv0 .back R.1 R.2;have Y:stP (k++[d]) (p++[s]) s'=[.d (ssL s'.1),.o (k.map dD++[dD d]),.o (p.map stD++[stD s]),.d (spL s'.2)]:=by unfold stP;simp
 have I:((k.map dD++[dD d]).length:Int)=(k++[d]).length:=by simp
 rw[<-I] at rf;rw[Y];have pl:=xt (e:=[some (.ag kH (some 0) (hP (k++[d]) (p++[s]++[s']))),some (.ag .ls (some 1) [.d (ssL s'.1),.o (k.map dD++[dD d]),.o (p.map stD++[stD s]),.d (spL s'.2)]),some (.sh (cD .back)),some (.sh (ssL s'.1)),some (.al 1 0),some (.al 1 1),some (.sh (spL s'.2)),none,none,none,none,none]) (i:=1) (x:=4) (j:=1) (ds:=k.map dD++[dD d]) rfl rfl rfl;have Z:=uq (m:=pv) (F:=au (fVar 2) fNil) (e:=[some (.ag kH (some 0) (hP (k++[d]) (p++[s]++[s']))),some (.ag .ls (some 1) [.d (ssL s'.1),.o (k.map dD++[dD d]),.o (p.map stD++[stD s]),.d (spL s'.2)]),some (.sh (cD .back)),some (.sh (ssL s'.1)),some (.al 1 0),some (.al 1 1),some (.sh (spL s'.2)),some (.sh (.str "")),none,none,none,none]) (i:=0) (l:=some 0) (ps:=hP (k++[d]) (p++[s]++[s'])) (ds:=[cD .back]) rfl rfl cl;have a:=zzy (e:=[some (.ag kH (some 0) (hP k (p++[s]))),some (.ag .ls (some 1) [.d (ssL s'.1),.o (k.map dD++[dD d]),.o (p.map stD++[stD s]),.d (spL s'.2)]),some (.sh (cD .back)),some (.sh (ssL s'.1)),some (.al 1 0),some (.al 1 1),some (.sh (spL s'.2)),some (.sh (.str "")),some (.sh (dD d)),none,none,none]) (x:=5) (j:=2) rfl rfl rfl;have b:=zzy (e:=[some (.ag kH (some 0) (hP k (p++[s]))),some (.ag .ls (some 1) [.d (ssL s.1),.o (k.map dD++[dD d]),.o (p.map stD),.d (spL s.2)]),some (.sh (cD .back)),some (.sh (ssL s'.1)),some (.al 1 0),some (.al 1 1),some (.sh (spL s'.2)),some (.sh (.str "")),some (.sh (dD d)),some (.sh (.tup [ssL s.1,spL s.2])),none,none]) (x:=4) (j:=1) rfl rfl rfl;refine(vo (e:=[some (.ag kH (some 0) (hP k (p++[s]))),some (.ag .ls (some 1) (stP k p s)),some (.sh (cD .back)),some (.sh (ssL s'.1)),some (.al 1 0),some (.al 1 1),some (.sh (spL s'.2)),some (.sh (.str "")),some (.sh (dD d)),some (.sh (.tup [ssL s.1,spL s.2])),none,none]) rfl rfl ?_ rfl).1;rw[show jw 12 [hA (k++[d]) (p++[s]++[s']),(.ls,[.d (ssL s'.1),.o (k.map dD++[dD d]),.o (p.map stD++[stD s]),.d (spL s'.2)])] [cD .back]=[some (.ag kH (some 0) (hP (k++[d]) (p++[s]++[s']))),some (.ag .ls (some 1) [.d (ssL s'.1),.o (k.map dD++[dD d]),.o (p.map stD++[stD s]),.d (spL s'.2)]),some (.sh (cD .back)),none,none,none,none,none,none,none,none,none] from rfl];have un:vk 1 [3,4,5,6] [some (.ag kH (some 0) (hP (k++[d]) (p++[s]++[s']))),some (.ag .ls (some 1) [.d (ssL s'.1),.o (k.map dD++[dD d]),.o (p.map stD++[stD s]),.d (spL s'.2)]),some (.sh (cD .back)),none,none,none,none,none,none,none,none,none]=some (.nx,[some (.ag kH (some 0) (hP (k++[d]) (p++[s]++[s']))),some (.ag .ls (some 1) [.d (ssL s'.1),.o (k.map dD++[dD d]),.o (p.map stD++[stD s]),.d (spL s'.2)]),some (.sh (cD .back)),some (.sh (ssL s'.1)),some (.al 1 0),some (.al 1 1),some (.sh (spL s'.2)),none,none,none,none,none]):=rfl;have c:cD .back=.tup [.str "back"]:=rfl;have f:atI [ssL s.1,spL s.2] 0=some (ssL s.1)/\atI [ssL s.1,spL s.2] 1=some (spL s.2):=⟨rfl,rfl⟩;have g:atI [D.str "back"] 0=some (.str "back"):=rfl;have es:stD s=.tup [ssL s.1,spL s.2]:=rfl;unfold stP;generalize hP (k++[d]) (p++[s]++[s'])=HP2 at *;generalize stD s=SD at *;generalize cD .back=CD at *;subst c es;simp only[yb,sSeq,un,ac,sSet,d7,au,fNil,fVar,pLen,pl,ak,af,ai,rf,ax,az];simp[Z,g];simp[a,qj,f,b,J]
def z15(i:Int):qf [.int i]=some (.bl true):=by
 rfl
def zv4(i:Int):yr [.int i,.int i]=some (.bl true)/\noL (.int i)=true:=by
 refine⟨?_,rfl⟩;have w:=z15 i;refine j6 (e':=[some (.sh (.int i)),some (.sh (.int i))]) rfl ?_;rw[show jk 2 [D.int i,.int i]=[some (.sh (.int i)),some (.sh (.int i))] from rfl];simp only[zem,sSeq,sIf,fTst,fIsi,fVar,sNil,sRet,wy,d7,au,fNil,w,fBin,dEq,af,ai,ac,ak];simp[w]
def zzz(x:Sk):yr [sD x,sD x]=some (.bl true)/\noL (sD x)=true:=by
 refine⟨?_,rfl⟩;have w:=zw [.int x.1,.int x.2.1,.int x.2.2] (by simp[plD]) (by simp);refine j6 (e':=[some (.sh (sD x)),some (.sh (sD x))]) rfl ?_;rw[show jk 2 [sD x,sD x]=[some (.sh (sD x)),some (.sh (sD x))] from rfl];simp only[zem,sSeq,sIf,fTst,fIsi,fVar,sNil,sRet,d7,au,fNil,sD,w,af,ai,ac,ak];simp
theorem z5p(hi:HI n k p s)(h:cmdX s.1 k.length (.d .dry)=none)(cl:pv [hA k (p++[s])] [dD .dry]=some (sD x,[hA (k++[.dry]) (p++[s]++[dryS s a x tl])]))(st:rq [ssL s.1,dD .dry,.int (j1 k)]=some (.lst [ssL (s.1.set (a-1) tl),sD x])) :
  tq [hA k (p++[s]),(.ls,stP k p s)] [dD .dry]=some (.bl true,[hA (k++[.dry]) (p++[s]++[dryS s a x tl]),(.ls,stP (k++[.dry]) (p++[s]) (dryS s a x tl))]):=by
 have I:=hi.at;have l5:s.1.length<=5:=by rw[I.len];exact hi.n5
 have rf:=zi6 s.1 k.length (.d .dry) l5;rw[h,show dueW none = "" from rfl] at rf;have J:((k.map dD).length:Int)=k.length:=by rw[ah]
 have Y:=(zzz x).1;have R:∀y∈s.1,y.length<=1000:=λy Z=>by
  have h1:=I.few;have h2:=(ek Z).length_le
  lia
 have b:=z1z s.1 (by lia) R;have c:=I.sp;have C:=I.hour;have E:=hi.k60;have g:=zyl s.2 I.chain (by lia);have q:(((rts s.2).map D.int).length:Int)=hrOf s.2:=by rw[ah,zqt _ _ I.chain,zr7];lia
 have pl:=xt (e:=[some (.ag kH (some 0) (hP k (p++[s]))),some (.ag .ls (some 1) (stP k p s)),some (.sh (dD .dry)),some (.sh (ssL s.1)),some (.al 1 0),some (.al 1 1),some (.sh (spL s.2)),none,none,none,none,none]) (i:=1) (x:=4) (j:=1) (ds:=k.map dD) rfl rfl rfl;have r:=uq (m:=pv) (F:=au (fVar 2) fNil) (e:=[some (.ag kH (some 0) (hP k (p++[s]))),some (.ag .ls (some 1) (stP k p s)),some (.sh (dD .dry)),some (.sh (ssL s.1)),some (.al 1 0),some (.al 1 1),some (.sh (spL s.2)),some (.sh (.str "")),none,none,none,none]) (i:=0) (l:=some 0) (ps:=hP k (p++[s])) (ds:=[dD .dry]) rfl rfl cl;have nm:fFrz false (fBin ja (fC (.int 1)) (d7 bLen (au (fLst (ip (fiS (fVar 4)) [] (fTst (fBin dEq (fIxV 0 (fC (.int 0))) (fC (.str "put")))) (fVar 0))) (fNil)))) [some (.ag kH (some 0) (hP (k++[.dry]) (p++[s]++[dryS s a x tl]))),some (.ag .ls (some 1) (stP k p s)),some (.sh (dD .dry)),some (.sh (ssL s.1)),some (.al 1 0),some (.al 1 1),some (.sh (spL s.2)),some (.sh (.str "")),some (.sh (sD x)),none,none,none]=some (.int (j1 k),[some (.ag kH (some 0) (hP (k++[.dry]) (p++[s]++[dryS s a x tl]))),some (.ag .ls (some 1) (stP k p s)),some (.sh (dD .dry)),some (.sh (ssL s.1)),some (.al 1 0),some (.al 1 1),some (.sh (spL s.2)),some (.sh (.str "")),some (.sh (sD x)),none,none,none]):=by
  unfold fFrz;rw[z5n (k:=k) rfl (by lia)];rfl
 have t:=zsc (e:=[some (.ag kH (some 0) (hP (k++[.dry]) (p++[s]++[dryS s a x tl]))),some (.ag .ls (some 1) (stP k p s)),some (.sh (dD .dry)),some (.sh (ssL s.1)),some (.al 1 0),some (.al 1 1),some (.sh (spL s.2)),some (.sh (.str "")),some (.sh (sD x)),none,some (.sh (.lst [ssL (s.1.set (a-1) tl),sD x])),none]) (x:=5) (j:=2) (ds:=p.map stD) (f:=fTup (au (fVar 3) (au (fVar 6) fNil))) (d:=stD s) rfl rfl rfl rfl (few (by rw[ah];have:=hi.kp;lia));have u:=zsc (e:=[some (.ag kH (some 0) (hP (k++[.dry]) (p++[s]++[dryS s a x tl]))),some (.ag .ls (some 1) [.d (ssL s.1),.o (k.map dD),.o (p.map stD++[stD s]),.d (spL s.2)]),some (.sh (dD .dry)),some (.sh (ssL s.1)),some (.al 1 0),some (.al 1 1),some (.sh (spL s.2)),some (.sh (.str "")),some (.sh (sD x)),none,some (.sh (.lst [ssL (s.1.set (a-1) tl),sD x])),none]) (x:=4) (j:=1) (ds:=k.map dD) (f:=fVar 2) (d:=dD .dry) rfl rfl rfl rfl (few (by rw[ah];lia));have V:atI [D.str "dry"] 0=some (.str "dry"):=rfl;have v:dD .dry=.tup [.str "dry"]:=rfl;have sn:=sne;have U:atI [ssL (s.1.set (a-1) tl),sD x] 0=some (ssL (s.1.set (a-1) tl))/\atI [ssL (s.1.set (a-1) tl),sD x] 1=some (sD x):=⟨rfl,rfl⟩;have w:dIx (sD x) (.int 1)=some (.int x.2.1):=rfl;have ct:fLst (fCat (fVar 6) (fLst (fz (au (fTup (au (fVar 11) (au (fBin ja (fVar 11) (fBin dIx (fIxV 10 (fC (.int 1))) (fC (.int 1)))) (au (d7 zh0 (au (fVar 3) fNil)) fNil)))) fNil))))
   [some (.ag kH (some 0) (hP (k++[.dry]) (p++[s]++[dryS s a x tl]))),some (.ag .ls (some 1) [.d (ssL (s.1.set (a-1) tl)),.o (k.map dD++[dD .dry]),.o (p.map stD++[stD s]),.d (spL s.2)]),some (.sh (dD .dry)),some (.sh (ssL s.1)),some (.al 1 0),some (.al 1 1),some (.sh (spL s.2)),some (.sh (.str "")),some (.sh (sD x)),none,some (.sh (.lst [ssL (s.1.set (a-1) tl),sD x])),some (.sh (.int (hrOf s.2)))]=some (spL (s.2++[(hrOf s.2,hrOf s.2+x.2.1,lss s.1.flatten)]),[some (.ag kH (some 0) (hP (k++[.dry]) (p++[s]++[dryS s a x tl]))),some (.ag .ls (some 1) [.d (ssL (s.1.set (a-1) tl)),.o (k.map dD++[dD .dry]),.o (p.map stD++[stD s]),.d (spL s.2)]),some (.sh (dD .dry)),some (.sh (ssL s.1)),some (.al 1 0),some (.al 1 1),some (.sh (spL s.2)),some (.sh (.str "")),some (.sh (sD x)),none,some (.sh (.lst [ssL (s.1.set (a-1) tl),sD x])),some (.sh (.int (hrOf s.2)))]):=by
  have z:Few ((s.2.map sD).length+1):=few (by rw[ah];lia);have A:spL (s.2++[(hrOf s.2,hrOf s.2+x.2.1,lss s.1.flatten)])=.lst (s.2.map sD++[.tup [.int (hrOf s.2),.int (hrOf s.2+x.2.1),.int (lss s.1.flatten)]]):=by unfold spL;rw[dh];rfl
  rw[A];unfold spL;simp only[fLst,fCat,fVar,fz,au,fNil,fTup,fBin,fIxV,ixSl,fC,d7,af,ai,ac,ak,U,w,ja,b,am,b6,show 0+1+1+1<=64 by decide,show 0+1<=64 by decide,z,if_true]
 refine(vo (e:=[some (.ag kH (some 0) (hP (k++[.dry]) (p++[s]++[dryS s a x tl]))),some (.ag .ls (some 1) (stP (k++[.dry]) (p++[s]) (dryS s a x tl))),some (.sh (dD .dry)),some (.sh (ssL s.1)),some (.al 1 0),some (.al 1 1),some (.sh (spL s.2)),some (.sh (.str "")),some (.sh (sD x)),none,some (.sh (.lst [ssL (s.1.set (a-1) tl),sD x])),some (.sh (.int (hrOf s.2)))]) rfl rfl ?_ rfl).1;rw[show jw 12 [hA k (p++[s]),(.ls,stP k p s)] [dD .dry]=[some (.ag kH (some 0) (hP k (p++[s]))),some (.ag .ls (some 1) (stP k p s)),some (.sh (dD .dry)),none,none,none,none,none,none,none,none,none] from rfl];have un:vk 1 [3,4,5,6] [some (.ag kH (some 0) (hP k (p++[s]))),some (.ag .ls (some 1) (stP k p s)),some (.sh (dD .dry)),none,none,none,none,none,none,none,none,none]=some (.nx,[some (.ag kH (some 0) (hP k (p++[s]))),some (.ag .ls (some 1) (stP k p s)),some (.sh (dD .dry)),some (.sh (ssL s.1)),some (.al 1 0),some (.al 1 1),some (.sh (spL s.2)),none,none,none,none,none]):=rfl;have B:stP (k++[.dry]) (p++[s]) (dryS s a x tl)=[.d (ssL (s.1.set (a-1) tl)),.o (k.map dD++[dD .dry]),.o (p.map stD++[stD s]),.d (spL (s.2++[(hrOf s.2,hrOf s.2+x.2.1,lss s.1.flatten)]))]:=by unfold stP dryS;simp
 have rf:zdr [ssL s.1,.int (k.length:Int),dD .dry]=some (.str ""):=rf;rw[B];rw[<-J] at rf;unfold stP at *;generalize dD .dry=DD at *;subst v;simp only[yb,sSeq,un,ac,sSet,d7,au,fNil,fVar,pLen,pl,ak,af,ai,rf,ax,az];simp only[r,ak,ac,ax,az,sIf,fTst,fBin,fVar,fC,fIxV,ixSl,af,ai,dNe,dEq,V,sn,decide_true,decide_false,m6,bz,if_false,sNil];simp only[nm,ak,ac,d7,au,fNil,fVar,af,ai,ax,az,st,jg,t,u,qj,U,fIxV,ixSl,fC];simp only[sSeq,sSet,V,decide_true,if_true,d7,au,fNil,fVar,af,ai,ax,az,ak,ac,g,bLen,q,qj,ct,sRet,fIxV,ixSl,fC,U,Y]
def zn8{α:Type}:∀(ss:List (List α)) (i:Nat) (t t':List α),ss[i]?=some t->∃A B,ss.flatten=A++(t++B)/\(ss.set i t').flatten=A++(t'++B)
 | y::r,0,t,t',h=>by
   simp at h;subst h;exact⟨[],r.flatten,rfl,rfl⟩
 | y::r,i+1,t,t',h=>by
   obtain⟨A,B,h1,h2⟩:=zn8 r i t t' (by simpa using h);exact⟨y++A,B,by simp[h1],by simp[h2]⟩
theorem HI.push(h:HI n k p s)(V:k.length<60)(R:SI n (k.length+1) s')(st:Stp k s d s'):HI n (k++[d]) (p++[s]) s':=by
 have U:(p++[s]).length=k.length+1:=by simp[h.kp]
 have lt:∀i,i<=k.length->(p++[s]++[s'])[i]?=(p++[s])[i]?:=λi c=>aw (by lia);have J:(p++[s]++[s'])[k.length+1]?=some s':=by rw[<-U,ig]
 refine⟨h.n5,by simp;lia,by simp[h.kp],λi t D=>?_,by rw[lt 0 (by lia)];exact h.st0,λi d' t t' h1 h2 I=>?_⟩
 ·by_cases c:i<=k.length
  ·exact h.all i t (lt i c ▸ D)
  ·obtain rfl:i=k.length+1:=by have:=(aj.mp D).1;simp[h.kp] at this;lia
   rw[J] at D;cases D;exact R
 ·by_cases c:i<k.length
  ·rw[gq (by lia)]
   exact h.tr i d' t t' (by rwa [aw c] at h1) (by rwa [lt i (by lia)] at h2) (by rwa [lt _ c] at I)
  ·obtain rfl:i=k.length:=by have:=(aj.mp h1).1;simp at this;lia
   rw[ig] at h1;rw[lt _ (b7 _),<-h.kp,ig] at h2;rw[J] at I;cases h1;cases h2;cases I;rw[j2];exact st
theorem HI.pop(h:HI n (k++[d]) (p++[s]) s'):HI n k p s:=by
 have kp:p.length=k.length:=by have:=h.kp;simp at this;exact this
 have I:∀ {i t},(p++[s])[i]?=some t->(p++[s]++[s'])[i]?=some t:=λD=>by rw[aw (aj.mp D).1];exact D
 refine⟨h.n5,by have:=h.k60;simp at this;lia,kp,λi t D=>h.all i t (I D),by have:=h.st0;rwa [aw (by simp)] at this,λi d' t t' h1 h2 J=>?_⟩;have c:=(aj.mp h1).1;have:=h.tr i d' t t' (by rw[aw c];exact h1) (I h2) (I J);rwa [gq (by lia)] at this
theorem SI.swap{t':l0}(h:SI n i s)(I:s.1[a]?=some t)(J:s.1.flatten.length+t'.length<=14+t.length)(R:∀x∈t',(∀y∈t,i9 y)->i9 x):SI n (i+1) (s.1.set a t',s.2):=by
 obtain⟨A,B,h1,h2⟩:=zn8 s.1 a t t' I;have g:=h.good;rw[h1] at g J;refine⟨by rw[dq];exact h.len,?_,?_,h.chain,h.rate,oh h.sp,h.hour⟩
 ·show(s.1.set a t').flatten.length<=14
  rw[h2];simp at *
  lia
 ·intro x D
  rw[h2,db,db] at D;rcases D with q | q | q
  ·exact g x (by simp[q])
  ·exact R x q λy U=>g y (by simp[U])
  ·exact g x (by simp[q])
theorem z16(k:mx):1<=j1 k/\j1 k<=k.length+1:=by
 unfold j1;have:=List.length_filter_le Deed.isPut k
 lia
theorem zz0:∀(l:l0),(∀x∈l,i9 x)->0<=lss l/\lss l<=100*l.length
 | [],_=>⟨by decide,by decide⟩
 | x::r,h=>by
   have J:=zz0 r λy D=>h y (by simp[D]);have I:=h x (by simp);unfold i9 at I;have e:lss (x::r)=x.2.2+lss r:=by simp[lss]
   rw[e,am]
   lia
theorem SI.dry(h:SI n i s)(I:s.1[a-1]?=some (x::tl)):SI n (i+1) (dryS s a x tl):=by
 have q:=h.swap (t':=tl) I (by have:=h.few;rw[am];lia) λy D J=>J y (by simp[D]);have R:i9 x:=h.good x (by
  obtain⟨A,B,h1,_⟩:=zn8 s.1 (a-1) (x::tl) tl I;rw[h1];simp)
 have U:=zz0 s.1.flatten h.good;have Y:=h.few;have Z:=h.hour;have V:=h.sp;unfold i9 at R;refine⟨q.len,q.few,q.good,?_,?_,?_,?_⟩
 ·exact zpj _ _ _ h.chain (zr7 s.2) (by show hrOf s.2<=hrOf s.2+x.2.1;lia)
 ·intro y D
  have D:y∈s.2++[(hrOf s.2,hrOf s.2+x.2.1,lss s.1.flatten)]:=D;rw[db,cr] at D;rcases D with D | rfl
  ·exact h.rate y D
  ·show 0<=lss s.1.flatten/\lss s.1.flatten<=100000
   lia
 ·show(s.2++[_]).length<=i+1
  simp;lia
 ·show o8 0 (s.2++[(hrOf s.2,hrOf s.2+x.2.1,lss s.1.flatten)])<=60*((s.2++[(hrOf s.2,hrOf s.2+x.2.1,lss s.1.flatten)]).length:Int)
  rw[zj2,zr7,ao];simp
  lia
def zv5{l:List α}(h:l≠[]):∃m x,l=m++[x]:=⟨l.dropLast,l.getLast h,(List.dropLast_concat_getLast h).symm⟩
def Mv(k:mx)(p:m2)(s:Hs)(c:Cmd)(k':mx)(p':m2)(s':Hs):Prop:=match cmdX s.1 k.length c with | some _=>k'=k/\p'=p/\s'=s | none=>match c with | .back=>∃d,k=k'++[d]/\p=p'++[s'] | .d d=>k'=k++[d]/\p'=p++[s]
def Done(n:Nat)(k:mx)(p:m2)(s:Hs)(c:Cmd):Prop:=∃k' p' s',HI n k' p' s'/\tq [hA k (p++[s]),(.ls,stP k p s)] [cD c]=some (.bl true,[hA k' (p'++[s']),(.ls,stP k' p' s')])/\Mv k p s c k' p' s'
protected def Mv.d(h:cmdX s.1 k.length (.d d)=none):Mv k p s (.d d) (k++[d]) (p++[s]) s':=by
 unfold Mv;rw[h];exact⟨rfl,rfl⟩
def HI.l5(hi:HI n k p s):s.1.length<=5:=by rw[hi.at.len];exact hi.n5
theorem HI.r14(hi:HI n k p s):∀y∈s.1,y.length<=14:=λy D=>by
 have h2:=(ek D).length_le;have:=hi.at.few
 lia
theorem zqu(hi:HI n k p s)(D:z5o d=false)(I:k.length<60)(h:cmdX s.1 k.length (.d d)=none)(J:askX (.d d) [hA k (p++[s])] (askD (.d d))=none)(h1:askM (.d d) [hA k (p++[s])] (askD (.d d))=some (ans,[hA (k++[d]) (p++[s]++[(ss',s.2)])]))(st:rq [ssL s.1,dD d,.int (j1 k)]=some (.lst [ssL ss',ans]))(R:yr [ans,ans]=some (.bl true))(U:noL ans=true)(V:SI n (k.length+1) (ss',s.2)):Done n k p s (.d d) :=
 ⟨_,_,_,hi.push I V ⟨h,ans,st,by cases d <;> first | rfl | cases D⟩,z7c hi D h (by lia) (zv0 (.d d) J h1) st R U,Mv.d h⟩
variable{a:Int}
theorem zyr{l:Int}(hi:HI n k p s)(h:cmdX s.1 k.length (.d (.put a b l))=none):Done n k p s (.d (.put a b l)):=by
 have hx:putX s.1 k.length a b l=none:=h;have D:=hx;have l5:=hi.l5;have kp:=hi.kp;have e:=hi.k60;unfold putX at D
 (repeat' split at D) <;> try cases D
 rename_i R f g i U;obtain⟨a,rfl⟩:=jf (show 0<=a by lia);have J:=z5i (p:=p) hx l5 (by lia);have I:=uo R;rw[show((a:Int).toNat-1)=a-1 by simp] at I;have j:=hi.r14 _ (bf I);have sp:=zyp (num:=j1 k) (h:=b) (l:=l) (a:=a) (ss:=s.1) (by lia) (by lia) l5 (by lia);have V:=z16 k;have Y:i9 (j1 k,b,l):=⟨V.1,by show j1 k<=60;lia,by show 1<=b;lia,by show b<=60;lia,by show 0<=l;lia,by show l<=100;lia⟩;have Z:SI n (k.length+1) (putS s.1 a (j1 k,b,l),s.2):=hi.at.swap I (by rw[am];lia) λx hx c=>by
  rw[cb] at hx;rcases hx with hx | hx
  ·rw[hx];exact Y
  ·exact c x hx
 exact zqu hi rfl U h J.1 J.2 sp (zv4 _).1 rfl Z
theorem zv6{m l:Int}(hi:HI n k p s)(h:cmdX s.1 k.length (.d (.tell a m l))=none):Done n k p s (.d (.tell a m l)):=by
 have D:t9 s.1 k.length a m l=none:=h;have l5:=hi.l5;have kp:=hi.kp;have e:=hi.at.few;unfold t9 at D
 (repeat' split at D) <;> try cases D
 rename_i V Y Z f J;obtain⟨a,rfl⟩:=jf (show 0<=a by lia);obtain⟨m,rfl⟩:=jf (show 0<=m by lia);have I:=uo V;rw[show((a:Int).toNat-1)=a-1 by simp] at I Y Z;have i:=hi.r14 _ (bf I);obtain⟨x,hx2⟩:∃x,(s.1.getD (a-1) [])[m-1]?=some x:=⟨_,av (by lia)⟩;have R:=z11 (k:=k) (p:=p) (s:=s) (l:=l) I hx2 (by lia) (by lia) (by lia) (by lia) J l5 (by lia) (by lia);have sp:=zv2 (num:=j1 k) (l:=l) I hx2 (by lia) (by lia) l5;have b:SI n (k.length+1) (s.1.set (a-1) ((s.1.getD (a-1) []).set (m-1) (x.1,x.2.1,l)),s.2):=hi.at.swap I (by rw[dq];lia) λz c U=>by
  rcases List.mem_or_eq_of_mem_set c with q | q
  ·exact U z q
  ·have g:=U x (bf hx2)
   rw[q];exact⟨g.1,g.2.1,g.2.2.1,g.2.2.2.1,by show 0<=l;lia,by show l<=100;lia⟩
 exact zqu hi rfl J h R.1 R.2 sp (zv4 _).1 rfl b
theorem z17(hi:HI n k p s)(h:cmdX s.1 k.length (.d (.go a))=none):Done n k p s (.d (.go a)):=by
 have D:goX s.1 k.length a=none:=h;have l5:=hi.l5;have kp:=hi.kp;have e:=hi.at.few;unfold goX at D
 (repeat' split at D) <;> try cases D
 rename_i Y J U;obtain⟨a,rfl⟩:=jf (show 0<=a by lia);have I:=uo Y;rw[show((a:Int).toNat-1)=a-1 by simp] at I J;have R:=hi.r14 _ (bf I);obtain⟨x,tl,et⟩:∃x tl,s.1.getD (a-1) []=x::tl:=by
  cases q:s.1.getD (a-1) [] with
  | nil=>rw[q] at J;simp at J
  | cons x tl=>exact⟨x,tl,rfl⟩
 rw[et] at I R;have R:tl.length+1<=14:=by simpa using R
 have V:=z67 (k:=k) (p:=p) (s:=s) I (by lia) U l5 (by lia);have sp:=z13 (num:=j1 k) I (by lia) l5 (by lia);have Z:SI n (k.length+1) (s.1.set (a-1) tl,s.2):=hi.at.swap I (by rw[am];lia) λz b c=>c z (by simp[b]);exact zqu hi rfl U h V.1 V.2 sp (zzz x).1 rfl Z
theorem zys(hi:HI n k p s)(h:cmdX s.1 k.length (.d .dry)=none):Done n k p s (.d .dry):=by
 have D:dryX s.1 k.length=none:=h;have l5:=hi.l5;have kp:=hi.kp;have I:=hi.at;have J:=I.few;unfold dryX at D
 (repeat' split at D) <;> try cases D
 rename_i c U;obtain⟨ts,ok,R⟩:=ze7 s.1 I.good J;have e:=zfw ok R J;have f:=zm ok I.good J (by lia);cases ts with
 | nil =>
   have:=ok.perm.length_eq;simp only[du,pz,b6] at this
   lia
 | cons t ts =>
   obtain⟨a,b⟩:=t;have g:=(ok.good (a,b) (by simp)).ne;cases b with
   | nil=>exact absurd rfl g
   | cons x r =>
     obtain⟨tl,i,h1,h2,m,_⟩:=zpg ok I.good J;have V:=hi.r14;have Y:=V _ (bf h1);have Y:tl.length+1<=14:=by simpa using Y
     have j:=I.sp;have Z:=zzv (k:=k) (p:=p) (s:=s) e h1 h2 U l5 (by lia) (λy l=>by have:=V y l;lia) (by lia) c;have sp:=zsb (num:=j1 k) f h1 h2 l5 (by lia);exact⟨_,_,_,hi.push U (I.dry h1) ⟨h,sD x,sp,x,rfl,rfl⟩,z5p hi h (zv0 (.d .dry) Z.1 Z.2) sp,Mv.d h⟩
def z5q(c:Cmd)(hi:HI n k p s):Done n k p s c:=by
 cases h:cmdX s.1 k.length c with
 | some x=>exact⟨k,p,s,hi,z5m hi h,by unfold Mv;rw[h];exact⟨rfl,rfl,rfl⟩⟩
 | none =>
 cases c with
 | back =>
   have D:k≠[]:=λe=>by subst e;simp[cmdX] at h
   have I:p≠[]:=λe=>by subst e;exact D (fq hi.kp.symm)
   obtain⟨k0,d,rfl⟩:=zv5 D;obtain⟨J,R,rfl⟩:=zv5 I;exact⟨k0,J,R,hi.pop,z14 hi,by unfold Mv;rw[h];exact⟨d,rfl,rfl⟩⟩
 | d y =>
   cases y with
   | put a b l=>exact zyr hi h
   | tell a m l=>exact zv6 hi h
   | go a=>exact z17 hi h
   | dry=>exact zys hi h
theorem z5r(V:n<=5):zh3 [.int n]=some (.ls,stP [] [] (newS n)):=by
 have I:Few (rngD 0 n).length:=few (by rw[tx];lia);have c:=nr (te:=fLst (fz fNil)) (base:=[]) (λi:Nat=>D.int (0+(i:Int))) (λ_:Nat=>D.lst []) (List.range n) λi _=>⟨_,rfl⟩;have R:rngD 0 n=(List.range n).map λi:Nat=>D.int (0+(i:Int)):=rfl;have U:(List.range n).map (λ_:Nat=>D.lst [])=(List.replicate n ([]:l0)).map λs=>D.lst (s.map sD):=by rw[List.map_const',j9,nj,du]
 have J:=nk n (by lia);unfold rngD at J;rw[U] at c;rw[R] at I;unfold zh3 runG;rw[if_pos (show[D.int (n:Int)].length=1 from rfl),show jk 1 [D.int (n:Int)]=[some (.sh (.int n))] from rfl];simp only[zjj,zxt,fAgL,pCd,pCo,pNil,fLst,ip,i5,au,fVar,fNil,fz,af,ac,ak,J,I,if_true,du,c,b6,gp];rw[show frsE [some (Sl.sh (D.int (n:Int)))]=[some (.sh (.int n))] from rfl];simp only[af,ac,ak,J,I,if_true,c,am,b6,show 0+1+1+1+1<=64 by decide];rfl
def HI.new(D:n<=5):HI n [] [] (newS n) :=
 ⟨D,by simp,rfl,λi t h=>by
  have e:i=0/\t=newS n:=by
   cases i with
   | zero=>simp at h;exact⟨rfl,h.symm⟩
   | succ m=>simp at h
  obtain⟨rfl,rfl⟩:=e;have z:(newS n).1.flatten=[]:=by simp[newS]
  exact⟨by simp[newS],by rw[z];simp,by rw[z];simp,trivial,λx h=>by simp[newS] at h,by simp[newS],by simp[newS,o8]⟩,rfl,λi d t t' h=>by simp at h⟩
theorem z18(z:Int):∃n:Nat,n<=5/\zh1 [.int z]=some (.int n):=by
 have h:z % 12=0\/z % 12=1\/z % 12=2\/z % 12=3\/z % 12=4\/z % 12=5\/z % 12=6\/z % 12=7\/z % 12=8\/z % 12=9\/z % 12=10\/z % 12=11:=by lia
 have q:∀r:Int,dMod (.int z) (.int 12)=some (.int r)->∀v,dIx (.lst [.int 5,.int 3,.int 2,.int 4,.int 1,.int 5,.int 0,.int 4,.int 3,.int 5,.int 2,.int 4]) (.int r)=some v->zh1 [.int z]=some v:=λr h1 v h2=>by
  refine j6 (e':=[some (.sh (.int z))]) rfl ?_;rw[show jk 1 [D.int z]=[some (.sh (.int z))] from rfl];simp only[zlt,sRet,fBin,fLst,fz,au,fNil,fC,fVar,af,ac,ak];rw[if_pos (by decide)];simp only[h1,h2,ac,ak,af]
 have m:dMod (.int z) (.int 12)=some (.int (z % 12)):=by
  simp[dMod]
 rcases h with h | h | h | h | h | h | h | h | h | h | h | h <;> rw[h] at m <;> exact⟨_,by decide,q _ m (.int ((_:Nat):Int)) rfl⟩
theorem ix4(a b c d x:Int):∃v:Int,dIx (.lst [.int a,.int b,.int c,.int d]) (.int (x % 4))=some (.int v):=by
 have h:x % 4=0\/x % 4=1\/x % 4=2\/x % 4=3:=by lia
 rcases h with h | h | h | h <;> rw[h] <;> exact⟨_,rfl⟩
theorem ixW(x:Int):∃w:Str,atI [D.str "put",.str "put",.str "tell",.str "dry",.str "put",.str "go",.str "put",.str "put",.str "back",.str "tell",.str "put",.str "dry"] (x % 12)=some (.str w)/\(w = "put"\/w = "tell"\/w = "go"\/w = "dry"\/w = "back"):=by
 have h:x % 12=0\/x % 12=1\/x % 12=2\/x % 12=3\/x % 12=4\/x % 12=5\/x % 12=6\/x % 12=7\/x % 12=8\/x % 12=9\/x % 12=10\/x % 12=11:=by lia
 rcases h with h | h | h | h | h | h | h | h | h | h | h | h <;> rw[h] <;> exact⟨_,rfl,by simp⟩
variable{b:Bool}{F:FE}{v0:Int}
def ifx{c:FT}(D:c e=some (b,e))(I:e[i]?=some (some (.sh (.int v0))))(J:b=true->∃v:Int,F e=some (.int v,e)):∃v:Int,sIf c (sSet i F) sNil e=some (.nx,e.set i (some (.sh (.int v)))):=by
 cases b with
 | false =>
   refine⟨v0,?_⟩;have:e.set i (some (.sh (.int v0)))=e:=by
    apply dz;intro j;rw[ie];split
    ·rename_i q
     subst q;rw[I,if_pos (aj.mp I).1]
    ·rfl
   rw[this];simp[D]
 | true =>
   obtain⟨v,R⟩:=J rfl;exact⟨v,by simp[D,R]⟩
theorem vg(x j:Int)(h:1<=j/\j<=10000):dDiv (.int x) (.int j)=some (.int (x / j)):=by
 exact if_pos ⟨by lia,by lia⟩
theorem qm(x j:Int)(h:1<=j):dMod (.int x) (.int j)=some (.int (x % j)):=if_pos (by lia)
def zv7{z n I o f a h l t p:D}{J:D}{A H L P:Int}(R:w = "put"\/w = "tell"\/w = "go"\/w = "dry"\/w = "back") :
  ∃c e',(sSeq (sIf (fTst (fBin dEq (fVar 4) (fC (.str "put")))) (sRet (fTup (au (fC (.str "put")) (au (fVar 7) (au (fVar 8) (au (fVar 9) (fNil))))))) (sNil)) (sSeq (sIf (fTst (fBin dEq (fVar 4) (fC (.str "tell")))) (sRet (fTup (au (fC (.str "tell")) (au (fVar 7) (au (fVar 11) (au (fVar 9) (fNil))))))) (sNil)) (sSeq (sIf (fTst (fBin dEq (fVar 4) (fC (.str "go")))) (sRet (fTup (au (fC (.str "go")) (au (fVar 7) (fNil))))) (sNil)) (sRet (fTup (au (fVar 4) (fNil)))))))
   [some (.sh z),some (.sh J),some (.sh n),some (.sh I),some (.sh (.str w)),some (.sh o),some (.sh f),some (.sh (.int A)),some (.sh (.int H)),some (.sh (.int L)),some (.sh t),some (.sh (.int P))]=some (.rt (cD c),e'):=by
 have sn:=sne;have s2:(("back" : Str) = "put")=False/\(("back" : Str) = "tell")=False/\(("back" : Str) = "go")=False/\(("dry" : Str) = "put")=False/\(("dry" : Str) = "tell")=False/\(("dry" : Str) = "go")=False:=by
  refine⟨?_,?_,?_,?_,?_,?_⟩ <;> exact eq_false (by decide)
 rcases R with rfl | rfl | rfl | rfl | rfl
 ·exact⟨.d (.put A H L),_,by simp[cD,dD];rfl⟩
 ·exact⟨.d (.tell A P L),_,by simp[cD,dD,sn];rfl⟩
 ·exact⟨.d (.go A),_,by simp[cD,dD,sn];rfl⟩
 ·exact⟨.d .dry,_,by simp[cD,dD,sn,s2];rfl⟩
 ·exact⟨.back,_,by simp[cD,dD,sn,s2];rfl⟩
def Res(r:Option (Fl×DE0)):Prop:=∃c e',r=some (.rt (cD c),e')
def setR(h:F e=some (v,e))(k:Res (g (e.set i (some (.sh v))))):Res (sSeq (sSet i F) g e):=by
 rw[show sSeq (sSet i F) g e=g (e.set i (some (.sh v))) by simp[h]];exact k
def ifR{c:FT}(D:c e=some (b,e))(I:e[i]?=some (some (.sh (.int v0))))(J:b=true->∃v:Int,F e=some (.int v,e))(k:∀v:Int,Res (g (e.set i (some (.sh (.int v)))))):Res (sSeq (sIf c (sSet i F) sNil) g e):=by
 obtain⟨v,R⟩:=ifx D I J;rw[show sSeq (sIf c (sSet i F) sNil) g e=g (e.set i (some (.sh (.int v)))) by simp only[sSeq,R,ac]];exact k v
def seqR{f:FS}{D:DE0}(h:f e=some (.nx,D))(k:Res (g D)):Res (sSeq f g e):=by
 rw[show sSeq f g e=g D by simp[h]];exact k
theorem z19(z:Int)(ss:mu):∃c,zy [.int z,ssL ss]=some (cD c):=by
 suffices R:Res (zlu [some (.sh (.int z)),some (.sh (ssL ss)),none,none,none,none,none,none,none,none,none,none]) from let ⟨c,_,R⟩:=R;⟨c,j6 rfl R⟩;obtain⟨w,g,k⟩:=ixW z;have U:=vg z 12 (by decide);have V:=qm z 12 (by decide);have J:dPow (.int 10) (.int 12)=some (.int 1000000000000):=rfl;refine setR (v:=.int (ss.length:Int)) (by unfold ssL;simp) ?_;refine setR (v:=.lst [.str "put",.str "put",.str "tell",.str "dry",.str "put",.str "go",.str "put",.str "put",.str "back",.str "tell",.str "put",.str "dry"]) rfl ?_;refine setR (v:=.str w) (by simp[V,g]) ?_;refine setR (v:=.int (z / 12 % 16)) (by simp[U,qm]) ?_;refine setR (v:=.int (z / 192)) (by simp[vg]) ?_;generalize z / 12 % 16=O at *;generalize z / 192=F at *;have Z:∀(x:Int) (t:Int),∃v:Int,(match D.int x,D.int (if 1 > t then 1 else t) with | .int i,.int j=>dMod (.int i) (.int j) | _,_=>none)=some (.int v):=λx t=>⟨_,qm x _ (by split <;> lia)⟩;obtain⟨d,m⟩:=Z F ss.length;refine setR (v:=.int (1+d)) (by simp[m]) ?_;refine setR (v:=.int (F / 5)) (by simp[vg]) ?_;simp only[ax,az];generalize F / 5=G at *;refine ifR (b:=decide (O=5) || decide ((ss.length:Int)=0)) (v0:=1+d) (by by_cases q:O=5 <;> simp[q]) rfl (λ_=>?_) λA=>?_
 ·obtain⟨v,I⟩:=ix4 0 (ss.length+1) (-1) 1000000000000 G
  exact⟨v,by simp only[fBin,fLst,fz,au,fNil,fC,fVar,fUn,dNeg,ja,J,qm G 4 (by decide),I,af,ai,ac,ak,am,b6,show 0+1+1+1+1<=64 by decide,if_true]⟩
 refine setR (v:=.int (1+G % 60)) (by simp[qm]) ?_;simp only[ax,az];refine ifR (b:=decide (O=6)) (v0:=1+G % 60) (by simp) rfl (λ_=>?_) λH=>?_
 ·obtain⟨v,I⟩:=ix4 0 61 (-1) 1000000000000 G
  exact⟨v,by simp only[fBin,fLst,fz,au,fNil,fC,fVar,fUn,dNeg,J,qm G 4 (by decide),I,af,ai,ac,ak,am,b6,show 0+1+1+1+1<=64 by decide,if_true]⟩
 refine setR (v:=.int (G / 60 % 101)) (by simp[qm,vg]) ?_;generalize G / 60 % 101=L at *;obtain⟨H2,Y,h2⟩:∃H2 Y:Int,sIf (fTst (fBin dGt (fVar 5) (fC (.int 9)))) (sSeq (sSet 8 (fBin ja (fC (.int 1)) (fBin dMod (fVar 8) (fC (.int 3))))) (sSet 9 (fBin dMod (fVar 9) (fC (.int 4))))) sNil [some (.sh (.int z)),some (.sh (ssL ss)),some (.sh (.int (ss.length:Int))),some (.sh (.lst [.str "put",.str "put",.str "tell",.str "dry",.str "put",.str "go",.str "put",.str "put",.str "back",.str "tell",.str "put",.str "dry"])),some (.sh (.str w)),some (.sh (.int O)),some (.sh (.int G)),some (.sh (.int A)),some (.sh (.int H)),some (.sh (.int L)),none,none]=some (.nx,[some (.sh (.int z)),some (.sh (ssL ss)),some (.sh (.int (ss.length:Int))),some (.sh (.lst [.str "put",.str "put",.str "tell",.str "dry",.str "put",.str "go",.str "put",.str "put",.str "back",.str "tell",.str "put",.str "dry"])),some (.sh (.str w)),some (.sh (.int O)),some (.sh (.int G)),some (.sh (.int A)),some (.sh (.int H2)),some (.sh (.int Y)),none,none]):=by
  by_cases q:9<O
  ·exact⟨1+H % 3,L % 4,by simp[q,qm]⟩
  ·exact⟨H,L,by simp[q]⟩
 refine seqR h2 ?_;refine ifR (b:=decide (O=7)) (v0:=Y) (by simp) rfl (λ_=>?_) λo=>?_
 ·obtain⟨v,I⟩:=ix4 (-1) 101 (-1000000000000) 1000000000000 (G / 60)
  exact⟨v,by simp only[fBin,fLst,fz,au,fNil,fC,fVar,fUn,dNeg,J,vg G 60 (by decide),qm (G / 60) 4 (by decide),I,af,ai,ac,ak,am,b6,show 0+1+1+1+1<=64 by decide,if_true]⟩
 refine ifR (b:=decide (1<=A) && decide (A<=(ss.length:Int))) (v0:=0) (by by_cases q:1<=A <;> simp[q]) rfl (λq=>?_) λT=>?_
 ·simp only[eg,decide_eq_true_eq] at q
  have e:=qo (a:=A.toNat) (uo (ss:=ss) (a:=A) (by lia)) (by lia);rw[show((A.toNat:Nat):Int)=A by lia] at e;exact⟨_,by unfold ssL at *;simp[e];rfl⟩
 obtain⟨f,n⟩:=Z (G / 6060) T;refine setR (v:=.int (1+f)) (by simp[vg G 6060 (by decide),n]) ?_;simp only[ax,az];refine ifR (b:=decide (O=8)) (v0:=1+f) (by simp) rfl (λ_=>?_) λP=>?_
 ·obtain⟨v,I⟩:=ix4 0 (T+1) (-1) 1000000000000 (G / 6060)
  exact⟨v,by simp only[fBin,fLst,fz,au,fNil,fC,fVar,fUn,dNeg,ja,J,vg G 6060 (by decide),qm (G / 6060) 4 (by decide),I,af,ai,ac,ak,am,b6,show 0+1+1+1+1<=64 by decide,if_true]⟩
 exact zv7 (z:=.int z) (h:=.non) (l:=.non) (a:=.non) (p:=.non) k
variable{F:FA}{l':Option Nat}
def z2a{J I:la}{d:D}(U:i≠j)(h:e[i]?=some (some (.ag κ l ps)))(h':e[j]?=some (some (.ag κ' l' J)))(V:F e=some (ds,e))(Y:m [(κ,ps),(κ',J)] ds=some (d,[(κ,ps'),(κ',I)])) :
  kg m [i,j] F e=some (d,(e.set i (some (.ag κ l ps'))).set j (some (.ag κ' l' I))):=by
 unfold kg;rw[if_pos (show aggs e [i,j] from λk R=>by
  simp at R;rcases R with rfl | rfl
  ·exact⟨_,h⟩
  ·exact⟨_,h'⟩),V]
 have Z:(e.set i (some (.ag κ l ps')))[j]?=some (some (.ag κ' l' J)):=by rw[dc U];exact h'
 simp[getA,h,h',Y,putA,Z]
def z2b(a:FS):sSeq a sNil=a:=by
 funext e;simp;cases a e with
 | none=>rfl
 | some r=>obtain⟨fl,D⟩:=r;cases fl <;> rfl
abbrev EL(A B C:ll)(k:mx)(p:m2)(s:Hs)(r:DE0):DE0:=A::B::C::some (.ag kH none (hP k (p++[s])))::some (.ag .ls none (stP k p s))::r
def bDo(x:Nat)(R:FS):FS:=sSeq (sIf (fNot (fTst (kg tq [3,4] (au (d7 zy (au (fVar x) (au (fDat 4 0) fNil))) fNil)))) (sRet (fC (.bl false))) sNil) R
def z7e(I:i≠j)(hi:HI n k p s)(h:e[i]?=some (some (.ag kH l (hP k (p++[s])))))(h':e[j]?=some (some (.ag .ls l' (stP k p s))))(J:F e=some ([cD c],e)) :
  ∃k' p' s',HI n k' p' s'/\kg tq [i,j] F e=some (.bl true,(e.set i (some (.ag kH l (hP k' (p'++[s']))))).set j (some (.ag .ls l' (stP k' p' s'))))/\Mv k p s c k' p' s':=by
 obtain⟨k',p',s',D,R,U⟩:=z5q c hi;exact⟨k',p',s',D,z2a I h h' J R,U⟩
def zz1{y:Sk}(h:sD x=sD y):x=y:=by
 obtain⟨a,b,c⟩:=x;obtain⟨d,e,f⟩:=y;simp[sD] at h;simp[h]
def z2c{x y:mu}(h:ssL x=ssL y):x=y:=by
 unfold ssL at h;exact(List.map_inj_right λa b e=>(List.map_inj_right λ_ _=>zz1).mp (D.lst.inj e)).mp (D.lst.inj h)
theorem Mv.len{k':mx}{p':m2}(h:Mv k p s c k' p' s'):k'.length<=k.length+1:=by
 unfold Mv at h;split at h
 ·rw[h.1];lia
 ·cases c with
  | back=>obtain⟨d,e,_⟩:=h;rw[e];simp;lia
  | d d=>rw[h.1];simp
theorem zsd{A B C:ll}{r:DE0}{n:Nat}:∀(I:ia) (k:mx) (p:m2) (s:Hs) (v:ll),HI n k p s ->
  ∃k' p' s' R,HI n k' p' s'/\k'.length<=k.length+I.length/\forL 5 (bDo 5 sNil) (I.map D.int) (EL A B C k p s (v::r))=some (.nx,EL A B C k' p' s' (R::r))
 | [],k,p,s,v,hi=>⟨k,p,s,v,hi,by simp,rfl⟩
 | z::I,k,p,s,v,hi=>by
   obtain⟨c,U⟩:=z19 z s.1;have V:fDat 4 0 (EL A B C k p s (some (.sh (.int z))::r))=some (ssL s.1,EL A B C k p s (some (.sh (.int z))::r)):=rfl;obtain⟨k1,p1,J,h1,Y,Z⟩:=z7e (e:=EL A B C k p s (some (.sh (.int z))::r)) (i:=3) (j:=4) (c:=c) (F:=au (d7 zy (au (fVar 5) (au (fDat 4 0) fNil))) fNil) (by decide) hi rfl rfl (by simp only[au,d7,fVar,fNil,V,U,af,ai,ac,ak]);obtain⟨k2,p2,s2,v2,h2,d,a⟩:=zsd (A:=A) (B:=B) (C:=C) (r:=r) I k1 p1 J (some (.sh (.int z))) h1;have:=Z.len;refine⟨k2,p2,s2,v2,h2,by rw[am];lia,?_⟩;have b:bDo 5 sNil (EL A B C k p s (some (.sh (.int z))::r))=some (.nx,EL A B C k1 p1 J (some (.sh (.int z))::r)):=by
    simp only[bDo,sSeq,sIf,fNot,fTst,Y,ac,ak,m6,bz,if_false,sNil];rfl
   rw[ci,forL,show(EL A B C k p s (v::r)).set 5 (some (.sh (.int z)))=EL A B C k p s (some (.sh (.int z))::r) from rfl,b];exact a
def flat(ts:mv):l0:=(ts.map (·.2)).flatten
theorem z5s(hi:HI n k p s)(h1:HI n (k++[.dry]) (p++[s]) s')(ok:TurnsOk s.1 ts)(g:0<s.1.flatten.length) :
  ∃x D a tl,TurnsOk s'.1 D/\flat ts=x::flat D/\s'.2=s.2++[(hrOf s.2,hrOf s.2+x.2.1,lss s.1.flatten)]/\gz ts=a::gz D/\s.1[a-1]?=some (x::tl)/\s'.1=s.1.set (a-1) tl/\1<=a/\a<=s.1.length:=by
 have I:=hi.at;have l5:=hi.l5;have Y:=zm ok I.good I.few (by lia);have tr:=h1.tr k.length .dry s s' (by simp) (by rw[<-hi.kp];simp) (by rw[<-hi.kp,show p.length+1=(p++[s]).length by simp,ig]);rw[j2] at tr;obtain⟨_,ans,st,y,rfl,h2⟩:=tr;cases ts with
 | nil =>
   have:=ok.perm.length_eq;simp only[du,pz,b6] at this
   lia
 | cons t ts =>
   obtain⟨a,b⟩:=t;have Z:=(ok.good (a,b) (by simp)).ne;cases b with
   | nil=>exact absurd rfl Z
   | cons x r =>
     obtain⟨tl,D,R,U,c,d,e,f⟩:=zpg ok I.good I.few;have V:=hi.r14 _ (bf R);have V:tl.length+1<=14:=by simpa using V
     have sp:=zsb (num:=j1 k) Y R U l5 (by lia);rw[st] at sp;obtain⟨J,e2⟩:ssL s'.1=ssL (s.1.set (a-1) tl)/\sD y=sD x:=by simpa using sp
     have J:=z2c J;obtain rfl:=zz1 e2;exact⟨y,D,a,tl,by rw[J];exact d,by unfold flat;rw[f];simp,h2,by rw[e];simp[gz,gh],R,J,U,c⟩
def zlv(ok:TurnsOk ss ts):(flat ts).length=ss.flatten.length/\lss (flat ts)=lss ss.flatten/\∀x∈flat ts,x∈ss.flatten:=by
 have h:=ok.perm;refine⟨h.length_eq,?_,λx D=>h.mem_iff.mp D⟩;exact zvn (λx:Sk=>x.2.2) h
def z5t(ok:TurnsOk ss ts)(D:∀y∈ss.flatten,i9 y)(I:ss.flatten.length<=14)(R:ss.length<=900):zea [ssL ss]=some (.lst (ts.map tnD)):=by
 obtain⟨U,J,h⟩:=ze7 ss D I;have e:=zm J D I R;rw[zm ok D I R] at e;rw[h,e]
end LB
namespace S_rotstacks_k38_whole_drying_on
open PySem L2 LB
def zv8:FS:=sIf (fNot (fTst (kg tq [3,4] (au (d7 zy (au (fVar 5) (au (fDat 4 0) (fNil)))) (fNil))))) (sRet (fC (.bl false))) (sNil)
def zn9:FS:=sSeq (sSet 11 (zpv 6 (fBin dSub (fIxV 7 (fVar 10)) (fC (.int 1))) (fC (.int 0)))) (sSeq (sIf (fOr (fNot (fTst (d7 qh (au (fK (.ins false "House" ij) 3 (kg u6 [3] (fNil))) (au (fVar 11) (fNil)))))) (fOr (fNot (fTst (fIsi "tuple" (fIxV 8 (fVar 10))))) (fTst (fBin dNe (d7 bLen (au (fIxV 8 (fVar 10)) (fNil))) (fC (.int 4)))))) (sRet (fC (.bl false))) (sNil)) (sSeq (sSet 12 (fK (.ins false "House" ij) 3 (iu u9 [3] (fNil)))) (sSeq (sIf (fOr (fNot (fTst (d7 qf (au (fBin dIx (fIxV 8 (fVar 10)) (fC (.int 0))) (fNil))))) (fTst (fBin dNe (fBin dIx (fIxV 8 (fVar 10)) (fC (.int 0))) (fIxV 11 (fC (.int 0)))))) (sRet (fC (.bl false))) (sNil)) (sSeq (sIf (fOr (fNot (fTst (d7 qf (au (fVar 12) (fNil))))) (fOr (fNot (fTst (d7 qf (au (fBin dIx (fIxV 8 (fVar 10)) (fC (.int 3))) (fNil))))) (fTst (fBin dNe (fVar 12) (fBin ja (fVar 9) (fBin dIx (fIxV 8 (fVar 10)) (fC (.int 3)))))))) (sRet (fC (.bl false))) (sNil)) (sSeq (sIf (fNot (fTst (d7 zby (au (fK (.ins false "House" ij) 3 (iu u7 [3] (fNil))) (au (fLst (fSl (fVar 7) (fO1 (fBin ja (fVar 10) (fC (.int 1)))) (fO0))) (fNil)))))) (sRet (fC (.bl false))) (sNil)) (sIf (fNot (fTst (fFrz false (d7 zb3 (au (fK (.ins false "House" ij) 3 (iu zda [3] (fNil))) (au (fVar 6) (fNil))))))) (sRet (fC (.bl false))) (sNil)))))))
def z5u:FS:=sSeq (sSet 1 (d7 z8 (au (fVar 0) (au (fC (.int 47)) (fNil))))) (sSeq (sSet 2 (d7 zh1 (au (fIxV 1 (fC (.int 0))) (fNil)))) (sSeq (y0 3 (yz "House" zcg (au (fVar 2) (fNil)))) (sSeq (y0 4 (zrk zh3 (au (fVar 2) (fNil)))) (sSeq (sFor 5 (fiS (fLst (fSl (fVar 1) (fO1 (fC (.int 1))) (fO1 (fBin dSub (fC (.int 47)) (fBin dMod (fBin dDiv (fIxV 1 (fC (.int 0))) (fC (.int 12))) (fC (.int 47)))))))) (zv8)) (sSeq (vh 6 (zi zgm (au (fDat 4 0) (fNil)))) (sSeq (sSet 7 (fK (.ins false "House" ij) 3 (iu u7 [3] (fNil)))) (sSeq (sSet 8 (fK (.ins false "House" ij) 3 (iu zel [3] (fNil)))) (sSeq (sSet 9 (fK (.ins false "House" ij) 3 (iu u9 [3] (fNil)))) (sSeq (sIf (fOr (fNot (fTst (fFrz false (d7 zeg (au (fVar 7) (au (fVar 6) (fNil))))))) (fOr (fNot (fTst (fIsi "list" (fVar 8)))) (fTst (fBin dNe (ii 8) (ii 7))))) (sRet (fC (.bl false))) (sNil)) (sSeq (sFor 10 (i5 iR1 (au (ii 7) (fNil))) (zn9)) (sRet (d7 qh (au (kg pv [3] (au (fTup (au (fC (.str "dry")) (fNil))) (fNil))) (au (fTup (au (fC (.str "refused")) (au (fC (.str "nothing waits")) (fNil)))) (fNil)))))))))))))))
def z5v:k8->k9:=runD 13 1 z5u
end S_rotstacks_k38_whole_drying_on
namespace S_rotstacks_k38_whole_drying_on
open PySem L2 LB PyProof.Rows
def top(i:Nat):Stmt:=PySem.Challenge.pw_rotstacks_k38_whole_drying_on.main.body.getD i (.Pass ⟨0,0,0,0⟩)
def mth(j:Nat):Stmt:=match top 62 with | .ClassDef _ _ _ b _ _ _ _ _ _ _=>b.getD j (.Pass ⟨0,0,0,0⟩) | _=>.Pass ⟨0,0,0,0⟩
local macro_rules | `(tactic| walk_at "g") => `(tactic| first | exact gl_d (by kernel_rfl) | exact gl_c (by kernel_rfl) | exact gl_p (by kernel_rfl))
local macro_rules | `(tactic| exists $t:term) => `(tactic| as_aux_lemma => exact $t)
local macro_rules | `(tactic| walk_at "b") => `(tactic| exact ⟨by walk_at "g", by assumption⟩)
def ok_all{P:Program}{w:World}{K:kf}{mg:Str->g9}{C:Addr}(T2:Def K mg (top 2) "sack_number" ["sack"])(T3:Def K mg (top 3) "sack_hours" ["sack"])(T4:Def K mg (top 4) "sack_loss" ["sack"])(T5:Def K mg (top 5) "sacks_in_all" ["stacks"])(T6:Def K mg (top 6) "loss_in_all" ["stacks"])(T7:Def K mg (top 7) "top_sack" ["stacks", "at"])(T8:Def K mg (top 8) "with_stack" ["stacks", "at", "stack"])(T9:Def K mg (top 9) "without_top" ["stacks", "at"])(b5:Def K mg (top 11) "share_gap" ["one", "other"])(ca:Def K mg (top 12) "share_sign" ["one", "other"])(cc:Def K mg (top 13) "single_block" ["sack"])(cd:Def K mg (top 14) "joined_block" ["upper", "lower"])(ch:Def K mg (top 15) "block_share" ["block"])(ck:Def K mg (top 16) "has_greater_share" ["upper", "lower"])(cl:Def K mg (top 17) "stack_blocks" ["stack"])(cm:Def K mg (top 34) "turn_share" ["turn"])(cn:Def K mg (top 35) "place_of_turn" ["turns", "turn"])(co:Def K mg (top 36) "block_turns" ["stacks"])(cp:Def K mg (top 37) "told_order" ["stacks"])(bb:Def K mg (top 38) "check_known" ["stacks", "at"])(ct:Def K mg (top 39) "check_whole" ["stacks", "order"])(cu:Def K mg (top 40) "check_order" ["stacks", "order"])(cv:Def K mg (top 41) "taken_sacks" ["stacks", "order"])(cx:Def K mg (top 43) "order_plan" ["stacks", "order"])(c0:Def K mg (top 45) "hours_gone" ["stretches"])(c1:Def K mg (top 52) "check_count" ["many"])(da:Def K mg (top 53) "check_hours" ["hours"])(dd:Def K mg (top 54) "check_loss" ["loss"])(dj:Def K mg (top 55) "check_room" ["stacks"])(dk:Def K mg (top 56) "check_lies" ["stacks", "at"])(dp:Def K mg (top 57) "check_place" ["stack", "place"])(dr:Def K mg (top 58) "check_waits" ["stacks"])(ds:Def K mg (top 59) "check_deeds" ["deeds"])(dt:Def K mg (top 60) "next_number" ["deeds"])(dv:Def K mg (top 61) "told_anew" ["sack", "loss"])(X:Mef K C (mth 0) "__init__" "House.__init__" ["self", "many"])(aa:Mef K C (mth 1) "piles" "House.piles" ["self"])(ab:Mef K C (mth 2) "spans" "House.spans" ["self"])(ae:Mef K C (mth 3) "keep" "House.keep" ["self", "deed", "piles", "spans"])(ag:Mef K C (mth 4) "put" "House.put" ["self", "at", "hours", "loss"])(al:Mef K C (mth 5) "tell" "House.tell" ["self", "at", "place", "loss"])(an:Mef K C (mth 6) "go" "House.go" ["self", "at"])(ap:Mef K C (mth 8) "back" "House.back" ["self"])(ar:Mef K C (mth 10) "stacks" "House.stacks" ["self"])(a0:Mef K C (mth 11) "hour" "House.hour" ["self"])(a1:Mef K C (mth 7) "dry" "House.dry" ["self"])(a2:Mef K C (mth 12) "order" "House.order" ["self"])(a3:Mef K C (mth 13) "plan" "House.plan" ["self"])(dx:Def K mg (top 64) "_law_whole" ["_law_found"])(d0:Def K mg (top 65) "_law_at" ["_law_script", "_law_k"])(d1:Def K mg (top 66) "_law_draws" ["_law_script", "_law_many_here"])(d2:Def K mg (top 67) "_law_best" ["_law_sacks"])(d3:Def K mg (top 68) "_law_turns" ["_law_stacks"])(d4:Def K mg (top 69) "_law_is_order" ["_law_found", "_law_stacks"])(ea:Def K mg (top 70) "_law_same_row" ["_law_found", "_law_due"])(eb:Def K mg (top 71) "_law_same_rows" ["_law_found", "_law_due"])(ec:Def K mg (top 72) "_law_same_stacks" ["_law_found", "_law_due"])(ed:Def K mg (top 73) "_law_same_numbers" ["_law_found", "_law_due"])(bd:Def K mg (top 74) "_law_copy" ["_law_stacks"])(ee:Def K mg (top 75) "_law_kind" ["_law_error"])(ef:Def K mg (top 76) "_law_deed" ["_law_cell", "_law_piles"])(ei:Def K mg (top 77) "_law_refusal" ["_law_piles", "_law_kept", "_law_deed_here"])(ej:Def K mg (top 78) "_law_ask" ["_law_house", "_law_deed_here"])(el:Def K mg (top 79) "_law_call" ["_law_house", "_law_deed_here"])(en:Def K mg (top 80) "_law_step" ["_law_piles", "_law_deed_here", "_law_number"])(eo:Def K mg (top 81) "_law_rate" ["_law_piles"])(ep:Def K mg (top 82) "_law_same_answer" ["_law_found", "_law_due"])(er:Def K mg (top 83) "_law_many" ["_law_header"])(es:Def K mg (top 84) "_law_rates" ["_law_dried"])(et:Def K mg (top 85) "_law_do" ["_law_house", "_law_state", "_law_deed_here"])(eu:Def K mg (top 86) "_law_new" ["_law_many_here"])(A:Cl K "House" C)(cs:Cls K C)(mC:mg "House" = some (.ref C))(kC:PySem.W.makesIn K C=true)(pC:PySem.W.keepIn K (.ref C)=true)(a4:PySem.W.findIn K (.ref C) "kept" = some none)(N:PySem.W.findIn K (.ref C) "states" = some none)(s:Exc K mg "BadCount")(x:Exc K mg "BadHours")(B:Exc K mg "BadLoss")(l:Exc K mg "DeedsFull")(k:Exc K mg "EmptyStack")(m:Exc K mg "HouseFull")(j:Exc K mg "NothingDone")(d:Exc K mg "NothingWaits")(e:Exc K mg "UnknownPlace")(g:Exc K mg "UnknownStack")(Y:∃t,mg "MOST_DEEDS" = some (.int 60 t))(Z:∃t,mg "MOST_HOURS" = some (.int 60 t))(b:∃t,mg "MOST_LOSS" = some (.int 100 t))(V:∃t,mg "MOST_STACKS" = some (.int 5 t))(U:∃t,mg "MOST_WAITING" = some (.int 14 t))(E:KFacts K mg)(S:mg "ValueError" = none)(b3:mg "bool" = none)(a5:mg "enumerate" = none)(ev:mg "int" = none)(T:mg "isinstance" = none)(ew:mg "len" = none)(b4:mg "list" = none)(ex:mg "max" = none)(be:mg "range" = none)(ey:mg "str" = none)(ez:mg "sum" = none)(bk:mg "tuple" = none)(e0:mg "zip" = none):∀base f fd,Fun K "law" "law" (top 87) f fd->FnOk P w K mg base CX0 11 f fd ["_law_script"] (dSp K z5v):=by
 intro base;have D:Atr K "House" "kept":=⟨C,cs,a4,A⟩;have J:Atr K "House" "states":=⟨C,cs,N,A⟩;have c2:Cal P w K mg base CX0 "sack_number" 1 (dSp K zfu):=by exists ji T2 ["sack"] λr a t=>dw (fj (em cg a))
 have c3:Cal P w K mg base CX0 "sack_hours" 1 (dSp K wm):=by exists ji T3 ["sack"] λr a t=>dw (fj (em cg a))
 have c4:Cal P w K mg base CX0 "sack_loss" 1 (dSp K ye):=by exists ji T4 ["sack"] λr a t=>dw (fj (em cg a))
 have c5:Cal P w K mg base CX0 "sacks_in_all" 1 (dSp K ze6):=by exists ji T5 ["stacks"] λr a t=>dw (fj (vm (bi (f6 (qw a (ko (bn a)) (λ_ _ _ _ _ _ _ a=>jq a))) cy)))
 have c6:Cal P w K mg base CX0 "loss_in_all" 2 (dSp K zht):=by exists ji T6 ["stacks", "total", "stack"] λr a t=>dm (fu t cg) (dm (m9 (ko (bn a)) t.pg (dw (zup t (vm (bi (f6 (qw a (ko (bn a)) (λ_ _ _ _ _ _ _ a=>gn c4 r (bi (bn a) cy)))) cy))))) (dw (fj (bn a))))
 have c7:Cal P w K mg base CX0 "top_sack" 1 (dSp K zi4):=by exists ji T7 ["stacks", "at"] λr a t=>dw (fj (j5 (em (kq (bn a) cg) a) cg))
 have c8:Cal P w K mg base CX0 "with_stack" 1 (dSp K yl):=by exists ji T8 ["stacks", "at", "stack"] λr a t=>dw (fj (f6 (mq (f6 (mq (f6 (sv (bn a) uu (qx (kq (bn a) cg)))) (f6 (je (bi (bn a) cy))))) (f6 (sv (bn a) (qx (bn a)) uu)))))
 have c9:Cal P w K mg base CX0 "without_top" 2 (dSp K zfv):=by exists ji T9 ["stacks", "at"] λr a t=>dw (fj (gn c8 r (bi (bn a) (bi (bn a) (bi (f6 (sv (em (kq (bn a) cg) a) (qx cg) uu)) cy)))))
 have e1:Cal P w K mg base CX0 "share_gap" 1 (dSp K zhg):=by exists ji b5 ["one", "other"] λr a t=>dw (fj (kq (ul (em cg a) (em cg a)) (ul (em cg a) (em cg a))))
 have bl:Cal P w K mg base CX0 "share_sign" 2 (dSp K t4):=by exists ji ca ["one", "other", "gap"] λr a t=>dm (fu t (gn e1 r (bi (bn a) (bi (bn a) cy)))) (dm (gf (mj (bn a) cg) (dw (fj cg)) gg) (dm (gf (n4 (bn a) cg) (dw (fj (sy cg))) gg) (dw (fj cg))))
 have e2:Cal P w K mg base CX0 "single_block" 2 (dSp K ze2):=by exists ji cc ["sack"] λr a t=>dw (fj (kh (bi cg (bi (gn c3 r (bi (bn a) cy)) (bi (gn c4 r (bi (bn a) cy)) cy)))))
 have e3:Cal P w K mg base CX0 "joined_block" 1 (dSp K ze3):=by exists ji cd ["upper", "lower"] λr a t=>dw (fj (kh (bi (lf (em cg a) (em cg a)) (bi (lf (em cg a) (em cg a)) (bi (lf (em cg a) (em cg a)) cy)))))
 have bm:Cal P w K mg base CX0 "block_share" 1 (dSp K zd7):=by exists ji ch ["block"] λr a t=>dw (fj (kh (bi (em cg a) (bi (em cg a) cy))))
 have e4:Cal P w K mg base CX0 "has_greater_share" 3 (dSp K t5):=by exists ji ck ["upper", "lower"] λr a t=>dw (fj (z6i (gn bl r (bi (gn bm r (bi (bn a) cy)) (bi (gn bm r (bi (bn a) cy)) cy))) cg))
 have e5:Cal P w K mg base CX0 "stack_blocks" 4 (dSp K zgw):=by exists ji cl ["stack", "blocks", "sack", "block"] λr a t=>dm (qa (t.psF (je cy))) (dm (m9 (ko (bn a)) t.pg (dm (fu t (gn e2 r (bi (bn a) cy))) (dm (znc (dt_w (qb (mj (jq a) cg) (qc (lq (km (gn e4 r (bi (em (sy cg) a) (bi (bn a) cy)))))))) (dw (fu t (gn e3 r (bi (z4d a) (bi (bn a) cy)))))) (dw (jt (zt (bn a) a)))))) (dw (fj (bn a))))
 have bo:Cal P w K mg base CX0 "turn_share" 1 (dSp K wj):=by exists ji cm ["turn"] λr a t=>dw (fj (kh (bi (em cg a) (bi (em cg a) cy))))
 have e6:Cal P w K mg base CX0 "place_of_turn" 3 (dSp K zf7):=by exists ji cn ["turns", "turn", "place"] λr a t=>dm (fu t cg) (dm (znc (dt_w (qb (n4 (bn a) (jq a)) (qc (wx (gn bl r (bi (gn bo r (bi (em (bn a) a) cy)) (bi (gn bo r (bi (bn a) cy)) cy))) cg)))) (dw (zup t cg))) (dw (fj (bn a))))
 have e8:Cal P w K mg base CX0 "block_turns" 5 (dSp K zea):=by exists ji co ["stacks", "turns", "at", "stack", "many", "hours", "loss", "turn"] λr a t=>dm (qa (t.psF (je cy))) (dm (zpw (zxd (bi (bn a) cy)) (mw t (mw t xl)) (dw (zpx (ko (gn e5 r (bi (bn a) cy))) (mw t (mw t (mw t xl))) (dm (fu t (kh (bi (bn a) (bi (bn a) (bi (bn a) (bi (bn a) cy)))))) (dw (jt (zui (zxm e6 r (z07 (z6r (bi (bn a) cy)) a)) (bn a) a))))))) (dw (fj (bn a))))
 have bp:Cal P w K mg base CX0 "told_order" 6 (fSp K wg):=by exists z40 cp ["stacks", "order", "at", "many", "hours", "loss"] λr a t=>dm (qa (t.psF (je cy))) (dm (zpx (ko (gn e8 r (bi (bn a) cy))) (mw t (mw t (mw t (mw t xl)))) (dw (jt (zuq (zza (je (bi (bn a) cy)) (bn a)) a)))) (dw (z0x a)))
 have O:Cal P w K mg base (CXr P w) "check_known" 1 (qSp K yp u8):=by exists sf bb ["stacks", "at"] λr a t=>dw (gf (dt_w (kn (n4 (bn a) cg) (lz (mj (bn a) (jq a))))) (dw (rh g zrh)) gg)
 have e9:Cal P w K mg base CX0 "check_known" 1 (dSp K zhl):=by exists ji bb ["stacks", "at"] λr a t=>dw (gf (dt_w (kn (n4 (bn a) cg) (lz (mj (bn a) (jq a))))) (dw znb) gg)
 have fa:Cal P w K mg base CX0 "check_whole" 1 (dSp K zhn):=by exists ji ct ["stacks", "order", "left", "at"] λr a t=>dm (qa (zk0 a t (ko (bn a)) (λ_ _ _ _ _ _ _ a=>jq a))) (dm (m9 (ko (bn a)) t.pg (dm (gf (jv (em (kq (bn a) cg) a) cg) (dw znb) gg) (dw (zxh (kq (bn a) cg) cg a)))) (dw (gf (mj (z06 a) cg) (dw znb) gg)))
 have fe:Cal P w K mg base CX0 "check_order" 2 (dSp K zhp):=by exists ji cu ["stacks", "order", "at"] λr a t=>dm (m9 (ko (bn a)) t.pg (dw (jt (gn e9 r (bi (bn a) (bi (bn a) cy)))))) (dw (jt (gn fa r (bi (bn a) (bi (bn a) cy)))))
 have fh:Cal P w K mg base CX0 "taken_sacks" 3 (dSp K zhr):=by exists ji cv ["stacks", "order", "taken", "sacks", "at"] λr a t=>dm (jt (gn fe r (bi (bn a) (bi (bn a) cy)))) (dm (qa (zk0 a t (ko (bn a)) (λ_ _ _ _ _ _ _ a=>cg))) (dm (qa (t.psF (je cy))) (dm (m9 (ko (bn a)) t.pg (dm (jt (zt (j5 (em (kq (bn a) cg) a) (em (kq (bn a) cg) a)) a)) (dw (zxg (kq (bn a) cg) cg a)))) (dw (fj (bn a))))))
 have fi:Cal P w K mg base CX0 "order_plan" 4 (dSp K zgk):=by exists ji cx ["stacks", "order", "plan", "hour", "at", "sack", "dry"] λr a t=>dm (qa (t.psF (je cy))) (dm (fu t cg) (dm (zpw (z4m (bi (bn a) (bi (gn fh r (bi (bn a) (bi (bn a) cy))) cy))) (mw t (mw t xl)) (dm (fu t (lf (bn a) (gn c3 r (bi (bn a) cy)))) (dm (jt (zt (kh (bi (gn c2 r (bi (bn a) cy)) (bi (bn a) (bi (bn a) (bi (bn a) cy))))) a)) (dw (fu t (bn a)))))) (dw (fj (bn a)))))
 have fk:Cal P w K mg base CX0 "hours_gone" 1 (dSp K zgn):=by exists ji c0 ["stretches"] λr a t=>dm (gf (jv (jq a) cg) (dw (fj cg)) gg) (dw (fj (j5 (em (sy cg) a) cg)))
 have br:Cal P w K mg base (CXr P w) "check_count" 1 (qSp K ze8 ze9):=by exists sf c1 ["many"] λr a t=>dw (gf (dt_w (kn (n4 (bn a) cg) (lz (mj (bn a) (re V))))) (dw (rh s (xu (n8 ut (n8 (xw (re V)) (n8 ut xv)))))) gg)
 have bs:Cal P w K mg base (CXr P w) "check_hours" 1 (qSp K zfa yo):=by exists sf da ["hours"] λr a t=>dw (gf (dt_w (kn (n4 (bn a) cg) (lz (mj (bn a) (re Z))))) (dw (rh x (xu (n8 ut (n8 (xw (re Z)) (n8 ut xv)))))) gg)
 have a6:Cal P w K mg base (CXr P w) "check_loss" 1 (qSp K zek wf):=by exists sf dd ["loss"] λr a t=>dw (gf (dt_w (kn (n4 (bn a) cg) (lz (mj (bn a) (re b))))) (dw (rh B (xu (n8 ut (n8 (xw (re b)) xv))))) gg)
 have bt:Cal P w K mg base (CXr P w) "check_room" 2 (qSp K zfy yh):=by exists sf dj ["stacks"] λr a t=>dw (gf (wx (gn c5 r (bi (bn a) cy)) (re U)) (dw (rh m (xu (n8 (xw (re U)) (n8 ut xv))))) gg)
 have a7:Cal P w K mg base (CXr P w) "check_lies" 1 (qSp K zen we):=by exists sf dk ["stacks", "at"] λr a t=>dw (gf (jv (sx (bi (em (kq (bn a) cg) a) cy)) cg) (dw (rh k (xu (n8 ut (n8 (xw (bn a)) xv))))) gg)
 have bv:Cal P w K mg base (CXr P w) "check_place" 1 (qSp K zff ym):=by exists sf dp ["stack", "place"] λr a t=>dw (gf (dt_w (kn (n4 (bn a) cg) (lz (mj (bn a) (jq a))))) (dw (rh e zrh)) gg)
 have b0:Cal P w K mg base (CXr P w) "check_waits" 2 (qSp K zfd yn):=by exists sf dr ["stacks"] λr a t=>dw (gf (jv (gn c5 r (bi (bn a) cy)) cg) (dw (rh d zrh)) gg)
 have z:Cal P w K mg base (CXr P w) "check_deeds" 1 (qSp K wo t0):=by exists sf ds ["deeds"] λr a t=>dw (gf (wx (jq a) (re Y)) (dw (rh l (xu (n8 (xw (re Y)) (n8 ut xv))))) gg)
 have fl:Cal P w K mg base CX0 "next_number" 1 (dSp K zfz):=by exists ji dt ["deeds"] λr a t=>dw (fj (lf cg (sx (bi (f6 (zou a (ko (bn a)) (λ_ _ _ _ _ _ _ a=>jv (em cg a) f9) (λ_ _ _ _ _ _ _ a=>bn a))) cy))))
 have fp:Cal P w K mg base CX0 "told_anew" 2 (dSp K zjk):=by exists ji dv ["sack", "loss"] λr a t=>dw (fj (kh (bi (gn c2 r (bi (bn a) cy)) (bi (gn c3 r (bi (bn a) cy)) (bi (bn a) cy)))))
 have a8:KCal P w K mg base "House" 2 (lSp K zcg zew):=by exists z6z A mC kC pC X ["self", "many"] λr a t=>dm (ly (jt (nh br r (jp (bi (bn a) cy)))) (ng (nc br r (jp (bi (bn a) cy))))) (dm (zrn D a (je cy)) (dw (zrn J a (je (bi (kh (bi (f6 (qw a (qe (bi (bn a) cy)) (λ_ _ _ _ _ _ _ a=>f6 (je cy)))) (bi (f6 (je cy)) cy))) cy)))))
 have R:MCal P w K mg base "House" "piles" 1 (qSp K n9 zl6):=by exists wu A cs aa ["self"] λr a t=>dw (fj (j5 (zut (vw J a) (zzi zzh)) cg))
 have c:MCal P w K mg base "House" "spans" 1 (qSp K rn zl7):=by exists wu A cs ab ["self"] λr a t=>dw (fj (j5 (zut (vw J a) (zzi zzh)) cg))
 have i:MCal P w K mg base "House" "keep" 1 (lSp K qg znz):=by exists wt A cs ae ["self", "deed", "piles", "spans"] λr a t=>dm (jt (zhf (vw D a) (bn a))) (dw (jt (zhf (vw J a) (kh (bi (bn a) (bi (bn a) cy))))))
 have G:MCal P w K mg base "House" "put" 3 (lSp K z0 yk):=by exists wt A cs ag ["self", "at", "hours", "loss", "piles", "number", "stack"] λr a t=>dm (fu t (l9 R r a)) (dm (ly (jt (nh O r (jp (bi (bn a) (bi (bn a) cy))))) (ng (nc O r (jp (bi (bn a) (bi (bn a) cy)))))) (dm (ly (jt (nh bs r (jp (bi (bn a) cy)))) (ng (nc bs r (jp (bi (bn a) cy))))) (dm (ly (jt (nh a6 r (jp (bi (bn a) cy)))) (ng (nc a6 r (jp (bi (bn a) cy))))) (dm (ly (jt (nh bt r (jp (bi (bn a) cy)))) (ng (nc bt r (jp (bi (bn a) cy))))) (dm (ly (jt (qt (λ_ _=>nh z r (jp (bi (tf D a) cy))))) (ng (zrl (λ_ _=>nc z r (jp (bi (tf D a) cy)))))) (dm (fu t (qt (λ_ _=>gn fl r (bi (tf D a) cy)))) (dm (fu t (f6 (mq (f6 (je (bi (kh (bi (bn a) (bi (bn a) (bi (bn a) cy)))) cy))) (em (kq (bn a) cg) a)))) (dm (jt (wc i r (bi (kh (bi f9 (bi (bn a) (bi (bn a) (bi (bn a) cy))))) (bi (gn c8 r (bi (bn a) (bi (bn a) (bi (bn a) cy)))) (bi (l9 c r a) cy))) a)) (dw (fj (bn a)))))))))))
 have H:MCal P w K mg base "House" "tell" 3 (lSp K zeo yg):=by exists wt A cs al ["self", "at", "place", "loss", "piles", "stack", "sack", "changed"] λr a t=>dm (fu t (l9 R r a)) (dm (ly (jt (nh O r (jp (bi (bn a) (bi (bn a) cy))))) (ng (nc O r (jp (bi (bn a) (bi (bn a) cy)))))) (dm (ly (jt (nh a7 r (jp (bi (bn a) (bi (bn a) cy))))) (ng (nc a7 r (jp (bi (bn a) (bi (bn a) cy)))))) (dm (fu t (em (kq (bn a) cg) a)) (dm (ly (jt (nh bv r (jp (bi (bn a) (bi (bn a) cy))))) (ng (nc bv r (jp (bi (bn a) (bi (bn a) cy)))))) (dm (ly (jt (nh a6 r (jp (bi (bn a) cy)))) (ng (nc a6 r (jp (bi (bn a) cy))))) (dm (ly (jt (qt (λ_ _=>nh z r (jp (bi (tf D a) cy))))) (ng (zrl (λ_ _=>nc z r (jp (bi (tf D a) cy)))))) (dm (fu t (em (kq (bn a) cg) a)) (dm (fu t (f6 (mq (f6 (mq (f6 (sv (bn a) uu (qx (kq (bn a) cg)))) (f6 (je (bi (gn fp r (bi (bn a) (bi (bn a) cy))) cy))))) (f6 (sv (bn a) (qx (bn a)) uu))))) (dm (jt (wc i r (bi (kh (bi f9 (bi (bn a) (bi (bn a) (bi (bn a) cy))))) (bi (gn c8 r (bi (bn a) (bi (bn a) (bi (bn a) cy)))) (bi (l9 c r a) cy))) a)) (dw (fj (gn c4 r (bi (bn a) cy)))))))))))))
 have L:MCal P w K mg base "House" "go" 3 (lSp K zx yd):=by exists wt A cs an ["self", "at", "piles"] λr a t=>dm (fu t (l9 R r a)) (dm (ly (jt (nh O r (jp (bi (bn a) (bi (bn a) cy))))) (ng (nc O r (jp (bi (bn a) (bi (bn a) cy)))))) (dm (ly (jt (nh a7 r (jp (bi (bn a) (bi (bn a) cy))))) (ng (nc a7 r (jp (bi (bn a) (bi (bn a) cy)))))) (dm (ly (jt (qt (λ_ _=>nh z r (jp (bi (tf D a) cy))))) (ng (zrl (λ_ _=>nc z r (jp (bi (tf D a) cy)))))) (dm (jt (wc i r (bi (kh (bi f9 (bi (bn a) cy))) (bi (gn c9 r (bi (bn a) (bi (bn a) cy))) (bi (l9 c r a) cy))) a)) (dw (fj (gn c7 r (bi (bn a) (bi (bn a) cy)))))))))
 have M:MCal P w K mg base "House" "back" 1 (lSp K zer yf):=by exists wt A cs ap ["self"] λr a t=>dm (gf (jv (zri (vw D a)) cg) (dw (rh j zrh)) gg) (dm (jt (zk4 (vw J a))) (dw (fj (zk4 (vw D a)))))
 have a9:MCal P w K mg base "House" "stacks" 2 (qSp K zda zls):=by exists wu A cs ar ["self"] λr a t=>dw (fj (f6 (qw a (ko (l9 R r a)) (λ_ _ _ _ _ _ _ a=>f6 (zk (bi (bn a) cy))))))
 have o:MCal P w K mg base "House" "hour" 2 (qSp K u9 zn0):=by exists wu A cs a0 ["self"] λr a t=>dw (fj (gn fk r (bi (l9 c r a) cy)))
 have p:MCal P w K mg base "House" "dry" 7 (lSp K u6 yi):=by exists wt A cs a1 ["self", "piles", "at", "sack", "begun", "stretch"] λr a t=>dm (fu t (l9 R r a)) (dm (ly (jt (nh b0 r (jp (bi (bn a) cy)))) (ng (nc b0 r (jp (bi (bn a) cy))))) (dm (ly (jt (qt (λ_ _=>nh z r (jp (bi (tf D a) cy))))) (ng (zrl (λ_ _=>nc z r (jp (bi (tf D a) cy)))))) (dm (fu t (j5 (f6 (zt4 bp r (bi (bn a) cy))) cg)) (dm (fu t (gn c7 r (bi (bn a) (bi (bn a) cy)))) (dm (fu t (l9 o r a)) (dm (fu t (kh (bi (bn a) (bi (lf (bn a) (gn c3 r (bi (bn a) cy))) (bi (gn c6 r (bi (bn a) cy)) cy))))) (dm (jt (wc i r (bi (kh (bi f9 cy)) (bi (gn c9 r (bi (bn a) (bi (bn a) cy))) (bi (f6 (mq (l9 c r a) (f6 (je (bi (bn a) cy))))) cy))) a)) (dw (fj (bn a))))))))))
 have q:MCal P w K mg base "House" "order" 7 (qSp K u7 zl8):=by exists wu A cs a2 ["self"] λr a t=>dw (fj (f6 (zt4 bp r (bi (l9 R r a) cy))))
 have ba:MCal P w K mg base "House" "plan" 8 (qSp K zel zn1):=by exists wu A cs a3 ["self"] λr a t=>dw (fj (gn fi r (bi (l9 R r a) (bi (l9 q r a) cy))))
 have F:Cal P w K mg base CX0 "_law_whole" 1 (dSp K qf):=by exists ji dx ["_law_found"] λr a t=>dw (fj (zy6 (oz z4i (bn a)) (zy5 (z31 (oz z00 (bn a))))))
 have fr:Cal P w K mg base CX0 "_law_at" 1 (dSp K zr):=by exists ji d0 ["_law_script", "_law_k"] λr a t=>dm (gf (n4 (bn a) (jq a)) (dw (fj (em (bn a) a))) gg) (dw (fj cg))
 have fs:Cal P w K mg base CX0 "_law_draws" 2 (dSp K z8):=by exists ji d1 ["_law_script", "_law_many_here", "_law_made", "_law_state", "_law_k", "_law_cell"] λr a t=>dm (qa (t.psF (je cy))) (dm (fu t cg) (dm (m9 (qe (bi (bn a) cy)) t.pg (dm (fu t (gn fr r (bi (bn a) (bi (bn a) cy)))) (dm (gf (jv (m4 (jq a) cg) cg) (dm (fu t (m4 (lf (lf (lf (ul (bn a) cg) (bn a)) (bn a)) cg) cg)) (dw (fu t (m4 (ul (lf (bn a) (bn a)) cg) cg)))) gg) (dw (jt (zt (bn a) a)))))) (dw (fj (bn a)))))
 have fv:Cal P w K mg base CX0 "_law_best" 1 (dSp K z9):=by exists ji d2 ["_law_sacks", "_law_best_here", "_law_hours", "_law_loss", "_law_k"] λr a t=>dm (fu t (f6 (je (bi cg (bi cg (bi (sy cg) cy)))))) (dm (fu t cg) (dm (fu t cg) (dm (m9 (qe (bi (jq a) cy)) t.pg (dm (fu t (lf (bn a) (j5 (em (bn a) a) cg))) (dm (fu t (lf (bn a) (j5 (em (bn a) a) cg))) (dw (gf (wx (ul (bn a) (em cg a)) (ul (em cg a) (bn a))) (dw (fu t (f6 (je (bi (lf (bn a) cg) (bi (bn a) (bi (bn a) cy))))))) gg))))) (dw (fj (bn a))))))
 have fw:Cal P w K mg base CX0 "_law_turns" 2 (dSp K z7):=by exists ji d3 ["_law_stacks", "_law_left", "_law_made", "_law_heads", "_law_pick", "_law_k"] λr a t=>dm (qa (zk0 a t (ko (bn a)) (λ_ _ _ _ _ _ _ a=>f6 (zk (bi (bn a) cy))))) (dm (qa (t.psF (je cy))) (dm (znc (mj (vm (bi (f6 (zxi a (zzd a) (λ_ _ _ _ _ _ _ a=>jq a))) cy)) cg) (dm (zuc (zxj a t (zzd a) (λ_ _ _ _ _ _ _ a=>gn fv r (bi (bn a) cy)))) (dm (fu t cg) (dm (m9 (qe (bi (jq a) cy)) t.pg (dw (gf (mj (ul (j5 (em (bn a) a) cg) (j5 (em (bn a) a) cg)) (ul (j5 (em (bn a) a) cg) (j5 (em (bn a) a) cg))) (dw (fu t (bn a))) gg))) (dm (jt (zt (kh (bi (lf (bn a) cg) (bi (j5 (em (bn a) a) cg) (bi (j5 (em (bn a) a) cg) (bi (j5 (em (bn a) a) cg) cy))))) a)) (dw (zq5 (bn a) (f6 (sv (em (bn a) a) (qx (j5 (em (bn a) a) cg)) uu)) a))))))) (dw (fj (bn a)))))
 have f0:Cal P w K mg base CX0 "_law_is_order" 2 (dSp K zeg):=by exists ji d4 ["_law_found", "_law_stacks", "_law_taken", "_law_at_here", "_law_k"] λr a t=>dm (gf (lq (km (oz zj (bn a)))) (dw (fj kz)) gg) (dm (qa (zk0 a t (ko (bn a)) (λ_ _ _ _ _ _ _ a=>cg))) (dm (m9 (ko (bn a)) t.pg (dm (gf (dt_w (kn (lq (km (gn F r (bi (bn a) cy)))) (kn (n4 (bn a) cg) (lz (mj (bn a) (jq a)))))) (dw (fj kz)) gg) (dw (zq5 (kq (bn a) cg) (lf (em (kq (bn a) cg) a) cg) a)))) (dm (m9 (qe (bi (jq a) cy)) t.pg (dw (gf (om (em (bn a) a) (sx (bi (em (bn a) a) cy))) (dw (fj kz)) gg))) (dw (fj kz)))))
 have Q:Cal P w K mg base CX0 "_law_same_row" 2 (dSp K qh):=by exists ji ea ["_law_found", "_law_due", "_law_k"] λr a t=>dm (gf (dt_w (kn (lq (km (oz znd (bn a)))) (lz (om (jq a) (jq a))))) (dw (fj kz)) gg) (dm (m9 (qe (bi (jq a) cy)) t.pg (dm (gf (dt_w (qb (km (oz zug (em (bn a) a))) (qc (lq (km (oz zug (em (bn a) a))))))) (dw (fj kz)) gg) (dm (gf (dt_w (qb (lq (km (oz zug (em (bn a) a)))) (qc (lq (km (gn F r (bi (em (bn a) a) cy))))))) (dw (fj kz)) gg) (dw (gf (om (em (bn a) a) (em (bn a) a)) (dw (fj kz)) gg))))) (dw (fj kz)))
 have f1:Cal P w K mg base CX0 "_law_same_rows" 3 (dSp K zdv):=by exists ji eb ["_law_found", "_law_due", "_law_k"] λr a t=>dm (gf (dt_w (kn (lq (km (oz zj (bn a)))) (lz (om (jq a) (jq a))))) (dw (fj kz)) gg) (dm (m9 (qe (bi (jq a) cy)) t.pg (dw (gf (lq (km (gn Q r (bi (em (bn a) a) (bi (em (bn a) a) cy))))) (dw (fj kz)) gg))) (dw (fj kz)))
 have f2:Cal P w K mg base CX0 "_law_same_stacks" 4 (dSp K zb3):=by exists ji ec ["_law_found", "_law_due", "_law_k"] λr a t=>dm (gf (dt_w (kn (lq (km (oz zj (bn a)))) (lz (om (jq a) (jq a))))) (dw (fj kz)) gg) (dm (m9 (qe (bi (jq a) cy)) t.pg (dw (gf (lq (km (gn f1 r (bi (em (bn a) a) (bi (em (bn a) a) cy))))) (dw (fj kz)) gg))) (dw (fj kz)))
 have f3:Cal P w K mg base CX0 "_law_same_numbers" 2 (dSp K zby):=by exists ji ed ["_law_found", "_law_due", "_law_k"] λr a t=>dm (gf (dt_w (kn (lq (km (oz zj (bn a)))) (lz (om (jq a) (jq a))))) (dw (fj kz)) gg) (dm (m9 (qe (bi (jq a) cy)) t.pg (dw (gf (dt_w (kn (lq (km (gn F r (bi (em (bn a) a) cy)))) (lz (om (em (bn a) a) (em (bn a) a))))) (dw (fj kz)) gg))) (dw (fj kz)))
 have f4:Cal P w K mg base CX0 "_law_copy" 1 (fSp2 K zgm):=by exists z41 bd ["_law_stacks"] λr a t=>dw (zw2 (zw0 a (ko (bn a)) (λ_ _ _ _ _ _ _ a=>zk (bi (bn a) cy))))
 have g0:Cal P w K mg base CX0 "_law_copy" 1 (fSp K zll):=by exists z40 bd ["_law_stacks"] λr a t=>dw (z0w (qw a (ko (bn a)) (λ_ _ _ _ _ _ _ a=>f6 (zk (bi (bn a) cy)))))
 obtain⟨RA,hR,hS⟩:=E.rot;have kk:KCl P w K mg base "_law_kind" 1 kdT:=by exists z61 ee ["_law_error", "_law_kinds", "_law_words", "_law_found"] zyn λu v y a t=>dm (fu t (f6 (je (bi (oy E u v y a) (bi (oy E u v y a) cy))))) (dm (fu t (f6 (mq (bn a) (f6 (je (bi (oy E u v y a) (bi (oy E u v y a) cy))))))) (dm (fu t (f6 (mq (bn a) (f6 (je (bi (oy E u v y a) (bi (oy E u v y a) cy))))))) (dm (fu t (f6 (mq (bn a) (f6 (je (bi (oy E u v y a) (bi (oy E u v y a) cy))))))) (dm (fu t (f6 (mq (bn a) (f6 (je (bi (oy E u v y a) (bi (oy E u v y a) cy))))))) (dm (fu t (f6 (mq (bn a) (f6 (je (bi (oy E u v y a) (bi (oy E u v y a) cy))))))) (dm (fu t (f6 (mq (bn a) (f6 (je (bi (oy E u v y a) cy)))))) (dm (fu t (f6 (je (bi f9 (bi f9 (bi f9 (bi f9 (bi f9 (bi f9 cy))))))))) (dm (fu t (f6 (mq (bn a) (f6 (je (bi f9 (bi f9 (bi f9 (bi f9 (bi f9 cy)))))))))) (dm (fu t (f6 (mq (bn a) (f6 (je (bi f9 (bi f9 cy))))))) (dm (zuc (zpt (λ_ _ _ _ _ _ _ I h=>y.comp I h) a t (zmh (λit lo n=>zp5 it lo n) (bi cg cy)) (λ_ _ _ _ _ _ _ y a=>dt_w (qb (km (em (bn a) a)) (qc (km (z45 E u v y a))))) (λ_ _ _ _ _ _ _ y a=>em (bn a) a))) (dw (fj (z1g (bi (f6 (mq (f6 (je (bi f9 cy))) (bn a))) cy))))))))))))))
 have f5:Cal P w K mg base CX0 "_law_deed" 1 (dSp K zy):=by exists ji ef ["_law_cell", "_law_piles", "_law_many_here", "_law_words", "_law_word", "_law_odd", "_law_figure", "_law_at_here", "_law_hours", "_law_loss", "_law_tall", "_law_place"] λr a t=>dm (fu t (jq a)) (dm (fu t (f6 (je (bi f9 (bi f9 (bi f9 (bi f9 (bi f9 (bi f9 (bi f9 (bi f9 (bi f9 (bi f9 (bi f9 (bi f9 cy))))))))))))))) (dm (fu t (em (m4 (bn a) cg) a)) (dm (fu t (m4 (uk (bn a) cg) cg)) (dm (fu t (uk (bn a) cg)) (dm (fu t (lf cg (m4 (bn a) (zy7 (bi (bn a) (bi cg cy)))))) (dm (fu t (uk (bn a) cg)) (dm (gf (dt_w (kn (jv (bn a) cg) (lz (jv (bn a) cg)))) (dw (fu t (j5 (f6 (je (bi cg (bi (lf (bn a) cg) (bi (sy cg) (bi (zg cg cg) cy)))))) (m4 (bn a) cg)))) gg) (dm (fu t (lf cg (m4 (bn a) cg))) (dm (gf (jv (bn a) cg) (dw (fu t (j5 (f6 (je (bi cg (bi cg (bi (sy cg) (bi (zg cg cg) cy)))))) (m4 (bn a) cg)))) gg) (dm (fu t (m4 (uk (bn a) cg) cg)) (dm (gf (mj (bn a) cg) (dm (fu t (lf cg (m4 (bn a) cg))) (dw (fu t (m4 (bn a) cg)))) gg) (dm (gf (jv (bn a) cg) (dw (fu t (j5 (f6 (je (bi (sy cg) (bi cg (bi (sy (zg cg cg)) (bi (zg cg cg) cy)))))) (m4 (uk (bn a) cg) cg)))) gg) (dm (fu t cg) (dm (gf (dt_w (qb (z30 cg (bn a)) (qc (z30 (bn a) (bn a))))) (dw (fu t (sx (bi (em (kq (bn a) cg) a) cy)))) gg) (dm (fu t (lf cg (m4 (uk (bn a) cg) (zy7 (bi (bn a) (bi cg cy)))))) (dm (gf (jv (bn a) cg) (dw (fu t (j5 (f6 (je (bi cg (bi (lf (bn a) cg) (bi (sy cg) (bi (zg cg cg) cy)))))) (m4 (uk (bn a) cg) cg)))) gg) (dm (gf (jv (bn a) f9) (dw (fj (kh (bi f9 (bi (bn a) (bi (bn a) (bi (bn a) cy))))))) gg) (dm (gf (jv (bn a) f9) (dw (fj (kh (bi f9 (bi (bn a) (bi (bn a) (bi (bn a) cy))))))) gg) (dm (gf (jv (bn a) f9) (dw (fj (kh (bi f9 (bi (bn a) cy))))) gg) (dw (fj (kh (bi (bn a) cy)))))))))))))))))))))))
 have ga:Cal P w K mg base CX0 "_law_refusal" 1 (dSp K zdr):=by exists ji ei ["_law_piles", "_law_kept", "_law_deed_here", "_law_word"] λr a t=>dm (fu t (em cg a)) (dm (gf (jv (bn a) f9) (dw (fj (j5 (f6 (je (bi f9 (bi f9 cy)))) (z0s (bi (z3z (bn a) cg) cy))))) gg) (dm (gf (jv (bn a) f9) (dw (gf (jv (vm (bi (f6 (qw a (ko (bn a)) (λ_ _ _ _ _ _ _ a=>jq a))) cy)) cg) (dw (fj f9)) gg)) (dw (gf (dt_w (kn (n4 (em cg a) cg) (lz (mj (em cg a) (jq a))))) (dw (fj f9)) (dw (gf (dt_w (qb (om (bn a) f9) (qc (jv (sx (bi (em (kq (em cg a) cg) a) cy)) cg)))) (dw (fj f9)) gg))))) (dm (gf (dt_w (qb (jv (bn a) f9) (qc (dt_w (kn (n4 (em cg a) cg) (lz (mj (em cg a) (sx (bi (em (kq (em cg a) cg) a) cy))))))))) (dw (fj f9)) gg) (dm (gf (dt_w (qb (jv (bn a) f9) (qc (dt_w (kn (n4 (em cg a) cg) (lz (mj (em cg a) cg))))))) (dw (fj f9)) gg) (dm (gf (dt_w (qb (dt_w (kn (jv (bn a) f9) (lz (jv (bn a) f9)))) (qc (dt_w (kn (n4 (em cg a) cg) (lz (mj (em cg a) cg))))))) (dw (fj f9)) gg) (dm (gf (dt_w (qb (jv (bn a) f9) (qc (wx (vm (bi (f6 (qw a (ko (bn a)) (λ_ _ _ _ _ _ _ a=>jq a))) cy)) cg)))) (dw (fj f9)) gg) (dm (gf (wx (bn a) cg) (dw (fj f9)) gg) (dw (fj f9)))))))))
 have b1:Cal P w K mg base (CXr P w) "_law_ask" 8 (lSp K zh5 yc):=by exists z1d ej ["_law_house", "_law_deed_here"] λr a t=>dm (gf (jv (em cg a) f9) (dw (ly (fj (wc G r (bi (em cg a) (bi (em cg a) (bi (em cg a) cy))) a)) (xy (zno G r (bi (em cg a) (bi (em cg a) (bi (em cg a) cy))) a)))) gg) (dm (gf (jv (em cg a) f9) (dw (ly (fj (wc H r (bi (em cg a) (bi (em cg a) (bi (em cg a) cy))) a)) (xy (zno H r (bi (em cg a) (bi (em cg a) (bi (em cg a) cy))) a)))) gg) (dm (gf (jv (em cg a) f9) (dw (ly (fj (wc L r (bi (em cg a) cy) a)) (xy (zno L r (bi (em cg a) cy) a)))) gg) (dm (gf (jv (em cg a) f9) (dw (ly (fj (zj9 p r a)) (xy (zo3 p r a)))) gg) (dw (ly (fj (zj9 M r a)) (xy (zo3 M r a)))))))
 have b2:Cal P w K mg base (CXr P w) "_law_call" 9 (lSp K pv zpl):=by exists z1d el ["_law_house", "_law_deed_here", "_law_refused", "e"] λr a t=>dm (fu t (kh (bi f9 (bi f9 cy)))) (dm (z1i hR hS kk r a t (λ_ _ a t=>dw (ly (fj (zju b1 r (x8 (jp (bi (bn a) cy)) a))) (xy (zxr b1 r (x8 (jp (bi (bn a) cy)) a)))))) (dw (fj (bn a))))
 have gb:Cal P w K mg base CX0 "_law_step" 3 (dSp K rq):=by exists ji en ["_law_piles", "_law_deed_here", "_law_number", "_law_left", "_law_k", "_law_sack"] λr a t=>dm (zud (zwz a t (ko (bn a)) (λ_ _ _ _ _ _ _ a=>zk (bi (bn a) cy)))) (dm (fu t cg) (dm (gf (mj (jq a) cg) (dw (fu t (kq (em cg a) cg))) gg) (dm (gf (jv (em cg a) f9) (dm (zrp (λ_ _=>bn a) (zuy (λ_ _=>mq (f6 (je (bi (kh (bi (bn a) (bi (em cg a) (bi (em cg a) cy)))) cy))) (em (bn a) a))) a) (dw (fj (f6 (je (bi (bn a) (bi (bn a) cy))))))) gg) (dm (gf (jv (em cg a) f9) (dm (fu t (qt (λ_ _=>j5 (em (bn a) a) (kq (em cg a) cg)))) (dm (zu0 (λ_ _=>bn a) (λ_ _=>kq (em cg a) cg) (kh (bi (em cg a) (bi (em cg a) (bi (em cg a) cy)))) a) (dw (fj (f6 (je (bi (bn a) (bi (em cg a) cy)))))))) gg) (dm (gf (jv (em cg a) f9) (dw (fu t (kq (j5 (j5 (gn fw r (bi (bn a) cy)) cg) cg) cg))) gg) (dm (fu t (qt (λ_ _=>j5 (em (bn a) a) cg))) (dm (zrp (λ_ _=>bn a) (zuy (λ_ _=>sv (em (bn a) a) (qx cg) uu)) a) (dw (fj (f6 (je (bi (bn a) (bi (bn a) cy)))))))))))))
 have gd:Cal P w K mg base CX0 "_law_rate" 1 (dSp K zh0):=by exists ji eo ["_law_piles"] λr a t=>dw (fj (vm (bi (f6 (qw a (ko (bn a)) (λ_ _ _ _ _ _ _ a=>vm (bi (f6 (qw a (ko (bn a)) (λ_ _ _ _ _ _ _ a=>em cg a))) cy)))) cy)))
 have gj:Cal P w K mg base CX0 "_law_same_answer" 3 (dSp K yr):=by exists ji ep ["_law_found", "_law_due"] λr a t=>dm (gf (km (oz znd (bn a))) (dw (fj (gn Q r (bi (bn a) (bi (bn a) cy))))) gg) (dw (fj (zy6 (gn F r (bi (bn a) cy)) (zy5 (z3z (bn a) (bn a))))))
 have gr:Cal P w K mg base CX0 "_law_many" 1 (dSp K zh1):=by exists ji er ["_law_header"] λr a t=>dw (fj (j5 (f6 (je (bi cg (bi cg (bi cg (bi cg (bi cg (bi cg (bi cg (bi cg (bi cg (bi cg (bi cg (bi cg cy)))))))))))))) (m4 (bn a) cg)))
 have gs:Cal P w K mg base CX0 "_law_rates" 1 (dSp K ziu):=by exists ji es ["_law_dried", "_law_rates_here", "_law_begun", "_law_dry", "_law_rate_here"] λr a t=>dm (fu t (f6 (je cy))) (dm (zpx (ko (bn a)) (mw t (mw t (mw t xl))) (dw (fu t (f6 (mq (bn a) (f6 (zza (je (bi (bn a) cy)) (kq (bn a) (bn a))))))))) (dw (fj (bn a))))
 have gu:Cal P w K mg base (CXr P w) "_law_do" 10 (lSp K tq zs7):=by exists z1d et ["_law_house", "_law_state", "_law_deed_here", "_law_piles", "_law_kept", "_law_past", "_law_dried", "_law_due", "_law_found", "_law_ahead", "_law_step_here", "_law_hour"] λr a t=>dm (zxz (mw t (mw t (mw t (mw t xl)))) a) (dm (fu t (gn ga r (bi (bn a) (bi (zri (zh a)) (bi (bn a) cy))))) (dm (fu t (zju b2 r (x8 (jp (bi (bn a) cy)) a))) (dm (gf (om (bn a) f9) (dw (fj (gn Q r (bi (bn a) (bi (kh (bi f9 (bi (bn a) cy))) cy))))) gg) (dm (gf (jv (em cg a) f9) (dm (fu t (zk4 (zh a))) (dm (zk5 (em cg a) a) (dm (zk5 (em cg a) a) (dw (fj (gn Q r (bi (bn a) (bi (zk4 (zh a)) cy)))))))) gg) (dm (fu t (gn gb r (bi (bn a) (bi (bn a) (bi (qt (λ_ _=>lf cg (sx (bi (f6 (zou a (ko (bn a)) (λ_ _ _ _ _ _ _ a=>jv (em cg a) f9) (λ_ _ _ _ _ _ _ a=>bn a))) cy)))) cy))))) (dm (jt (zhf (zh a) (kh (bi (bn a) (bi (bn a) cy))))) (dm (jt (zhf (zh a) (bn a))) (dm (zk5 (em cg a) a) (dm (gf (jv (em cg a) f9) (dm (fu t (sx (bi (gn gs r (bi (bn a) cy)) cy))) (dw (zk5 (f6 (mq (bn a) (f6 (je (bi (kh (bi (bn a) (bi (lf (bn a) (j5 (em cg a) cg)) (bi (gn gd r (bi (bn a) cy)) cy)))) cy))))) a))) gg) (dw (fj (gn gj r (bi (bn a) (bi (em cg a) cy))))))))))))))
 have gx:Cal P w K mg base (CXr P w) "_law_new" 1 (gSp K zh3 zqo):=by exists z6y eu ["_law_many_here"] λr a t=>dw (zxu (z1c (z4x (λ_ _=>f6 (qw a (qe (bi (bn a) cy)) (λ_ _ _ _ _ _ _ a=>f6 (je cy)))) (z4y (λ_ _=>je cy) (z4y (λ_ _=>je cy) (z4x (λ_ _=>f6 (je cy)) z1b))))))
 exact z60 ["_law_script", "_law_draws_here", "_law_many_here", "_law_house", "_law_state", "_law_cell", "_law_piles", "_law_told", "_law_rows", "_law_start", "_law_k", "_law_sack", "_law_hour"] λr a t=>dm (fu t (gn fs r (bi (bn a) (bi cg cy)))) (dm (fu t (gn gr r (bi (em cg a) cy))) (dm (zrj t (zxw a8 r (bi (bn a) cy))) (dm (zrj t (zxv gx r (bi (bn a) cy))) (dm (m9 (ko (f6 (sv (bn a) (qx cg) (qx (kq cg (m4 (uk (em cg a) cg) cg)))))) t.pg (dw (gf (lq (km (zju gu r (x8 (x8 (jp (bi (gn f5 r (bi (bn a) (bi (zuu a) cy))) cy)) a) a)))) (dw (fj kz)) gg))) (dm (zud (t.psF2 (zw4 f4 r (bi (zuu a) cy)))) (dm (fu t (l9 q r a)) (dm (fu t (l9 ba r a)) (dm (fu t (l9 o r a)) (dm (gf (dt_w (kn (lq (km (qt (λ_ _=>gn f0 r (bi (bn a) (bi (bn a) cy)))))) (kn (lq (km (oz zj (bn a)))) (lz (om (jq a) (jq a)))))) (dw (fj kz)) gg) (dm (m9 (qe (bi (jq a) cy)) t.pg (dm (fu t (zuf (kq (em (bn a) a) cg) (λ_ _=>cg) a)) (dm (gf (dt_w (kn (lq (km (gn Q r (bi (zj9 p r a) (bi (bn a) cy))))) (kn (lq (km (oz znd (em (bn a) a)))) (lz (om (sx (bi (em (bn a) a) cy)) cg))))) (dw (fj kz)) gg) (dm (fu t (l9 o r a)) (dm (gf (dt_w (kn (lq (km (gn F r (bi (j5 (em (bn a) a) cg) cy)))) (lz (om (j5 (em (bn a) a) cg) (em cg a))))) (dw (fj kz)) gg) (dm (gf (dt_w (kn (lq (km (gn F r (bi (bn a) cy)))) (kn (lq (km (gn F r (bi (j5 (em (bn a) a) cg) cy)))) (lz (om (bn a) (lf (bn a) (j5 (em (bn a) a) cg))))))) (dw (fj kz)) gg) (dm (gf (lq (km (gn f3 r (bi (l9 q r a) (bi (f6 (sv (bn a) (qx (lf (bn a) cg)) uu)) cy))))) (dw (fj kz)) gg) (dw (gf (lq (km (qt (λ_ _=>gn f2 r (bi (l9 a9 r a) (bi (bn a) cy)))))) (dw (fj kz)) gg))))))))) (dw (fj (gn Q r (bi (zju b2 r (x8 (jp (bi (kh (bi f9 cy)) cy)) a)) (bi (kh (bi f9 (bi f9 cy))) cy)))))))))))))))
end S_rotstacks_k38_whole_drying_on
namespace S_rotstacks_k38_whole_drying_on
open PySem L2 LB
abbrev EH(A B C S:ll)(k:mx)(p:m2)(s:Hs)(r:DE0):DE0:=A::B::C::some (.ag kH none (hP k (p++[s])))::S::r
variable{i:Nat}
def zpn{α:Type}{l:List α}{x:α}{r:List α}(h:l.drop i=x::r):l[i]?=some x/\l.drop (i+1)=r:=by
 constructor
 ·rw[<-List.head?_drop,h];rfl
 ·rw[<-List.drop_drop,h];rfl
variable{k:mx}{p:m2}{s:Hs}{n:Nat}
theorem z2d{ts:mv}(hi:HI n k p s)(ok:TurnsOk s.1 ts)(V:0<s.1.flatten.length)(c:k.length<60) :
  ∃x D a tl,HI n (k++[.dry]) (p++[s]) (dryS s a x tl)/\TurnsOk (dryS s a x tl).1 D/\flat ts=x::flat D/\gz ts=a::gz D/\s.1[a-1]?=some (x::tl)/\1<=a/\a<=s.1.length/\u6 [hA k (p++[s])] []=some (sD x,[hA (k++[.dry]) (p++[s]++[dryS s a x tl])]):=by
 have l5:=hi.l5;have I:=hi.at;have g:cmdX s.1 k.length (.d .dry)=none:=by
  show dryX s.1 k.length=none;unfold dryX;rw[if_pos V,if_pos c]
 obtain⟨k1,p1,h,J,_,Y⟩:=z5q (.d .dry) hi;unfold Mv at Y;rw[g] at Y;obtain⟨rfl,rfl⟩:=Y;obtain⟨x,Z,a,tl,b,i,j,e,R,l,f,m⟩:=z5s hi J ok V;have es:h=dryS s a x tl:=Prod.ext l j;subst es;obtain⟨o,q,r⟩:=ze7 s.1 I.good I.few;have U:=zfw ok (z5t ok I.good I.few (by lia)) I.few;rw[e] at U;have u:p.length<=60:=by rw[hi.kp];exact hi.k60
 have sp:=I.sp;exact⟨x,Z,a,tl,J,b,i,e,R,f,m,(zzv U R f c (by lia) (by lia) (λy t=>by have:=hi.r14 y t;lia) (by lia) V).2⟩
def z2e(ss:mu)(i:Nat)(t:l0):(dsO ss).set i (t.map sD)=dsO (ss.set i t):=by
 unfold dsO;rw[gw]
variable{e:DE0}{j:Nat}
def z2f{l:Option Nat}(h:e[i]?=some (some (.ag kH l (hP k (p++[s])))))(I:e[j]?=some (some (.o2 (dsO s.1))))(D:s.1.length<=1000)(J:∀x∈s.1,x.length<=1000) :
  fFrz false (d7 zb3 (au (fK kH i (iu zda [i] fNil)) (au (fVar j) fNil))) e=some (.bl true,e):=by
 unfold fFrz;simp[z66 h,zs6 D,zr9 I];rw[show zb3 [ssL s.1,ssL s.1]=some (.bl true) from zl0 s.1 D J];rfl
variable{A B C S v5:ll}
theorem z5w(N:Nat)(hN:N<=14)(I:h8)(V:List ia)(R:Int)(v:I.length=N):∀(m i:Nat) (k:mx) (p:m2) (s:Hs) (ts:mv) (b c J:ll),HI n k p s->TurnsOk s.1 ts->m=N-i->i<=N->I.drop i=gz ts->V.drop i=m7 (hrOf s.2-R) ((gz ts).zip (flat ts))->k.length<=46+i ->
  ∃k' p' s' g h o q,HI n k' p' s'/\TurnsOk s'.1 g/\flat g=[]/\forL 10 zn9 ((rngD 0 N).drop i) (EH A B C S k p s [v5,some (.o2 (dsO s.1)),some (.sh (.lst (iD I))),some (.sh (.lst (V.map iT))),some (.sh (.int R)),b,c,J])=some (.nx,EH A B C S k' p' s' [v5,some (.o2 (dsO s'.1)),some (.sh (.lst (iD I))),some (.sh (.lst (V.map iT))),some (.sh (.int R)),h,o,q])
 | 0,i,k,p,s,ts,b,c,J,hi,ok,hm,hiN,ho,hR,hk=>by
   have e:i=N:=by lia
   subst e;have fl:flat ts=[]:=by
    have h1:(gz ts).length=0:=by rw[<-ho,d9];lia
    have h2:=zlv ok;rw[ok.whole.len] at h1;exact fq (by rw[h2.1];exact h1)
   refine⟨k,p,s,ts,b,c,J,hi,ok,fl,?_⟩;rw[show(rngD 0 i).drop i=[] from List.drop_of_length_le (by rw[tx];exact b7 _)];rfl
 | m+1,i,k,p,s,ts,b,c,J,hi,ok,hm,hiN,ho,hR,hk=>by
   have r:i<N:=by lia
   have fp:=zlv ok;have l5:=hi.l5;have hs:=hi.at;have ap:(gz ts).length=N-i:=by rw[<-ho,d9,v]
   have ne:0<s.1.flatten.length:=by rw[<-ok.whole.len];lia
   obtain⟨x,d,a,tl,U,t,ef,et,w,l1,l2,z⟩:=z2d hi ok ne (by lia);have gx:i9 x:=hs.good x (fp.2.2 x (by rw[ef];simp));have hr:hrOf (dryS s a x tl).2=hrOf s.2+x.2.1:=by rw[zr7];exact zj2 _ _ _
   rw[et] at ho;rw[et,ef,jc,m7] at hR;obtain⟨H,u⟩:=zpn ho;obtain⟨K,L⟩:=zpn hR;obtain⟨k',p',s',g,h,o,q,M,O,P,ih⟩:=z5w N hN I V R v m (i+1) (k++[.dry]) (p++[s]) (dryS s a x tl) d (some (.sh (.int (i:Int)))) (some (.sh (sD x))) (some (.sh (.int (hrOf s.2+x.2.1)))) U t (by lia) (by lia) u (by rw[L,hr,show hrOf s.2+x.2.1-R=hrOf s.2-R+x.2.1 by lia]) (by simp;lia);refine⟨k',p',s',g,h,o,q,M,O,P,?_⟩;have T:(rngD 0 N)[i]?=some (.int (i:Int)):=by
    unfold rngD;rw[bu,mz r,ak,lp]
   rw[fm (by rw[tx];exact r),show(rngD 0 N)[i]'(by rw[tx];exact r)=.int (i:Int) from bh ((av _).symm.trans T),forL];have hb:zn9 ((EH A B C S k p s [v5,some (.o2 (dsO s.1)),some (.sh (.lst (iD I))),some (.sh (.lst (V.map iT))),some (.sh (.int R)),b,c,J]).set 10 (some (.sh (.int (i:Int)))))=some (.nx,EH A B C S (k++[.dry]) (p++[s]) (dryS s a x tl) [v5,some (.o2 (dsO (dryS s a x tl).1)),some (.sh (.lst (iD I))),some (.sh (.lst (V.map iT))),some (.sh (.int R)),some (.sh (.int (i:Int))),some (.sh (sD x)),some (.sh (.int (hrOf s.2+x.2.1)))]):=by
    have W:=zfw t (z5t t U.at.good U.at.few (by have:=U.l5;lia)) U.at.few;have X:atI (iD I) (i:Int)=some (.int (a:Int)):=lb (λn:Nat=>D.int (n:Int)) H;have E:atI (V.map iT) (i:Int)=some (iT [x.1,(a:Int),hrOf s.2-R,hrOf s.2-R+x.2.1]):=lb iT K;have hg:(dsO s.1)[a-1]?=some (sD x::tl.map sD):=by unfold dsO;rw[bu,w];rfl
    have aa:ixN (dsO s.1).length ((a:Int)-1)=some (a-1):=by rw[qr (by lia) (by unfold dsO;rw[ah];lia)];congr 1;lia
    have G:(dsO s.1).set (a-1) (tl.map sD)=dsO (dryS s a x tl).1:=z2e _ _ _;have ab:(x::tl).length<=14:=hi.r14 _ (bf w);have f2:Few (sD x::tl.map sD).length:=few (by simp at ab ⊢;lia);have ag:ixN (sD x::tl.map sD).length 0=some 0:=by rw[qr (by lia) (by simp)];rfl
    have al:(sD x::tl.map sD).eraseIdx 0=tl.map sD:=rfl;have an:(sD x::tl.map sD)[0]?=some (sD x):=rfl;have cl:=uq (m:=u6) (F:=fNil) (e:=EH A B C S k p s [v5,some (.o2 (dsO (dryS s a x tl).1)),some (.sh (.lst (iD I))),some (.sh (.lst (V.map iT))),some (.sh (.int R)),some (.sh (.int (i:Int))),some (.sh (sD x)),J]) (i:=3) (l:=none) (ds:=[]) rfl rfl z;have sr:qh [sD x,sD x]=some (.bl true):=zw [.int x.1,.int x.2.1,.int x.2.2] (by simp[plD]) (by simp);have cd:cutD (iD I) (some ((i:Int)+1)) none=iD (gz d):=by
     have:=zl (iD I) (i+1) (by simp[iD];lia);rw[show((i+1:Nat):Int)=(i:Int)+1 by lia] at this;rw[this,show(iD I).drop (i+1)=iD (I.drop (i+1)) by simp[iD],u]
    have sn:zby [.lst (iD (gz d)),.lst (iD (gz d))]=some (.bl true):=zqi _ (by rw[<-u,d9];lia);have w1:=vt x.1;have w2:=vt (hrOf s.2+x.2.1);have w3:=vt (hrOf s.2-R+x.2.1);have hq:=λJ=>yv (m:=u9) (e:=EH A B C S (k++[.dry]) (p++[s]) (dryS s a x tl) [v5,some (.o2 (dsO (dryS s a x tl).1)),some (.sh (.lst (iD I))),some (.sh (.lst (V.map iT))),some (.sh (.int R)),some (.sh (.int (i:Int))),some (.sh (sD x)),J]) (i:=3) (l:=none) (k:=k++[.dry]) (p:=p++[s]++[dryS s a x tl]) rfl;have oq:=λJ=>yv (m:=u7) (e:=EH A B C S (k++[.dry]) (p++[s]) (dryS s a x tl) [v5,some (.o2 (dsO (dryS s a x tl).1)),some (.sh (.lst (iD I))),some (.sh (.lst (V.map iT))),some (.sh (.int R)),some (.sh (.int (i:Int))),some (.sh (sD x)),J]) (i:=3) (l:=none) (k:=k++[.dry]) (p:=p++[s]++[dryS s a x tl]) rfl;simp only[zqr,hr] at hq;simp only[zn5 W] at oq;have pf:=λJ=>z2f (e:=EH A B C S (k++[.dry]) (p++[s]) (dryS s a x tl) [v5,some (.o2 (dsO (dryS s a x tl).1)),some (.sh (.lst (iD I))),some (.sh (.lst (V.map iT))),some (.sh (.int R)),some (.sh (.int (i:Int))),some (.sh (sD x)),J]) (i:=3) (j:=6) (l:=none) rfl rfl (by have:=U.l5;lia) (λy hy=>by have:=U.r14 y hy;lia);have fk:∀(f:FE),fK kH 3 f (EH A B C S k p s [v5,some (.o2 (dsO (dryS s a x tl).1)),some (.sh (.lst (iD I))),some (.sh (.lst (V.map iT))),some (.sh (.int R)),some (.sh (.int (i:Int))),some (.sh (sD x)),J])=f (EH A B C S k p s [v5,some (.o2 (dsO (dryS s a x tl).1)),some (.sh (.lst (iD I))),some (.sh (.lst (V.map iT))),some (.sh (.int R)),some (.sh (.int (i:Int))),some (.sh (sD x)),J]):=λf=>zye (l:=none) (ps:=hP k (p++[s])) rfl;obtain⟨Q,hQ,b4,i0,i3⟩:∃Q,iT [x.1,(a:Int),hrOf s.2-R,hrOf s.2-R+x.2.1]=.tup Q/\(Q.length:Int)=4/\atI Q 0=some (.int x.1)/\atI Q 3=some (.int (hrOf s.2-R+x.2.1)):=⟨_,rfl,rfl,rfl,rfl⟩;rw[hQ] at E;obtain⟨Z,hZ,d1⟩:∃Z,sD x=.tup Z/\atI Z 0=some (.int x.1):=⟨_,rfl,rfl⟩;have ae:R+(hrOf s.2-R+x.2.1)=hrOf s.2+x.2.1:=by lia
    unfold EH at *;unfold zn9;rw[show(AK.ins false "House" ij)=kH from rfl];generalize hP k (p++[s])=HP at *;generalize hP (k++[.dry]) (p++[s]++[dryS s a x tl])=HP1 at *;generalize dsO (dryS s a x tl).1=PL1 at *;generalize dsO s.1=PL at *;generalize V.map iT=RL at *;generalize iD I=OL at *;generalize iD (gz d)=OL1 at *;generalize tl.map sD=TL at *;generalize sD x=dx at *;generalize dx::TL=Y at *;subst hZ;subst G;simp only[az,ax] at cl;generalize hrOf s.2+x.2.1=hh at *;generalize hrOf s.2-R+x.2.1=hg2 at *;simp[X,aa,hg,f2,ag,al,an,fk,cl,sr,E,b4,i0,i3,hq,w1,w2,w3,oq,cd,sn,pf,d1,ae]
   rw[hb];exact ih
def z2g{ss:mu}{os:h8}(D:Whole ss os)(I:ss.length<=1000)(h:e[i]?=some (some (.sh (.lst (iD os)))))(J:e[j]?=some (some (.o2 (dsO ss)))) :
  fFrz false (d7 zeg (au (fVar i) (au (fVar j) fNil))) e=some (.bl true,e):=by
 unfold fFrz;simp[zvy h,zr9 J,zqm D I];rfl
theorem good(J:ia)(hn:J.length<=63):z5v [.lst (J.map D.int)]=some (.bl true):=by
 obtain⟨cs,Y,q⟩:=zx4 J 47 (by lia);have q:z8 [.lst (J.map D.int),.int 47]=some (.lst (cs.map D.int)):=q;have a0:atI (cs.map D.int) 0=some (.int cs[0]):=lb (k:=0) D.int (by simp[Y]);obtain⟨n,U,hm⟩:=z18 cs[0];have u:=z5r U;obtain⟨o,hz,hzl⟩:∃o:ia,cutD (cs.map D.int) (some 1) (some ((47:Int)-cs[0] / 12 % 47))=o.map D.int/\o.length<=46:=by
  unfold cutD;rw[<-List.map_drop,<-List.map_take];refine⟨_,rfl,?_⟩;have e1:HT.sIx (cs.map D.int).length 0 (some 1)=1:=by rw[ah,Y];rfl
  rw[e1,dy,d9]
  lia
 obtain⟨A,eA⟩:∃A:ll,A=some (.sh (.lst (J.map D.int))):=⟨_,rfl⟩;obtain⟨B,eB⟩:∃A:ll,A=some (.sh (.lst (cs.map D.int))):=⟨_,rfl⟩;obtain⟨C,eC⟩:∃A:ll,A=some (.sh (.int n)):=⟨_,rfl⟩;have mk:=z1y (n:=n) U (F:=au (fVar 2) fNil) (e:=[A,B,C,none,none,none,none,none,none,none,none,none,none]) (by rw[eC];rfl);obtain⟨k,p,s,v,Z,a,x⟩:=zsd (A:=A) (B:=B) (C:=C) (r:=[none,none,none,none,none,none,none]) o [] [] (newS n) none (HI.new U);have a:k.length<=46:=by simp at a;lia
 obtain⟨ts,ok,y⟩:=ze7 s.1 Z.at.good Z.at.few;have l5:=Z.l5;have X:=Z.at.few;have z:=ok.whole;have b:=zfw ok y X;have E:(gz ts).length<=14:=by rw[z.len];exact X
 have c:=z10 (k:=k) (p:=p) b (zny z (by lia) (by lia));obtain⟨R,hR⟩:∃R,R=m7 0 ((gz ts).zip (tk s.1 (gz ts))):=⟨_,rfl⟩;have G:R.length=(gz ts).length:=by rw[hR,zlr,se,zzq,Nat.min_self]
 rw[<-hR] at c;obtain⟨k1,p1,I,aa,f,g,H,K,M,N,h1⟩:=z5w (A:=A) (B:=B) (C:=C) (S:=some (.ag .ls none (stP k p s))) (v5:=v) (gz ts).length E (gz ts) R (hrOf s.2) rfl (gz ts).length 0 k p s ts none none none Z ok (by lia) (by lia) rfl (by rw[Int.sub_self,vd,hR,z1u ok];rfl) (by lia);rw[vd] at h1;have cp:=zym s.1 (by lia);rw[<-zvx,show(s.1.map λt=>t.map sD)=dsO s.1 from rfl] at cp;have e0:I.1.flatten=[]:=by
  have:=(zlv M).1;rw[N] at this;exact fq this.symm
 have hx:cmdX I.1 k1.length (.d .dry)=some "NothingWaits":=by
  show dryX I.1 k1.length=_;unfold dryX;rw[e0];rfl
 have cx:=zzx (.d .dry) (zv3 K hx) (w:="nothing waits") (by decide);have cl:=λw9=>uq (m:=pv) (F:=au (fTup (au (fC (.str "dry")) fNil)) fNil) (e:=EH A B C (some (.ag .ls none (stP k p s))) k1 p1 I [v,some (.o2 (dsO I.1)),some (.sh (.lst (iD (gz ts)))),some (.sh (.lst (R.map iT))),some (.sh (.int (hrOf s.2))),f,g,w9]) (i:=3) (l:=none) (ds:=[cD (.d .dry)]) rfl rfl cx;have sr:qh [.tup [.str "refused",.str "nothing waits"],.tup [.str "refused",.str "nothing waits"]]=some (.bl true):=zw _ (by simp[plD]) (by simp);have oq:=λh V=>yv (m:=u7) (e:=EH A B C (some (.ag .ls none (stP k p s))) k p s [v,some (.o2 (dsO s.1)),h,V,none,none,none,none]) (i:=3) (l:=none) (k:=k) (p:=p++[s]) rfl;have pq:=λh V=>yv (m:=zel) (e:=EH A B C (some (.ag .ls none (stP k p s))) k p s [v,some (.o2 (dsO s.1)),h,V,none,none,none,none]) (i:=3) (l:=none) (k:=k) (p:=p++[s]) rfl;have hq:=λh V=>yv (m:=u9) (e:=EH A B C (some (.ag .ls none (stP k p s))) k p s [v,some (.o2 (dsO s.1)),h,V,none,none,none,none]) (i:=3) (l:=none) (k:=k) (p:=p++[s]) rfl;simp only[zn5 b] at oq;simp only[c] at pq;simp only[zqr] at hq;have io:=λV v9=>z2g (e:=EH A B C (some (.ag .ls none (stP k p s))) k p s [v,some (.o2 (dsO s.1)),some (.sh (.lst (iD (gz ts)))),V,v9,none,none,none]) (i:=7) (j:=6) z (by lia) rfl rfl;have ir:=nk (gz ts).length (by lia);have O:((iD (gz ts)).length:Int)=(gz ts).length:=by simp[iD]
 rw[<-O] at ir;have rl:(R.map iT).length=(iD (gz ts)).length:=by rw[ah,G];simp[iD]
 have d0:fDat 4 0 (EL A B C k p s [v,none,none,none,none,none,none,none])=some (ssL s.1,EL A B C k p s [v,none,none,none,none,none,none,none]):=rfl;have P:dDiv (.int cs[0]) (.int 12)=some (.int (cs[0] / 12)):=z09 (by decide) (by decide);have Q:dMod (.int (cs[0] / 12)) (.int 47)=some (.int (cs[0] / 12 % 47)):=z08 (by decide);rw[show bDo 5 sNil=zv8 from z2b _] at x;refine j6 rfl (e':=EH A B C (some (.ag .ls none (stP k p s))) k1 p1 I [v,some (.o2 (dsO I.1)),some (.sh (.lst (iD (gz ts)))),some (.sh (.lst (R.map iT))),some (.sh (.int (hrOf s.2))),f,g,H]) ?_;rw[show jk 13 [D.lst (J.map D.int)]=[some (.sh (.lst (J.map D.int))),none,none,none,none,none,none,none,none,none,none,none,none] from rfl];unfold EL EH at *;rw[lu] at x;subst eA eB eC;unfold z5u;rw[show(AK.ins false "House" ij)=kH from rfl];have tl:∀L,isiT (tyD (.lst L)) "list" = true:=λ_=>rfl;generalize ssL s.1=SS at *;generalize hP k1 (p1++[I])=HP1 at *;generalize hP k (p++[s])=HP at *;generalize stP k p s=SP at *;generalize hP [] [newS n]=HP0 at *;generalize stP [] [] (newS n)=SP0 at *;generalize R.map iT=RL at *;generalize iD (gz ts)=OL at *;generalize rngD 0 (gz ts).length=RR at *;generalize dsO s.1=PL at *;generalize dsO I.1=PL1 at *;have T:dNe (.int (RL.length:Int)) (.int (OL.length:Int))=some (.bl false):=by rw[rl];simp[dNe]
 simp only[az,ax] at cl;have W:([D.str "refused",D.str "nothing waits"]:k8).length<=64:=by decide
 simp only[sSeq,sSet,d7,au,fVar,fC,fNil,af,ai,az,ax,ac,ak,q,fIxV,ixSl,a0,hm,y0,mk,zrk,u,sNil,sFor,fiS,fLst,fSl,fO1,fBin,dSub,P,Q,hz,x,vh,zi,d0,cp,oq,pq,hq,sIf,fOr,fNot,fTst,io,tl,fIsi,ii,T,m6,bz,if_false,if_true,i5,ir,h1,sRet,cl,fTup,sr,W]
end S_rotstacks_k38_whole_drying_on
end
open PySem PySem.W PyProof.Rows
open L2 (us1 us2 us3 us4 us5)
theorem PySem.Challenge.cw_rotstacks_k38_whole_drying_on_holds : PySem.Challenge.rw_rotstacks_k38_whole_drying_on.Holds := by
 refine headO ?_
 k_fill
 refine L2.walkD (k:=11) (s:="_law_script") (l:=PySem.Challenge.rw_rotstacks_k38_whole_drying_on) ⟨rfl,by decide,by decide⟩ rfl rfl (λw h Y=>PySem.W.kIn_of Y) ?F;case F =>
  intro w mg fa h KX G hmg;refine' L2.law_mk KX G hmg ?a ?l ?c ?k ?b (S_rotstacks_k38_whole_drying_on.ok_all _ _ _ _ _ _ _ _ _ _ _ _ _ _ _ _ _ _ _ _ _ _ _ _ _ _ _ _ _ _ _ _ _ _ _ _ _ _ _ _ _ _ _ _ _ _ _ _ _ _ _ _ _ _ _ _ _ _ _ _ _ _ _ _ _ _ _ _ _ _ _ ?hhC _ _ _ _ _ _ _ _ _ _ _ _ _ _ _ _ _ _ _ _ _ _ _ _ _ _ _ _ _ _ _ _ _ _ _) S_rotstacks_k38_whole_drying_on.good
  (case a=>k_is)
  (case l=>k_is)
  (case c=>k_is)
  (case k=>k_is)
  (case b=>exact λv=>rfl)
  (case hhC=>unfold L2.Cl;k_is)
  all_goals first | (refine' L2.def_mk (by assumption) (by assumption) ?a ?l ?c ?k ?b;(case a=>k_is);(case l=>k_is);(case c=>k_is);(case k=>k_is);(case b=>first | exact us1 λ_=>rfl | exact us2 λ_ _=>rfl | exact us3 λ_ _ _=>rfl | exact us4 λ_ _ _ _=>rfl | exact us5 λ_ _ _ _ _=>rfl)) | (refine' L2.mef_mk ?a ?l ?c ?k ?i ?b;(case a=>k_is);(case l=>k_is);(case c=>k_is);(case k=>k_is);(case i=>k_is);(case b=>first | exact us1 λ_=>rfl | exact us2 λ_ _=>rfl | exact us3 λ_ _ _=>rfl | exact us4 λ_ _ _ _=>rfl | exact us5 λ_ _ _ _ _=>rfl)) | exact⟨by k_is,by k_is,by k_is,by k_is⟩ | exact PySem.W.mg_none_of KX G (by k_is) | exact kj KX G (by k_is) | (refine' L2.exc_mk KX G ?a ?b (by decide +kernel);(case a=>k_is);(case b=>k_exc)) | (refine' L2.con_mk KX G ?a;(case a=>k_is)) | exact L2.kf_mk KX G (by kernel_rfl) | k_is

