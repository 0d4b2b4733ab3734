import PyProof.Rows.All
import Wide.All
import OpenK.AllK
import Wide.FinOn
import Lean
import PyProof.EqAt
import PyProof.EqKinds
import PyProof.TupleCall
import PyProof.Draws
import PyProof.ZipIter
import PyProof.EnumMake
import PyProof.AttrMissHeap
import KE.KDictOf
import PyProof.Rows.SeqMore2
import PyProof.Rows.SortWalk
import KE.KTryMore
import PyProof.RulesAs
import PyProof.NsDelKeeps
import KE.KIsAll
import PyProof.ExcArgs
import PySem.Challenge.RW_rotstacks_k40_whole_never_dearer
set_option Elab.async false
set_option linter.all false
set_option maxRecDepth 100000
set_option compiler.extract_closed false
set_option bootstrap.genMatcherCode false
local macro_rules | `(command|def $i:declId $s:optDeclSig $v:declVal)=>`(command|noncomputable def $i:declId $s:optDeclSig $v:declVal)
set_option maxHeartbeats 0
def ac:=@Option.bind_some
def ae:=@List.getElem?_cons_zero
def af:=@List.getElem?_cons_succ
def ah:=@List.length_map
def ai:=@List.getElem?_eq_some_iff
def aj:=@Option.map_some
def ak:=@List.length_cons
def am:=@List.mem_cons_of_mem
def ao:=@List.length_append
def aq:=@List.getElem?_eq_getElem
def au:=@PySem.Heap.get?_push_of_some
def av:=@List.getD_eq_getElem?_getD
def ax:=@List.set_cons_zero
def ay:=@List.set_cons_succ
def az:=@List.getElem?_append_left
def bc:=@List.mem_cons_self
def bg:=@List.mem_of_getElem?
def bh:=@Nat.lt_of_lt_of_le
def bi:=@PySem.Heap.lt_size
def bn:=@List.map_cons
def bu:=@Option.some.inj
def bw:=@Bool.false_eq_true
def bx:=@List.size_toArray
def bz:=@List.nodup_cons
def b6:=@List.length_nil
def b7:=@List.mem_append_right
def b8:=@Nat.ne_of_lt
def b9:=@Nat.le_refl
def cb:=@List.getElem?_map
def ce:=@List.mem_cons
def cg:=@Bool.false_ne_true
def ci:=@PySem.Heap.get?_push_size
def cj:=@PySem.Heap.get?_update_other
def cr:=@List.flatten_cons
def cw:=@List.lookup_cons
def cx:=@List.getElem?_eq_none
def cy:=@List.mem_singleton
def cz:=@List.mem_append
def db:=@List.map_append
def de:=@Nat.le_trans
def df:=@List.append_assoc
def dg:=@List.getElem?_set_ne
def dh:=@List.append_nil
def di:=@List.getElem?_set_self
def dn:=@List.getElem?_append_right
def dq:=@Option.bind_eq_some_iff
def du:=@List.map_nil
def dw:=@List.length_set
def dz:=@List.length_take
def d4:=@Int.mul_le_mul_of_nonneg_right
def d6:=@List.mem_append_left
def d7:=@List.mem_map
def d8:=@PySem.W.kia_one
def d9:=@Bool.and_eq_true
def eg:=@PySem.mem_of_lookup
def ek:=@List.sublist_flatten_of_mem
def em:=@List.ext_getElem?
def e7:=@Int.toNat_natCast
def fb:=@List.pairwise_cons
def ff:=@List.flatten_append
def fg:=@List.length_replicate
def fj:=@Nat.lt_succ_self
def fm:=@List.mem_flatten
def fq:=@List.length_drop
def ft:=@List.cons_append
def fu:=@Nat.lt_irrefl
def fy:=@PySem.Heap.get?_update_self
def fz:=@PySem.F.plainAttrs_list
def f6:=@List.mem_filter
def f7:=@List.getElem?_concat_length
def f9:=@Int.mul_add
def gc:=@List.singleton_append
def gf:=@List.drop_eq_getElem_cons
def gk:=@Nat.lt_succ_of_lt
def gl:=@List.getElem?_set
def gm:=@List.sum_cons
def gp:=@List.replicate_succ
def gq:=@List.all_eq_true
def gz:=@Nat.zero_le
def h9:=@List.take_append_of_le_length
def ib:=@List.eq_nil_of_length_eq_zero
def ie:=@Int.le_refl
def ig:=@Int.add_mul
def ij:=@Option.map_eq_some_iff
def il:=@List.filter_eq_nil_iff
def im:=@Int.mul_right_comm
def io:=@Int.mul_comm
def ip:=@Int.mul_assoc
def iq:=@List.pairwise_append
def iu:=@List.map_set
def iw:=@List.map_map
def iy:=@Int.zero_add
def i5:=@List.length_pos_iff
def i6:=@List.length_flatten
def i8:=@PySem.Heap.size_push
def jb:=@PySem.W.callWith_K
def jc:=@List.filter_append
def jf:=@List.filter_cons_of_pos
def jg:=@List.filter_cons_of_neg
def jh:=@Int.eq_ofNat_of_zero_le
def jm:=@List.take_of_length_le
def jo:=@List.take_left
def jp:=@List.takeWhile_append_dropWhile
def js:=@List.length_singleton
def jy:=@List.of_mem_zip
def jz:=@List.filterMap_cons
def j1:=@Nat.zero_add
def j4:=@List.zip_cons_cons
def j5:=@List.mem_range
def j6:=@Int.mul_nonneg
def j7:=@Int.le_of_mul_le_mul_right
def j8:=@Array.getElem?_eq_some_iff
def kh:=@List.length_range
def ki:=@Bool.not_eq_true'
def kn:=@PySem.W.mg_of
def ko:=@Option.isSome_iff_exists
def kq:=@Nat.le_of_not_lt
def kr:=@List.flatten_nil
def kt:=@List.drop_length
def lg:=@PySem.W.cellsFrom_some
def lh:=@Nat.ne_of_gt
def li:=@Option.map_none
def lj:=@List.nil_append
def lm:=@Bool.eq_iff_iff
def l7:=@Nat.sub_succ_lt_self
def mn:=@PySem.W.plainGet_of
def mq:=@List.getElem_of_mem
def mz:=@Int.add_assoc
def ng:=@List.mem_filterMap
def nh:=@List.map_replicate
def oa:=@PySem.W.kitx_list
def og:=@Nat.lt_of_succ_le
def oh:=@Nat.le_succ_of_le
def oj:=@Nat.le_of_lt
def om:=@List.set_set
def pz:=@List.getElem_mem
def qi:=@Nat.le_succ
def qj:=@Int.mul_le_mul_of_nonneg_left
def sg:=@Nat.le_antisymm
def sj:=@List.range_succ
def t6:=@PyProof.Rows.callWith_type1
def t9:=@Int.mul_lt_mul_of_pos_right
def u9:=@PySem.boot_len
def va:=@PySem.F.excBase_ValueError
def vb:=@Int.not_lt
def vd:=@Int.lt_of_mul_lt_mul_right
def wq:=@List.getLast?_eq_some_iff
def wt:=@List.getLast?_eq_none_iff
def yy:=@PySem.F.type_list_append
def yz:=@PySem.F.slot_list_append
abbrev g7:=List PySem.Str
abbrev g8:=List PySem.Value
abbrev g9:=Option PySem.Value
abbrev ia:=List PySem.Addr
abbrev ic:=List Nat
abbrev ik:=List Int
abbrev i0:=List PySem.Env
abbrev i3:=List PySem.Expr
abbrev ka:=Option PySem.Str
abbrev kb:=Option Int
abbrev kf:=PySem.W.Frag
abbrev kl:=List (PySem.Addr×PySem.Obj)
abbrev k4:=Array PySem.Value
namespace PySem.W.Fast
def tw15322368539271036669:=0
def tw16532565388948089689:=0
def tw15359066029296091914:=0
def tw12228147544654841872:=0
def tw3301900299095288138:=0
def tw18131806170395382410:=0
def tw390746492956994619:=0
def tw13494128715974936559:=0
def tw7803279730508470376:=0
def tw16534869220895929806:=0
def tw14726039395708169042:=0
def tw16443253333803420104:=0
def tw8884897592538199573:=0
def tw7725012626891826632:=0
def tw83686271494855530:=0
def tw14767782586175439492:=0
def tw10900955558412200155:=0
def tw2626721090386267002:=0
def tw11426443043654593942:=0
def tw1489821537144307907:=0
def tw5557865022116740448:=0
def tw11105427925141876665:=0
def tw2310152115407694317:=0
def tw12264938177008825913:=0
def tw17548525900877467917:=0
def tw6805036417131008916:=0
def tw8221379785114272625:=0
def tw5794113773821822752:=0
def tw9730515312287759631:=0
def tw5400519122571244047:=0
def tw13774891425750927617:=0
def tw14594615223095892107:=0
def tw13829647151781561520:=0
def tw11259471920729424210:=0
def tw13597084077063224634:=0
def tw17702111594606338733:=0
def tw13413012072783188425:=0
def tw3599352512664547791:=0
def tw6493330665566167147:=0
def tw3307053570587155738:=0
def tw15831293633207555195:=0
def tw4437080809759059605:=0
def tw7556450903620949716:=0
def tw11026720062418087932:=0
def tw8672185609985027439:=0
def tw9861558533797506370:=0
def tw5598528202930427401:=0
def tw15359102603107413231:=0
def tw14573953567509026023:=0
def tw3823070681319032280:=0
def tw12668837403108445984:=0
def tw7062433028394551289:=0
def tw210044324623842073:=0
def tw12791392028554949626:=0
def tw3940656549514326351:=0
def tw13372310052145129520:=0
def tw2043501010429613985:=0
def tw5638072327206742917:=0
def tw8106365122697232209:=0
def tw14731571944601670388:=0
def tw8983939867327204640:=0
def tw6163023441807191163:=0
def tw489658428743795868:=0
def tw1941158131923050496:=0
def tw90743548125290388:=0
def tw13026136331304254567:=0
def tw7810788576717098659:=0
def tw11457838680292950747:=0
def tw14057238044761739051:=0
def tw661426467697074520:=0
def tw13252475720556201039:=0
def tw17806559798037380195:=0
def tw3364652684642082450:=0
def tw15732433535119192703:=0
def tw6636851955436695:=0
def tw8287477372257394460:=0
def tw520760608191861299:=0
def tw9386486049590100709:=0
def tw4752798683845683672:=0
def tw8936502833500920895:=0
def tw1042730745191015830:=0
def tw8168842266489454260:=0
def tw5830473581335204598:=0
def tw17945612443392747120:=0
def tw11878816300642521280:=0
def tw2678646209641352363:=0
def tw15711869671402154468:=0
def tw16010320434224640865:=0
def tw10051351566672146426:=0
def tw6483710568601462799:=0
def tw9798687865813937216:=0
def tw32442392172473029:=0
def tw11783018575412727463:=0
def tw2347949609080110336:=0
def tw16670337082191713251:=0
def tw14163884457187909044:=0
def tw2388936564005763016:=0
def tw8342137133837284574:=0
def tw11298351402639607737:=0
def tw18251893030405360759:=0
def tw17715355151536627880:=0
def tw5612918445027356653:=0
def tw7122239765987411625:=0
def tw6498599440046646152:=0
def tw17581998168518647442:=0
def tw7691101470794888783:=0
def tw8528296176800286927:=0
def tw923929161578708131:=0
def tw4855314216099888563:=0
def tw16518523057615377998:=0
def tw11944983581154280522:=0
def tw2975443145256112729:=0
def tw7027161504191823226:=0
def tw6860835561147346472:=0
def tw10184082262108008333:=0
def tw4432724790468297698:=0
def tw6304074034095042606:=0
def tw5051928251995058599:=0
def tw2653100503704486927:=0
def tw17436130570902122954:=0
def tw13954008924371047584:=0
def tw8596935767243345797:=0
def tw14643470665348594077:=0
def tw3018418718631485023:=0
def tw1431313312217236848:=0
def tw1628180050576995452:=0
def tw2071606587056475718:=0
def tw4889893562448275700:=0
def tw4685104083224611147:=0
def tw4895425382642465790:=0
def tw9234954786079030011:=0
def tw3614790197501818629:=0
def tw10012228790989939158:=0
def tw5996453799837528715:=0
def tw8890728187195941351:=0
def tw15229513291050255712:=0
def tw18258044017837031756:=0
def tw10405927150804094027:=0
def tw17731801680971310:=0
def tw6050367820228774611:=0
def tw2224808020388061643:=0
def tw14556100686425596895:=0
def tw13916040809530369296:=0
def tw9238318764281012090:=0
def tw8077465801024808693:=0
def tw12343515537098094102:=0
def tw3874008476511197758:=0
def tw1622557476127942605:=0
def tw11066789057533804942:=0
def tw11674209156167569879:=0
def tw13536869062205639005:=0
def tw12340551673284875809:=0
def tw7881732657216084209:=0
def tw13144248107758189823:=0
def tw14718228206582423800:=0
def tw7342397301655820149:=0
def tw11638739722516940127:=0
def tw6016840223995648031:=0
def tw14786972923689998084:=0
def tw16658151731271584020:=0
def tw11546335813446654231:=0
def tw4348695930679769728:=0
def tw10850915588502522953:=0
def tw13674210368510959279:=0
def tw2702439272556505636:=0
def tw14230716291997388288:=0
def tw2811824731477432661:=0
def tw4050732226601590682:=0
def tw4107987533246476745:=0
def tw2325606590763678580:=0
def tw3872529491428680710:=0
def tw4889039987935711080:=0
def tw8694474041912759065:=0
def tw15594794917597159775:=0
def tw16350272775003310265:=0
def tw15848108554550008055:=0
def tw11073039516269669748:=0
def tw4268622498170725944:=0
def tw11478856704950905501:=0
def tw16888146075410284241:=0
def tw9679322562879927657:=0
def tw7310704335439136302:=0
def tw5166654182613107631:=0
def tw4721184679926851813:=0
def tw6986209519638567572:=0
def tw12538974470732270587:=0
def tw11201857759490133884:=0
def tw16351569913832003452:=0
def tw10276145494591126561:=0
def tw13617027138147984029:=0
def tw12482032908850363226:=0
def tw5640359272655481057:=0
def tw15146276678955778912:=0
def tw5398993404786027997:=0
def tw16871584232092169642:=0
def tw15509039178638469261:=0
def tw18119763995172722959:=0
def tw1835574034286846014:=0
def tw10020126217023852985:=0
def tw7399771249758580916:=0
def tw7470472829763555575:=0
def tw16894040140493949133:=0
def tw5910249020813440600:=0
def tw3629635586054587791:=0
def tw12455167005163577674:=0
def tw2620867373401844138:=0
def tw5062136379586313953:=0
def tw11114441641902549053:=0
def tw13341254790193404362:=0
def tw683955573386985426:=0
def tw15418358042037484344:=0
def tw5510226504961764771:=0
def tw15399392379912836652:=0
def tw986972310500984271:=0
def tw6100595737554702911:=0
def tw13923418127731320396:=0
end PySem.W.Fast
open_top headO for PySem.Challenge.rw_rotstacks_k40_whole_never_dearer
noncomputable section
namespace L2
open PySem PySem.Spec PyProof.Rows
abbrev Key:=Sum Int Str
def z2p:Key->Value->Bool
 | .inl k,v=>Value.isInt k v
 | .inr x,v=>Value.isStrOf x v
def keyH(w:World):Key->Int
 | .inl k=>hashInt k
 | .inr x=>hashStr w x
def tz:∀ {k:Key} {v:Value},z2p k v=true->(∃i t,k=Sum.inl i/\v=Value.int i t)\/(∃x t,k=Sum.inr x/\v=Value.str x t)
 | .inl i,v,h=>by
   obtain⟨t,e⟩:=Value.isInt_shape (k:=i) (v:=v) h;exact .inl ⟨i,t,rfl,e⟩
 | .inr x,v,h=>by
   obtain⟨t,e⟩:=Value.isStrOf_shape (x:=x) (v:=v) h;exact .inr ⟨x,t,rfl,e⟩
def z2q(a b:Int):decide ((Sum.inl a:Key)=Sum.inl b)=(a==b):=by
 by_cases e:a=b
 ·subst e;simp
 ·have h:¬(Sum.inl a:Key)=Sum.inl b:=λq=>e (Sum.inl.inj q)
  rw[decide_eq_false h];exact(beq_eq_false_iff_ne.mpr e).symm
def z2r(a b:Str):decide ((Sum.inr a:Key)=Sum.inr b)=decide (a=b):=by
 by_cases e:a=b
 ·subst e;simp
 ·have h:¬(Sum.inr a:Key)=Sum.inr b:=λq=>e (Sum.inr.inj q)
  rw[decide_eq_false h,decide_eq_false e]
def z2s(a:Int)(b:Str):decide ((Sum.inl a:Key)=Sum.inr b)=false:=decide_eq_false (λq=>nomatch q)
def z2t(a:Str)(b:Int):decide ((Sum.inr a:Key)=Sum.inl b)=false:=decide_eq_false (λq=>nomatch q)
def ztr(prog:Program)(w:World):PySem.KeyKind prog w Key where
 is:=z2p
 hash:=keyH w
 inj:=λv a b J I=>by
  rcases tz J with⟨i,t,rfl,rfl⟩ | ⟨x,t,rfl,rfl⟩
  ·rcases tz I with⟨j,u,rfl,e⟩ | ⟨y,u,rfl,e⟩
   ·injection e with e1 _;rw[e1]
   ·exact nomatch e
  ·rcases tz I with⟨j,u,rfl,e⟩ | ⟨y,u,rfl,e⟩
   ·exact nomatch e
   ·injection e with e1 _;rw[e1]
 byValue:=λk v h=>by
  rcases tz h with⟨i,t,rfl,rfl⟩ | ⟨x,t,rfl,rfl⟩ <;> rfl
 pyHash:=λD h=>by
  rcases tz D with⟨i,t,rfl,rfl⟩ | ⟨x,t,rfl,rfl⟩
  ·exact wpAny_pyHash_int h
  ·exact wpAny_pyHash_str h
 eqBool:=λR D h=>by
  rcases tz R with⟨i,t,rfl,rfl⟩ | ⟨x,t,rfl,rfl⟩
  ·rcases tz D with⟨j,u,rfl,rfl⟩ | ⟨y,u,rfl,rfl⟩
   ·rw[z2q] at h;exact wpAny_eqBool_int h
   ·rw[z2s] at h;exact SeqAt.EqAt.int_str i t y u _ _ _ _ h
  ·rcases tz D with⟨j,u,rfl,rfl⟩ | ⟨y,u,rfl,rfl⟩
   ·rw[z2t] at h;exact SeqAt.EqAt.str_int x t j u _ _ _ _ h
   ·rw[z2r] at h;exact wpAny_eqBool_str h
 «strs»:=λk x t v h=>by
  rcases tz h with⟨i,u,rfl,e⟩ | ⟨y,u,rfl,e⟩
  ·exact nomatch e
  ·injection e with e1 _
   subst e1;cases v <;> rfl
inductive V where
 | non | bl (b:Bool) | int (i:Int) | str (x:Str) | byt (b:Array UInt8) | flt (b:UInt64) | ref (a:Addr) | ty (n:String)
 deriving DecidableEq
abbrev k6:=List V
def RelV:V->Value->Prop
 | .non,u=>u=Value.none
 | .bl b,u=>u=Value.bool b
 | .int i,u=>∃t,u=Value.int i t
 | .str x,u=>∃t,u=Value.str x t
 | .byt b,u=>∃t,u=Value.bytes b t
 | .flt b,u=>∃t,u=Value.float b t
 | .ref a,u=>u=Value.ref a
 | .ty n,u=>u=Value.type n
abbrev Vals:k6->g8->Prop:=Paired RelV
def Vals.length{xs:k6}{us:g8}(r:Vals xs us):xs.length=us.length:=Paired.length r
def Vals.get:∀ {xs:k6} {us:g8} {i:Nat} {x:V},Vals xs us->xs[i]?=some x->∃u,us[i]?=some u/\RelV x u
 | _,_,_,_,.nil,e=>by simp at e
 | _,_,0,_,.cons r _,e=>by simp at e;subst e;exact⟨_,rfl,r⟩
 | _,_,i+1,x,.cons _ t,e=>by
   obtain⟨u,h1,h2⟩:=Vals.get (i:=i) (x:=x) t (by simpa using e);exact⟨u,by simpa using h1,h2⟩
def Vals.set{x:V}{u:Value}(r:RelV x u):∀ {xs:k6} {us:g8} (i:Nat),Vals xs us->Vals (xs.set i x) (us.set i u)
 | _,_,_,.nil=>.nil
 | _,_,0,.cons _ t=>.cons r t
 | _,_,i+1,.cons q t=>.cons q (Vals.set r i t)
variable{xs ys:k6}{us:g8}
def Vals.append{ws:g8}(h:Vals xs us)(s:Vals ys ws):Vals (xs++ys) (us++ws):=by
 induction h with
 | nil=>exact s
 | cons r _ q=>exact .cons r q
def Vals.take:∀ {xs:k6} {us:g8} (n:Nat),Vals xs us->Vals (xs.take n) (us.take n)
 | _,_,0,_=>.nil
 | _,_,_+1,.nil=>.nil
 | _,_,n+1,.cons r t=>.cons r (Vals.take n t)
def Vals.drop:∀ {xs:k6} {us:g8} (n:Nat),Vals xs us->Vals (xs.drop n) (us.drop n)
 | _,_,0,r=>r
 | _,_,_+1,.nil=>.nil
 | _,_,n+1,.cons _ t=>Vals.drop n t
def RelO:Option V->g9->Prop
 | some v,some u=>RelV v u
 | none,none=>True
 | _,_=>False
def KV{κ:Type}:List (κ×V)->List (κ×Value)->Prop:=Paired λ(p:κ×V) (q:κ×Value)=>p.1=q.1/\RelV p.2 q.2
def kV:Key->V
 | .inl i=>.int i
 | .inr x=>.str x
inductive HO where
 | lst (xs:k6)
 | tup (xs:k6)
 | dK (kvs:List (Key×V)) | dT (kvs:List (List Key×V))
 | set (S:Int->Bool) (n:Nat)
 | ins (C dx:Addr) (fs:List (Str×V))
 | own (x:Addr)
 | xd (fs:List (Str×V))
 | met (f x:Addr)
 | rng (lo hi:Int)
 | frz (o:Obj) (u:HO)
 | tbl (ps:k4)
 | ext (φ:Heap->Prop)
abbrev Hp:=Addr->Option HO
def upd(H:Hp)(a:Addr)(o:HO):Hp:=λb=>if b=a then some o else H b
variable{H:Hp}{a:Addr}{o:HO}
def km:upd H a o a=some o:=by unfold upd;rw[if_pos rfl]
variable{b:Addr}
def gv(h:b≠a):upd H a o b=H b:=by unfold upd;rw[if_neg h]
def nk(h:H a=some o)(h':H b=none):a≠b:=by
 intro e;subst e;rw[h] at h';cases h'
section
variable (P:Program) (w:World)
def ObjOk(H:Hp)(h:Heap)(a:Addr):HO->Prop
 | .lst xs=>xs.length<=sizeLine/\∃(its:g8) (n:Nat),Vals xs its/\h.get? a=some { cls:=.type "list",data:=.seq its.toArray n }
 | .tup xs=>xs.length<=sizeLine/\∃its:g8,Vals xs its/\IsTup h a its.toArray
 | .dK kvs=>kvs.length<=sizeLine/\(a==sysModules)=false/\∃vs,KV kvs vs/\h.DictOf (ztr P w) a vs
 | .dT kvs=>kvs.length<=sizeLine/\(a==sysModules)=false/\∃xs:List (List Key×Addr×Value),
    Paired (λ(p:List Key×V) (q:List Key×Addr×Value)=>p.1=q.1/\H q.2.1=some (.tup (p.1.map kV))/\RelV p.2 q.2.2) kvs xs /\
    ∃o es D,h.get? a=some o/\o.ExactDict/\o.data=.dict es D/\es.toList=xs.map (entryOfKey (tupleKind (ztr P w)))/\(xs.map (·.1)).Nodup
 | .set S n=>h.SetOf (intKind P w) a S n
 | .ins C dx fs=>H dx=some (.own a)/\fs.length<=1000/\dx≠a/\h.get? a=some (PySem.W.instObj C dx) /\
    ∃mA,h.Ns1 dx mA/\(∀f,RelO (fs.lookup f) (mA f))/\PySem.Within mA (fs.map (·.1))
 | .own _=>∃o,h.get? a=some o
 | .xd fs=>∃mA,h.Ns1 a mA/\∀f,RelO (fs.lookup f) (mA f)
 | .rng lo hi=>∃t u v,h.get? a=some { cls:=.type "range",data:=.fields #[.int lo t,.int hi u,.int 1 v] }
 | .frz o u=>h.get? a=some o/\ObjOk H h a u
 | .tbl ps=>h.get? a=some { cls:=.none,data:=.fields ps }
 | .met f x=>h.get? a=some (PySem.W.methodObj (.ref f) (.ref x))
 | .ext φ=>φ h/\(∃o,h.get? a=some o)/\∀h1 h2:Heap,φ h1->(∀o,h1.get? a=some o->h2.get? a=some o)->φ h2
def HOk(H:Hp)(h:Heap):Prop:=∀a o,H a=some o->ObjOk P w H h a o
end
variable{P:Program}{w:World}{h:Heap}
def ObjOk.lt(x:ObjOk P w H h a o):a<h.objs.size:=by
 cases o with
 | lst xs=>obtain⟨_,_,_,_,e⟩:=x;exact bi e
 | tup xs=>obtain⟨_,_,_,p⟩:=x;exact p.lt
 | dK kvs=>obtain⟨_,_,_,_,o,_,_,e,_⟩:=x;exact bi e
 | dT kvs=>obtain⟨_,_,_,_,o,_,_,e,_⟩:=x;exact bi e
 | set S n=>obtain⟨o,_,_,_,e,_⟩:=x;exact bi e
 | ins C dx fs=>obtain⟨_,_,_,e,_⟩:=x;exact bi e
 | own y=>obtain⟨_,e⟩:=x;exact bi e
 | xd fs=>obtain⟨_,⟨_,_,_,e,_⟩,_⟩:=x;exact bi e
 | rng lo hi=>obtain⟨_,_,_,e⟩:=x;exact bi e
 | frz ob u=>obtain⟨e,_⟩:=x;exact bi e
 | tbl ps=>exact bi (show h.get? a=some _ from x)
 | met f y=>exact bi (show h.get? a=some _ from x)
 | ext φ=>obtain⟨_,⟨_,e⟩,_⟩:=x;exact bi e
variable{α:Type}
def Paired.mapP{β:Type}{F G:α->β->Prop}{D:List α}{I:List β}(h:Paired F D I)(f:∀a b,F a b->G a b):Paired G D I:=by
 induction h with
 | nil=>exact .nil
 | cons r _ q=>exact .cons (f _ _ r) q
variable{H':Hp}{h':Heap}
def ObjOk.stay(x:ObjOk P w H h a o)(k:∀b u,(b=a\/H b=some (.own a))->h.get? b=some u->h'.get? b=some u)(J:∀b,H b=some (.own a)->H' b=some (.own a))(R:∀b xs,H b=some (.tup xs)->H' b=some (.tup xs)):ObjOk P w H' h' a o:=by
 induction o with
 | lst xs=>obtain⟨z,its,n,r,e⟩:=x;exact⟨z,its,n,r,k _ _ (.inl rfl) e⟩
 | tup xs=>obtain⟨z,its,r,D,e,c⟩:=x;exact⟨z,its,r,D,k _ _ (.inl rfl) e,c⟩
 | dK kvs=>obtain⟨z,y,vs,r,D,es,I,e,c⟩:=x;exact⟨z,y,vs,r,D,es,I,k _ _ (.inl rfl) e,c⟩
 | dT kvs =>
   obtain⟨z,y,xs,r,D,es,I,e,c⟩:=x;exact⟨z,y,xs,Paired.mapP r λp q z=>⟨z.1,R _ _ z.2.1,z.2.2⟩,D,es,I,k _ _ (.inl rfl) e,c⟩
 | set S n=>obtain⟨D,es,I,t,e,c⟩:=x;exact⟨D,es,I,t,k _ _ (.inl rfl) e,c⟩
 | ins C dx fs =>
   obtain⟨d,z,U,e,mA,⟨od,es,I,V,c⟩,r⟩:=x;exact⟨J _ d,z,U,k _ _ (.inl rfl) e,mA,⟨od,es,I,k _ _ (.inr d) V,c⟩,r⟩
 | own y=>obtain⟨D,e⟩:=x;exact⟨D,k _ _ (.inl rfl) e⟩
 | xd fs=>obtain⟨mA,⟨od,es,I,e,c⟩,r⟩:=x;exact⟨mA,⟨od,es,I,k _ _ (.inl rfl) e,c⟩,r⟩
 | rng lo hi=>obtain⟨t,u,v,e⟩:=x;exact⟨t,u,v,k _ _ (.inl rfl) e⟩
 | frz D u ih=>obtain⟨e,q⟩:=x;exact⟨k _ _ (.inl rfl) e,ih q⟩
 | tbl ps =>
   have e:h.get? a=some { cls:=.none,data:=.fields ps }:=x;show h'.get? a=some { cls:=.none,data:=.fields ps };exact k a _ (.inl rfl) e
 | met f y =>
   have e:h.get? a=some (PySem.W.methodObj (.ref f) (.ref y)):=x;show h'.get? a=some (PySem.W.methodObj (.ref f) (.ref y));exact k a _ (.inl rfl) e
 | ext φ=>obtain⟨p,⟨o,e⟩,st⟩:=x;exact⟨st _ _ p λo q=>k _ _ (.inl rfl) q,⟨o,k _ _ (.inl rfl) e⟩,st⟩
def HOk.lt(x:HOk P w H h)(e:H a=some o):a<h.objs.size:=(x a o e).lt
def HOk.fresh(x:HOk P w H h)(e:h.objs.size<=a):H a=none:=by
 cases q:H a with
 | none=>rfl
 | some u=>exact absurd (bh (x.lt q) e) (fu _)
def HOk.kept(x:HOk P w H h)(k:∀b u,h.get? b=some u->h'.get? b=some u):HOk P w H h':=λa o e =>
 (x a o e).stay (λb u _ q=>k b u q) (λ_ q=>q) λ_ _ q=>q
def HOk.laid(x:HOk P w H h)(k:∀b u,h.get? b=some u->h'.get? b=some u)(J:h.objs.size<=a)(new:ObjOk P w (upd H a o) h' a o):HOk P w (upd H a o) h':=λb u e=>by
 have D:=x.fresh J;by_cases I:b=a
 ·subst I;rw[km] at e;cases e;exact new
 ·rw[gv I] at e
  exact(x b u e).stay (λc v _ q=>k c v q) (λc q=>by rw[gv (nk q D)];exact q) λc xs q=>by rw[gv (nk q D)];exact q
def Rd(H:Hp)(a:Addr)(u:HO):Prop:=H a=some u\/∃o,H a=some (.frz o u)
variable{u:Value}
def Rd.ok{u:HO}(r:Rd H a u)(x:HOk P w H h):ObjOk P w H h a u:=by
 rcases r with r | ⟨o,r⟩
 ·exact x a u r
 ·obtain⟨_,q⟩:=x a _ r
  exact q
def Mut:Option HO->Prop
 | some (.lst _)=>True
 | some (.dK _)=>True
 | some (.dT _)=>True
 | some (.set _ _)=>True
 | some (.ins _ _ _)=>True
 | some (.ext _)=>True
 | _=>False
variable{x e:Addr}{o':HO}
def HOk.write(ok:HOk P w H h)(R:Mut (H x))(V:e=x\/H e=some (.own x))(k:∀b u,b≠e->h.get? b=some u->h'.get? b=some u)(U:∃u,h'.get? e=some u)(new:ObjOk P w (upd H x o') h' x o'):HOk P w (upd H x o') h':=λb u q=>by
 have I:∀c y,H c=some (.own y)->c≠x:=λc y r z=>by subst z;rw[r] at R;exact R
 have J:∀c xs,H c=some (.tup xs)->c≠x:=λc xs r z=>by subst z;rw[r] at R;exact R
 by_cases S:b=x
 ·subst S;rw[km] at q;cases q;exact new
 ·rw[gv S] at q
  by_cases D:b=e
  ·have Y:H b=some (.own x):=by
    rcases V with z | z
    ·exact absurd (D.trans z) S
    ·rw[D];exact z
   rw[q] at Y;cases Y;obtain⟨v,Z⟩:=U;exact⟨v,by rw[D];exact Z⟩
  ·refine(ok b u q).stay (λc v hc r=>k c v ?_ r) (λc r=>by rw[gv (I c b r)];exact r) λc xs r=>by rw[gv (J c xs r)];exact r
   rcases hc with rfl | hc
   ·exact D
   ·rintro rfl
    rcases V with z | z
    ·exact I c b hc z
    ·rw[hc] at z;cases z;exact S rfl
structure Un (fs ex:ia) (H H':Hp) (h h':Heap):Prop where
 keep:∀b o,h.get? b=some o->H b=none->b∉fs->b∉ex->h'.get? b=some o
 slot:∀b o,h.get? b=some o->H b=none->b∈fs->b∉ex->∃sl,h'.get? b=some { o with slots:=sl }
 free:∀b o,h.get? b=some o->H b=none->b∉ex->H' b=none
 there:∀b o,h.get? b=some o->b∉ex->∃o',h'.get? b=some o'
 tups:∀b xs,H b=some (.tup xs)->H' b=some (.tup xs)
 frzs:∀b o u,H b=some (.frz o u)->H' b=some (.frz o u)
 tbls:∀b ps,H b=some (.tbl ps)->∃more,H' b=some (.tbl (ps++more))
variable{fs ex:ia}{H1:Hp}{h1:Heap}
def Un.any(u:Un fs ex H H1 h h1){D:Obj}(q:h.get? b=some D)(n:H b=none)(I:b∉ex):∃sl,h1.get? b=some { D with slots:=sl }:=by
 by_cases J:b∈fs
 ·exact u.slot b D q n J I
 ·exact⟨D.slots,u.keep b D q n J I⟩
def Un.kept(k:∀b u,h.get? b=some u->h'.get? b=some u):Un fs ex H H h h' :=
 ⟨λb D q _ _ _=>k b D q,λb D q _ _ _=>⟨D.slots,k b D q⟩,λ_ _ _ n _=>n,λb D q _=>⟨D,k b D q⟩,λ_ _ q=>q,λ_ _ _ q=>q,λ_ ps q=>⟨#[],by rw[q];simp⟩⟩
def Un.refl:Un fs ex H H h h:=Un.kept λ_ _ q=>q
def Un.laid(k:∀b u,h.get? b=some u->h'.get? b=some u)(I:h.objs.size<=a)(D:H a=none):Un fs ex H (upd H a o) h h' where
 keep:=λb u q _ _ _=>k b u q
 slot:=λb u q _ _ _=>⟨u.slots,k b u q⟩
 free:=λb u q n _=>by rw[gv (b8 (bh (bi q) I))];exact n
 there:=λb u q _=>⟨u,k b u q⟩
 tups:=λb xs q=>by rw[gv (nk q D)];exact q
 frzs:=λb u xs q=>by rw[gv (nk q D)];exact q
 tbls:=λb ps q=>⟨#[],by rw[gv (nk q D),q];simp⟩
def Un.write(I:Mut (H x))(V:e=x\/H e=some (.own x))(k:∀b u,b≠e->h.get? b=some u->h'.get? b=some u)(J:∃u,h'.get? e=some u):Un fs ex H (upd H x o) h h':=by
 have S:∀b,H b=none->b≠x:=λb n z=>by subst z;rw[n] at I;exact I
 have U:∀b,H b=none->b≠e:=λb n z=>by
  subst z;rcases V with r | r
  ·exact S b n r
  ·rw[n] at r;cases r
 have R:∀b u,H b=some u->¬Mut (some u)->b≠x:=λb u q nm z=>by subst z;rw[q] at I;exact nm I
 refine⟨λb u q n _ _=>k b u (U b n) q,λb u q n _ _=>⟨u.slots,k b u (U b n) q⟩,λb u q n _=>by rw[gv (S b n)];exact n,λb u q _=>?_,
  λb xs q=>by rw[gv (R b _ q λz=>z)];exact q,λb u xs q=>by rw[gv (R b _ q λz=>z)];exact q,λb ps q=>⟨#[],by rw[gv (R b _ q λz=>z),q];simp⟩⟩
 by_cases D:b=e
 ·subst D;exact J
 ·exact⟨u,k b u D q⟩
def trk(h:Heap)(H:Hp):ia:=(List.range h.objs.size).filter λa=>(H a).isSome
def hidT(h:Heap)(H:Hp):Heap:=PySem.W.hideAll h (trk h H)
def zts(h:Heap)(H:Hp):(hidT h H).objs.size=h.objs.size:=PySem.W.hideAll_size _ _
variable{o:Obj}
def zwp(e:h.get? b=some o)(n:H b=none):(hidT h H).get? b=some o :=
 PySem.W.hideAll_get _ e λD=>by
  have q:(H b).isSome=true:=(f6.mp D).2;rw[n] at q;simp at q
def z0c(e:(hidT h H).get? b=some o):h.get? b=some o/\H b=none:=by
 have e':h.get? b=some o:=PySem.W.of_hideAll (trk h H) e;refine⟨e',?_⟩;cases q:H b with
 | none=>rfl
 | some x =>
   have D:b∈trk h H:=f6.mpr ⟨j5.mpr (bi e'),by simp[q]⟩;have z:(hidT h H).get? b=none:=PySem.W.hideAll_none (trk h H) D;rw[z] at e;cases e
def z0d(g h:Heap)(L:Addr):kl:=(List.range h.objs.size).filterMap λa=>if a=L\/(g.get? a).isSome=true then none else(h.get? a).map λo=>(a,o)
def rest(g h:Heap)(L d:Addr):kl:=(z0d g h L).filter λp=>decide (p.1≠d)
structure Mod (K:kf) (mg:Str->g9) (base:Heap):Prop where
 kin:K.In base
 glob:base.Ns mainGlobals mg
 blt:∃mb,base.Ns builtinsNs mb/\∀x:Str,x ≠ "__name__"->mb x=bootBuiltins x
 nolimit:base.NoLimit
structure Cx where
 prog:Program
 w:World
 K:kf
 mg:Str->g9
 base:Heap
 A:Around
 N:g7
 s₀:Shared
 H₀:Hp
 env:Env
 outer:i0
 stack:i0
 ex:ia
 fn:Str->Bool
 calm:Bool
 pn:kl
 xe:Value->Shared->Prop
def frs(l:i0):ia:=l.filterMap (·.frame)
protected abbrev Cx.fs(X:Cx):ia:=frs X.outer
def Vis(sc:Scope)(x:Str):Prop:=sc.names.lookup x=some .local\/sc.names.lookup x=some .cell\/sc.names.lookup x=some .free
def Loc(sc:Scope)(x:Str):Prop:=sc.names.lookup x=some .local\/sc.names.lookup x=some .cell
def Look(env:Env)(h:Heap)(m:Str->g9)(x:Str)(u:Value):Prop :=
 (env.kindOf x=some .local/\m x=some u)\/((env.kindOf x=some .cell\/env.kindOf x=some .free)/\∃c,env.cells.lookup x=some c/\h.IsCell c (some u))
structure Cx.Ok (X:Cx):Prop where
 mod:Mod X.K X.mg X.base
 kind:X.env.scope.kind=.function
 glob:X.env.globals=mainGlobals
 blt:X.env.builtins=builtinsNs
 above:X.s₀.heap.objs.size<=X.env.locals
 inj:∀x y c,X.env.cells.lookup x=some c->X.env.cells.lookup y=some c->x=y
 has:∀x,(X.env.kindOf x=some .cell\/X.env.kindOf x=some .free)->∃c,X.env.cells.lookup x=some c
 cab:∀x c,X.fn x=true->X.env.cells.lookup x=some c->X.s₀.heap.objs.size<=c
 hd:X.calm=true->X.A.handled=none
 frames:X.A.frames=some X.stack
 stk:X.stack=X.outer\/(X.stack=X.env::X.outer/\X.env.frame=some X.env.locals)
 exf:∀b∈X.ex,b≠X.env.locals/\∀x c,X.env.cells.lookup x=some c->c≠b
 bs:∀b o,X.base.get? b=some o->X.s₀.heap.get? b=some o/\X.H₀ b=none
 bsz:X.base.objs.size<=X.s₀.heap.objs.size
 noex:∀b o,X.base.get? b=some o->b∉X.ex
 exfs:∀b∈X.ex,b∉X.fs
 funs:X.s₀.heap.FunFrames X.base X.outer
 frf:∀b∈X.fs,X.H₀ b=none
structure Inv (X:Cx) (pins:kl) (σ:List (Option V)) (H:Hp) (s:Shared):Prop where
 ok:X.Ok
 os:s.os=X.s₀.os
 bare:AllBare s.gens
 base:Un X.fs X.ex X.H₀ H X.s₀.heap s.heap
 loc:∃m,s.heap.Ns X.env.locals m/\∀(i:Nat) (x:Str) (v:V),X.N[i]?=some x->σ[i]?=some (some v)->Vis X.env.scope x->∃u,RelV v u/\Look X.env s.heap m x u
 cell:∀x c,X.env.cells.lookup x=some c->∃v,s.heap.IsCell c v
 free:H X.env.locals=none
 freeC:∀x c,X.env.cells.lookup x=some c->H c=none
 pin:∀p∈X.pn++pins,s.heap.get? p.1=some p.2/\H p.1=none/\p.1≠X.env.locals/\p.1∉X.fs/\∀v,p.2.data≠.cell v
 hok:HOk X.prog X.w H s.heap
 len:σ.length=X.N.length
variable{X:Cx}
def Cx.Ok.nofr(ok:X.Ok)(e:X.base.get? b=some o):b∉X.fs:=λD=>by
 have:=(ok.funs.mem D).1;rw[e] at this;cases this
variable{pins:kl}{σ:List (Option V)}{s:Shared}
protected def Inv.bs(I:Inv X pins σ H s):∀b o,X.base.get? b=some o->s.heap.get? b=some o/\H b=none:=λb o e =>
 ⟨I.base.keep b o (I.ok.bs b o e).1 (I.ok.bs b o e).2 (I.ok.nofr e) (I.ok.noex b o e),I.base.free b o (I.ok.bs b o e).1 (I.ok.bs b o e).2 (I.ok.noex b o e)⟩
def Inv.bk(I:Inv X pins σ H s):∀b o,X.base.get? b=some o->s.heap.get? b=some o:=λb o e=>(I.bs b o e).1
def Inv.mod(I:Inv X pins σ H s):Mod X.K X.mg X.base:=I.ok.mod
def Inv.kIn(I:Inv X pins σ H s):X.K.In s.heap:=I.ok.mod.kin.keeps I.bk
def Inv.lt(I:Inv X pins σ H s):X.env.locals<s.heap.objs.size:=let ⟨_,D,_⟩:=I.loc;D.lt
def Inv.sz(I:Inv X pins σ H s):X.s₀.heap.objs.size<=s.heap.objs.size:=de I.ok.above (oj I.lt)
def Inv.nofs(I:Inv X pins σ H s)(h:s.heap.objs.size<=a):a∉X.fs:=λD=>by
 obtain⟨_,o,J,_⟩:=I.ok.funs.mem D;exact absurd (bh (bi J) (de I.sz h)) (fu _)
def Inv.cne(I:Inv X pins σ H s):∀x c,X.env.cells.lookup x=some c->c≠X.env.locals:=λx c e z=>by
 obtain⟨v,o,R,S⟩:=I.cell x c e;obtain⟨m,⟨o',es,U,D,J,_⟩,_⟩:=I.loc;rw[z,D] at R;cases R;rw[J] at S;cases S
def Inv.funs(I:Inv X pins σ H s):s.heap.FunFrames X.base X.outer:=by
 have all:∀(l:i0),(∀b∈frs l,b∈X.fs)->X.s₀.heap.FunFrames X.base l->s.heap.FunFrames X.base l:=by
  intro l;induction l with
  | nil=>intro _ _;trivial
  | cons env r ih =>
    intro S U;obtain⟨V,⟨L,o,D,Y,Z,a⟩,c⟩:=U;have J:L∈X.fs:=S L (by unfold frs;rw[jz,D];exact bc);obtain⟨sl,e⟩:=I.base.slot L o Z (I.ok.frf L J) J λz=>I.ok.exfs L z J;exact⟨V,⟨L,_,D,Y,e,a⟩,ih (λb R=>S b (by unfold frs;rw[jz,D];exact am _ R)) c⟩
 exact all X.outer (λ_ R=>R) I.ok.funs
def Inv.stack(I:Inv X pins σ H s):s.heap.FunFrames X.base X.stack:=by
 rcases I.ok.stk with e | ⟨e,hf⟩
 ·rw[e];exact I.funs
 ·rw[e]
  obtain⟨m,D,_⟩:=I.loc;refine .cons (by rw[I.ok.kind];decide) hf D ?_ I.funs;exact Heap.get?_none_of_le (de I.ok.bsz I.ok.above)
def Inv.stkSub(I:Inv X pins σ H s):∀b∈frs X.stack,b∈X.env.locals::X.fs:=λb D=>by
 rcases I.ok.stk with e | ⟨e,hf⟩
 ·rw[e] at D;exact am _ D
 ·rw[e] at D
  unfold frs at D;rw[jz,hf] at D;exact D
def Inv.stkFree(I:Inv X pins σ H s):∀b∈frs X.stack,H b=none:=λb hb=>by
 rcases ce.mp (I.stkSub b hb) with e | hb
 ·rw[e];exact I.free
 ·obtain⟨_,o,D,_⟩:=I.ok.funs.mem hb
  exact I.base.free b o D (I.ok.frf b hb) λz=>I.ok.exfs b z hb
variable{g':Array GenState}{t':Nat}{d':Drawn}{ch:ia}
protected def Inv.step(I:Inv X pins σ H s)(J:∀b∈ch,(b∈X.ex\/X.s₀.heap.objs.size<=b)/\b≠X.env.locals/\(∀x c,X.env.cells.lookup x=some c->c≠b)/\∀p∈X.pn++pins,p.1≠b)(keep:∀b o,b≠X.env.locals->b∉X.fs->b∉ch->s.heap.get? b=some o->H b=none->h'.get? b=some o)(Y:∀b o,b≠X.env.locals->b∈X.fs->b∉ch->s.heap.get? b=some o->H b=none->∃sl,h'.get? b=some { o with slots:=sl })(free:∀b o,b∉ch->s.heap.get? b=some o->H b=none->H' b=none)(Z:∀b o,b∉ch->s.heap.get? b=some o->∃o',h'.get? b=some o')(g:∀b xs,H b=some (.tup xs)->H' b=some (.tup xs))(h:∀b o u,H b=some (.frz o u)->H' b=some (.frz o u))(j:∀b ps,H b=some (.tbl ps)->∃more,H' b=some (.tbl (ps++more)))(L:∀m,s.heap.Ns X.env.locals m->h'.Ns X.env.locals m)(A:HOk X.prog X.w H' h')(M:AllBare g') :
  Inv X pins σ H' { s with heap:=h',gens:=g',drawn:=d',toks:=t' }:=by
 have t:∀b o,X.s₀.heap.get? b=some o->b≠X.env.locals:=λb o e=>b8 (bh (bi e) I.ok.above);have U:∀b o,X.s₀.heap.get? b=some o->b∉X.ex->b∉ch:=λb o e D a=>by
  rcases(J b a).1 with z | z
  ·exact D z
  ·exact absurd (bh (bi e) z) (fu _)
 have R:∀x c,X.env.cells.lookup x=some c->∀v,s.heap.IsCell c v->h'.IsCell c v:=λx c e v N=>by
  obtain⟨o,f,B⟩:=N;have S:c∉ch:=λz=>(J c z).2.2.1 x c e rfl;by_cases E:c∈X.fs
  ·obtain⟨sl,q⟩:=Y c o (I.cne x c e) E S f (I.freeC x c e)
   exact⟨_,q,B⟩
  ·exact⟨o,keep c o (I.cne x c e) E S f (I.freeC x c e),B⟩
 refine⟨I.ok,I.os,M,⟨λb o e n a D=>?_,λb o e n a D=>?_,λb o e n D=>?_,λb o e D=>?_,λb xs e=>g b xs (I.base.tups b xs e),λb o xs e=>h b o xs (I.base.frzs b o xs e),λb ps e=>?_⟩,?_,λx c e=>?_,?_,λx c e=>?_,λp F=>?_,A,I.len⟩
 ·exact keep b o (t b o e) a (U b o e D) (I.base.keep b o e n a D) (I.base.free b o e n D)
 ·obtain⟨sl,V⟩:=I.base.slot b o e n a D
  obtain⟨C,y⟩:=Y b _ (t b o e) a (U b o e D) V (I.base.free b o e n D);exact⟨C,y⟩
 ·obtain⟨o',V⟩:=I.base.there b o e D
  exact free b o' (U b o e D) V (I.base.free b o e n D)
 ·obtain⟨o',V⟩:=I.base.there b o e D
  exact Z b o' (U b o e D) V
 ·obtain⟨O,V⟩:=I.base.tbls b ps e
  obtain⟨P,y⟩:=j b _ V;exact⟨O++P,by rw[y,Array.append_assoc]⟩
 ·obtain⟨m,Q,T⟩:=I.loc
  refine⟨m,L m Q,λi x v V y W=>?_⟩;obtain⟨u,r,l⟩:=T i x v V y W;refine⟨u,r,?_⟩;rcases l with l | ⟨k,c,e,z⟩
  ·exact .inl l
  ·exact .inr ⟨k,c,e,R x c e _ z⟩
 ·obtain⟨v,z⟩:=I.cell x c e
  exact⟨v,R x c e v z⟩
 ·obtain⟨m,⟨o,_,_,f,_⟩,_⟩:=I.loc
  exact free _ o (λz=>(J _ z).2.1 rfl) f I.free
 ·obtain⟨v,o,f,B⟩:=I.cell x c e
  exact free c o (λz=>(J c z).2.2.1 x c e rfl) f (I.freeC x c e)
 ·obtain⟨e,n,G,K,d⟩:=I.pin p F
  have S:p.1∉ch:=λz=>(J p.1 z).2.2.2 p F rfl;exact⟨keep p.1 p.2 G K S e n,free p.1 p.2 S e n,G,K,d⟩
def Inv.un(I:Inv X pins σ H s)(u:Un X.fs [] H H' s.heap h')(J:HOk X.prog X.w H' h'):Inv X pins σ H' { s with heap:=h',toks:=t' }:=by
 obtain⟨m,⟨o,es,c,V,r⟩,_⟩:=id I.loc;obtain⟨sl,Y⟩:=u.any V I.free (by simp);exact I.step (g':=s.gens) (d':=s.drawn) (ch:=[]) (λ_ z=>nomatch z) (λb o _ R _ e n=>u.keep b o e n R (by simp)) (λb o _ R _ e n=>u.slot b o e n R (by simp)) (λb o _ e n=>u.free b o e n (by simp)) (λb o _ e=>u.there b o e (by simp)) u.tups u.frzs u.tbls (λd Z=>by
  obtain⟨o',S,U,D,a⟩:=Z;rw[V] at D;cases D;exact⟨_,S,U,Y,a⟩) J I.bare
def Inv.call(I:Inv X pins σ H s)(u:Un (frs X.stack) ch H H' s.heap h')(S:HOk X.prog X.w H' h')(a:AllBare g')(J:∀b∈ch,(b∈X.ex\/X.s₀.heap.objs.size<=b)/\b≠X.env.locals/\(∀x c,X.env.cells.lookup x=some c->c≠b)/\∀p∈X.pn++pins,p.1≠b) :
  Inv X pins σ H' { s with heap:=h',gens:=g',drawn:=d',toks:=t' }:=by
 obtain⟨m,⟨o,es,h,Z,r⟩,_⟩:=id I.loc;obtain⟨sl,U⟩:=u.any Z I.free λz=>(J _ z).2.1 rfl;exact I.step (ch:=ch) J (λb o U d D e n=>u.keep b o e n (λz=>(ce.mp (I.stkSub b z)).elim U d) D) (λb o _ _ D e n=>u.any e n D) (λb o D e n=>u.free b o e n D) (λb o D e=>u.there b o e D) u.tups u.frzs u.tbls (λi f=>by
  obtain⟨o',V,Y,R,g⟩:=f;rw[Z] at R;cases R;exact⟨_,V,Y,U,g⟩) S a
variable{it:Addr}
def Inv.turned(I:Inv X pins σ H s)(k:∀b o,b≠it->s.heap.get? b=some o->h'.get? b=some o)(S:H it=none)(R:it≠X.env.locals)(h1:it∈X.ex\/X.s₀.heap.objs.size<=it)(h2:∀x c,X.env.cells.lookup x=some c->c≠it)(U:∀p∈X.pn++pins,p.1≠it):Inv X pins σ H { s with heap:=h',toks:=t' }:=by
 have J:∀b u,H b=some u->b≠it:=λb u e z=>by rw[z,S] at e;cases e
 refine I.step (g':=s.gens) (d':=s.drawn) (ch:=[it]) (λb V=>?_) (λb o _ _ D e _=>k b o (λz=>D (by simp[z])) e) (λb o _ _ D e _=>⟨o.slots,k b o (λz=>D (by simp[z])) e⟩) (λ_ _ _ _ n=>n)
  (λb o D e=>⟨o,k b o (λz=>D (by simp[z])) e⟩) (λ_ _ e=>e) (λ_ _ _ e=>e) (λb ps e=>⟨#[],by rw[e];simp⟩) (λm Y=>?_) (λb u e=>?_) I.bare
 ·have e:b=it:=by simpa using V
  subst e;exact⟨h1,R,h2,U⟩
 ·obtain⟨o,es,Z,a,r⟩:=Y
  exact⟨o,es,Z,k _ o (Ne.symm R) a,r⟩
 ·refine(I.hok b u e).stay (λc v D q=>k c v ?_ q) (λ_ q=>q) λ_ _ q=>q
  rcases D with z | z
  ·rw[z];exact J b u e
  ·exact J c _ z
def Inv.tok(I:Inv X pins σ H s)(t:Nat):Inv X pins σ H { s with toks:=t }:=I.un (h':=s.heap) (t':=t) Un.refl I.hok
def Inv.kept{t':Nat}(I:Inv X pins σ H s)(k:∀b u,s.heap.get? b=some u->h'.get? b=some u):Inv X pins σ H { s with heap:=h',toks:=t' }:=I.un (Un.kept k) (I.hok.kept k)
def Inv.laid{a:Addr}{o:HO}{t':Nat}(I:Inv X pins σ H s)(k:∀b u,s.heap.get? b=some u->h'.get? b=some u)(D:s.heap.objs.size<=a)(new:ObjOk X.prog X.w (upd H a o) h' a o) :
  Inv X pins σ (upd H a o) { s with heap:=h',toks:=t' }:=I.un (Un.laid k D (I.hok.fresh D)) (I.hok.laid k D new)
def Inv.write{x e:Addr}{o:HO}{t':Nat}(I:Inv X pins σ H s)(J:Mut (H x))(R:e=x\/H e=some (.own x))(k:∀b u,b≠e->s.heap.get? b=some u->h'.get? b=some u)(D:∃u,h'.get? e=some u)(new:ObjOk X.prog X.w (upd H x o) h' x o):Inv X pins σ (upd H x o) { s with heap:=h',toks:=t' }:=I.un (Un.write J R k D) (I.hok.write J R k D new)
def Inv.pins_of{D:kl}(I:Inv X pins σ H s)(h:∀p∈D,s.heap.get? p.1=some p.2/\H p.1=none/\p.1≠X.env.locals/\p.1∉X.fs/\∀v,p.2.data≠.cell v):Inv X D σ H s :=
 ⟨I.ok,I.os,I.bare,I.base,I.loc,I.cell,I.free,I.freeC,λp J=>(cz.mp J).elim (λz=>I.pin p (d6 _ z)) (h p),I.hok,I.len⟩
variable{x:Str}{N:g7}{i:Nat}{j:Int}
def zm3(D:N.Nodup){j:Nat}(a:N[i]?=some x)(b:N[j]?=some x):i=j:=by
 obtain⟨h1,I⟩:=ai.mp a;obtain⟨h2,J⟩:=ai.mp b;exact(List.getElem_inj D).mp (I.trans J.symm)
variable{M:Model}{A:Around}{E:Value->Shared->Prop}{v:V}{Q:Unit->Shared->Prop}
def zlj(I:Inv X pins σ H s)(hN:X.N.Nodup)(hi:X.N[i]?=some x)(S:Loc X.env.scope x)(r:RelV v u)(h:∀s',Inv X pins (σ.set i (some v)) H s'->(∃a,Heap.SameBut a s.heap s'.heap/\(a=X.env.locals\/X.env.cells.lookup x=some a))->Q () s')(hf:X.fn x=true\/X.env.scope.names.lookup x=some .local:=by first | exact .inl rfl | exact .inr rfl | assumption):wpAny M A (storeName X.env x u) Q E s:=by
 obtain⟨m,O,hl⟩:=id I.loc;have l:(X.env.scope.kind==.class || (X.env.scope.kind==.module && X.env.locals != X.env.globals))=false:=by rw[I.ok.kind];rfl
 have Y:i<σ.length:=by rw[I.len];exact(ai.mp hi).1
 have cne:=I.cne;have J:∀ {a:Addr} {h':Heap},(∃o,s.heap.get? a=some o/\H a=none)->Heap.SameBut a s.heap h'->HOk X.prog X.w H h':=λ{a h'} ha D b ob e=>by
  obtain⟨_,_,U⟩:=ha;refine(I.hok b ob e).stay (λc G hc q=>(D.2 c ?_).trans q) (λ_ q=>q) λ_ _ q=>q;rintro rfl;rcases hc with rfl | hc
  ·rw[U] at e;cases e
  ·rw[U] at hc;cases hc
 rcases S with hk | hk
 ·refine wpAny_storeName_local hk O (λh' P D=>?_) l
  obtain⟨oL,_,_,T,_⟩:=id O;refine h _ ⟨I.ok,I.os,I.bare,⟨λb o e n Z S=>?_,λb o e n Z S=>?_,I.base.free,λb o e S=>?_,I.base.tups,I.base.frzs,I.base.tbls⟩,⟨_,P,λj y W R V e3=>?_⟩,λy c e=>?_,I.free,I.freeC,λp hp=>?_,J ⟨oL,T,I.free⟩ D,by simpa using I.len⟩ ⟨_,D,.inl rfl⟩
  ·exact(D.2 b (b8 (bh (bi e) I.ok.above))).trans (I.base.keep b o e n Z S)
  ·obtain⟨sl,R⟩:=I.base.slot b o e n Z S
   exact⟨sl,(D.2 b (b8 (bh (bi e) I.ok.above))).trans R⟩
  ·obtain⟨o',R⟩:=I.base.there b o e S
   exact⟨o',(D.2 b (b8 (bh (bi e) I.ok.above))).trans R⟩
  ·by_cases f:j=i
   ·subst f
    rw[hi] at R;cases R;rw[di Y] at V;cases V;exact⟨u,r,.inl ⟨hk,by simp⟩⟩
   ·rw[dg (Ne.symm f)] at V
    obtain⟨u',r',q⟩:=hl j y W R V e3;refine⟨u',r',?_⟩;rcases q with⟨k,e⟩ | ⟨k,c,e,z⟩
    ·refine .inl ⟨k,?_⟩
     have:y≠x:=λe=>f (zm3 hN R (e ▸ hi));simp[this,e]
    ·exact .inr ⟨k,c,e,z.sameBut D (cne y c e)⟩
  ·obtain⟨G,z⟩:=I.cell y c e
   exact⟨G,z.sameBut D (cne y c e)⟩
  ·obtain⟨e,n,K,nf,d⟩:=I.pin p hp
   exact⟨(D.2 p.1 K).trans e,n,K,nf,d⟩
 ·have g:X.fn x=true:=by
   rcases hf with z | z
   ·exact z
   ·rw[z] at hk;cases hk
  obtain⟨c,hc⟩:=I.ok.has x (.inl hk);obtain⟨G,z⟩:=I.cell x c hc;refine wpAny_storeName_cell I.ok.kind hk hc z (λh' t D=>?_);obtain⟨oc,B,C⟩:=id z;refine h { s with heap:=h' } ⟨I.ok,I.os,I.bare,⟨λb o e n Z S=>?_,λb o e n Z S=>?_,I.base.free,λb o e S=>?_,I.base.tups,I.base.frzs,I.base.tbls⟩,⟨m,O.sameBut D (Ne.symm (cne x c hc)),λj y W R V e3=>?_⟩,λy L e=>?_,I.free,I.freeC,λp hp=>?_,J ⟨oc,B,I.freeC x c hc⟩ D,by simpa using I.len⟩ ⟨c,D,.inr hc⟩
  ·exact(D.2 b (b8 (bh (bi e) (I.ok.cab x c g hc)))).trans (I.base.keep b o e n Z S)
  ·obtain⟨sl,R⟩:=I.base.slot b o e n Z S
   exact⟨sl,(D.2 b (b8 (bh (bi e) (I.ok.cab x c g hc)))).trans R⟩
  ·obtain⟨o',R⟩:=I.base.there b o e S
   exact⟨o',(D.2 b (b8 (bh (bi e) (I.ok.cab x c g hc)))).trans R⟩
  ·by_cases f:j=i
   ·subst f
    rw[hi] at R;cases R;rw[di Y] at V;cases V;exact⟨u,r,.inr ⟨.inl hk,c,hc,t⟩⟩
   ·rw[dg (Ne.symm f)] at V
    obtain⟨u',r',q⟩:=hl j y W R V e3;refine⟨u',r',?_⟩;rcases q with q | ⟨k,L,e,z'⟩
    ·exact .inl q
    ·refine .inr ⟨k,L,e,z'.sameBut D ?_⟩
     rintro rfl;exact f (zm3 hN R (I.ok.inj _ _ _ e hc ▸ hi))
  ·by_cases F:L=c
   ·subst F;exact⟨_,t⟩
   ·obtain⟨w2,z2⟩:=I.cell y L e
    exact⟨w2,z2.sameBut D F⟩
  ·obtain⟨e,n,K,nf,d⟩:=I.pin p hp
   refine⟨(D.2 p.1 ?_).trans e,n,K,nf,d⟩;intro q;rw[q,B] at e;have q':oc=p.2:=bu e;exact d G (by rw[<-q'];exact C)
def zla(I:Inv X pins σ H s)(D:X.N.Nodup)(hi:X.N[i]?=some x)(J:Loc X.env.scope x)(r:RelV v u)(h:∀s',Inv X pins (σ.set i (some v)) H s'->Q () s')(R:X.fn x=true\/X.env.scope.names.lookup x=some .local:=by first | exact .inl rfl | exact .inr rfl | assumption):wpAny M A (storeName X.env x u) Q E s :=
 zlj I D hi J r (λs' S _=>h s' S) R
variable{s':Shared}
def Inv.call'(I:Inv X pins σ H s)(R:s'.os=s.os)(u:Un (frs X.stack) ch H H' s.heap s'.heap)(D:HOk X.prog X.w H' s'.heap)(S:AllBare s'.gens)(J:∀b∈ch,(b∈X.ex\/X.s₀.heap.objs.size<=b)/\b≠X.env.locals/\(∀x c,X.env.cells.lookup x=some c->c≠b)/\∀p∈X.pn++pins,p.1≠b):Inv X pins σ H' s':=by
 obtain⟨h',g',d',t',o'⟩:=s';have e:o'=s.os:=R;subst e;exact I.call (g':=g') (t':=t') (d':=d') u D S J
abbrev XK:=Value->Option Addr->Hp->Prop
abbrev St:=List (Option V)
abbrev VK:=V->Hp->Prop
abbrev TE:=St->Hp->VK->Prop
abbrev TT:=St->Hp->(Bool->Hp->Prop)->Prop
abbrev TA:=St->Hp->(k6->Hp->Prop)->Prop
structure Ends where
 nx:St->Hp->Prop
 rt:VK
 bk:St->Hp->Prop:=λ_ _=>False
 ct:St->Hp->Prop:=λ_ _=>False
abbrev TS:=Ends->St->Hp->Prop
inductive EP (X:Cx) (pins:kl) (σ:St) (Q:VK) (u:Value) (s':Shared):Prop
 | mk (v:V) (H':Hp) (i:Inv X pins σ H' s') (r:RelV v u) (q:Q v H'):EP X pins σ Q u s'
inductive TP (X:Cx) (pins:kl) (σ:St) (Q:Bool->Hp->Prop) (b:Bool) (s':Shared):Prop
 | mk (H':Hp) (i:Inv X pins σ H' s') (q:Q b H'):TP X pins σ Q b s'
inductive AP (X:Cx) (pins:kl) (σ:St) (Q:k6->Hp->Prop) (us:g8) (s':Shared):Prop
 | mk (vs:k6) (H':Hp) (i:Inv X pins σ H' s') (r:Vals vs us) (q:Q vs H'):AP X pins σ Q us s'
def SP(X:Cx)(pins:kl)(D:Ends)(f:Flow)(s':Shared):Prop :=
 match f with
 | .next=>∃I H',Inv X pins I H' s'/\D.nx I H'
 | .brk=>∃I H',Inv X pins I H' s'/\D.bk I H'
 | .cont=>∃I H',Inv X pins I H' s'/\D.ct I H'
 | .ret u=>∃v I H',Inv X pins I H' s'/\RelV v u/\D.rt v H'
def PE(X:Cx)(e:Expr)(t:TE):Prop :=
 ∀(pins:kl) (s:Shared) (σ:St) (H:Hp) (Q:VK),Inv X pins σ H s->t σ H Q->wpAny (model X.prog X.w) X.A (eval e X.env) (EP X pins σ Q) X.xe s
def PT(X:Cx)(e:Expr)(t:TT):Prop :=
 ∀(pins:kl) (s:Shared) (σ:St) (H:Hp) (Q:Bool->Hp->Prop),Inv X pins σ H s->t σ H Q->wpAny (model X.prog X.w) X.A (isTrue e X.env (eval e X.env)) (TP X pins σ Q) X.xe s
def PW(X:Cx)(e:Expr)(t:TT):Prop :=
 ∀(whole:Sem Value) (pins:kl) (s:Shared) (σ:St) (H:Hp) (Q:Bool->Hp->Prop),Inv X pins σ H s->t σ H Q->wpAny (model X.prog X.w) X.A (isTrue e X.env whole) (TP X pins σ Q) X.xe s
variable{e:Expr}{t:TA}
def PW.pt{t:TT}(h:PW X e t):PT X e t:=h _
def PA(X:Cx)(es:i3)(t:TA):Prop :=
 ∀(pos:Pos) (pins:kl) (s:Shared) (σ:St) (H:Hp) (Q:k6->Hp->Prop),Inv X pins σ H s->t σ H Q->wpAny (model X.prog X.w) X.A (spliced (backTo pos (starEach es X.env))) (AP X pins σ Q) X.xe s
def PS(X:Cx)(st:Stmt)(t:TS):Prop :=
 ∀(pins:kl) (s:Shared) (σ:St) (H:Hp) (D:Ends),Inv X pins σ H s->t D σ H->wpAny (model X.prog X.w) X.A (exec st X.env) (SP X pins D) X.xe s
def PSs(X:Cx)(st:List Stmt)(t:TS):Prop :=
 ∀(pins:kl) (s:Shared) (σ:St) (H:Hp) (D:Ends),Inv X pins σ H s->t D σ H->wpAny (model X.prog X.w) X.A (execs st X.env) (SP X pins D) X.xe s
def thn{t:Sem α}{Q D:α->Shared->Prop}(h:wpAny M A t Q E s)(I:∀a s,Q a s->D a s):wpAny M A t D E s:=wpAny_mono h I λ_ _ x=>x
section
variable {X:Cx}
def tVar(i:Nat):TE:=λσ H Q=>∃v,σ[i]?=some (some v)/\Q v H
def tC(v:V):TE:=λ_ H Q=>Q v H
def z2u{i:Nat}{x:Str}{pos:Pos}(S:X.N[i]?=some x)(U:Vis X.env.scope x)(J:(x==("__debug__" : Str))=false:=by decide)(R:(x==("__classdict__" : Str))=false:=by decide):PE X (.Name x pos) (tVar i):=by
 intro pins s σ H Q I h;obtain⟨v,e,h⟩:=h;obtain⟨m,V,Y⟩:=I.loc;obtain⟨u,r,l⟩:=Y i x v S e U;have D:EP X pins σ Q u s:=⟨v,H,I,r,h⟩;rcases l with⟨hk,Z⟩ | ⟨hk,c,hc,hcell⟩
 ·exact wpAny_Name (wpAny_loadName_local I.ok.kind hk V Z D) J
 ·rcases hk with hk | hk
  ·exact wpAny_Name (wpAny_loadName_cell I.ok.kind hk hc hcell D) J
  ·exact wpAny_Name (wpAny_loadName_free I.ok.kind hk hc hcell D R) J
def xn{i j pos}:PE X (.Constant (.int i) j pos) (tC (.int i)):=λ_ _ _ H _ I h=>wpAny_Constant_int ⟨.int i,H,I.tok _,⟨_,rfl⟩,h⟩
def z56{b j pos}:PE X (.Constant (.bool b) j pos) (tC (.bl b)):=λ_ _ _ H _ I h=>Constant_bool ⟨.bl b,H,I,rfl,h⟩
def zy3{x j pos}:PE X (.Constant (.str x) j pos) (tC (.str x)):=λ_ _ _ H _ I h=>Calls.Constant_str ⟨.str x,H,I.tok _,⟨_,rfl⟩,h⟩
def Gl(X:Cx)(x:Str):Prop:=X.env.kindOf x=some .globalImplicit
def vt{E:Value->Shared->Prop}{pins:kl}{s:Shared}{σ:St}{H:Hp}{x:Str}{u:Value}{pos:Pos}{Q:Value->Shared->Prop}(I:Inv X pins σ H s)(D:Gl X x)(J:X.mg x=some u)(h:Q u s)(R:(x==("__debug__" : Str))=false:=by decide):wpAny (model X.prog X.w) X.A (eval (.Name x pos) X.env) Q E s :=
 Calls.Name_function_global I.ok.kind D (Calls.loadGlobal_global (by rw[I.ok.glob];exact I.mod.glob.keeps I.bk) J h) R
def zn{E:Value->Shared->Prop}{pins:kl}{s:Shared}{σ:St}{H:Hp}{x:Str}{u:Value}{pos:Pos}{Q:Value->Shared->Prop}(I:Inv X pins σ H s)(D:Gl X x)(J:X.mg x=none)(R:bootBuiltins x=some u)(h:Q u s)(S:x ≠ "__name__":=by decide)(U:(x==("__debug__" : Str))=false:=by decide):wpAny (model X.prog X.w) X.A (eval (.Name x pos) X.env) Q E s:=by
 obtain⟨V,h1,h2⟩:=I.mod.blt;exact Calls.Name_function_global I.ok.kind D (Calls.loadGlobal_builtin (by rw[I.ok.glob];exact I.mod.glob.keeps I.bk) J (by rw[I.ok.blt];exact h1.keeps I.bk) ((h2 x S).trans R) h) U
def ztt{x:Str}{v:V}{u:Value}{pos:Pos}(D:Gl X x)(J:X.mg x=some u)(r:RelV v u)(R:(x==("__debug__" : Str))=false:=by decide):PE X (.Name x pos) (tC v) :=
 λ_ _ _ H _ I h=>vt I D J ⟨v,H,I,r,h⟩ R
def ztu{x:Str}{v:V}{u:Value}{pos:Pos}(D:Gl X x)(J:X.mg x=none)(R:bootBuiltins x=some u)(r:RelV v u)(S:x ≠ "__name__":=by decide)(U:(x==("__debug__" : Str))=false:=by decide):PE X (.Name x pos) (tC v) :=
 λ_ _ _ H _ I h=>zn I D J R ⟨v,H,I,r,h⟩ S U
variable {a b:Expr} {ta tb:TE} {pos:Pos}
def tB(t:TE):TT:=λσ H Q=>t σ H λx H1=>∃c,x=.bl c/\Q c H1
def z2v{e:Expr}{t:TE}(h:PE X e t)(D:∀whole,isTrue e X.env whole=(do let v <-whole;standAt e.pos;holding [v] (truthy v)):=by intro _;rfl):PT X e (tB t):=by
 intro pins s σ H Q I J;refine isTrue_plain (thn (h pins s σ H _ I J) λv Y R=>?_) (D _);obtain⟨x,H1,S,U,V⟩:=R;obtain⟨d,rfl,q⟩:=V;cases U;exact wpAny_truthy_bool ⟨H1,S,q⟩
variable {tA tB':TT} {rest:i3}
def tAnd(t u:TT):TT:=λσ H Q=>t σ H λc H1=>if c=true then u σ H1 Q else Q false H1
def tOr(t u:TT):TT:=λσ H Q=>t σ H λc H1=>if c=true then Q true H1 else u σ H1 Q
def tNot(t:TT):TT:=λσ H Q=>t σ H λc H1=>Q (!c) H1
def z0e(D:PT X a tA):PW X (.BoolOp .And [a] pos) tA:=by
 intro J pins s σ H Q I h;refine isTrue_and (thn (D pins s σ H Q I h) λc R e=>?_);cases c with
 | true=>exact isTrue_and_nil e
 | false=>exact e
def z2w(D:PT X a tA):PW X (.BoolOp .Or [a] pos) tA:=by
 intro J pins s σ H Q I h;refine isTrue_or (thn (D pins s σ H Q I h) λc R e=>?_);cases c with
 | false=>exact isTrue_or_nil e
 | true=>exact e
def z2x(R:PT X a tA)(S:PW X (.BoolOp .And (b::rest) pos) tB'):PW X (.BoolOp .And (a::b::rest) pos) (tAnd tA tB'):=by
 intro U pins s σ H Q I h;refine isTrue_and (thn (R pins s σ H _ I h) λc V Y=>?_);obtain⟨H1,D,J⟩:=Y;cases c with
 | true=>exact S U pins V σ H1 Q D J
 | false=>exact⟨H1,D,J⟩
def z57(R:PT X a tA)(S:PW X (.BoolOp .Or (b::rest) pos) tB'):PW X (.BoolOp .Or (a::b::rest) pos) (tOr tA tB'):=by
 intro U pins s σ H Q I h;refine isTrue_or (thn (R pins s σ H _ I h) λc V Y=>?_);obtain⟨H1,D,J⟩:=Y;cases c with
 | true=>exact⟨H1,D,J⟩
 | false=>exact S U pins V σ H1 Q D J
def z2y(D:PT X a tA):PT X (.UnaryOp .Not a pos) (tNot tA):=by
 intro pins s σ H Q I h;refine isTrue_not (thn (D pins s σ H (λc H1=>Q (!c) H1) I h) λc R h=>?_);obtain⟨H1,J,q⟩:=h;exact⟨H1,J,q⟩
def z58(ta tb:TE):TE:=λσ H Q=>ta σ H λx H1=>∃c,x=.bl c/\if c=true then tb σ H1 Q else Q (.bl false) H1
def z59(ta:TE):TE:=λσ H Q=>ta σ H λx H1=>∃c,x=.bl c/\Q (.bl (!c)) H1
def z2z{op}{t:TE}(h:PE X a t):PE X (.BoolOp op [a] pos) t:=λpins s σ H Q I D=>BoolOp_one (h pins s σ H Q I D)
def z20(R:PE X a ta)(S:PE X (.BoolOp .And (b::rest) pos) tb):PE X (.BoolOp .And (a::b::rest) pos) (z58 ta tb):=by
 intro pins s σ H Q I h;refine BoolOp_and (thn (R pins s σ H _ I h) λv U V=>?_);obtain⟨x,H1,J,Y,D⟩:=V;obtain⟨c,rfl,D⟩:=D;cases Y;refine wpAny_truthy_bool ?_;cases c with
 | true=>exact S pins U σ H1 Q J D
 | false=>exact⟨.bl false,H1,J,rfl,D⟩
def z21(J:PE X a ta):PE X (.UnaryOp .Not a pos) (z59 ta):=by
 intro pins s σ H Q I h;refine UnaryOp_ (thn (J pins s σ H _ I h) λv V R=>?_);obtain⟨x,H1,S,U,D⟩:=R;obtain⟨c,rfl,D⟩:=D;cases U;exact not_of (wpAny_truthy_bool ⟨.bl (!c),H1,S,rfl,D⟩)
end
def SqL(K:kf)(H:Hp)(a:Addr)(xs:k6):Prop :=
 Rd H a (.lst xs) \/
  ∃(o:Obj) (its:k4) (n:Nat),K.lookup a=some o/\o.cls=.type "list"/\o.dict=none/\o.data=.seq its n/\its.size<=sizeLine/\Vals xs its.toList
def SqT(K:kf)(H:Hp)(a:Addr)(xs:k6):Prop :=
 Rd H a (.tup xs) \/
  ∃(o:Obj) (its:k4) (n:Nat),K.lookup a=some o/\o.cls=.type "tuple"/\o.data=.seq its n/\its.size<=sizeLine/\Vals xs its.toList
def absV:Value->Option V
 | .none=>some .non
 | .bool b=>some (.bl b)
 | .int i _=>some (.int i)
 | .str x _=>some (.str x)
 | .bytes b _=>some (.byt b)
 | .float b _=>some (.flt b)
 | .ref a=>some (.ref a)
 | .type n=>some (.ty n)
 | _=>none
def RelV.abs{x:V}(r:RelV x u):absV u=some x:=by
 cases x with
 | non=>cases r;rfl
 | bl _=>cases r;rfl
 | int _=>obtain⟨t,rfl⟩:=r;rfl
 | str _=>obtain⟨t,rfl⟩:=r;rfl
 | byt _=>obtain⟨t,rfl⟩:=r;rfl
 | flt _=>obtain⟨t,rfl⟩:=r;rfl
 | ref _=>cases r;rfl
 | ty _=>cases r;rfl
def RelV.inj{x y:V}{u:Value}(r:RelV x u)(q:RelV y u):x=y:=bu (r.abs.symm.trans q.abs)
def Vals.inj{xs ys:k6}{us:g8}(h:Vals xs us)(g:Vals ys us):xs=ys:=by
 induction h generalizing ys with
 | nil=>cases g;rfl
 | cons r t ih=>cases g with | cons p q=>rw[r.inj p,ih q]
variable{K:kf}
def SqT.of(h:H a=some (.tup xs)):SqT K H a xs:=.inl (.inl h)
variable{σ:St}
theorem Inv.list(I:Inv X pins σ H s)(h:SqL X.K H a xs):∃its:g8,Vals xs its/\PlainL s.heap a its.toArray/\xs.length<=sizeLine:=by
 rcases h with h | ⟨o,its,n,hk,hc,hd,hs,hz,r⟩
 ·obtain⟨z,its,n,r,e⟩:=h.ok I.hok
  exact⟨its,r,⟨_,n,e,rfl,rfl,rfl⟩,z⟩
 ·refine⟨its.toList,r,⟨o,n,I.kIn a o hk,hc,hd,by simpa using hs⟩,?_⟩
  have e:=r.length;simp only[Array.length_toList] at e
  lia
theorem Inv.tuple(I:Inv X pins σ H s)(h:SqT X.K H a xs):∃its:g8,Vals xs its/\IsTup s.heap a its.toArray/\xs.length<=sizeLine:=by
 rcases h with h | ⟨o,its,n,hk,hc,hs,hz,r⟩
 ·obtain⟨z,its,r,p⟩:=h.ok I.hok
  exact⟨its,r,p,z⟩
 ·refine⟨its.toList,r,⟨o,I.kIn a o hk,hc,n,by simpa using hs⟩,?_⟩
  have e:=r.length;simp only[Array.length_toList] at e
  lia
def Inv.list_inj(I:Inv X pins σ H s)(h:SqL X.K H a xs)(h':SqL X.K H a ys):xs=ys:=by
 obtain⟨its,r,⟨o,n,e,_,_,d⟩,_⟩:=I.list h;obtain⟨its',D,⟨o',J,e',_,_,d'⟩,_⟩:=I.list h';rw[e] at e';cases e';rw[d] at d';injection d' with d1 _;have:its=its':=by simpa using congrArg Array.toList d1
 subst this;exact r.inj D
def Inv.tuple_inj(I:Inv X pins σ H s)(h:SqT X.K H a xs)(h':SqT X.K H a ys):xs=ys:=by
 obtain⟨its,r,⟨o,e,_,n,d⟩,_⟩:=I.tuple h;obtain⟨its',D,⟨o',e',_,J,d'⟩,_⟩:=I.tuple h';rw[e] at e';cases e';rw[d] at d';injection d' with d1 _;have:its=its':=by simpa using congrArg Array.toList d1
 subst this;exact r.inj D
abbrev Cx.wish(X:Cx)(E:Value->Shared->Prop):Cx:={ X with xe:=E }
abbrev Cx.nox(X:Cx):Cx:=X.wish λ_ _=>False
def Cx.Ok.wish(ok:X.Ok)(E:Value->Shared->Prop):(X.wish E).Ok :=
 ⟨ok.mod,ok.kind,ok.glob,ok.blt,ok.above,ok.inj,ok.has,ok.cab,ok.hd,ok.frames,ok.stk,ok.exf,ok.bs,ok.bsz,ok.noex,ok.exfs,ok.funs,ok.frf⟩
def Cx.Ok.unwish(ok:(X.wish E).Ok):X.Ok :=
 ⟨ok.mod,ok.kind,ok.glob,ok.blt,ok.above,ok.inj,ok.has,ok.cab,ok.hd,ok.frames,ok.stk,ok.exf,ok.bs,ok.bsz,ok.noex,ok.exfs,ok.funs,ok.frf⟩
def Inv.wish(I:Inv X pins σ H s)(E:Value->Shared->Prop):Inv (X.wish E) pins σ H s:=⟨I.ok.wish E,I.os,I.bare,I.base,I.loc,I.cell,I.free,I.freeC,I.pin,I.hok,I.len⟩
def Inv.unwish(I:Inv (X.wish E) pins σ H s):Inv X pins σ H s:=⟨I.ok.unwish,I.os,I.bare,I.base,I.loc,I.cell,I.free,I.freeC,I.pin,I.hok,I.len⟩
def SP.unwish{D:Ends}{f:Flow}{s':Shared}(h:SP (X.wish E) pins D f s'):SP X pins D f s':=by
 cases f with
 | next=>obtain⟨J,H',I,q⟩:=h;exact⟨J,H',I.unwish,q⟩
 | brk=>obtain⟨J,H',I,q⟩:=h;exact⟨J,H',I.unwish,q⟩
 | cont=>obtain⟨J,H',I,q⟩:=h;exact⟨J,H',I.unwish,q⟩
 | ret u=>obtain⟨v,J,H',I,r,q⟩:=h;exact⟨v,J,H',I.unwish,r,q⟩
def PSs.nox{st:List Stmt}{t:TS}(h:PSs X.nox st t):PSs X st t:=λpins s σ H D I J =>
 wpAny_mono (h pins s σ H D (I.wish _) J) (λ_ _ q=>q.unwish) λ_ _ z=>False.elim z
section
variable {X:Cx} {st:Stmt} {rest:List Stmt} {t u:TS} {e:Expr} {te:TE} {pos:Pos}
def z6a:TS:=λD σ H=>D.nx σ H
def tSeq(t u:TS):TS:=λD σ H=>t { D with nx:=u D } σ H
def z0f:PSs X [] z6a:=λ_ _ σ H _ I h=>wpAny_execs_nil ⟨σ,H,I,h⟩
def zwq(h1:PS X st t)(h2:PSs X rest u):PSs X (st::rest) (tSeq t u):=by
 intro pins s σ H D I h;refine wpAny_execs_cons (thn (h1 pins s σ H { D with nx:=u D } I h) λf R q=>?_);cases f with
 | next =>
   obtain⟨J,H',S,q⟩:=q;exact h2 pins R J H' D S q
 | ret v=>exact q
 | brk=>exact q
 | cont=>exact q
def z0g(h1:PS X st t):PSs X [st] t:=by
 intro pins s σ H D I h;refine wpAny_execs_cons (thn (h1 pins s σ H D I h) λf J q=>?_);cases f with
 | next=>exact wpAny_execs_nil q
 | ret v=>exact q
 | brk=>exact q
 | cont=>exact q
def Inv.quiet{pins:kl}{σ:St}{H:Hp}{s:Shared}(I:Inv X pins σ H s):interactive X.env=false:=by simp[interactive,I.ok.kind]
def z6b(te:TE):TS:=λD σ H=>te σ H λ_ H1=>D.nx σ H1
def ztv(J:PE X e te)(R:swapsWith e none pos.line X.env=pure false:=by rfl):PS X (.Expr e pos) (z6b te):=by
 intro pins s σ H D I h;exact wpAny_Expr_any (thn (J pins s σ H _ I h) λv s1 ⟨x,H1,I1,r1,q1⟩=>⟨σ,H1,I1,q1⟩) I.quiet R
def tRet(te:TE):TS:=λD σ H=>te σ H D.rt
def zrj(J:PE X e te):PS X (.Return (some e) pos) (tRet te):=by
 intro pins s σ H D I h;exact wpAny_Return_some (thn (J pins s σ H _ I h) λv s1 ⟨x,H1,I1,r1,q1⟩=>⟨x,σ,H1,I1,r1,q1⟩)
def tIfS(c:TT)(t u:TS):TS:=λD σ H=>c σ H λb H1=>if b=true then t D σ H1 else u D σ H1
def z6c{c:Expr}{a b:List Stmt}{J:TT}(V:PT X c J)(Y:PSs X a t)(Z:PSs X b u):PS X (.If c a b pos) (tIfS J t u):=by
 intro pins s σ H D I h;refine wpAny_If (thn (V pins s σ H _ I h) λd R e=>?_);obtain⟨H1,S,U⟩:=e;cases d with
 | true=>exact Y pins R σ H1 D S U
 | false=>exact Z pins R σ H1 D S U
def z22:TS:=λ_ _ _=>False
def zwr:PS X st z22:=λ_ _ _ _ _ _ h=>h.elim
end
abbrev TG:=V->St->Hp->(St->Hp->Prop)->Prop
abbrev TGs:=k6->St->Hp->(St->Hp->Prop)->Prop
def PG(X:Cx)(D:Expr)(t:TG):Prop :=
 ∀(pins:kl) (s:Shared) (σ:St) (H:Hp) (v:V) (u:Value) (Q:St->Hp->Prop),Inv X pins σ H s->RelV v u->t v σ H Q ->
  wpAny (model X.prog X.w) X.A (assign D X.env u) (λ_ s'=>∃I H',Inv X pins I H' s'/\Q I H') X.xe s
def PGs(X:Cx)(ts:i3)(t:TGs):Prop :=
 ∀(pins:kl) (s:Shared) (σ:St) (H:Hp) (vs:k6) (us:g8) (Q:St->Hp->Prop),Inv X pins σ H s->Vals vs us->t vs σ H Q ->
  wpAny (model X.prog X.w) X.A (assignInOrder ((assignEach ts X.env).map (·.2)) us) (λ_ s'=>∃D H',Inv X pins D H' s'/\Q D H') X.xe s
abbrev TSet:=V->V->V->Hp->(Hp->Prop)->Prop
def PSet(X:Cx)(t:TSet):Prop :=
 ∀(pins:kl) (s:Shared) (σ:St) (H:Hp) (o i v:V) (D I u:Value) (Q:Hp->Prop),Inv X pins σ H s->RelV o D->RelV i I->RelV v u->t o i v H Q ->
  wpAny (model X.prog X.w) X.A (setItem D I u) (λ_ s'=>∃H',Inv X pins σ H' s'/\Q H') X.xe s
abbrev TIp:=V->V->Hp->VK->Prop
def PIp(X:Cx)(op:Operator)(t:TIp):Prop :=
 ∀(pins:kl) (s:Shared) (σ:St) (H:Hp) (x y:V) (v u:Value) (Q:VK),Inv X pins σ H s->RelV x v->RelV y u->t x y H Q ->
  wpAny (model X.prog X.w) X.A (inplaceOp op v u) (EP X pins σ Q) X.xe s
def m6(i:Nat):TG:=λv σ H Q=>Q (σ.set i (some v)) H
variable{pos:Pos}
def ztw(D:X.N.Nodup)(hi:X.N[i]?=some x)(J:Loc X.env.scope x)(R:X.fn x=true\/X.env.scope.names.lookup x=some .local:=by first | exact .inl rfl | exact .inr rfl | assumption):PG X (.Name x pos) (m6 i):=by
 intro pins s σ H v u Q I r h;exact wpAny_assign_Name (zla I D hi J r (λs' S=>⟨_,H,S,h⟩) R)
def gNil:TGs:=λvs σ H Q=>vs=[]/\Q σ H
def z23(t:TG)(u:TGs):TGs:=λvs σ H Q=>∃v r,vs=v::r/\t v σ H λD H'=>u r D H' Q
def z0h:PGs X [] gNil:=by
 intro pins s σ H vs us Q I r h;obtain⟨e,h⟩:=h;subst e;cases r;exact assignInOrder_nil ⟨σ,H,I,h⟩
variable{es:i3}
def zws{t:TG}{u:TGs}(h1:PG X e t)(h2:PGs X es u)(J:(assignEach (e::es) X.env).map (·.2)=assign e X.env::(assignEach es X.env).map (·.2):=by rfl):PGs X (e::es) (z23 t u):=by
 intro pins s σ H vs us Q I r h;obtain⟨v,Z,R,h⟩:=h;subst R;cases r with
 | cons r rr =>
   rw[J];refine assignInOrder_cons (thn (h1 pins s σ H _ _ _ I r h) λ_ S U=>?_);obtain⟨D,H1,V,Y⟩:=U;exact h2 pins S D H1 _ _ Q V rr Y
def gTup(K:kf)(n:Nat)(t:TGs):TG:=λv σ H Q=>∃a xs,v=.ref a/\SqT K H a xs/\xs.length=n/\t xs σ H Q
variable{k n:Nat}
def z24{t:TGs}(S:X.calm=true)(h:PGs X es t)(U:(assignEach es X.env).length=n:=by rfl)(D:(assignEach es X.env).findIdx? (·.1)=none:=by rfl):PG X (.Tuple es k pos) (gTup X.K n t):=by
 intro pins s σ H v u Q I r J;obtain⟨a,xs,V,Y,Z,J⟩:=J;subst V;cases r;obtain⟨its,R,c,g⟩:=I.tuple Y;refine assign_Tuple_tuple (I.ok.hd S) c (by simp[U,<-Z,R.length]) D λh' d=>?_;have f:Inv X pins σ H { s with heap:=h' }:=I.kept (t':=s.toks) λb o e=>d b o (b8 (bi e)) e;exact h pins _ σ H xs _ Q f (by simpa using R) J
def gSub(to ti:TE)(t:TSet):TG:=λv σ H Q=>to σ H λo H1=>ti σ H1 λi H2=>t o i v H2 λD=>Q σ D
variable{to ti:TE}
def zrk{o i:Expr}{t:TSet}(S:PE X o to)(hi:PE X i ti)(U:PSet X t)(V:∀v,assign (.Subscript o i pos) X.env v=(do
   let D <-holding [v] (eval o X.env);let J <-holding [v,D] (eval i X.env)
   standAt pos
   holding [v,D,J] (setItem D J v)
   release [v,D,J] []):=by intro _;rfl):PG X (.Subscript o i pos) (gSub to ti t):=by
 intro pins s σ H v u Q I r h;rw[V];refine wpAny_bind (wpAny_holding (thn (S pins s σ H _ I h) λD Y R=>?_));obtain⟨x,H1,Z,a,b⟩:=R;refine wpAny_bind (wpAny_holding (thn (hi pins Y σ H1 _ Z b) λJ s2 R=>?_));obtain⟨y,H2,c,d,e⟩:=R;refine wpAny_bind (wpAny_standAt (wpAny_bind (wpAny_holding (thn (U pins s2 σ H2 x y v D J u _ c a d r e) λ_ k R=>?_))));obtain⟨f,g,j⟩:=R;exact wpAny_release ⟨σ,f,g,j⟩
def tAsg(te:TE)(g:TG):TS:=λD σ H=>te σ H λx H1=>g x σ H1 D.nx
variable{tg:Expr}{te:TE}{g:TG}
def zm(J:PE X e te)(R:PG X tg g)(S:swapsWithSole [tg] e pos.line X.env=pure false:=by rfl)(U:swappedStores [tg] e X.env=pure none:=by rfl)(h1:(assignEach [tg] X.env).map (·.2)=[assign tg X.env]:=by rfl):PS X (.Assign [tg] e pos) (tAsg te g):=by
 intro pins s σ H D I h;refine wpAny_Assign_stores (thn (J pins s σ H _ I h) λv V Y=>?_) S U;obtain⟨x,H1,Z,a,b⟩:=Y;rw[h1];exact thn (R pins V σ H1 x v _ Z a b) λ_ s2 q=>q
variable{pos':Pos}
def ztx(J:X.N.Nodup)(hi:X.N[i]?=some x)(R:Loc X.env.scope x)(S:PE X e te)(U:swapsWith e (some (.Name x pos')) pos.line X.env=pure false:=by rfl)(V:X.fn x=true\/X.env.scope.names.lookup x=some .local:=by first | exact .inl rfl | exact .inr rfl | assumption) :
  PS X (.Assign [.Name x pos'] e pos) (tAsg te (m6 i)):=by
 intro pins s σ H D I h;refine wpAny_Assign_Name (thn (S pins s σ H _ I h) λv d Y=>?_) U;obtain⟨y,H1,Z,a,b⟩:=Y;exact zla Z J hi R a (λs2 c=>⟨_,H1,c,b⟩) V
def tAug(i:Nat)(te:TE)(ti:TIp):TS:=λD σ H=>∃x,σ[i]?=some (some x)/\te σ H λy H1=>ti x y H1 λz H2=>D.nx (σ.set i (some z)) H2
variable{op:Operator}
def z25{ti:TIp}(V:X.N.Nodup)(hi:X.N[i]?=some x)(R:Loc X.env.scope x)(Y:PE X e te)(Z:PIp X op ti)(a:X.fn x=true\/X.env.scope.names.lookup x=some .local:=by first | exact .inl rfl | exact .inr rfl | assumption) :
  PS X (.AugAssign (.Name x pos') op e pos) (tAug i te ti):=by
 intro pins s σ H D I h;obtain⟨v,b,h⟩:=h;obtain⟨m,d,f⟩:=I.loc;have S:Vis X.env.scope x:=by rcases R with k | k;exact .inl k;exact .inr (.inl k)
 obtain⟨u,r,l⟩:=f i x v hi b S;refine wpAny_AugAssign_Name ?_;have go:wpAny (model X.prog X.w) X.A (eval e X.env) (λw s₂=>wpAny (model X.prog X.w) X.A (inplaceOp op u w) (λr J=>wpAny (model X.prog X.w) X.A (storeName X.env x r) (λ_=>SP X pins D .next) X.xe J) X.xe s₂) X.xe s:=by
  refine thn (Y pins s σ H _ I h) λw g U=>?_;obtain⟨y,H1,j,n,o⟩:=U;refine thn (Z pins g σ H1 v y u w _ j r n o) λz s2 U=>?_;obtain⟨E,H2,p,q,t⟩:=U;exact zla p V hi R q (λF B=>⟨_,H2,B,t⟩) a
 rcases l with⟨hk,C⟩ | ⟨hk,c,hc,hcell⟩
 ·exact wpAny_loadName_local I.ok.kind hk d C go
 ·rcases hk with hk | hk
  ·exact wpAny_loadName_cell I.ok.kind hk hc hcell go
  ·rcases R with k | k
   ·have:X.env.scope.names.lookup x=some .free:=hk
    rw[k] at this;cases this
   ·have:X.env.scope.names.lookup x=some .free:=hk
    rw[k] at this;cases this
def z26(to ti te:TE)(I:V->V->Hp->VK->Prop)(R:TIp)(J:TSet):TS:=λD σ H=>to σ H λo H1=>ti σ H1 λi H2=>I o i H2 λx S=>te σ S λy U=>R x y U λz Y=>J o i z Y λZ=>D.nx σ Z
def PGet(X:Cx)(t:V->V->Hp->VK->Prop):Prop :=
 ∀(pins:kl) (s:Shared) (σ:St) (H:Hp) (o i:V) (D I:Value) (Q:VK),Inv X pins σ H s->RelV o D->RelV i I->t o i H Q ->
  wpAny (model X.prog X.w) X.A (getItem D I) (EP X pins σ Q) X.xe s
variable{i:Int}
def zty{o i:Expr}{R:V->V->Hp->VK->Prop}{Z:TIp}{S:TSet}{a:Pos}(j:PE X o to)(hi:PE X i ti)(k:PGet X R)(l:PE X e te)(m:PIp X op Z)(n:PSet X S)(p:∀U Y new,augStore i U Y new=(do holding [new,U,Y] (setItem U Y new);release [new,U,Y] [];pure .next):=by intros;rfl):PS X (.AugAssign (.Subscript o i a) op e pos) (z26 to ti te R Z S):=by
 intro pins s σ H D I h;refine wpAny_AugAssign_SubscriptAny (thn (j pins s σ H _ I h) λU q J=>?_) p;obtain⟨c,H1,r,d,t⟩:=J;refine thn (hi pins q σ H1 _ r t) λY s2 J=>?_;obtain⟨f,H2,u,g,w⟩:=J;refine thn (k pins s2 σ H2 c f U Y _ u d g w) λb x J=>?_;obtain⟨y,z,A,r3,B⟩:=J;refine thn (l pins x σ z _ A B) λv C J=>?_;obtain⟨E,F,G,K,L⟩:=J;refine thn (m pins C σ F y E b v _ G r3 K L) λnew M J=>?_;obtain⟨N,O,P,Q,T⟩:=J;exact thn (n pins M σ O c f N U Y new _ P d g Q T) λ_ s6 ⟨H6,I6,q6⟩=>⟨σ,H6,I6,q6⟩
def ipI(f:Int->Int->Int):TIp:=λx y H Q=>∃i j,x=.int i/\y=.int j/\Q (.int (f i j)) H
def zy4:PIp X .Add (ipI λi j=>i+j):=by
 intro pins s σ H x y v u Q I D J h;obtain⟨i,j,R,S,q⟩:=h;subst R;subst S;obtain⟨t,rfl⟩:=D;obtain⟨t',rfl⟩:=J;exact iadd_int ⟨.int _,H,I.tok _,⟨_,rfl⟩,q⟩
def z27:PIp X .Sub (ipI λi j=>i-j):=by
 intro pins s σ H x y v u Q I D J h;obtain⟨i,j,R,S,q⟩:=h;subst R;subst S;obtain⟨t,rfl⟩:=D;obtain⟨t',rfl⟩:=J;exact isub_int ⟨.int _,H,I.tok _,⟨_,rfl⟩,q⟩
def z28(c:TT)(tb:TS):TS:=λD σ H=>∃W:Nat->St->Hp->Prop,(∃m,W m σ H)/\∀m σ H,W m σ H ->
 c σ H λb H1=>if b=true then ∃N:St->Hp->Prop,(∀I H',N I H'->∃J,J<m/\W J I H')/\tb { D with nx:=N,ct:=N,bk:=D.nx } σ H1 else D.nx σ H1
variable{c:Value}{body:List Stmt}{tb:TS}
def zwt{c:Expr}{g:TT}(i:PassesOwn (model X.prog X.w) X.A X.env X.xe)(l:PT X c g)(m:PSs X body tb):PS X (.While c body [] pos) (z28 g tb):=by
 intro pins s σ H D I h;obtain⟨W,⟨o,p⟩,turn⟩:=h;refine wpAny_While (codeAny_whileLoop (λn s'=>∃R H',Inv X pins R H' s'/\W n R H') ?_ o ⟨σ,H,I,p⟩);rintro n q ⟨σ1,H1,I1,w1⟩;refine wpAny_passesOwn i (thn (l pins q σ1 H1 _ I1 (turn n σ1 H1 w1)) λb s2 r=>?_);obtain⟨H2,j,U⟩:=r;cases b with
 | true =>
   obtain⟨N,k,U⟩:=U;rw[if_pos rfl];refine wpAny_passesOwn i (thn (m pins s2 σ1 H2 _ j U) λf t V=>?_);cases f with
   | next =>
     obtain⟨J,S,Y,Z⟩:=V;obtain⟨a,d,e⟩:=k J S Z;exact⟨a,d,J,S,Y,e⟩
   | cont =>
     obtain⟨J,S,Y,Z⟩:=V;obtain⟨a,d,e⟩:=k J S Z;exact⟨a,d,J,S,Y,e⟩
   | brk=>exact V
   | ret v=>exact V
 | false =>
   rw[if_neg cg];exact wpAny_execs_nil ⟨σ1,H2,j,U⟩
structure It where
 go:Nat->Hp->Prop
 yld:Nat->Hp->V->Hp->Prop
 stop:Nat->Hp->Prop
def FpOk(X:Cx)(pins:kl)(H:Hp)(b:Addr):Prop :=
 H b=none/\b≠X.env.locals/\b∉X.fs/\(b∈X.ex\/X.s₀.heap.objs.size<=b)/\(∀x c,X.env.cells.lookup x=some c->c≠b)/\∀p∈X.pn++pins,p.1≠b
def Inv.fpOk(I:Inv X pins σ H s)(D:s.heap.objs.size<=b)(J:H' b=none):FpOk X pins H' b:=by
 refine⟨J,lh (bh I.lt D),I.nofs D,.inr (de I.sz D),λx c e z=>?_,λp R z=>?_⟩
 ·obtain⟨v,q⟩:=I.cell x c e
  exact absurd (bh q.lt (by rw[z];exact D)) (fu _)
 ·exact absurd (bh (bi (I.pin p R).1) (by rw[z];exact D)) (fu _)
structure vi (Cm:Cx->Prop) (P:Program) (w:World) (K:kf) (tg:Expr) (J:It) (fp:ia) (it:Addr) (tn:Nat->Heap->Prop):Prop where
 mem:it∈fp
 obj:∀i h,tn i h->∀b∈fp,∃o,h.get? b=some o/\∀v,o.data≠.cell v
 keep:∀i h h',tn i h->(∀b∈fp,∀o,h.get? b=some o->h'.get? b=some o)->tn i h'
 item:∀(X:Cx),X.prog=P->X.w=w->X.K=K->Cm X->∀(i:Nat) (pins:kl) (s:Shared) (σ:St) (H:Hp) (E:Value->Shared->Prop),Inv X pins σ H s->(∀b∈fp,FpOk X pins H b)->tn i s.heap->J.go i H ->
  wpAny (model P w) X.A (pyNext (.ref it)) (λr s1=>∃u,r=some u /\
   wpAny (model P w) X.A (letOwnedTupleGo tg (.ref it) u) (λ_ s2=>∃x H',Inv X pins σ H' s2/\RelV x u/\J.yld i H x H'/\tn (i+1) s2.heap/\∀b∈fp,H' b=none) E s1) E s
 done:∀(X:Cx),X.prog=P->X.w=w->X.K=K->Cm X->∀(i:Nat) (pins:kl) (s:Shared) (σ:St) (H:Hp) (E:Value->Shared->Prop),Inv X pins σ H s->(∀b∈fp,FpOk X pins H b)->tn i s.heap->J.stop i H ->
  wpAny (model P w) X.A (pyNext (.ref it)) (λr s1=>r=none/\Inv X pins σ H s1) E s
 self:∀(A:Around) (i:Nat) (s:Shared) (Q:Value->Shared->Prop) (E:Value->Shared->Prop),tn i s.heap->Q (.ref it) s->wpAny (model P w) A (pyIter (.ref it)) Q E s
abbrev Turn:=vi λX=>X.calm=true
abbrev TI:=St->Hp->(It->Hp->Prop)->Prop
def PIEC(Cm:Cx->Prop)(X:Cx)(pins:kl)(σ:St)(tg:Expr)(R:It->Hp->Prop)(D:Value)(s2:Shared):Prop :=
 ∃(it:Addr) (fp:ia) (I:Nat->Heap->Prop) (J:It) (H':Hp),D=.ref it/\Inv X pins σ H' s2/\vi Cm X.prog X.w X.K tg J fp it I/\I 0 s2.heap/\(∀b∈fp,FpOk X pins H' b)/\R J H'
def PIC(Cm:Cx->Prop)(X:Cx)(tg iter:Expr)(wi:TI):Prop :=
 ∀(pins:kl) (s:Shared) (σ:St) (H:Hp) (R:It->Hp->Prop),Inv X pins σ H s->wi σ H R ->
  wpAny (model X.prog X.w) X.A (eval iter X.env) (λv D=>wpAny (model X.prog X.w) X.A (pyIter v) (PIEC Cm X pins σ tg R) X.xe D) X.xe s
abbrev PI:=PIC λX=>X.calm=true
variable{vs:k6}
def zwu{n:String}{vs:k4}(I:s.heap.get? it=some o)(J:o.cls=.type n)(R:o.data=.fields vs)(S:["enumerate", "zip", "dict_itemiterator", "dict_reverseitemiterator", "odict_iterator", "itertools.zip_longest", "itertools.pairwise"].contains n=false)(D:Q () s):wpAny M A (letOwnedTupleGo tg (.ref it) u) Q E s:=by
 unfold letOwnedTupleGo;cases tg <;> first
  | exact wpAny_pure D
  | (cases u <;> first
      | exact wpAny_pure D
      | (refine wpAny_bind (wpAny_load I ?_)
         rw[J,R];show wpAny M A (if (["enumerate", "zip", "dict_itemiterator", "dict_reverseitemiterator", "odict_iterator", "itertools.zip_longest", "itertools.pairwise"].contains n && vs[0]?==some (rawInt _))=true then _ else _) Q E s;rw[if_neg (by intro h;rw[S,Bool.false_and] at h;cases h)];exact wpAny_pure D))
def Itl(K:kf)(a:Addr):It :=
 ⟨λi H=>∃xs x,SqL K H a xs/\xs[i]?=some x,λi H x H'=>H'=H/\∀xs,SqL K H a xs->xs[i]?=some x,λi H=>∃xs,SqL K H a xs/\xs.length<=i⟩
def Itt(K:kf)(a:Addr):It :=
 ⟨λi H=>∃xs x,SqT K H a xs/\xs[i]?=some x,λi H x H'=>H'=H/\∀xs,SqT K H a xs->xs[i]?=some x,λi H=>∃xs,SqT K H a xs/\xs.length<=i⟩
def Itr(lo:Int)(n:Nat):It:=⟨λi _=>i<n,λi H x H'=>H'=H/\x=.int (lo+i),λi _=>n<=i⟩
theorem ztz(a it:Addr):Turn P w K tg (Itl K a) [it] it (λi h=>h.IsListIter it a i) where
 mem:=by simp
 obj:=λi h st b D=>by
  have e:b=it:=by simpa using D
  subst e;obtain⟨o,e,c,d⟩:=st;exact⟨o,e,λv z=>by rw[d] at z;cases z⟩
 keep:=λi h h' st k=>st.at λo e=>k it (by simp) o e
 item:=by
  intro X hP U V q i pins s σ H E I R st Y;subst hP U V;obtain⟨xs,x,S,Z⟩:=Y;obtain⟨its,f,p,r⟩:=I.list S;obtain⟨u,t,y⟩:=f.get Z;obtain⟨g,j,A,l,m,n⟩:=R it (by simp);refine wpAny_pyNext_list_item st p.isList (x:=u) (by simpa using t) λh' J B=>?_;have C:Inv X pins σ H { s with heap:=h' }:=I.turned (t':=s.toks) (λb o D e=>(B.2 b D).trans e) g j l m n;obtain⟨o,e,c,d⟩:=id J;exact⟨u,rfl,zwu (s:={ s with heap:=h' }) e c d (by decide) ⟨x,H,C,y,⟨rfl,λys F=>by rw[I.list_inj F S];exact Z⟩,J,λb D=>(R b D).1⟩⟩
 done:=by
  intro X hP U V q i pins s σ H E I R st Y;subst hP U V;obtain⟨xs,S,Z⟩:=Y;obtain⟨its,f,p,r⟩:=I.list S;obtain⟨g,j,A,l,m,n⟩:=R it (by simp);have L:=f.length;exact wpAny_pyNext_list_end (I.ok.hd q) st p.isList (by simp;lia) λh' G=>⟨rfl,I.turned (t':=s.toks) (λb o D e=>G b o D e) g j l m n⟩
 self:=λ_ _ _ _ _ st h=>wpAny_pyIter_listiter st h
theorem zsx(a it:Addr):Turn P w K tg (Itt K a) [it] it (λi h=>h.IsTupleIter it a i) where
 mem:=by simp
 obj:=λi h st b D=>by
  have e:b=it:=by simpa using D
  subst e;obtain⟨o,e,c,d⟩:=st;exact⟨o,e,λv z=>by rw[d] at z;cases z⟩
 keep:=λi h h' st k=>st.at λo e=>k it (by simp) o e
 item:=by
  intro X hP U V q i pins s σ H E I R st Y;subst hP U V;obtain⟨xs,x,S,Z⟩:=Y;obtain⟨its,f,p,r⟩:=I.tuple S;obtain⟨u,t,y⟩:=f.get Z;obtain⟨g,j,A,l,m,n⟩:=R it (by simp);refine wpAny_pyNext_tuple_item st (show s.heap.IsTuple a its.toArray from p) (x:=u) (by simpa using t) λh' J B=>?_;have C:Inv X pins σ H { s with heap:=h' }:=I.turned (t':=s.toks) (λb o D e=>(B.2 b D).trans e) g j l m n;obtain⟨o,e,c,d⟩:=id J;exact⟨u,rfl,zwu (s:={ s with heap:=h' }) e c d (by decide) ⟨x,H,C,y,⟨rfl,λys F=>by rw[I.tuple_inj F S];exact Z⟩,J,λb D=>(R b D).1⟩⟩
 done:=by
  intro X hP U V q i pins s σ H E I R st Y;subst hP U V;obtain⟨xs,S,Z⟩:=Y;obtain⟨its,f,p,r⟩:=I.tuple S;obtain⟨g,j,A,l,m,n⟩:=R it (by simp);have L:=f.length;exact wpAny_pyNext_tuple_end (I.ok.hd q) st (show s.heap.IsTuple a its.toArray from p) (by simp;lia) λh' G=>⟨rfl,I.turned (t':=s.toks) (λb o D e=>G b o D e) g j l m n⟩
 self:=λ_ _ _ _ _ st h=>wpAny_pyIter_tupleiter st h
theorem ziw(it:Addr)(lo:Int)(n:Nat):Turn P w K tg (Itr lo n) [it] it (λi h=>IsRangeIter h it (lo+(i:Nat)*1) ((n:Int)-(i:Nat)) 1) where
 mem:=by simp
 obj:=λi h st b D=>by
  have e:b=it:=by simpa using D
  subst e;exact⟨_,st,λv z=>by
   have g:Data.fields _=Data.cell v:=z;cases g⟩
 keep:=λi h h' st k=>k it (by simp) _ st
 item:=by
  intro X hP S U V i pins s σ H E I R st Y;subst hP S U;obtain⟨Z,a,j,c,d,f⟩:=R it (by simp);have W:=Walks.range (prog:=X.prog) (w:=X.w) (I.ok.hd V) it lo 1 n;refine W.item i s _ _ Y st λv h' tk l J kk=>?_;obtain⟨t,rfl⟩:=l;have m:Inv X pins σ H { s with heap:=h',toks:=tk }:=I.turned (λb o D e=>kk b o (by simpa using D) e) Z a c d f;refine⟨_,rfl,zwu (s:={ s with heap:=h',toks:=tk }) (n:="range_iterator") J rfl rfl (by decide) ⟨.int (lo+i),H,m,⟨t,?_⟩,⟨rfl,rfl⟩,J,λb D=>(R b D).1⟩⟩;rw[Int.mul_one]
 done:=by
  intro X hP S U V i pins s σ H E I R st Y;subst hP S U;obtain⟨Z,a,j,c,d,f⟩:=R it (by simp);exact wpAny_pyNext_range_end (I.ok.hd V) st (by have:n<=i:=Y;lia) λh' p=>⟨rfl,I.turned (t':=s.toks) (λb o D e=>p b o D e) Z a c d f⟩
 self:=λ_ _ _ _ _ st h=>wpAny_pyIter_rangeiter st h
def z6d(K:kf)(tl:TE):TI:=λσ H R=>tl σ H λx H1=>∃a,x=.ref a/\(∃xs,SqL K H1 a xs)/\R (Itl K a) H1
def iTup(K:kf)(tl:TE):TI:=λσ H R=>tl σ H λx H1=>∃a,x=.ref a/\(∃xs,SqT K H1 a xs)/\R (Itt K a) H1
variable{l:Expr}{tl:TE}
def zt0(S:PE X l tl):PI X tg l (z6d X.K tl):=by
 intro pins s σ H R I h;refine thn (S pins s σ H _ I h) λv D U=>?_;obtain⟨x,H1,J,V,Y⟩:=U;obtain⟨a,e,⟨xs,Z⟩,q⟩:=Y;subst e;cases V;obtain⟨its,d,p,f⟩:=J.list Z;refine wpAny_pyIter_list p.isList ?_;refine⟨D.heap.objs.size,[D.heap.objs.size],_,_,H1,rfl,J.kept (t':=D.toks) λb o e=>au _ e,ztz a _,⟨_,ci _ rfl,rfl,rfl⟩,λb c=>?_,q⟩;have e:b=D.heap.objs.size:=by simpa using c
 subst e;exact J.fpOk (b9 _) (J.hok.fresh (b9 _))
def z29(S:PE X l tl):PI X tg l (iTup X.K tl):=by
 intro pins s σ H R I h;refine thn (S pins s σ H _ I h) λv D U=>?_;obtain⟨x,H1,J,V,Y⟩:=U;obtain⟨a,e,⟨xs,Z⟩,q⟩:=Y;subst e;cases V;obtain⟨its,d,p,f⟩:=J.tuple Z;refine wpAny_pyIter_tuple (show D.heap.IsTuple a its.toArray from p) ?_;refine⟨D.heap.objs.size,[D.heap.objs.size],_,_,H1,rfl,J.kept (t':=D.toks) λb o e=>au _ e,zsx a _,⟨_,ci _ rfl,rfl,rfl⟩,λb c=>?_,q⟩;have e:b=D.heap.objs.size:=by simpa using c
 subst e;exact J.fpOk (b9 _) (J.hok.fresh (b9 _))
variable{v:Value}{Cm:Cx->Prop}
theorem zwv(hT:∀(it:Addr) (lo:Int) (n:Nat),vi Cm X.prog X.w X.K tg (Itr lo n) [it] it (λi h=>IsRangeIter h it (lo+(i:Nat)*1) ((n:Int)-(i:Nat)) 1)){R:It->Hp->Prop}{lo hi:Int}{t u v:Tok}{tk:Nat}(I:Inv X pins σ H s)(h1:-(2 ^ 62)<=lo)(h2:lo<2 ^ 62)(J:-(2 ^ 62)<=hi)(S:hi<2 ^ 62)(q:R (Itr lo (hi-lo).toNat) H):wpAny (model X.prog X.w) X.A (pyIter (.ref s.heap.objs.size)) (PIEC Cm X pins σ tg R) E { s with heap:=s.heap.push { cls:=.type "range",data:=.fields #[.int lo t,.int hi u,.int 1 v] },toks:=tk }:=by
 refine wpAny_pyIter_range (IsRange.new ..) (small_one h1 h2 J S) ?_;have D:Inv X pins σ H { s with heap:=s.heap.push { cls:=.type "range",data:=.fields #[.int lo t,.int hi u,.int 1 v] },toks:=tk }:=I.kept λb o e=>au _ e;refine⟨(s.heap.push { cls:=.type "range",data:=.fields #[.int lo t,.int hi u,.int 1 v] }).objs.size,[(s.heap.push { cls:=.type "range",data:=.fields #[.int lo t,.int hi u,.int 1 v] }).objs.size],_,_,H,rfl,
  D.kept (t':=tk) λb o e=>au _ e,hT _ lo (hi-lo).toNat,?_,λb U=>?_,q⟩
 ·have V:lo+((0:Nat):Int)*1=lo:=by simp
  have Y:(((hi-lo).toNat:Nat):Int)-((0:Nat):Int)=Builtin.Range.rangeSize lo hi 1:=by rw[rangeSize_one];split <;> lia
  show IsRangeIter _ _ (lo+((0:Nat):Int)*1) ((((hi-lo).toNat:Nat):Int)-((0:Nat):Int)) 1;rw[V,Y];exact ci _ rfl
 ·have e:b=(s.heap.push { cls:=.type "range",data:=.fields #[.int lo t,.int hi u,.int 1 v] }).objs.size:=by simpa using U
  subst e;exact D.fpOk (b9 _) (D.hok.fresh (b9 _))
def z6e(ta:TA):TI:=λσ H R=>ta σ H λvs H1=>∃j:Int,vs=[.int j]/\-(2 ^ 62)<=j/\j<2 ^ 62/\R (Itr 0 j.toNat) H1
variable{a:Expr}{ta:TE}{p:Pos}
theorem zsy(hT:∀(it:Addr) (lo:Int) (n:Nat),vi Cm X.prog X.w X.K tg (Itr lo n) [it] it (λi h=>IsRangeIter h it (lo+(i:Nat)*1) ((n:Int)-(i:Nat)) 1)){ta:TA}(J:Gl X "range")(S:X.mg "range" = none)(U:PA X [a] ta)(V:starEach [a] X.env=[(false,eval a X.env)]:=by rfl):PIC Cm X tg (.Call (.Name "range" p) [a] [] pos) (z6e ta):=by
 intro pins s σ H R I h;refine Call_ (zn I J S boot_range (t6 (thn (U pos pins s σ H _ I h) λus d Y=>?_) V rfl));obtain⟨vs,H1,Z,b,D⟩:=Y;obtain⟨j,e,D,c,q⟩:=D;subst e;cases b with
 | cons r rr =>
   cases rr;obtain⟨t,rfl⟩:=r;exact call_range_1 (zwv hT Z (by lia) (by lia) D c (by simpa using q))
def tFor(wi:TI)(g:TG)(tb:TS):TS:=λD σ H=>wi σ H λJ H1=>∃W:Nat->Nat->St->Hp->Prop,(∃m,W 0 m σ H1)/\∀i m σ H,W i m σ H ->
 (J.stop i H/\D.nx σ H)\/(J.go i H/\∃N:St->Hp->Prop,(∀I H',N I H'->∃S,S<m/\W (i+1) S I H')/\∀x H',J.yld i H x H'->g x σ H' λR H2=>tb { D with nx:=N,ct:=N,bk:=D.nx } R H2)
def zl(fp:ia)(h:Heap):kl:=fp.filterMap λb=>(h.get? b).map λo=>(b,o)
variable{fp:ia}
def zix(D:b∈fp)(e:h.get? b=some o):(b,o)∈zl fp h:=ng.mpr ⟨b,D,by rw[e];rfl⟩
def zt1{p:Addr×Obj}(D:p∈zl fp h):p.1∈fp/\h.get? p.1=some p.2:=by
 obtain⟨b,I,e⟩:=ng.mp D;cases q:h.get? b with
 | none=>rw[q] at e;cases e
 | some o =>
   rw[q] at e;have e':(b,o)=p:=bu e;subst e';exact⟨I,q⟩
def Inv.pinned(I:Inv X pins σ H s)(J:∀b∈fp,FpOk X pins H b)(R:∀b∈fp,∃o,s.heap.get? b=some o/\∀v,o.data≠.cell v):Inv X (pins++zl fp s.heap) σ H s :=
 I.pins_of λp S=>(cz.mp S).elim (λz=>I.pin p (b7 _ z)) λz=>by
  obtain⟨D,e⟩:=zt1 z;obtain⟨U,V,Y,_⟩:=J p.1 D;obtain⟨o,e',d⟩:=R p.1 D;rw[e] at e';cases e';exact⟨e,U,V,Y,d⟩
def Inv.unpinned{pins pl:kl}(I:Inv X (pins++pl) σ H s):Inv X pins σ H s:=I.pins_of λp D=>I.pin p (b7 _ (d6 _ D))
def z3a{iter:Expr}{wi:TI}(k:PassesOwn (model X.prog X.w) X.A X.env X.xe)(E:X.calm=true)(hi:PI X tg iter wi)(O:PG X tg g)(S:PSs X body tb)(P:∀x,foldedSetIterable iter X.env x=pure x:=by intro _;rfl):PS X (.For tg iter body [] pos) (tFor wi g tb):=by
 intro pins s σ H D I h;refine wpAny_For (thn (hi pins s σ H _ I h) λv s1 h1=>thn h1 λQ s2 h2=>?_) P;obtain⟨it,fp,F,J,H2,e,I2,T,q,G,W,⟨m0,w0⟩,turn⟩:=h2;subst e;have U:∀ {H':Hp},(∀b∈fp,H' b=none)->∀b∈fp,FpOk X pins H' b:=λhn b S=>⟨hn b S,(G b S).2⟩;refine codeAny_forLoop_any (λn s'=>∃i V H',Inv X pins V H' s'/\F i s'.heap/\(∀b∈fp,H' b=none)/\W i n V H') ?_ m0 ⟨0,σ,H2,I2,q,λb S=>(G b S).1,w0⟩;rintro n K ⟨i,σ3,H3,I3,st3,fr3,w3⟩;rcases turn i n σ3 H3 w3 with⟨l,qn⟩ | ⟨go,N,hN,step⟩
 ·refine wpAny_passesOwn k (thn (T.done X rfl rfl rfl E i pins K σ3 H3 X.xe I3 (U fr3) st3 l) λr s4 c=>?_)
  obtain⟨t,I4⟩:=c;subst t;exact wpAny_execs_nil ⟨σ3,H3,I4,qn⟩
 ·refine wpAny_passesOwn k (thn (T.item X rfl rfl rfl E i pins K σ3 H3 X.xe I3 (U fr3) st3 go) λr s4 c=>?_)
  obtain⟨u,t,h4⟩:=c;subst t;refine wpAny_passesOwn k (thn h4 λ_ L c=>?_);obtain⟨x,M,I5,r5,y5,j,y⟩:=c;have z:=I5.pinned (U y) (T.obj _ _ j);refine wpAny_passesOwn k (thn (O _ L σ3 M x u _ z r5 (step x M y5)) λ_ s6 c=>?_);obtain⟨B,H6,I6,q6⟩:=c;refine wpAny_passesOwn k (thn (S _ s6 B H6 _ I6 q6) λf C a=>?_);have again:∀ {R:St} {Y:Hp},Inv X (pins++zl fp L.heap) R Y C->N R Y->∃m,m<n/\∃i V H',Inv X pins V H' C/\F i C.heap/\(∀b∈fp,H' b=none)/\W i m V H':=λ{R Y} Z p=>by
   obtain⟨m',hm,w7⟩:=hN R Y p;refine⟨m',hm,i+1,R,Y,Z.unpinned,T.keep _ _ _ j λb S o e=>(Z.pin (b,o) (b7 _ (b7 _ (zix S e)))).1,λb S=>?_,w7⟩;obtain⟨o,e,d⟩:=T.obj _ _ j b S;exact(Z.pin (b,o) (b7 _ (b7 _ (zix S e)))).2.1
  cases f with
  | next=>obtain⟨R,Y,Z,p⟩:=a;exact again Z p
  | cont=>obtain⟨R,Y,Z,p⟩:=a;exact again Z p
  | brk=>obtain⟨R,Y,Z,a⟩:=a;exact⟨R,Y,Z.unpinned,a⟩
  | ret v=>obtain⟨x7,R,Y,Z,r7,a⟩:=a;exact⟨x7,R,Y,Z.unpinned,r7,a⟩
abbrev R2:=V->V->Hp->VK->Prop
def OpR(X:Cx)(f:Value->Value->Sem Value)(r:R2):Prop :=
 ∀(pins:kl) (s:Shared) (σ:St) (H:Hp) (x y:V) (v u:Value) (Q:VK),Inv X pins σ H s->RelV x v->RelV y u->r x y H Q ->
  wpAny (model X.prog X.w) X.A (f v u) (EP X pins σ Q) X.xe s
def UnR(X:Cx)(f:Value->Sem Value)(r:V->Hp->VK->Prop):Prop :=
 ∀(pins:kl) (s:Shared) (σ:St) (H:Hp) (x:V) (v:Value) (Q:VK),Inv X pins σ H s->RelV x v->r x H Q ->
  wpAny (model X.prog X.w) X.A (f v) (EP X pins σ Q) X.xe s
def oz(X:Cx)(f:Value)(r:k6->Hp->VK->Prop):Prop :=
 ∀(pins:kl) (s:Shared) (σ:St) (H:Hp) (xs:k6) (us:g8) (Q:VK),Inv X pins σ H s->Vals xs us->r xs H Q ->
  wpAny (model X.prog X.w) X.A (call f us) (EP X pins σ Q) X.xe s
def tOp(r:R2)(ta tb:TE):TE:=λσ H Q=>ta σ H λx H1=>tb σ H1 λy H2=>r x y H2 Q
def tUn(r:V->Hp->VK->Prop)(ta:TE):TE:=λσ H Q=>ta σ H λx H1=>r x H1 Q
def rI(C:Int->Int->Prop)(g:Int->Int->V):R2:=λx y H Q=>∃i j,x=.int i/\y=.int j/\C i j/\Q (g i j) H
def rI0(g:Int->Int->V):R2:=λx y H Q=>∃i j,x=.int i/\y=.int j/\Q (g i j) H
def rU(g:Int->V):V->Hp->VK->Prop:=λx H Q=>∃i,x=.int i/\Q (g i) H
variable{b:Expr}{Q:Value->Shared->Prop}{tb:TE}{f:Value->Value->Sem Value}
def binT(S:PE X a ta)(U:PE X b tb){R:V->V->Hp->Prop}(I:Inv X pins σ H s)(h:ta σ H λx H1=>tb σ H1 λy H2=>R x y H2)(Y:∀v u s2 x y H2,Inv X pins σ H2 s2->RelV x v->RelV y u->R x y H2->wpAny (model X.prog X.w) X.A (f v u) Q X.xe s2) :
  wpAny (model X.prog X.w) X.A (eval a X.env) (λv D=>wpAny (model X.prog X.w) X.A (eval b X.env) (λu s₂=>wpAny (model X.prog X.w) X.A (f v u) Q X.xe s₂) X.xe D) X.xe s:=by
 refine thn (S pins s σ H _ I h) λv Z J=>?_;obtain⟨x,H1,c,d,e⟩:=J;refine thn (U pins Z σ H1 _ c e) λu s2 J=>?_;obtain⟨y,H2,g,i,j⟩:=J;exact Y v u s2 x y H2 g d i j
variable{r:R2}
def z0i(D:OpR X (binaryOp op) r)(J:PE X a ta)(R:PE X b tb):PE X (.BinOp a op b pos) (tOp r ta tb):=by
 intro pins s σ H Q I h;exact wpAny_BinOp (binT J R I h λv u s2 x y H2 S U V q=>D pins s2 σ H2 x y v u Q S U V q)
variable{op:CmpOp}
def z3b{op:UnaryOp}{r:V->Hp->VK->Prop}(D:UnR X (unaryOp op) r)(J:PE X a ta):PE X (.UnaryOp op a pos) (tUn r ta):=by
 intro pins s σ H Q I h;exact UnaryOp_ (thn (J pins s σ H _ I h) λv s1 ⟨x,H1,I1,r1,q1⟩=>D pins s1 σ H1 x v Q I1 r1 q1)
variable{g:Int->Int->Int}{C:Addr}
def opI{C:Int->Int->Prop}(rule:∀(i j:Int) (t u:Tok) (s:Shared) (Q:Value->Shared->Prop) (E:Value->Shared->Prop),C i j->Q (.int (g i j) s.toks) { s with toks:=s.toks+1 }->wpAny (model X.prog X.w) X.A (f (.int i t) (.int j u)) Q E s) :
  OpR X f (rI C λi j=>.int (g i j)):=by
 intro pins s σ H x y v u Q I D J h;obtain⟨i,j,rfl,rfl,R,q⟩:=h;obtain⟨t,rfl⟩:=D;obtain⟨t',rfl⟩:=J;exact rule i j t t' s _ _ R ⟨.int (g i j),H,I.tok _,⟨_,rfl⟩,q⟩
def opI0(rule:∀(i j:Int) (t u:Tok) (s:Shared) (Q:Value->Shared->Prop) (E:Value->Shared->Prop),Q (.int (g i j) s.toks) { s with toks:=s.toks+1 }->wpAny (model X.prog X.w) X.A (f (.int i t) (.int j u)) Q E s) :
  OpR X f (rI0 λi j=>.int (g i j)):=by
 intro pins s σ H x y v u Q I D J h;obtain⟨i,j,rfl,rfl,q⟩:=h;obtain⟨t,rfl⟩:=D;obtain⟨t',rfl⟩:=J;exact rule i j t t' s _ _ ⟨.int (g i j),H,I.tok _,⟨_,rfl⟩,q⟩
def opB0{g:Int->Int->Bool}(rule:∀(i j:Int) (t u:Tok) (s:Shared) (Q:Value->Shared->Prop) (E:Value->Shared->Prop),Q (.bool (g i j)) s->wpAny (model X.prog X.w) X.A (f (.int i t) (.int j u)) Q E s) :
  OpR X f (rI0 λi j=>.bl (g i j)):=by
 intro pins s σ H x y v u Q I D J h;obtain⟨i,j,rfl,rfl,q⟩:=h;obtain⟨t,rfl⟩:=D;obtain⟨t',rfl⟩:=J;exact rule i j t t' s _ _ ⟨.bl (g i j),H,I,rfl,q⟩
def CDiv(i j:Int):Prop:=0<j/\j<1073741824
def CPow(i j:Int):Prop:=0<=j/\j<=1000000/\i.natAbs<2 ^ 64
def CMul(i j:Int):Prop:=(-(2 ^ 64)<i/\i<2 ^ 64)\/(-(2 ^ 64)<j/\j<2 ^ 64)
def CMul.ok(h:CMul i j):IntMulOk i j:=by
 rcases h with⟨h1,h2⟩ | ⟨h1,h2⟩
 ·exact .of_left (intBits_le_64 h1 h2)
 ·exact .of_right (intBits_le_64 h1 h2)
def z3c:OpR X (binaryOp .Add) (rI0 λi j=>.int (i+j)):=opI0 λ_ _ _ _ _ _ _ q=>add_int q
def z3d:OpR X (binaryOp .Sub) (rI0 λi j=>.int (i-j)):=opI0 λ_ _ _ _ _ _ _ q=>sub_int q
def z3e:OpR X (binaryOp .Mult) (rI CMul λi j=>.int (i*j)):=opI λ_ _ _ _ _ _ _ D q=>mul_int q D.ok
theorem z0j:OpR X (binaryOp .FloorDiv) (rI CDiv λi j=>.int (i / j)):=opI λi j _ _ _ _ _ D q=>by
 have h1:(0:Int)<j:=D.1;have h2:j<1073741824:=D.2;exact floordiv_int (by lia) (by rw[Int.fdiv_eq_ediv_of_nonneg i (by lia)];exact q) (.inl (PyProof.noPylong_small (by lia)))
theorem z3f:OpR X (binaryOp .Mod) (rI (λ_ j=>0<j) λi j=>.int (i % j)):=opI λi j _ _ _ _ _ D q=>by
 have h1:(0:Int)<j:=D;exact mod_int' (by lia) (by rw[Int.fmod_eq_emod_of_nonneg i (by lia)];exact q)
def z3g:OpR X (binaryOp .Pow) (rI CPow λi j=>.int (i ^ j.toNat)):=opI λ_ _ _ _ _ _ _ D q=>pow_int_small D.1 D.2.1 D.2.2 q
variable{f:Addr}
def unI{f:Value->Sem Value}{g:Int->Int}(rule:∀(i:Int) (t:Tok) (s:Shared) (Q:Value->Shared->Prop) (E:Value->Shared->Prop),Q (.int (g i) s.toks) { s with toks:=s.toks+1 }->wpAny (model X.prog X.w) X.A (f (.int i t)) Q E s) :
  UnR X f (rU λi=>.int (g i)):=by
 intro pins s σ H x v Q I D h;obtain⟨i,rfl,q⟩:=h;obtain⟨t,rfl⟩:=D;exact rule i t s _ _ ⟨.int (g i),H,I.tok _,⟨_,rfl⟩,q⟩
def zy5:UnR X (unaryOp .USub) (rU λi=>.int (-i)):=unI λ_ _ _ _ _ q=>neg_int q
def scal:V->V->Bool
 | .non,.non=>true | .non,.int _=>true | .int _,.non=>true | .non,.bl _=>true | .bl _,.non=>true | .non,.str _=>true | .str _,.non=>true
 | .int _,.int _=>true | .bl _,.bl _=>true | .str _,.str _=>true | .byt _,.byt _=>true
 | .int _,.str _=>true | .str _,.int _=>true | .bl _,.str _=>true | .str _,.bl _=>true
 | _,_=>false
def rEq:R2:=λx y H Q=>scal x y=true/\Q (.bl (decide (x=y))) H
def rNe:R2:=λx y H Q=>scal x y=true/\Q (.bl (!decide (x=y))) H
def zt2:decide (V.int i=V.int j)=(i==j):=by
 rw[lm];simp
def zy6{i j:Bool}:decide (V.bl i=V.bl j)=(i==j):=by
 rw[lm];simp
def zt3{i j:Str}:decide (V.str i=V.str j)=(i==j):=by
 rw[lm];simp
def zt4{i j:Array UInt8}:decide (V.byt i=V.byt j)=(i.toList==j.toList):=by
 rw[lm];cases i;cases j;simp
def ke{Q:VK}{k k':Bool}(I:Inv X pins σ H s)(q:Q (.bl k) H)(e:k=k'):EP X pins σ Q (.bool k') s:=by
 subst e;exact⟨.bl k,H,I,rfl,q⟩
def z3h:OpR X (compareOp .Eq) rEq:=by
 intro pins s σ H x y v u Q I R D h;obtain⟨J,q⟩:=h;cases x with
 | non =>
   cases R;cases y with
   | non=>cases D;exact PySem.EqNone.eq_none_none (ke I q (by simp))
   | bl j=>cases D;exact PySem.EqNone.eq_none_bool (ke I q (by simp))
   | int j=>obtain⟨t',rfl⟩:=D;exact PySem.EqNone.eq_none_int (ke I q (by simp))
   | str j=>obtain⟨t',rfl⟩:=D;exact PySem.EqNone.eq_none_str (ke I q (by simp))
   | _=>exact absurd (show false=true from J) cg
 | bl i =>
   cases R;cases y with
   | non=>cases D;exact PySem.EqNone.eq_bool_none (ke I q (by simp))
   | bl j=>cases D;exact eq_bool (ke I q zy6)
   | str j=>obtain⟨t',rfl⟩:=D;exact PySem.EqMixed.eq_bool_str (ke I q (by simp))
   | _=>exact absurd (show false=true from J) cg
 | int i =>
   obtain⟨t,rfl⟩:=R;cases y with
   | non=>cases D;exact PySem.EqNone.eq_int_none (ke I q (by simp))
   | int j=>obtain⟨t',rfl⟩:=D;exact eq_int (ke I q zt2)
   | str j=>obtain⟨t',rfl⟩:=D;exact PySem.EqMixed.eq_int_str (ke I q (by simp))
   | _=>exact absurd (show false=true from J) cg
 | str i =>
   obtain⟨t,rfl⟩:=R;cases y with
   | non=>cases D;exact PySem.EqNone.eq_str_none (ke I q (by simp))
   | bl j=>cases D;exact PySem.EqMixed.eq_str_bool (ke I q (by simp))
   | int j=>obtain⟨t',rfl⟩:=D;exact PySem.EqMixed.eq_str_int (ke I q (by simp))
   | str j=>obtain⟨t',rfl⟩:=D;exact eq_str (ke I q zt3)
   | _=>exact absurd (show false=true from J) cg
 | byt i =>
   obtain⟨t,rfl⟩:=R;cases y with
   | byt j=>obtain⟨t',rfl⟩:=D;exact PySem.W.eq_bytes (ke I q zt4)
   | _=>exact absurd (show false=true from J) cg
 | _=>cases y <;> exact absurd (show false=true from J) cg
def z3i:OpR X (compareOp .NotEq) rNe:=by
 intro pins s σ H x y v u Q I R D h;obtain⟨J,q⟩:=h;cases x with
 | non =>
   cases R;cases y with
   | non=>cases D;exact PySem.EqNone.ne_none_none (ke I q (by simp))
   | bl j=>cases D;exact PySem.EqNone.ne_none_bool (ke I q (by simp))
   | int j=>obtain⟨t',rfl⟩:=D;exact PySem.EqNone.ne_none_int (ke I q (by simp))
   | str j=>obtain⟨t',rfl⟩:=D;exact PySem.EqNone.ne_none_str (ke I q (by simp))
   | _=>exact absurd (show false=true from J) cg
 | bl i =>
   cases R;cases y with
   | non=>cases D;exact PySem.EqNone.ne_bool_none (ke I q (by simp))
   | bl j=>cases D;exact ne_bool (ke I q (congrArg not zy6))
   | str j=>obtain⟨t',rfl⟩:=D;exact PySem.EqMixed.ne_bool_str (ke I q (by simp))
   | _=>exact absurd (show false=true from J) cg
 | int i =>
   obtain⟨t,rfl⟩:=R;cases y with
   | non=>cases D;exact PySem.EqNone.ne_int_none (ke I q (by simp))
   | int j=>obtain⟨t',rfl⟩:=D;exact ne_int (ke I q (congrArg not zt2))
   | str j=>obtain⟨t',rfl⟩:=D;exact PySem.EqMixed.ne_int_str (ke I q (by simp))
   | _=>exact absurd (show false=true from J) cg
 | str i =>
   obtain⟨t,rfl⟩:=R;cases y with
   | non=>cases D;exact PySem.EqNone.ne_str_none (ke I q (by simp))
   | bl j=>cases D;exact PySem.EqMixed.ne_str_bool (ke I q (by simp))
   | int j=>obtain⟨t',rfl⟩:=D;exact PySem.EqMixed.ne_str_int (ke I q (by simp))
   | str j=>obtain⟨t',rfl⟩:=D;exact ne_str (ke I q (congrArg not zt3))
   | _=>exact absurd (show false=true from J) cg
 | byt i =>
   obtain⟨t,rfl⟩:=R;cases y with
   | byt j=>obtain⟨t',rfl⟩:=D;exact PySem.W.ne_bytes (ke I q (congrArg not zt4))
   | _=>exact absurd (show false=true from J) cg
 | _=>cases y <;> exact absurd (show false=true from J) cg
def z6f:OpR X (compareOp .Lt) (rI0 λi j=>.bl (decide (i<j))):=opB0 λ_ _ _ _ _ _ _ q=>lt_int q
def z3j:OpR X (compareOp .LtE) (rI0 λi j=>.bl (decide (i<=j))):=opB0 λ_ _ _ _ _ _ _ q=>le_int q
def z3k:OpR X (compareOp .Gt) (rI0 λi j=>.bl (decide (j<i))):=opB0 λ_ _ _ _ _ _ _ q=>gt_int q
def z3l:OpR X (compareOp .GtE) (rI0 λi j=>.bl (decide (j<=i))):=opB0 λ_ _ _ _ _ _ _ q=>ge_int q
def qc(b:Expr)(h:op≠.In:=by decide)(h2:op≠.NotIn:=by decide):behindInMarks op b=false:=by
 have D:(op==CmpOp.In)=false:=by cases op <;> first | rfl | exact absurd rfl h
 have I:(op==CmpOp.NotIn)=false:=by cases op <;> first | rfl | exact absurd rfl h2
 cases b <;> simp[behindInMarks,D,I]
def z0k(D:OpR X (compareOp op) r)(J:PE X a ta)(R:PE X b tb)(S:behindInMarks op b=false):PE X (.Compare a [op] [b] pos) (tOp r ta tb):=by
 intro pins s σ H Q I h;exact wpAny_Compare1 (binT J R I h λv u s2 x y H2 U V Y q=>D pins s2 σ H2 x y v u Q U V Y q) S
def z3m(t:TE):TT:=λσ H Q=>t σ H λx H'=>∃k,x=.bl k/\Q k H'
def z0l(D:OpR X (compareOp op) r)(J:PE X a ta)(R:PE X b tb)(S:behindInMarks op b=false):PT X (.Compare a [op] [b] pos) (z3m (tOp r ta tb)):=by
 intro pins s σ H Q I h;refine wpAny_isTrue_Compare1 (thn (J pins s σ H _ I h) λv s1 ⟨x,H1,I1,r1,q1⟩=>thn (R pins s1 σ H1 _ I1 q1) λu s2 ⟨y,H2,I2,r2,q2⟩ =>
  thn (D pins s2 σ H2 x y v u _ I2 r1 r2 q2) λc s3 ⟨z,H3,I3,r3,k,e,q3⟩=>?_) S
 subst e;cases r3;exact wpAny_truthy_bool ⟨H3,I3,q3⟩
def xm:(sizeLine:Nat)<2 ^ 63:=by rw[sizeLine_eq];decide
variable{x:V}
def vh(r:Vals [x] us):∃u,us=[u]/\RelV x u:=by
 cases r with
 | cons r1 r2=>cases r2;exact⟨_,rfl,r1⟩
variable{y:V}
def z0m(r:Vals [x,y] us):∃u D,us=[u,D]/\RelV x u/\RelV y D:=by
 cases r with
 | cons r1 r2 =>
   cases r2 with
   | cons r3 r4=>cases r4;exact⟨_,_,rfl,r1,r3⟩
def zt5(J:X.calm=true):oz X (.builtin "max") (λxs H Q=>∃i j,xs=[.int i,.int j]/\Q (.int (if j > i then j else i)) H):=by
 intro pins s σ H xs us Q I r h;obtain⟨i,j,rfl,q⟩:=h;obtain⟨u,R,rfl,⟨t,rfl⟩,⟨t',rfl⟩⟩:=z0m r;refine max_two_ints (I.ok.hd J) λh' tk k=>⟨_,H,I.kept k,?_,q⟩;by_cases D:j > i
 ·rw[if_pos D,if_pos D];exact⟨_,rfl⟩
 ·rw[if_neg D,if_neg D];exact⟨_,rfl⟩
def zt6:oz X (.type "int") (λxs H Q=>(∃i,xs=[.int i]/\Q (.int i) H)\/∃k,xs=[.bl k]/\Q (.int (if k then 1 else 0)) H):=by
 intro pins s σ H xs us Q I r h;rcases h with⟨i,rfl,q⟩ | ⟨k,rfl,q⟩
 ·obtain⟨u,rfl,t,rfl⟩:=vh r
  exact call_int_int ⟨.int i,H,I,⟨_,rfl⟩,q⟩
 ·obtain⟨u,rfl,D⟩:=vh r
  cases D;exact call_int_bool ⟨.int (if k then 1 else 0),H,I.tok _,⟨_,rfl⟩,q⟩
structure ObjM (h:Heap) (x dx C:Addr) (mA:Str->g9):Prop where
 obj:h.get? x=some (PySem.W.instObj C dx)
 ns:h.Ns1 dx mA
 ne:dx≠x
variable{dx:Addr}{mA:Str->g9}
def zt7(n:h.Ns1 dx mA):∃od,h.get? dx=some od/\∀name,PySem.W.lookIn name od=some (mA name):=by
 obtain⟨o,es,Y,I,J,R,_,S⟩:=n;refine⟨o,I,λname=>?_⟩;have e:=S name;unfold nsFind findBy at e;rw[<-Array.find?_toList] at e;unfold PySem.W.lookIn;rw[J];dsimp only;split
 ·rename_i y q
  rw[q] at e;exact congrArg some e
 ·rename_i q
  rw[q] at e;have a:es.toList.any (·.refKey)=false:=by
   rw[List.any_eq_false];intro y U;obtain⟨z,t,D⟩:=R y (Array.mem_toList_iff.mp U);simp[DictEntry.refKey,D]
  have V:¬es.toList.any (·.refKey)=true:=by rw[a];exact cg
  rw[if_neg V];exact congrArg some e
variable{x:Addr}
def ObjM.look(I:ObjM h x dx C mA):∃od,PySem.W.InstAt h x (PySem.W.instObj C dx) C (some od)/\∀name,PySem.W.lookIn name od=some (mA name) :=
 let ⟨od,D,J⟩:=zt7 I.ns
 ⟨od,⟨I.obj,rfl,rfl,D⟩,J⟩
variable{prog:Program}{name:Str}
def z0n{D:Bool}(X:K.In s.heap)(I:ObjM s.heap x dx C mA)(S:PySem.W.plainGet K C name=true)(U:PySem.W.hasDictIn K C=true)(V:PySem.W.findIn K (.ref C) name=some none)(Y:mA name=some v)(R:PySem.W.handedIn v=true)(h:Q v { s with toks:=s.toks+1 }) :
  wpAny (model prog w) A (getAttr (.ref x) name D) Q E s:=by
 obtain⟨od,J,Z⟩:=I.look;exact PySem.W.get_value X J (mn S).1 (PySem.W.findObj_own U V rfl (by rw[Z,Y])) R h
def zww{pl:Sem Bool}{Q:Value×g8->Shared->Prop}(X:K.In s.heap)(I:ObjM s.heap x dx C mA)(D:PySem.W.plainGet K C name=true)(R:PySem.W.findIn K (.ref C) name=some (some (.ref f)))(S:PySem.W.isFn K (.ref f)=true)(U:mA name=none)(h:Q (.ref f,[.ref x]) s) :
  wpAny (model prog w) A (getMethod (.ref x) name pl) Q E s:=by
 obtain⟨od,J,V⟩:=I.look;exact PySem.W.method_fn X J (mn D).1 (mn D).2 R (beq_iff_eq.mp S) (by show(PySem.W.lookIn name od).map (·.isSome)=some false;rw[V,U];rfl) h
theorem z0o{Z:g7}{Q:Unit->Shared->Prop}(X:K.In s.heap)(I:ObjM s.heap x dx C mA)(c:PySem.W.findIn K (.ref C) "__setattr__" = some (some (.builtin "object.__setattr__")))(d:PySem.W.plainOver K C=true)(e:PySem.W.takerIn K C name=some none)(f:PySem.W.hasDictIn K C=true)(g:PySem.Within mA Z)(i:Z.length<=sizeLine)(h:∀h',ObjM h' x dx C (λy=>if y=name then some v else mA y)->Heap.SameBut dx s.heap h'->Q () { s with heap:=h',toks:=s.toks+2 }) :
  wpAny (model prog w) A (setAttr (.ref x) name v) Q E s:=by
 obtain⟨od,J,n⟩:=I.look;refine PySem.W.set_plain X J c (PySem.W.osa_open (s:={ s with toks:=s.toks+1 }) (r:=none) X J d e λb=>?_);obtain⟨o,j,S⟩:=PySem.W.any_some f;have k:s.heap.get? x=some ⟨.ref C,some dx,.plain,#[]⟩:=I.obj;refine wpAny_bind (wpAny_pure (wpAny_bind (wpAny_bind (wpAny_loadPart k (wpAny_bind (PySem.W.Looks.here (s:={ s with toks:=s.toks+1 }) (PySem.W.looks_clsIn X j) ?_))))));rw[S];refine wpAny_pure (a:=some dx) (wpAny_bind (wpAny_pure (wpAny_bind ?_)));refine wpAny_nsSet1 (s:={ s with toks:=s.toks+1 }) I.ns λh' D R=>?_;obtain⟨p,l,m,U,V,Y⟩:=D.count (PySem.Within.cons name v g);refine wpAny_bind (wpAny_lookBehind U (by rw[V];exact pastItsLine_dict (de Y (by rw[ak];lia))) ?_);exact wpAny_pure (h _ ⟨(R.2 _ (Ne.symm I.ne)).trans I.obj,D,I.ne⟩ R)
variable{kw:List (Str×Value)}
def zwx{R:Result->Shared->Prop}{vs:g8}(X:K.In s.heap)(I:PySem.W.makesIn K C=true)(hi:PySem.W.findIn K (.ref C) "__init__" = some (some (.ref f)))(J:PySem.W.typeIn K (.ref f)=some (.type "function"))(h:codeAny (model prog w) (A.under (.builtin "type.__call__" ⟨.ref C::vs,kw⟩)) (.call (.ref f) ⟨.ref (s.heap.objs.size+1)::vs,kw⟩) (PySem.W.InitBack (s.heap.objs.size+1) R)
   { s with heap:=(s.heap.push PySem.W.emptyDict).push (PySem.W.instObj C s.heap.objs.size) }) :
  codeAny (model prog w) A (.call (.ref C) ⟨vs,kw⟩) R s:=by
 obtain⟨S,g,d,t,os⟩:=s;exact PySem.W.make_core (PySem.W.makes_of X I) (PySem.W.looks_findIn X hi) (λD=>PySem.W.bind_fn X D J) (.inl rfl) h
def putF(f:Str)(v:V):List (Str×V)->List (Str×V)
 | []=>[(f,v)]
 | (g,x)::r=>if g=f then(g,v)::r else(g,x)::putF f v r
def zlk(f g:Str)(v:V):∀fs:List (Str×V),(putF f v fs).lookup g=if g=f then some v else fs.lookup g
 | []=>by
   show List.lookup g [(f,v)]=_;by_cases h:g=f
   ·have D:(g==f)=true:=beq_iff_eq.mpr h
    simp only[List.lookup,D,if_pos h]
   ·have D:(g==f)=false:=beq_eq_false_iff_ne.mpr h
    simp only[List.lookup,D,if_neg h]
 | (k,x)::r=>by
   have J:=zlk f g v r;rw[show putF f v ((k,x)::r)=(if k=f then(k,v)::r else(k,x)::putF f v r) from rfl];by_cases I:k=f
   ·rw[if_pos I]
    by_cases h:g=k
    ·have D:(g==k)=true:=beq_iff_eq.mpr h
     simp only[List.lookup,D,if_pos (h.trans I)]
    ·have D:(g==k)=false:=beq_eq_false_iff_ne.mpr h
     simp only[List.lookup,D,if_neg (λe:g=f=>h (e.trans I.symm))]
   ·rw[if_neg I]
    by_cases h:g=k
    ·have D:(g==k)=true:=beq_iff_eq.mpr h
     simp only[List.lookup,D,if_neg (λe:g=f=>I (h.symm.trans e))]
    ·have D:(g==k)=false:=beq_eq_false_iff_ne.mpr h
     simp only[List.lookup,D];exact J
def zll(f:Str)(v:V):∀fs:List (Str×V),f∈(putF f v fs).map (·.1)/\∀g,g∈fs.map (·.1)->g∈(putF f v fs).map (·.1)
 | []=>⟨by simp[putF],λg h=>by simp at h⟩
 | (k,x)::r=>by
   obtain⟨I,J⟩:=zll f v r;rw[show putF f v ((k,x)::r)=(if k=f then(k,v)::r else(k,x)::putF f v r) from rfl];by_cases D:k=f
   ·rw[if_pos D]
    subst D;exact⟨by simp,λg h=>by simpa using h⟩
   ·rw[if_neg D]
    refine⟨?_,λg h=>?_⟩
    ·rw[bn]
     exact am _ I
    ·rw[bn] at h ⊢
     rcases ce.mp h with e | e
     ·exact ce.mpr (.inl e)
     ·exact am _ (J g e)
theorem zlm(f:Str)(v:V):∀fs:List (Str×V),(putF f v fs).length<=fs.length+1
 | []=>by simp[putF]
 | (k,x)::r=>by
   have I:=zlm f v r;rw[show putF f v ((k,x)::r)=(if k=f then(k,v)::r else(k,x)::putF f v r) from rfl];by_cases D:k=f
   ·rw[if_pos D,ak,ak];lia
   ·rw[if_neg D,ak,ak];lia
variable{o:g9}{v:V}
def RelO.some_of(r:RelO (some v) o):∃u,o=some u/\RelV v u:=by
 cases o with
 | none=>exact(show False from r).elim
 | some u=>exact⟨u,rfl,r⟩
def RelO.none_of(r:RelO none o):o=none:=by
 cases o with
 | none=>rfl
 | some u=>exact(show False from r).elim
def zt8(r:RelV v u):PySem.W.handedIn u=true:=by
 cases v with
 | non=>cases (show u=Value.none from r);rfl
 | bl b=>cases (show u=Value.bool b from r);rfl
 | int i=>obtain⟨t,e⟩:=(show ∃t,u=Value.int i t from r);cases e;rfl
 | str x=>obtain⟨t,e⟩:=(show ∃t,u=Value.str x t from r);cases e;rfl
 | byt b=>obtain⟨t,e⟩:=(show ∃t,u=Value.bytes b t from r);cases e;rfl
 | flt b=>obtain⟨t,e⟩:=(show ∃t,u=Value.float b t from r);cases e;rfl
 | ref a=>cases (show u=Value.ref a from r);rfl
 | ty n=>cases (show u=Value.type n from r);rfl
variable{a:Addr}{fs:List (Str×V)}
def zm4(D:HOk P w H h)(e:H a=some (.ins C dx fs)):∃mA,ObjM h a dx C mA/\(∀f,RelO (fs.lookup f) (mA f))/\PySem.Within mA (fs.map (·.1))/\fs.length<=1000/\H dx=some (.own a):=by
 obtain⟨d,z,I,J,mA,n,r,q⟩:=(show ObjOk P w H h a (.ins C dx fs) from D a _ e);exact⟨mA,⟨J,n,I⟩,r,q,z,d⟩
structure Cls (K:kf) (C:Addr):Prop where
 pg:PySem.W.plainGet K C Str.empty=true
 hd:PySem.W.hasDictIn K C=true
 po:PySem.W.plainOver K C=true
 sa:PySem.W.findIn K (.ref C) "__setattr__" = some (some (.builtin "object.__setattr__"))
def Cls.get(c:Cls K C)(f:Str):PySem.W.plainGet K C f=true:=c.pg
def NoAttr(K:kf)(C:Addr)(f:Str):Prop:=PySem.W.findIn K (.ref C) f=some none
variable{f:Str}
def NoAttr.taker(n:NoAttr K C f):PySem.W.takerIn K C f=some none:=by
 unfold PySem.W.takerIn;rw[show PySem.W.findIn K (.ref C) f=some none from n];rfl
structure Con (K:kf) (C:Addr) (f:Str) (v:V) (u:Value):Prop where
 at_:PySem.W.findIn K (.ref C) f=some (some u)
 rel:RelV v u
 get:PySem.W.specialIn K u "__get__" = some none
 cp:PySem.W.copiedNames.contains f=false
structure Meth (K:kf) (C:Addr) (m:Str) (f:Addr):Prop where
 at_:PySem.W.findIn K (.ref C) m=some (some (.ref f))
 fn:PySem.W.isFn K (.ref f)=true
 kp:PySem.W.keepIn K (.ref f)=true
variable{b:Bool}
def zsz(I:Inv X pins σ H s)(e:H a=some (.ins C dx fs))(c:Cls X.K C)(n:NoAttr X.K C f)(l:fs.lookup f=some v)(h:∀u s',Inv X pins σ H s'->RelV v u->Q u s'):wpAny (model X.prog X.w) A (getAttr (.ref a) f b) Q E s:=by
 obtain⟨mA,O,r,_,_,_⟩:=zm4 I.hok e;obtain⟨u,J,D⟩:=RelO.some_of (v:=v) (o:=mA f) (by rw[<-l];exact r f);exact z0n I.kIn O (c.get f) c.hd n J (zt8 D) (h u _ (I.tok _) D)
def zml{m:Str}{g:Addr}{pl:Sem Bool}{Q:Value×g8->Shared->Prop}(I:Inv X pins σ H s)(e:H a=some (.ins C dx fs))(c:Cls X.K C)(k:Meth X.K C m g)(l:fs.lookup m=none)(h:Q (.ref g,[.ref a]) s):wpAny (model X.prog X.w) A (getMethod (.ref a) m pl) Q E s:=by
 obtain⟨mA,O,r,_,_,_⟩:=zm4 I.hok e;have D:mA m=none:=RelO.none_of (by rw[<-l];exact r m);exact zww I.kIn O (c.get m) k.at_ k.fn D h
theorem zs0{Q:Unit->Shared->Prop}(I:Inv X pins σ H s)(e:H a=some (.ins C dx fs))(c:Cls X.K C)(n:NoAttr X.K C f)(Z:fs.length<1000)(J:RelV y u)(h:∀s',Inv X pins σ (upd H a (.ins C dx (putF f y fs))) s'->Q () s'):wpAny (model X.prog X.w) A (setAttr (.ref a) f u) Q E s:=by
 obtain⟨mA,O,r,wi,_,D⟩:=zm4 I.hok e;have R:(fs.map (·.1)).length<=sizeLine:=by rw[ah,sizeLine_eq];lia
 refine z0o I.kIn O c.sa c.po n.taker c.hd wi R λh' O' S=>h _ ?_;have U:∃o,h'.get? dx=some o:=let ⟨o,_,_,e',_⟩:=O'.ns;⟨o,e'⟩;refine I.write (x:=a) (e:=dx) (by rw[e];exact True.intro) (.inr D) (λb q V z=>(S.2 b V).trans z) U ?_;refine⟨by rw[gv O.ne];exact D,?_,O.ne,O'.obj,_,O'.ns,λg=>?_,λg Y=>?_⟩
 ·have:=zlm f y fs;lia
 ·show RelO ((putF f y fs).lookup g) (if g=f then some u else mA g)
  rw[zlk];by_cases q:g=f
  ·rw[if_pos q,if_pos q];exact J
  ·rw[if_neg q,if_neg q];exact r g
 ·by_cases q:g=f
  ·rw[q];exact(zll f y fs).1
  ·refine(zll f y fs).2 g (wi g λz=>Y ?_)
   show(if g=f then some u else mA g)=none;rw[if_neg q];exact z
def Inv.made(I:Inv X pins σ H s):Inv X pins σ (upd (upd H s.heap.objs.size (.own (s.heap.objs.size+1))) (s.heap.objs.size+1) (.ins C s.heap.objs.size []))
  { s with heap:=(s.heap.push PySem.W.emptyDict).push (PySem.W.instObj C s.heap.objs.size) }:=by
 have D:(s.heap.push PySem.W.emptyDict).get? s.heap.objs.size=some PySem.W.emptyDict:=ci s.heap rfl;have R:((s.heap.push PySem.W.emptyDict).push (PySem.W.instObj C s.heap.objs.size)).get? (s.heap.objs.size+1)=some (PySem.W.instObj C s.heap.objs.size):=by
  have:=ci (s.heap.push PySem.W.emptyDict) (o:=PySem.W.instObj C s.heap.objs.size) rfl;rwa [i8] at this
 have S:(s.heap.push PySem.W.emptyDict).Ns s.heap.objs.size (λ_=>none):=⟨PySem.W.emptyDict,#[],_,D,rfl,(λe U=>absurd U (by simp)),λ_=>rfl⟩;have V:=I.laid (a:=s.heap.objs.size) (o:=.own (s.heap.objs.size+1)) (h':=s.heap.push PySem.W.emptyDict) (t':=s.toks) (λb u q=>au _ q) (b9 _) ⟨_,D⟩;refine V.laid (a:=s.heap.objs.size+1) (o:=.ins C s.heap.objs.size []) (t':=s.toks) (λb u q=>au _ q) (Nat.le_of_eq (i8 _ _)) ?_;have J:s.heap.objs.size≠s.heap.objs.size+1:=b8 (fj _);refine⟨by rw[gv J,km],gz _,J,R,λ_=>none,(Heap.Ns1.of_empty S).at λo q=>au _ q,λ_=>True.intro,λy Y=>absurd rfl Y⟩
def z0p{env:Env}(I:attributeBase e f env (eval e env)=eval e env)(h:wpAny (model prog w) A (eval e env) (λo D=>wpAny (model prog w) A (getAttr o f true) Q E D) E s):wpAny (model prog w) A (eval (.Attribute e f pos) env) Q E s :=
 Attribute_any_ h (by rw[arm_eval_Attribute,I])
def tFld(K:kf)(ta:TE)(f:Str):TE:=λσ H Q=>ta σ H λx H1=>∃a C dx fs v,x=.ref a/\H1 a=some (.ins C dx fs)/\Cls K C/\NoAttr K C f/\fs.lookup f=some v/\Q v H1
def sFld(K:kf)(ta tv:TE)(f:Str):TS:=λD σ H=>tv σ H λy H1=>ta σ H1 λx H2=>∃a C dx fs,x=.ref a/\H2 a=some (.ins C dx fs)/\Cls K C/\NoAttr K C f/\fs.length<1000 /\
 D.nx σ (upd H2 a (.ins C dx (putF f y fs)))
def zy7(D:PE X e ta)(J:attributeBase e f X.env (eval e X.env)=eval e X.env):PE X (.Attribute e f pos) (tFld X.K ta f):=by
 intro pins s σ H Q I h;refine z0p J (thn (D pins s σ H _ I h) λu Z R=>?_);obtain⟨x,H1,S,U,a,C,dx,fs,v,ex,ea,c,n,l,q⟩:=R;subst ex;obtain rfl:u=Value.ref a:=U;exact zsz S ea c n l λb s2 V Y=>⟨v,H1,V,Y,q⟩
variable{o value:Expr}{tv:TE}
def z3n(R:PE X o ta)(S:PE X value tv)(U:swapsWith value (some (.Attribute o f pos')) pos.line X.env=pure false):PS X (.Assign [.Attribute o f pos'] value pos) (sFld X.K ta tv f):=by
 intro pins s σ H D I h;refine plainObj_wpAny_Assign_Attribute (thn (S pins s σ H _ I h) λu V J=>?_) U;obtain⟨y,H1,Y,Z,q⟩:=J;refine thn (R pins V σ H1 _ Y q) λb s2 J=>?_;obtain⟨x,H2,d,e,a,C,dx,fs,ex,ea,c,n,l,g⟩:=J;subst ex;obtain rfl:b=Value.ref a:=e;exact zs0 d ea c n l Z λj i=>⟨σ,_,i,g⟩
inductive TyOf (K:kf) (H:Hp):V->Value->Prop where
 | non:TyOf K H .non (.type "NoneType")
 | bl (x:Bool):TyOf K H (.bl x) (.type "bool")
 | int (i:Int):TyOf K H (.int i) (.type "int")
 | str (x:Str):TyOf K H (.str x) (.type "str")
 | flt (x:UInt64):TyOf K H (.flt x) (.type "float")
 | lst {a:Addr} {xs:k6} (e:H a=some (.lst xs)):TyOf K H (.ref a) (.type "list")
 | frz {a:Addr} {o:Obj} {xs:k6} (e:H a=some (.frz o (.lst xs))):TyOf K H (.ref a) (.type "list")
 | tup {a:Addr} {xs:k6} (e:H a=some (.tup xs)):TyOf K H (.ref a) (.type "tuple")
 | dK {a:Addr} {kvs:List (Key×V)} (e:H a=some (.dK kvs)):TyOf K H (.ref a) (.type "dict")
 | dT {a:Addr} {kvs:List (List Key×V)} (e:H a=some (.dT kvs)):TyOf K H (.ref a) (.type "dict")
 | ins {a C dx:Addr} {fs:List (Str×V)} (e:H a=some (.ins C dx fs)) (cl:Cls K C) (ha:PySem.W.findIn K (.ref C) "__class__" = some (some (.builtin "object.__class__")))
    (hn:PySem.W.specialIn K (.builtin "object.__class__") "__get__" = some (some (.builtin "getset_descriptor.__get__"))) (htk:PySem.W.takesIn K (.builtin "object.__class__")=some true)
    (hm:PySem.W.mroIn K C (.type "object")=some true):TyOf K H (.ref a) (.ref C)
variable{x:Str}
def zt9{x:V}{t:Value}(I:Inv X pins σ H s)(D:RelV x u)(R:TyOf X.K H x t)(e:PySem.W.kitOne X.K t c=some b)(h:∀tk,Q (.bool b) { s with toks:=tk }) :
  wpAny (model X.prog X.w) A (call (.builtin "isinstance") [u,c]) Q E s:=by
 cases R with
 | non=>cases (show u=Value.none from D);exact d8 PySem.W.kitx_none I.kIn True.intro e (λz=>nomatch z) h
 | bl y=>cases (show u=Value.bool y from D);exact d8 PySem.W.kitx_bool I.kIn True.intro e (λz=>nomatch z) h
 | int i=>obtain⟨t,q⟩:=(show ∃t,u=Value.int i t from D);cases q;exact d8 PySem.W.kitx_int I.kIn True.intro e (λz=>nomatch z) h
 | str y=>obtain⟨t,q⟩:=(show ∃t,u=Value.str y t from D);cases q;exact d8 PySem.W.kitx_str I.kIn True.intro e (λz=>nomatch z) h
 | flt y=>obtain⟨t,q⟩:=(show ∃t,u=Value.float y t from D);cases q;exact d8 PySem.W.kitx_float I.kIn True.intro e (λz=>nomatch z) h
 | @lst a xs ea =>
   cases (show u=Value.ref a from D);obtain⟨_,_,n,_,h1⟩:=(show ObjOk X.prog X.w H s.heap a (.lst xs) from I.hok a _ ea);exact d8 oa I.kIn ⟨_,h1,rfl⟩ e (λz=>nomatch z) h
 | @frz a ob xs ea =>
   cases (show u=Value.ref a from D);obtain⟨_,_,_,n,_,h1⟩:=(show ObjOk X.prog X.w H s.heap a (.frz ob (.lst xs)) from I.hok a _ ea);exact d8 oa I.kIn ⟨_,h1,rfl⟩ e (λz=>nomatch z) h
 | @tup a xs ea =>
   cases (show u=Value.ref a from D);obtain⟨_,_,_,p⟩:=(show ObjOk X.prog X.w H s.heap a (.tup xs) from I.hok a _ ea);obtain⟨o,h1,h2,_⟩:=p;exact d8 PySem.W.kitx_tuple I.kIn ⟨o,h1,h2⟩ e (λz=>nomatch z) h
 | @dK a kvs ea =>
   cases (show u=Value.ref a from D);obtain⟨_,_,vs,_,p⟩:=(show ObjOk X.prog X.w H s.heap a (.dK kvs) from I.hok a _ ea);obtain⟨o,es,S,h1,h2,_⟩:=p;exact d8 PySem.W.kitx_dict I.kIn ⟨o,h1,h2.1⟩ e (λz=>nomatch z) h
 | @dT a kvs ea =>
   cases (show u=Value.ref a from D);obtain⟨_,_,xs,_,o,es,S,h1,h2,_⟩:=(show ObjOk X.prog X.w H s.heap a (.dT kvs) from I.hok a _ ea);exact d8 PySem.W.kitx_dict I.kIn ⟨o,h1,h2.1⟩ e (λz=>nomatch z) h
 | @ins a C dx fs ea cl ha hn htk hm =>
   cases (show u=Value.ref a from D);obtain⟨mA,O,_⟩:=zm4 I.hok ea;obtain⟨od,J,_⟩:=O.look;exact d8 (PySem.W.kitx_own (cl.get _) cl.hd ha hn htk hm) I.kIn J e (λz=>nomatch z) h
structure Room (k:Nat) (A:Around):Prop where
 hd:A.handled=none
 dp:A.depth+3*k+5<recursionLimit
 un:A.units+16*k+200<cLine
theorem Room.mono{j:Nat}(r:Room k A)(h:j<=k):Room j A:=⟨r.hd,by have:=r.dp;lia,by have:=r.un;lia⟩
theorem Room.deeper(r:Room (k+1) A)(env:Env):Room k (A.deeper env) :=
 ⟨r.hd,by have:=r.dp;show A.depth+1+3*k+5<_;lia,by have:=r.un;show A.units+3+16*k+200<_;lia⟩
def zs1:(A.under (.builtin "type.__call__" ⟨.ref C::us,kw⟩)).depth=A.depth+1:=by
 first | rfl | simp[Around.under,Code.weight,Code.isCreation,Code.isGuard,Code.isCaller,Code.frames,Code.isFrame,guardIds]
def zs2:(A.under (.builtin "type.__call__" ⟨.ref C::us,kw⟩)).units=A.units+1:=by
 first | rfl | simp[Around.under,Code.cUnits,Code.frames,Code.isFrame]
theorem Room.make(r:Room (k+1) A)(C:Addr)(us:g8)(kw:List (Str×Value)):Room k (A.under (.builtin "type.__call__" ⟨.ref C::us,kw⟩)) :=
 ⟨r.hd,by have:=r.dp;rw[zs1];lia,by have:=r.un;rw[zs2];lia⟩
theorem Room.depth(r:Room k A):A.depth<recursionLimit:=by have:=r.dp;lia
def tNil:TA:=λ_ H Q=>Q [] H
def z3o(ta:TE)(tr:TA):TA:=λσ H Q=>ta σ H λx H1=>tr σ H1 λxs H2=>Q (x::xs) H2
def pk:PA X [] tNil:=λ_ _ _ _ H Q I h=>Calls.spliced_nil ⟨[],H,I,.nil,h⟩
def mw(D:PE X e te)(J:PA X es t)(R:starEach (e::es) X.env=(false,eval e X.env)::starEach es X.env:=by rfl):PA X (e::es) (z3o te t):=by
 intro pos pins s σ H Q I h;rw[R];show wpAny _ _ (spliced ((false,eval e X.env)::backTo pos (starEach es X.env))) _ _ s;refine Calls.spliced_cons (thn (D pins s σ H _ I h) λu S U=>?_);obtain⟨x,H1,V,Y,Z⟩:=U;exact thn (J pos pins S σ H1 _ V Z) λus s2 ⟨xs,H2,I2,r2,q2⟩=>⟨x::xs,H2,I2,.cons Y r2,q2⟩
def tTup(t:TA):TE:=λσ H Q=>t σ H λxs H1=>xs.length<=sizeLine/\∀p,H1 p=none->Q (.ref p) (upd H1 p (.tup xs))
def tLst(t:TA):TE:=λσ H Q=>t σ H λxs H1=>xs.length<=sizeLine/\∀p,H1 p=none->Q (.ref p) (upd H1 p (.lst xs))
def z3p{x1}(h:PA X es t):PE X (.Tuple es x1 pos) (tTup t):=by
 intro pins s σ H Q I R;refine wpAny_Tuple_spliced (thn (h pos pins s σ H _ I R) λus D S=>?_);obtain⟨xs,H1,J,r,z,q⟩:=S;refine⟨by rw[<-r.length];exact z,?_⟩;have U:H1 D.heap.objs.size=none:=J.hok.fresh (b9 _);refine⟨.ref D.heap.objs.size,upd H1 D.heap.objs.size (.tup xs),J.laid (t':=D.toks) (λb u e=>au _ e) (b9 _) ?_,rfl,q _ U⟩;exact⟨z,us,r,⟨_,ci _ rfl,rfl,_,rfl⟩⟩
def zy8(h:PA X es t):PE X (.List es pos) (tLst t):=by
 intro pins s σ H Q I R;refine wpAny_List_spliced (thn (h pos pins s σ H _ I R) λus D S=>?_);obtain⟨xs,H1,J,r,z,q⟩:=S;refine⟨by rw[<-r.length];exact z,?_⟩;have U:H1 D.heap.objs.size=none:=J.hok.fresh (b9 _);refine⟨.ref D.heap.objs.size,upd H1 D.heap.objs.size (.lst xs),J.laid (t':=D.toks) (λb u e=>au _ e) (b9 _) ?_,rfl,q _ U⟩;exact⟨z,us,0,r,ci _ rfl⟩
abbrev Sp:=k6->Hp->VK->XK->Prop
abbrev CXT:=i0->Hp->Shared->XK->Value->Shared->Prop
structure Env0 (P:Program) (w:World) (K:kf) (mg:Str->g9) (base:Heap) (A:Around) (outer:i0) (s:Shared) (H:Hp):Prop where
 frames:A.frames=some outer
 mod:Mod K mg base
 bs:∀b o,base.get? b=some o->s.heap.get? b=some o/\H b=none
 bsz:base.objs.size<=s.heap.objs.size
 funs:s.heap.FunFrames base outer
 frf:∀b∈frs outer,H b=none
 hok:HOk P w H s.heap
 bare:AllBare s.gens
def CE(outer:i0)(P:Program)(w:World)(H:Hp)(s:Shared)(Q:VK)(u:Value)(s':Shared):Prop :=
 ∃v H',s'.os=s.os/\AllBare s'.gens/\Un (frs outer) [] H H' s.heap s'.heap/\HOk P w H' s'.heap/\RelV v u/\Q v H'
def CR(CX:CXT)(outer:i0)(P:Program)(w:World)(H:Hp)(s:Shared)(Q:VK)(E:XK)(r:Result)(s':Shared):Prop :=
 match r with
 | .ok (.ret u)=>CE outer P w H s Q u s'
 | .ok _=>False
 | .error e=>CX outer H s E e s'
structure FnOk (P:Program) (w:World) (K:kf) (mg:Str->g9) (base:Heap) (CX:CXT) (k:Nat) (f:Addr) (fd:FuncData) (ps:g7) (sp:Sp):Prop where
 len:∀vs H Q E,sp vs H Q E->vs.length=ps.length
 run:∀(A:Around) (outer:i0) (s:Shared) (H:Hp) (args:Args) (us:g8) (vs:k6) (Q:VK) (E:XK),Room k A->Env0 P w K mg base A outer s H->BindsTo s fd args (ps.zip us)->Vals vs us->sp vs H Q E ->
  codeAny (model P w) A (.call (.ref f) args) (CR CX outer P w H s Q E) s
variable{f:Addr}{mg:Str->g9}{base:Heap}{CX:CXT}{fd:FuncData}{ps:g7}{sp:Sp}
theorem FnOk.imp{D:Sp}(F:FnOk P w K mg base CX k f fd ps sp)(h:∀vs H Q E,D vs H Q E->sp vs H Q E):FnOk P w K mg base CX k f fd ps D :=
 ⟨λvs H Q E q=>F.len vs H Q E (h _ _ _ _ q),λA outer s H args us vs Q E I J R S U=>F.run A outer s H args us vs Q E I J R S (h _ _ _ _ U)⟩
variable{outer:i0}
def Env0.make(e:Env0 P w K mg base A outer s H)(C:Addr)(us:g8)(kw:List (Str×Value)) :
  Env0 P w K mg base (A.under (.builtin "type.__call__" ⟨.ref C::us,kw⟩)) outer s H:=⟨by first | exact e.frames | (simpa[Around.under,Code.envs,Code.isFrame,pushEnvs] using e.frames),e.mod,e.bs,e.bsz,e.funs,e.frf,e.hok,e.bare⟩
protected def Inv.env0(I:Inv X pins σ H s):Env0 X.prog X.w X.K X.mg X.base X.A X.stack s H :=
 ⟨I.ok.frames,I.ok.mod,I.bs,de I.ok.bsz I.sz,I.stack,I.stkFree,I.hok,I.bare⟩
variable{Q:VK}
def Inv.after(I:Inv X pins σ H s)(h:CE X.stack X.prog X.w H s Q u s'):EP X pins σ Q u s':=by
 obtain⟨v,H',os,D,un,J,r,q⟩:=h;obtain⟨S,g,d,t,R⟩:=s';obtain rfl:R=s.os:=os;exact⟨v,H',I.call (h':=S) (g':=g) (d':=d) (t':=t) (ch:=[]) un J D (λb z=>absurd z (by simp)),r,q⟩
def zwy(sp:Sp)(dvs:k6)(E:XK)(t:TA):TE:=λσ H Q=>t σ H λvs H1=>sp (vs++dvs) H1 Q E
def Binds(K:kf)(fd:FuncData)(ps:g7)(ds:g8):Prop :=
 ∀(s:Shared) (us:g8),K.In s.heap->(us++ds).length=ps.length->BindsTo s fd ⟨us,[]⟩ (ps.zip (us++ds))
def Binds.all(h:∀us:g8,us.length=ps.length->bindArgs fd ⟨us,[]⟩=pure (ps.zip us)):Binds K fd ps []:=λs us _ D=>by
 rw[dh] at D ⊢;exact .of_eq (h us D)
def zua(CX:CXT)(X:Cx)(E:XK):Prop:=∀(pins:kl) (σ:St) (H:Hp) (s:Shared) (e:Value) (s':Shared),Inv X pins σ H s->CX X.stack H s E e s'->X.xe e s'
variable{E:XK}{dvs:k6}{ds:g8}
theorem z3q(F:FnOk X.prog X.w X.K X.mg X.base CX k f fd ps sp)(R:Room k X.A)(S:Binds X.K fd ps ds)(U:Vals dvs ds)(V:zua CX X E)(I:Inv X pins σ H s)(r:Vals vs us)(h:sp (vs++dvs) H Q E):wpAny (model X.prog X.w) X.A (call (.ref f) us) (EP X pins σ Q) X.xe s:=by
 have J:Vals (vs++dvs) (us++ds):=r.append U;have Y:(us++ds).length=ps.length:=by rw[<-J.length];exact F.len _ _ _ _ h
 refine wpAny_call (codeAny_mono (F.run X.A X.stack s H ⟨us,[]⟩ (us++ds) (vs++dvs) Q E R I.env0 (S s us I.kIn Y) J h) λr s' D=>?_);cases r with
 | error e=>exact V pins σ H s e s' I D
 | ok fl =>
   cases fl with
   | ret u=>exact I.after D
   | next=>exact False.elim D
   | brk=>exact False.elim D
   | cont=>exact False.elim D
def zqb(F:FnOk X.prog X.w X.K X.mg X.base CX k f fd ps sp)(S:Room k X.A)(U:Gl X x)(V:X.mg x=some (.ref f))(Y:PySem.W.keepIn X.K (.ref f)=true)(Z:Binds X.K fd ps ds)(a:Vals dvs ds)(b:zua CX X E)(c:PA X (e::es) t)(D:(x==("__debug__" : Str))=false:=by decide)(d:starEach (e::es) X.env=(false,eval e X.env)::starEach es X.env:=by rfl)(J:(backTo pos (starEach es X.env)).any (·.1)=false:=by rfl) :
  PE X (.Call (.Name x p) (e::es) [] pos) (zwy sp dvs E t):=by
 intro pins s σ H Q I h;refine wpAny_Call_Name_kw (vt I U V ?_ D);refine jb (h₀:=X.base) I.ok.mod.kin Y (thn (c pos pins s σ H _ I h) λus i g=>?_) d J;obtain⟨vs,H1,R,r,q⟩:=g;refine⟨R.kIn,?_⟩;exact z3q F S Z a b R r q
structure Mk (K:kf) (C f:Addr):Prop where
 makes:PySem.W.makesIn K C=true
 init:PySem.W.findIn K (.ref C) "__init__" = some (some (.ref f))
 fn:PySem.W.isFn K (.ref f)=true
 kp:PySem.W.keepIn K (.ref C)=true
def PK(X:Cx)(kws:List Keyword)(t:TA):Prop :=
 ∀(pos:Pos) (pins:kl) (s:Shared) (σ:St) (H:Hp) (Q:k6->Hp->Prop),Inv X pins σ H s->t σ H Q->wpAny (model X.prog X.w) X.A (evalAll ((backToKw pos (keywordEach kws X.env)).map (·.2))) (AP X pins σ Q) X.xe s
section
variable {X:Cx} {CX:CXT} {k:Nat} {f C:Addr} {fd:FuncData} {ps ks:g7} {sp:Sp} {E:XK} {x m:Str} {p pos apos kpos:Pos} {e o:Expr} {es:i3} {kws:List Keyword} {te ta:TE} {t tk:TA} {nm:ka}
def z3r:PK X [] tNil:=λ_ _ _ _ H Q I h=>wpAny_evalAll_nil ⟨[],H,I,.nil,h⟩
def z0q(D:PE X e te)(J:PK X kws t):PK X (⟨nm,e,kpos⟩::kws) (z3o te t):=by
 intro pos pins s σ H Q I h;show wpAny _ _ (evalAll ((do let v <-eval e X.env;standAt pos;pure v)::(backToKw pos (keywordEach kws X.env)).map (·.2))) _ _ s;refine wpAny_evalAll_cons (wpAny_bind (thn (D pins s σ H _ I h) λu R S=>?_));obtain⟨x,H1,U,V,Y⟩:=S;refine wpAny_bind (wpAny_standAt (wpAny_pure ?_));exact thn (J pos pins R σ H1 _ U Y) λus s2 ⟨xs,H2,I2,r2,q2⟩=>⟨x::xs,H2,I2,.cons V r2,q2⟩
structure z7m (K:kf) (fd:FuncData) (ps ks:g7) (g:g8->g8->g8) (gV:k6->k6->k6):Prop where
 to:∀(s:Shared) (us ws:g8),K.In s.heap->(g us ws).length=ps.length->BindsTo s fd ⟨us,ks.zip ws⟩ (ps.zip (g us ws))
 rel:∀ {vs:k6} {us:g8} {zs:k6} {ws:g8},Vals vs us->Vals zs ws->Vals (gV vs zs) (g us ws)
variable {g:g8->g8->g8} {gV:k6->k6->k6}
end
structure qe (N P:g7) (sc:Scope):Prop where
 kind:sc.kind=.function
 co:sc.isCoroutine=false
 gen:sc.isGenerator=false
 nd:N.Nodup
 pre:N.take P.length=P
 par:∀x∈P,sc.names.lookup x=some .local\/sc.names.lookup x=some .cell
 nofree:∀y∈sc.names,y.2≠.free
def zop{kindOf:Str->Option NameKind}{x:Str}:∀ {D:List (Str×Value)} {m:Str->g9},(∀v,(x,v)∉D)->bindL kindOf D m x=m x
 | [],_,_=>rfl
 | (n,v)::r,m,h=>by
   unfold bindL;rw[zop λw I=>h w (am _ I)];split
   ·have:x≠n:=by rintro rfl;exact h v bc
    simp[this]
   ·rfl
def zoq{kindOf:Str->Option NameKind}{x:Str}:∀ {D:List (Str×Value)} {m:Str->g9},(∀v,(x,v)∉D)->bindC kindOf D m x=m x
 | [],_,_=>rfl
 | (n,v)::r,m,h=>by
   unfold bindC;rw[zoq λw I=>h w (am _ I)];split
   ·rfl
   ·have:x≠n:=by rintro rfl;exact h v bc
    simp[this]
def zor{kindOf:Str->Option NameKind}{x:Str}{v:Value}:∀ {P:g7} {vs:g8} {i:Nat} {m:Str->g9},P.Nodup->P[i]?=some x->vs[i]?=some v->kindOf x=some .local ->
  bindL kindOf (P.zip vs) m x=some v
 | [],_,_,_,_,h,_,_=>by simp at h
 | _::_,[],_,_,_,_,h,_=>by simp at h
 | p::P,w::vs,0,m,nd,h1,h2,hk=>by
   simp at h1 h2;subst h1;subst h2;show bindL kindOf ((p,w)::P.zip vs) m p=_;unfold bindL;rw[zop λv D=>(bz.mp nd).1 (jy D).1,if_pos hk];simp
 | p::P,w::vs,i+1,m,nd,h1,h2,hk=>by
   show bindL kindOf ((p,w)::P.zip vs) m x=_;unfold bindL;exact zor (i:=i) (bz.mp nd).2 (by simpa using h1) (by simpa using h2) hk
def zos{kindOf:Str->Option NameKind}{x:Str}{v:Value}:∀ {P:g7} {vs:g8} {i:Nat} {m:Str->g9},P.Nodup->P[i]?=some x->vs[i]?=some v->kindOf x≠some .local ->
  bindC kindOf (P.zip vs) m x=some v
 | [],_,_,_,_,h,_,_=>by simp at h
 | _::_,[],_,_,_,_,h,_=>by simp at h
 | p::P,w::vs,0,m,nd,h1,h2,hk=>by
   simp at h1 h2;subst h1;subst h2;show bindC kindOf ((p,w)::P.zip vs) m p=_;unfold bindC;rw[zoq λv D=>(bz.mp nd).1 (jy D).1,if_neg hk];simp
 | p::P,w::vs,i+1,m,nd,h1,h2,hk=>by
   show bindC kindOf ((p,w)::P.zip vs) m x=_;unfold bindC;exact zos (i:=i) (bz.mp nd).2 (by simpa using h1) (by simpa using h2) hk
def start(N:g7)(vs:k6):St:=vs.map some++List.replicate (N.length-vs.length) none
def cxOf(CX:CXT)(P:Program)(w:World)(K:kf)(mg:Str->g9)(base:Heap)(N:g7)(qual:Str)(scope:Scope)(f:Addr)(I:Value)(A:Around)(outer:i0)(s:Shared)(H:Hp)(E:XK):Cx where
 prog:=P
 w:=w
 K:=K
 mg:=mg
 base:=base
 A:=A.deeper (envOfC qual scope s.heap.objs.size f I)
 N:=N
 s₀:=s
 H₀:=H
 env:=envOfC qual scope s.heap.objs.size f I
 outer:=outer
 stack:=envOfC qual scope s.heap.objs.size f I::outer
 ex:=[]
 calm:=true
 fn:=λ_=>true
 pn:=[]
 xe:=λe s'=>wpAny (model P w) (A.deeper (envOfC qual scope s.heap.objs.size f I)) (leaving (envOfC qual scope s.heap.objs.size f I) e) (λ_ D=>CX outer H s E e D) (λe' D=>CX outer H s E e' D) s'
def zrl{sc:Scope}(h:sc.names.lookup x=some .cell):∃c,(cellsFrom n sc.names []).lookup x=some c:=by
 have q:=lg sc.names n [] (.inl h);exact ko.mp q
variable{qual:Str}{scope:Scope}
theorem zot{U:Value}{V:Shared}(S:qe N ps scope)(d:A.handled=none)(D:Env0 P w K mg base A outer s H)(m:vs.length=ps.length)(r:Vals vs us)(x:InCallC s s.heap.objs.size (bindL (envOfC qual scope s.heap.objs.size f U).kindOf (ps.zip us) λ_=>none) (cellsFrom (s.heap.objs.size+1) scope.names []) (bindC (envOfC qual scope s.heap.objs.size f U).kindOf (ps.zip us) λ_=>none) V) :
  Inv (cxOf CX P w K mg base N qual scope f U A outer s H E) [] (start N vs) H V:=by
 have g:ps.length<=N.length:=by have:=congrArg List.length S.pre;rw[dz] at this;lia
 obtain⟨h1,tk,rfl,Y⟩:=x.done;have I:∀b:Addr,b∉(cxOf CX P w K mg base N qual scope f U A outer s H E).ex:=λb z=>absurd (show b∈([]:ia) from z) (by simp);refine⟨⟨D.mod,S.kind,rfl,rfl,b9 _,λy z c h1 h2=>?_,λy hy=>?_,λy c _ h=>?_,λ_=>d,Around.frames_deeper D.frames,.inr ⟨rfl,rfl⟩,λb z=>absurd z (I b),D.bs,D.bsz,λb _ _=>I b,λb z=>absurd z (I b),D.funs,D.frf⟩,
  rfl,D.bare,Un.kept Y,⟨_,x.toInCall.ns,λi y v h1 h2 o=>?_⟩,λy c h=>⟨_,x.cell y c h⟩,D.hok.fresh (b9 _),λy c h=>?_,λp J=>absurd (show p∈([]:kl) from J) (by simp),D.hok.kept Y,?_⟩
 ·exact name_of_addr x.apart (eg h1) (eg h2)
 ·have hy:scope.names.lookup y=some .cell\/scope.names.lookup y=some .free:=hy
  rcases hy with hy | hy
  ·exact zrl hy
  ·exact absurd rfl (S.nofree _ (eg hy))
 ·exact oj (x.above y c (eg h))
 ·have hi:i<vs.length:=by
   unfold start at h2;by_cases hi:i<vs.length
   ·exact hi
   ·rw[dn (by simpa using hi)] at h2
    rw[List.getElem?_replicate] at h2;split at h2 <;> cases h2
  have j:vs[i]?=some v:=by
   unfold start at h2;rw[az (by simpa using hi),cb] at h2;cases e:vs[i]? with
   | none=>rw[e] at h2;cases h2
   | some a=>rw[e] at h2;cases h2;rfl
  obtain⟨u,Z,l⟩:=r.get j;have J:ps[i]?=some y:=by
   rw[<-S.pre,List.getElem?_take_of_lt (by lia)];exact h1
  have R:ps.Nodup:=by rw[<-S.pre];exact S.nd.sublist (List.take_sublist _ _)
  refine⟨u,l,?_⟩;rcases S.par y (bg J) with k | k
  ·exact .inl ⟨k,zor R J Z k⟩
  ·obtain⟨c,e⟩:=zrl (n:=s.heap.objs.size+1) k
   refine .inr ⟨.inl k,c,e,?_⟩;have q:=x.cell y c e;rw[zos R J Z (by show scope.names.lookup y≠_;rw[k];decide)] at q;exact q
 ·exact D.hok.fresh (oj (x.above y c (eg h)))
 ·unfold start
  show _=N.length;rw[ao,ah,fg]
  lia
def z6g{D:Arguments}{m kV a p cdv ct oc:Value}{an od:Option Addr}{osl:Array g9}(C:K.lookup f=some ⟨oc,od,.func (PySem.W.fnOf name qual D body scope m kV a p an cdv ct),osl⟩)(h:PySem.W.codeIn K cdv qual=true)(S:qe N ps scope)(len:∀vs H Q E,sp vs H Q E->vs.length=ps.length)(U:∀(A:Around) (outer:i0) (s:Shared) (H:Hp) (vs:k6) (Q:VK) (E:XK),Room k (A.deeper (envOfC qual scope s.heap.objs.size f cdv))->sp vs H Q E ->
   ∃t,PSs (cxOf CX P w K mg base N qual scope f cdv A outer s H E) body t/\t { nx:=λ_ H'=>Q .non H',rt:=Q } (start N vs) H) :
  FnOk P w K mg base CX (k+1) f (PySem.W.fnOf name qual D body scope m kV a p an cdv ct) ps sp:=by
 refine⟨len,λA outer s H args us vs Q E i c F r d=>?_⟩;have G:=len _ _ _ _ d;have z:K.In s.heap:=c.mod.kin.keeps λb o e=>(c.bs b o e).1;have j:s.heap.NoLimit:=c.mod.nolimit.keeps λb o e=>(c.bs b o e).1;have Y:∀y∈ps.zip us,scope.names.lookup y.1=some .local\/(scope.names.lookup y.1=some .cell/\((cellsFrom (s.heap.objs.size+1) scope.names []).lookup y.1).isSome=true):=λ⟨n,v⟩ hy=>by
  rcases S.par n (jy hy).1 with q | q
  ·exact .inl q
  ·exact .inr ⟨q,lg _ _ _ (.inl q)⟩
 refine codeAny_call_function i.depth (z _ _ C) rfl S.co S.gen rfl (PySem.W.codeRec_of z h) (F _ _ _ _ ?_);refine wpAny_newFunctionEnv_cells S.kind Y λenv L B x=>?_;subst L;refine⟨j.keeps x.toInCall.keep,codeAny_func ?_⟩;obtain⟨t,M,O⟩:=U A outer s H vs Q E (i.deeper _) d;have I:Inv (cxOf CX P w K mg base N qual scope f cdv A outer s H E) [] (start N vs) H B:=zot S i.hd c G r x;refine wpAny_mono (M [] B (start N vs) H _ I O) (λfl s' Z=>?_) λe s' Z=>Z;have g:∀ {R:St} {H':Hp} {v:V} {u:Value},Inv (cxOf CX P w K mg base N qual scope f cdv A outer s H E) [] R H' s'->RelV v u->Q v H'->CE outer P w H s Q u s' :=
  λ{R H' v u} J l q=>⟨v,H',J.os,J.bare,J.base,J.hok,l,q⟩
 cases fl with
 | ret u =>
   obtain⟨v,R,H',J,l,q⟩:=Z;exact g J l q
 | next =>
   obtain⟨R,H',J,q⟩:=Z;exact g (v:=V.non) (u:=Value.none) J rfl q
 | brk =>
   obtain⟨_,_,_,q⟩:=Z;exact False.elim q
 | cont =>
   obtain⟨_,_,_,q⟩:=Z;exact False.elim q
def tCB(r:k6->Hp->VK->Prop)(t:TA):TE:=λσ H Q=>t σ H λvs H1=>r vs H1 Q
variable{r:k6->Hp->VK->Prop}{id:String}
def x0(R:oz X (.builtin id) r)(S:Gl X x)(U:X.mg x=none)(V:bootBuiltins x=some (.builtin id))(Y:PA X (e::es) t)(Z:x ≠ "__name__":=by decide)(D:(x==("__debug__" : Str))=false:=by decide)(a:starEach (e::es) X.env=(false,eval e X.env)::starEach es X.env:=by rfl)(J:(backTo pos (starEach es X.env)).any (·.1)=false:=by rfl):PE X (.Call (.Name x p) (e::es) [] pos) (tCB r t):=by
 intro pins s σ H Q I h;refine wpAny_Call_Name_kw (zn I S U V ?_ Z D);exact PyProof.Rows.callWith_builtin1 (thn (Y pos pins s σ H _ I h) λus s1 ⟨vs,H1,I1,r1,q1⟩=>R pins s1 σ H1 vs us Q I1 r1 q1) a J
variable{T:String}
def zou(R:oz X (.type T) r)(S:Gl X x)(U:X.mg x=none)(V:bootBuiltins x=some (.type T))(Y:PA X (e::es) t)(Z:x ≠ "__name__":=by decide)(D:(x==("__debug__" : Str))=false:=by decide)(a:starEach (e::es) X.env=(false,eval e X.env)::starEach es X.env:=by rfl)(J:(backTo pos (starEach es X.env)).any (·.1)=false:=by rfl):PE X (.Call (.Name x p) (e::es) [] pos) (tCB r t):=by
 intro pins s σ H Q I h;refine wpAny_Call_Name_kw (zn I S U V ?_ Z D);exact t6 (thn (Y pos pins s σ H _ I h) λus s1 ⟨vs,H1,I1,r1,q1⟩=>R pins s1 σ H1 vs us Q I1 r1 q1) a J
end L2
namespace HT
open PySem PyProof.Rows
section
open PySem.SeqAt
open PySem.AutoSeq1 (wpAny_loadPart')
open PySem.MeetsSeq PySem.MeetsSeq2 PySem.MeetsSeq3
end
def sIx(n d:Nat):kb->Nat
 | none=>d
 | some v=>if v<0 then(v+(n:Int)).toNat else min v.toNat n
def sIx_none(n d:Nat):sIx n d none=d:=rfl
theorem sIx_nat(n d k:Nat):sIx n d (some (k:Int))=min k n:=by
 show(if (k:Int)<0 then((k:Int)+(n:Int)).toNat else min (k:Int).toNat n)=min k n;rw[if_neg (by lia),e7]
end HT
namespace L2
open PySem PySem.Spec PyProof.Rows
abbrev TO:=St->Hp->(kb->Hp->Prop)->Prop
def PO(X:Cx)(e:Option Expr)(t:TO):Prop :=
 ∀(pins:kl) (s:Shared) (σ:St) (H:Hp) (Q:kb->Hp->Prop),Inv X pins σ H s->t σ H Q ->
  wpAny (model X.prog X.w) X.A (evalPart e X.env) (λu s'=>∃o H',Inv X pins σ H' s'/\IsPart u o/\Q o H') X.xe s
def z0r:TO:=λ_ H Q=>Q none H
def z6h(t:TE):TO:=λσ H Q=>t σ H λx H1=>∃i,x=.int i/\Q (some i) H1
def zs3{D:ik}:∀ {us:g8},Vals (D.map V.int) us->IntsAre us D:=by
 induction D with
 | nil=>intro us r;rw[du] at r;cases r;exact .nil
 | cons n D ih =>
   intro us r;rw[bn] at r;cases r with
   | cons r1 r2 =>
     obtain⟨t,e⟩:=r1;subst e;exact .cons n t (ih r2)
variable{X:Cx}
def z0s:PO X none z0r:=by
 intro pins s σ H Q I h;rw[evalPart_none];exact wpAny_pure ⟨none,H,I,.none,h⟩
variable{e:Expr}{te:TE}
def z0t(h:PE X e te):PO X (some e) (z6h te):=by
 intro pins s σ H Q I D;rw[evalPart_some];refine thn (h pins s σ H _ I D) λu V J=>?_;obtain⟨x,H1,R,S,U⟩:=J;obtain⟨i,rfl,q⟩:=U;obtain⟨t,rfl⟩:=S;exact⟨some i,H1,R,.int i t,q⟩
variable{lo hi:Option Expr}
def SlR(X:Cx)(r:V->kb->kb->Hp->VK->Prop):Prop :=
 ∀(pins:kl) (s:Shared) (σ:St) (H:Hp) (x:V) (v D I:Value) (lo hi:kb) (sl:Addr) (Q:VK),Inv X pins σ H s->RelV x v->s.heap.IsSliceOf sl D I .none->IsPart D lo->IsPart I hi->r x lo hi H Q ->
  ∃T id,typeLookup (.type T) "__getitem__" = pure (some (.builtin id))/\s.TypeIs v T/\wpAny (model X.prog X.w) X.A (getItem v (.ref sl)) (EP X pins σ Q) X.xe s
def tSl(r:V->kb->kb->Hp->VK->Prop)(te:TE)(tl th:TO):TE:=λσ H Q=>te σ H λx H1=>tl σ H1 λl H2=>th σ H2 λu D=>r x l u D Q
variable{r:R2}{tl th:TO}{pos p2:Pos}
def zwz{r:V->kb->kb->Hp->VK->Prop}(Y:SlR X r)(Z:PE X e te)(a:PO X lo tl)(c:PO X hi th):PE X (.Subscript e (.Slice lo hi none p2) pos) (tSl r te tl th):=by
 intro pins s σ H Q I h;refine Subscript_ (thn (Z pins s σ H _ I h) λv d J=>?_);obtain⟨x,H1,f,g,i⟩:=J;refine wpAny_Slice (thn (a pins d σ H1 _ f i) λR s2 J=>?_);obtain⟨l,H2,j,pl,k⟩:=J;refine thn (c pins s2 σ H2 _ j k) λS D J=>?_;obtain⟨u,U,m,n,o⟩:=J;rw[evalPart_none];refine wpAny_pure ?_;have p:Inv X pins σ U { D with heap:=D.heap.push { cls:=.type "slice",data:=.fields #[R,S,.none] } }:=m.kept (t':=D.toks) λb z q=>au _ q;obtain⟨T,id,hT,t,y⟩:=Y pins { D with heap:=D.heap.push { cls:=.type "slice",data:=.fields #[R,S,.none] } } σ U x v R S l u D.heap.objs.size Q p g (Heap.IsSliceOf.new ..) pl n o;show wpAny (model X.prog X.w) X.A (subscriptTail e (.Slice lo hi none p2) v (.ref D.heap.objs.size)) (EP X pins σ Q) X.xe { D with heap:=D.heap.push { cls:=.type "slice",data:=.fields #[R,S,.none] } };exact tail_any (ops:=[.ref D.heap.objs.size,v]) t hT y (by with_unfolding_all rfl)
def cutV(xs:k6)(lo hi:kb):k6:=(xs.drop (HT.sIx xs.length 0 lo)).take (HT.sIx xs.length xs.length hi-HT.sIx xs.length 0 lo)
theorem zqc(xs:k6)(lo hi:kb):(cutV xs lo hi).length<=xs.length:=by
 unfold cutV;rw[dz,fq]
 lia
def ixN(n:Nat)(i:Int):Option Nat:=if 0<=i then(if i<n then some i.toNat else none) else if -(n:Int)<=i then some (i+n).toNat else none
variable{α:Type}
def atI(xs:List α)(i:Int):Option α:=(ixN xs.length i).bind λj=>xs[j]?
variable{n j:Nat}{i:Int}
theorem zqd(h:ixN n i=some j):seqIndex? i n=some j/\j<n/\-(n:Int)<=i/\i<n:=by
 unfold ixN at h;by_cases D:0<=i
 ·rw[if_pos D] at h
  by_cases h1:i<n
  ·rw[if_pos h1] at h
   have e:i.toNat=j:=bu h;exact⟨by rw[seqIndex_of D h1,e],by lia,by lia,h1⟩
  ·rw[if_neg h1] at h;cases h
 ·rw[if_neg D] at h
  by_cases h1:-(n:Int)<=i
  ·rw[if_pos h1] at h
   have e:(i+n).toNat=j:=bu h;exact⟨by rw[seqIndex_neg (by lia) h1,e],by lia,h1,by lia⟩
  ·rw[if_neg h1] at h;cases h
def zqe{xs:List α}{v:α}(h:atI xs i=some v):∃j,seqIndex? i xs.length=some j/\xs[j]?=some v/\j<xs.length/\-(xs.length:Int)<=i/\i<xs.length:=by
 unfold atI at h;cases e:ixN xs.length i with
 | none=>rw[e] at h;cases h
 | some j =>
   rw[e] at h;obtain⟨h1,h2,D,I⟩:=zqd e;exact⟨j,h1,h,h2,D,I⟩
theorem zqf{xs:List α}{v:α}(h:xs[j]?=some v):atI xs (j:Int)=some v:=by
 have D:j<xs.length:=(ai.mp h).1;have e:ixN xs.length (j:Int)=some j:=by
  unfold ixN;rw[if_pos (by lia),if_pos (by lia)];simp
 unfold atI;rw[e];exact h
theorem zw0(xs:List α)(v:α):atI (xs++[v]) (-1)=some v:=by
 have D:(xs++[v]).length=xs.length+1:=by simp
 have e:ixN (xs++[v]).length (-1)=some xs.length:=by
  unfold ixN;rw[D,if_neg (by decide),if_pos (by lia)];congr 1
  lia
 unfold atI;rw[e];show(xs++[v])[xs.length]?=some v;simp
def uv(b:Expr):Prop:=∀o i,subscripted b false o i=operate [o,i] (getItem o i)
def IxR(X:Cx)(r:R2):Prop :=
 ∀(value D:Expr) (pins:kl) (s:Shared) (σ:St) (H:Hp) (x y:V) (v u:Value) (Q:VK),Inv X pins σ H s->RelV x v->RelV y u->r x y H Q ->
  subscripted D false v u=operate [v,u] (getItem v u)->wpAny (model X.prog X.w) X.A (subscriptTail value D v u) (EP X pins σ Q) X.xe s
def MtR(X:Cx)(id:String)(r:V->k6->Hp->VK->Prop):Prop :=
 ∀(pins:kl) (s:Shared) (σ:St) (H:Hp) (x:V) (xs:k6) (v:Value) (us:g8) (Q:VK),Inv X pins σ H s->RelV x v->Vals xs us->r x xs H Q ->
  wpAny (model X.prog X.w) X.A (call (.builtin id) (v::us)) (EP X pins σ Q) X.xe s
def IxR.or{J:R2}(h:IxR X r)(h':IxR X J):IxR X (λx y H Q=>r x y H Q\/J x y H Q):=by
 intro value D pins s σ H x y v u Q I R S q U;rcases q with q | q
 ·exact h value D pins s σ H x y v u Q I R S q U
 ·exact h' value D pins s σ H x y v u Q I R S q U
variable{a b:Expr}{ta tb:TE}
def xf(D:IxR X r)(J:PE X a ta)(R:PE X b tb)(S:uv b):PE X (.Subscript a b pos) (tOp r ta tb):=by
 intro pins s σ H Q I h;exact Subscript_ (binT J R I h λv u s2 x y H2 U V Y q=>D a b pins s2 σ H2 x y v u Q U V Y q (S _ _))
def rIxL(K:kf):R2:=λx y H Q=>∃p xs i v,x=.ref p/\y=.int i/\SqL K H p xs/\atI xs i=some v/\Q v H
def rIxT(K:kf):R2:=λx y H Q=>∃p xs i v,x=.ref p/\y=.int i/\SqT K H p xs/\atI xs i=some v/\Q v H
def rIxS:R2:=λx y H Q=>∃z i c,x=.str z/\y=.int i/\z.length<=sizeLine/\atI z.cps.toList i=some c/\Q (.str ⟨#[c]⟩) H
theorem zr:IxR X (rIxL X.K):=by
 intro value J pins s σ H x y v u Q I Z a h U;obtain⟨p,xs,i,z,rfl,rfl,b,c,q⟩:=h;cases Z;obtain⟨t,rfl⟩:=a;obtain⟨its,r,pl,g⟩:=I.list b;obtain⟨j,h1,h2,k,d,e⟩:=zqe c;obtain⟨w,V,R⟩:=r.get h2;have f:=r.length;have l:=xm;have D:EP X pins σ Q w s:=⟨z,H,I,R,q⟩;by_cases Y:0<=i
 ·have S:i.toNat=j:=by
   rw[seqIndex_of Y e] at h1;exact bu h1
  exact item_listR pl.isList Y (by lia) (by rw[S];simpa using V) D U
 ·have S:(i+(its.toArray.size:Int)).toNat=j:=by
   rw[seqIndex_neg (by lia) d] at h1;rw[bx,<-f];exact bu h1
  exact subscriptTail_builtinR (x:=w) pl.isList.typeIs slot_list_getitem.lookup
   (wpAny_getItem_list_neg (Q:=λr s'=>r=w/\EP X pins σ Q r s') pl.isList (by lia) (by rw[bx] <;> lia) (by lia) (by rw[S];simpa using V) ⟨rfl,D⟩) U
theorem z3s:IxR X (rIxT X.K):=by
 intro value D pins s σ H x y v u Q I S U h V;obtain⟨p,xs,i,z,rfl,rfl,Y,Z,q⟩:=h;cases S;obtain⟨t,rfl⟩:=U;obtain⟨its,r,pl,c⟩:=I.tuple Y;obtain⟨j,h1,h2,d,e,f⟩:=zqe Z;obtain⟨w,a,J⟩:=r.get h2;have b:=r.length;have g:=xm;have R:EP X pins σ Q w s:=⟨z,H,I,J,q⟩;exact subscriptTail_builtinR (x:=w) pl.typeIs slot_tuple_getitem.lookup
  (getItem_tuple (j:=j) (Q:=λr s'=>r=w/\EP X pins σ Q r s') pl (by lia) (by lia) (by rw[bx,<-b];exact h1) (by simpa using a) ⟨rfl,R⟩) V
theorem z3t:IxR X rIxS:=by
 intro value D pins s σ H x y v u Q I J R h S;obtain⟨z,i,c,rfl,rfl,d,U,q⟩:=h;obtain⟨t,rfl⟩:=J;obtain⟨t',rfl⟩:=R;obtain⟨j,h1,h2,e,V,Y⟩:=zqe U;have Z:z.cps.toList.length=z.length:=by simp[Str.length]
 rw[Z] at h1 V Y;have f:=xm;exact tail_any (typeIs_str s z t) slot_str_getitem.lookup (getItem_str (c:=c) (by
  have a:decide (i < -(2 ^ 63:Int))=false:=decide_eq_false (by lia);have b:decide (i >= 2 ^ 63)=false:=decide_eq_false (by lia);rw[a,b,Bool.or_false]) (by rw[h1];simpa using h2) ⟨.str ⟨#[c]⟩,H,I.tok _,⟨_,rfl⟩,q⟩) S
def rIx(K:kf):R2:=λx y H Q=>rIxL K x y H Q\/rIxT K x y H Q\/rIxS x y H Q
def zy9:IxR X (rIx X.K):=zr.or (z3s.or z3t)
def zs5(its:g8)(n j:Nat)(u:Value):Obj.mapSeq (·.setIfInBounds j u) { cls:=.type "list",data:=.seq its.toArray n }={ cls:=.type "list",data:=.seq (its.set j u).toArray n }:=by
 simp[Obj.mapSeq]
def Inv.lst{pins:kl}{σ:St}{H:Hp}{s:Shared}{p:Addr}{xs:k6}(I:Inv X pins σ H s)(h:H p=some (.lst xs)) :
  ∃(its:g8) (n:Nat),Vals xs its/\s.heap.get? p=some { cls:=.type "list",data:=.seq its.toArray n }/\xs.length<=sizeLine:=by
 obtain⟨z,its,n,r,e⟩:=I.hok p _ h;exact⟨its,n,r,e,z⟩
variable{pins:kl}{σ:St}{H:Hp}{s:Shared}{xs ys:k6}{its its':g8}
def Inv.lstUpd{p:Addr}{D:Nat}{f:Obj->Obj}(I:Inv X pins σ H s)(h:H p=some (.lst xs))(R:s.heap.get? p=some { cls:=.type "list",data:=.seq its.toArray n })(J:f { cls:=.type "list",data:=.seq its.toArray n }={ cls:=.type "list",data:=.seq its'.toArray D })(r:Vals ys its')(S:ys.length<=sizeLine)(t:Nat) :
  Inv X pins σ (upd H p (.lst ys)) { s with heap:=s.heap.update p f,toks:=t }:=by
 have e:(s.heap.update p f).get? p=some { cls:=.type "list",data:=.seq its'.toArray D }:=by
  rw[fy f R (by rw[J] <;> rfl),J]
 refine I.write (x:=p) (e:=p) (by rw[h];trivial) (.inl rfl) (λb u U q=>(cj _ _ (Ne.symm U)).trans q) ⟨_,e⟩ ?_;exact⟨S,its',D,r,e⟩
def z3u:V->V->V->Hp->(Hp->Prop)->Prop:=λo i v H Q=>∃p xs k j,o=.ref p/\i=.int k/\H p=some (.lst xs)/\ixN xs.length k=some j/\Q (upd H p (.lst (xs.set j v)))
theorem xz:PSet X z3u:=by
 intro pins s σ H o i v e f u Q I ro a b h;obtain⟨p,xs,k,j,rfl,rfl,S,c,q⟩:=h;cases ro;obtain⟨t,rfl⟩:=a;obtain⟨its,n,r,D,d⟩:=I.lst S;obtain⟨h1,h2,U,V⟩:=zqd c;have J:=r.length;have g:=xm;have Y:Inv X pins σ (upd H p (.lst (xs.set j v))) { s with heap:=s.heap.update p (Obj.mapSeq (·.setIfInBounds j u)) } :=
  I.lstUpd S D (zs5 its n j u) (r.set b j) (by rw[dw];exact d) s.toks
 by_cases Z:0<=k
 ·have R:k.toNat=j:=by
   rw[seqIndex_of Z V] at h1;exact bu h1
  exact PySem.W.ki_setAt D Z (by lia) (by rw[bx,<-J];exact V) (by rw[R];exact⟨_,Y,q⟩)
 ·have R:(k+(its.toArray.size:Int)).toNat=j:=by
   rw[seqIndex_neg (by lia) U] at h1;rw[bx,<-J];exact bu h1
  exact PySem.W.ki_setBack D (by lia) (by rw[bx,<-J];exact U) (by lia) (by rw[R];exact⟨_,Y,q⟩)
theorem zov(lo hi:kb)(n:Nat):(sliceBounds lo hi none n).1=((HT.sIx n 0 lo:Nat):Int)/\(sliceBounds lo hi none n).2.1=((HT.sIx n n hi:Nat):Int)/\(sliceBounds lo hi none n).2.2=1:=by
 refine⟨?_,?_,rfl⟩
 ·cases lo with
  | none=>simp[sliceBounds,HT.sIx]
  | some i =>
    simp only[sliceBounds,HT.sIx,Option.getD_none,show(1:Int) > 0 by decide,if_true];by_cases h:i<0
    ·simp only[h,if_true] <;> lia
    ·simp only[h,if_false] <;> lia
 ·cases hi with
  | none=>simp[sliceBounds,HT.sIx]
  | some i =>
    simp only[sliceBounds,HT.sIx,Option.getD_none,show(1:Int) > 0 by decide,if_true];by_cases h:i<0
    ·simp only[h,if_true] <;> lia
    ·simp only[h,if_false] <;> lia
def zm5(its:g8)(lo hi:kb):slicePick its.toArray lo hi none=((its.drop (HT.sIx its.length 0 lo)).take (HT.sIx its.length its.length hi-HT.sIx its.length 0 lo)).toArray:=by
 obtain⟨h1,h2,D⟩:=zov lo hi its.toArray.size;unfold slicePick;rw[h1,h2,D];simp only[sliceRange_one,pick_run,bx] <;> rfl
def rSlL(K:kf):V->kb->kb->Hp->VK->Prop:=λx lo hi H Q=>∃a xs,x=.ref a/\SqL K H a xs/\∀p,H p=none->Q (.ref p) (upd H p (.lst (cutV xs lo hi)))
theorem z0u:SlR X (rSlL X.K):=by
 intro pins s σ H x v Z c lo hi sl Q I R S pl U h;obtain⟨a,xs,rfl,V,q⟩:=h;cases R;obtain⟨its,r,J,Y⟩:=I.list V;have D:=r.length;refine⟨"list",_,slot_list_getitem.lookup,J.isList.typeIs,?_⟩;refine wpAny_getItem_list_slice J.isList S pl U .none (by simp) ?_ (by rw[bx] <;> lia);rw[zm5,<-D];refine⟨.ref s.heap.objs.size,_,I.laid (t':=s.toks) (o:=.lst (cutV xs lo hi)) (λb d q=>au _ q) (b9 _) ?_,rfl,q _ (I.hok.fresh (b9 _))⟩;exact⟨de (zqc xs lo hi) Y,_,0,(r.drop (HT.sIx xs.length 0 lo)).take (HT.sIx xs.length xs.length hi-HT.sIx xs.length 0 lo),ci _ rfl⟩
theorem zh7:oz X (.builtin "len") (λxs H Q=>∃p ys,xs=[.ref p]/\(SqL X.K H p ys\/SqT X.K H p ys)/\Q (.int ys.length) H):=by
 intro pins s σ H xs us Q I r h;obtain⟨p,ys,rfl,hq,q⟩:=h;obtain⟨u,rfl,R⟩:=vh r;cases R;have U:=xm;rcases hq with hq | hq
 ·obtain⟨its,J,pl,S⟩:=I.list hq
  have D:=J.length;exact Calls.call_len_list pl.isList (by simp only[bx] <;> lia) ⟨.int ys.length,H,I.tok _,⟨s.toks+1,by rw[bx,D]⟩,q⟩
 ·obtain⟨its,J,pl,S⟩:=I.tuple hq
  have D:=J.length;exact len_tuple pl (by simp only[bx] <;> lia) ⟨.int ys.length,H,I.tok _,⟨s.toks+1,by rw[bx,D]⟩,q⟩
theorem zow:oz X (.type "list") (λxs H Q=>∃p ys,xs=[.ref p]/\(SqL X.K H p ys\/SqT X.K H p ys)/\∀l,H l=none->Q (.ref l) (upd H l (.lst ys))):=by
 intro pins s σ H xs us Q I r h;obtain⟨p,ys,rfl,hq,q⟩:=h;obtain⟨u,rfl,a⟩:=vh r;cases a;have R:∀(its:g8),Vals ys its->ys.length<=sizeLine->∀(h':Heap) (D:Nat),(∀b o',s.heap.get? b=some o'->h'.get? b=some o') ->
   h'.get? s.heap.objs.size=some { cls:=.type "list",dict:=none,data:=.seq its.toArray D,slots:=#[] }->EP X pins σ Q (.ref s.heap.objs.size) { s with heap:=h' }:=λits J S h' D kp e =>
  ⟨.ref s.heap.objs.size,_,I.laid (t':=s.toks) kp (b9 _) (show ObjOk X.prog X.w _ h' _ (.lst ys) from⟨S,its,D,J,e⟩),rfl,q _ (I.hok.fresh (b9 _))⟩
 rcases hq with hq | hq
 ·obtain⟨its,J,pl,S⟩:=I.list hq
  have U:=J.length;obtain⟨o,V,Y,n,Z⟩:=pl.isList;exact call_list_seq p (.inl rfl) V Y Z (λh' D kp e=>R its J S h' D kp e) (by simp only[bx] <;> lia)
 ·obtain⟨its,J,pl,S⟩:=I.tuple hq
  have U:=J.length;obtain⟨o,V,Y,n,Z⟩:=pl;exact call_list_seq p (.inr rfl) V Y Z (λh' D kp e=>R its J S h' D kp e) (by simp only[bx] <;> lia)
theorem zm6:oz X (.type "tuple") (λxs H Q=>∃p ys,xs=[.ref p]/\((SqL X.K H p ys/\∀l,H l=none->Q (.ref l) (upd H l (.tup ys)))\/(SqT X.K H p ys/\Q (.ref p) H))):=by
 intro pins s σ H xs us Q I r h;obtain⟨p,ys,rfl,h⟩:=h;obtain⟨u,rfl,V⟩:=vh r;cases V;rcases h with⟨D,q⟩ | ⟨D,q⟩
 ·obtain⟨its,J,pl,R⟩:=I.list D
  have S:=J.length;refine call_tuple_list pl.isList (λh' kp=>?_) (by simp only[bx] <;> lia);have U:Inv X pins σ H { s with heap:=h' }:=I.kept (t':=s.toks) kp;have Y:Inv X pins σ (upd H h'.objs.size (.tup ys)) { s with heap:=h'.push { cls:=.type "tuple",data:=.seq its.toArray } } :=
   U.laid (t':=s.toks) (λb o e=>au _ e) (b9 _) (show ObjOk X.prog X.w _ _ _ (.tup ys) from⟨R,its,J,IsTup.new _ _⟩)
  exact⟨.ref h'.objs.size,_,Y,rfl,q _ (U.hok.fresh (b9 _))⟩
 ·obtain⟨its,J,pl,R⟩:=I.tuple D
  exact call_tuple_same pl ⟨.ref p,H,I,rfl,q⟩
def tyV(K:kf)(T:String)(x:V)(H:Hp):Prop:=match x with
 | .str _=>T = "str"
 | .int _=>T = "int"
 | .ref p=>(T = "list"/\∃xs,SqL K H p xs)\/(T = "tuple"/\∃o,K.lookup p=some o/\o.cls=.type "tuple"/\o.dict=none) \/
    (T = "dict"/\((∃D,H p=some (.dK D))\/∃D,H p=some (.dT D)))\/(T = "set"/\∃S n,H p=some (.set S n))
 | _=>False
variable{T:String}{x:V}
def zza{v:Value}(I:Inv X pins σ H s)(r:RelV x v)(J:tyV X.K T x H) :
  s.TypeIs v T/\∀a,v=.ref a->∃Y,s.heap.get? a=some Y/\Y.dict=none:=by
 cases x with
 | str z =>
   obtain⟨t,rfl⟩:=r;cases (show T = "str" from J);exact⟨typeIs_str s z t,λ_ e=>nomatch e⟩
 | int i =>
   obtain⟨t,rfl⟩:=r;cases (show T = "int" from J);exact⟨typeIs_int s i t,λ_ e=>nomatch e⟩
 | ref p =>
   cases r;rcases J with⟨rfl,xs,Z⟩ | ⟨rfl,o,D,hc,R⟩ | ⟨rfl,D⟩ | ⟨rfl,S,n,D⟩
   ·obtain⟨its,_,pl,_⟩:=I.list Z
    refine⟨pl.isList.typeIs,λa e=>?_⟩;cases e;obtain⟨o,n,e,c,R,_⟩:=pl;exact⟨o,e,R⟩
   ·refine⟨⟨o,I.kIn p o D,hc⟩,λa e=>?_⟩
    cases e;exact⟨o,I.kIn _ o D,R⟩
   ·have z:∃o,s.heap.get? p=some o/\o.ExactDict:=by
     rcases D with⟨U,D⟩ | ⟨U,D⟩
     ·obtain⟨_,_,_,_,o,_,_,e,ex,_⟩:=I.hok p _ D
      exact⟨o,e,ex⟩
     ·obtain⟨_,_,_,_,o,_,_,e,ex,_⟩:=I.hok p _ D
      exact⟨o,e,ex⟩
    obtain⟨o,e,ex⟩:=z;refine⟨⟨o,e,ex.1⟩,λa V=>?_⟩;cases V;exact⟨o,e,ex.2.1⟩
   ·obtain⟨o,_,_,_,e,ex,_⟩:=I.hok p _ D
    refine⟨⟨o,e,ex.1⟩,λa V=>?_⟩;cases V;exact⟨o,e,ex.2.1⟩
 | _=>exact False.elim J
def tBM0(K:kf)(T:String)(r:V->k6->Hp->VK->Prop)(to:TE):TE:=λσ H Q=>to σ H λx H1=>tyV K T x H1/\r x [] H1 Q
def tBM(K:kf)(T:String)(r:V->k6->Hp->VK->Prop)(to:TE)(t:TA):TE:=λσ H Q=>to σ H λx H1=>tyV K T x H1/\t σ H1 λxs H2=>r x xs H2 Q
variable{r:V->k6->Hp->VK->Prop}{o:Expr}{to:TE}{name:Str}{apos cpos:Pos}{id:String}
def zzb(Y:PlainAttrs T)(R:Slot T name id)(S:typeOf (.builtin id)=pure (.type "method_descriptor"))(Z:MtR X id r)(a:PE X o to)(D:attributeBase o name X.env (eval o X.env)=eval o X.env:=by rfl)(J:(apos.endLine==cpos.line)=true:=by rfl):PE X (.Call (.Attribute o name apos) [] [] cpos) (tBM0 X.K T r to):=by
 intro pins s σ H Q I h;refine wpAny_Call_method0_late D J (thn (a pins s σ H _ I h) λv b c=>?_);obtain⟨x,H1,U,V,d,e⟩:=c;obtain⟨h1,h2⟩:=zza U V d;exact⟨T,id,Y,R,S,h1,h2,Calls.callWith_builtin rfl (PySem.evalArgs_none (Z pins b σ H1 x [] v [] Q U V .nil e))⟩
variable{es:i3}{t:TA}
def zw1(a:PlainAttrs T)(S:Slot T name id)(V:typeOf (.builtin id)=pure (.type "method_descriptor"))(b:MtR X id r)(c:PE X o to)(d:PA X (e::es) t)(J:attributeBase o name X.env (eval o X.env)=eval o X.env:=by rfl)(U:((backTo cpos (starEach (e::es) X.env)).all (λx=>!x.1) && (backToKw cpos (keywordEach [] X.env)).all (λx=>x.1.isSome)
   && decide ((e::es).length+([]:List Keyword).length+(if ([]:List Keyword).isEmpty then 0 else 1)<30))=true:=by rfl)(R:(apos.endLine==cpos.line)=true:=by rfl)(f:starEach (e::es) X.env=(false,eval e X.env)::starEach es X.env:=by rfl)(D:(backTo cpos (starEach es X.env)).any (·.1)=false:=by rfl) :
  PE X (.Call (.Attribute o name apos) (e::es) [] cpos) (tBM X.K T r to t):=by
 intro pins s σ H Q I h;refine wpAny_Call_method_late J U R rfl (thn (c pins s σ H _ I h) λv g i=>?_);obtain⟨x,H1,Y,Z,j,k⟩:=i;obtain⟨h1,h2⟩:=zza Y Z j;refine⟨T,id,a,S,V,h1,h2,?_⟩;have hA:=d cpos pins g σ H1 _ Y k;rw[f] at hA ⊢;refine Calls.callWith_builtin (by show(false || (backTo cpos (starEach es X.env)).any (·.1))=false;rw[D] <;> rfl) (Calls.evalArgs_plain ?_);exact thn hA λus s2 ⟨vs,H2,I2,r2,q2⟩=>b pins s2 σ H2 x vs v us Q I2 Z r2 q2
def MtM(X:Cx)(id:String)(r:V->k6->Hp->VK->Prop):Prop :=
 ∀(pins:kl) (s:Shared) (σ:St) (H:Hp) (x:V) (xs:k6) (v:Value) (us:g8) (Q:VK),Inv X pins σ H s->RelV x v->Vals xs us->r x xs H Q ->
  wpAny (model X.prog X.w) X.A (call (.builtin id) (v::us)) (EP X pins σ Q) X.xe s
def VInv:k6->g8->Prop
 | [],us=>us=[]
 | x::xs,us=>∃u t,us=u::t/\RelV x u/\Vals xs t
variable{us:g8}
def Vals.inv(h:Vals xs us):VInv xs us:=by
 cases h with
 | nil=>exact rfl
 | cons r t=>exact⟨_,_,rfl,r,t⟩
def Vals.one(h:Vals [x] us):∃u,us=[u]/\RelV x u:=by
 obtain⟨u,t,e,r,q⟩:=h.inv;exact⟨u,(show t=[] from q.inv) ▸ e,r⟩
def Vals.two{y:V}(h:Vals [x,y] us):∃u v,us=[u,v]/\RelV x u/\RelV y v:=by
 obtain⟨u,t,e,r,q⟩:=h.inv;obtain⟨v,f,q⟩:=q.one;exact⟨u,v,f ▸ e,r,q⟩
def Vals.zero:∀ {us:g8},Vals [] us->us=[]
 | _,.nil=>rfl
def Vals.dropLast(h:Vals xs us):Vals xs.dropLast us.dropLast:=by
 induction h with
 | nil=>exact .nil
 | cons r t ih =>
   cases t with
   | nil=>exact .nil
   | cons q t'=>exact .cons r ih
def Vals.rep{xs:k6}{us:g8}(h:Vals xs us):∀k:Nat,Vals (List.replicate k xs).flatten (List.replicate k us).flatten
 | 0=>.nil
 | k+1=>by
   rw[gp,gp,cr,cr];exact Vals.append h (Vals.rep h k)
theorem zs6(l:List α):l.eraseIdx (l.length-1)=l.dropLast:=by
 induction l with
 | nil=>rfl
 | cons a r ih =>
   cases r with
   | nil=>rfl
   | cons b r =>
     have e:(a::b::r).length-1=((b::r).length-1)+1:=by
      have h1:(a::b::r).length=r.length+2:=rfl;have h2:(b::r).length=r.length+1:=rfl
      lia
     rw[e,List.eraseIdx_cons_succ,ih];all_goals rfl
def zox(its:g8):∀(k:Nat) (D:g8),
  List.foldl (λI J=>I++J) D.toArray (List.replicate k its.toArray)=(D++(List.replicate k its).flatten).toArray
 | 0,D=>by simp
 | k+1,D=>by
   have e:D.toArray++its.toArray=(D++its).toArray:=by simp
   have R:(D++its)++(List.replicate k its).flatten=D++(List.replicate (k+1) its).flatten:=by
    rw[gp,cr,df]
   rw[<-R,<-zox its k (D++its),<-e,gp,List.foldl_cons]
variable{t':Nat}{l:Addr}
def Inv.lset{f:k4->k4}(I:Inv X pins σ H s)(D:H l=some (.lst xs))(e:s.heap.get? l=some { cls:=.type "list",data:=.seq its.toArray n })(J:f its.toArray=its'.toArray)(R:Vals ys its')(S:ys.length<=sizeLine) :
  Inv X pins σ (upd H l (.lst ys)) { s with heap:=s.heap.update l (Obj.mapSeq f),toks:=t' }:=by
 have q:=PySem.IsL.update e f;rw[J] at q;refine I.write (x:=l) (e:=l) (by rw[D];exact trivial) (.inl rfl) (λY u U V=>(cj s.heap (Obj.mapSeq f) (Ne.symm U)).trans V) ⟨_,q⟩ ?_;exact⟨S,its',_,R,q⟩
def Inv.lnew(I:Inv X pins σ H s)(D:Vals ys its)(J:ys.length<=sizeLine) :
  Inv X pins σ (upd H s.heap.objs.size (.lst ys)) { s with heap:=s.heap.push { cls:=.type "list",data:=.seq its.toArray },toks:=t' } :=
 I.laid (λ_ _ q=>au _ q) (b9 _) ⟨J,its,0,D,ci _ rfl⟩
def Inv.fresh(I:Inv X pins σ H s):H s.heap.objs.size=none:=I.hok.fresh (b9 _)
def Inv.lstM(I:Inv X pins σ H s)(D:H l=some (.lst xs)):xs.length<=sizeLine/\∃(its:g8) (n:Nat),Vals xs its/\xs.length=its.length/\s.heap.get? l=some { cls:=.type "list",data:=.seq its.toArray n }:=by
 obtain⟨z,its,n,r,e⟩:=I.hok l _ D;exact⟨z,its,n,r,r.length,e⟩
theorem zrm(h:n<=sizeLine):Builtin.List.listTooLong n=false:=by
 unfold Builtin.List.listTooLong;exact decide_eq_false (by lia)
def z0v:V->k6->Hp->VK->Prop:=λx vs H Q=>∃l xs y,x=.ref l/\vs=[y]/\H l=some (.lst xs)/\xs.length<sizeLine/\Q .non (upd H l (.lst (xs++[y])))
theorem zoy:MtM X "list.append" z0v:=by
 intro pins s σ H x vs v us Q I J R h;obtain⟨l,xs,y,rfl,rfl,D,U,q⟩:=h;cases J;obtain⟨u,rfl,S⟩:=R.one;obtain⟨z,its,n,r,V,e⟩:=I.lstM D;refine call_meets F.slot_list_append ⟨_,e,rfl⟩ F.entry_list_append (F.args_list_append_2 _ _) (PySem.list_append l its.toArray n u (by rw[bx];lia)) ⟨e,?_⟩;refine⟨.non,_,I.lset (its':=its++[u]) D e (by simp) (r.append (.cons S .nil)) ?_,rfl,q⟩;rw[ao,js]
 lia
def z0w:V->k6->Hp->VK->Prop:=λx vs H Q=>∃l b xs D,x=.ref l/\vs=[.ref b]/\H l=some (.lst xs)/\H b=some (.lst D)/\xs.length+D.length<=sizeLine/\Q .non (upd H l (.lst (xs++D)))
theorem zub:MtM X "list.extend" z0w:=by
 intro pins s σ H x vs v us Q I U V h;obtain⟨l,b,xs,g,rfl,rfl,S,Y,i,q⟩:=h;cases U;obtain⟨u,rfl,Z⟩:=V.one;cases Z;obtain⟨z,its,n,r,j,e⟩:=I.lstM S;obtain⟨k,D,a,c,d,f⟩:=I.lstM Y;have R:its.toArray.size+D.toArray.size<=sizeLine:=by rw[bx,bx];lia
 have J:¬(!its.toArray.isEmpty && Builtin.List.listTooLong (its.toArray.size+D.toArray.size))=true:=by
  rw[zrm R,Bool.and_false];exact cg
 refine call_meets F.slot_list_extend ⟨_,e,rfl⟩ F.entry_list_extend (F.args_list_extend_2 _ _)
  (AutoSeq1.list_extend_list_list_0 l its.toArray n b D.toArray a J (by rw[bx];lia) (by lia)) ⟨e,f,?_⟩
 refine⟨.non,_,I.lset (its':=its++D) S e (by simp) (r.append c) ?_,rfl,q⟩;rw[ao]
 lia
def rPop:V->k6->Hp->VK->Prop:=λx vs H Q=>∃l xs y,x=.ref l/\vs=[]/\H l=some (.lst xs)/\xs[xs.length-1]?=some y/\Q y (upd H l (.lst xs.dropLast))
theorem zzc:MtM X "list.pop" rPop:=by
 intro pins s σ H x vs v us Q I S U h;obtain⟨l,xs,y,rfl,rfl,R,V,q⟩:=h;cases S;have D:=U.zero;subst D;obtain⟨z,its,n,r,Y,e⟩:=I.lstM R;obtain⟨u,Z,a⟩:=r.get V;have J:its.toArray[its.toArray.size-1]?=some u:=by
  show its.toArray[its.length-1]?=some u;rw[<-Array.getElem?_toList,<-Y];exact Z
 refine call_meets F.slot_list_pop ⟨_,e,rfl⟩ F.entry_list_pop (F.args_list_pop_1 _) (MeetsSeq.list_pop_last l its.toArray n u J (by rw[bx];lia)) ⟨e,?_⟩;refine⟨y,_,I.lset (its':=its.dropLast) R e ?_ r.dropLast ?_,a,q⟩
 ·show its.toArray.eraseIdxIfInBounds (its.toArray.size-1)=its.dropLast.toArray
  rw[bx,List.eraseIdxIfInBounds_toArray,zs6]
 ·rw[List.length_dropLast]
  lia
def rRep:R2:=λx y H Q=>∃l k xs,x=.ref l/\y=.int k/\H l=some (.lst xs)/\-(2 ^ 63)<=k/\k<2 ^ 63/\xs.length*k.toNat<=sizeLine /\
 ∀p,H p=none->Q (.ref p) (upd H p (.lst (List.replicate k.toNat xs).flatten))
def z0x(xs:List α)(k:Nat):(List.replicate k xs).flatten.length=k*xs.length:=by
 induction k with
 | zero=>simp
 | succ k ih=>rw[gp,cr,ao,ih,Nat.succ_mul,Nat.add_comm]
theorem z3v:OpR X (binaryOp .Mult) rRep:=by
 intro pins s σ H x y v u Q I c d h;obtain⟨l,k,xs,rfl,rfl,f,h1,h2,b,q⟩:=h;cases c;obtain⟨t,rfl⟩:=d;obtain⟨z,its,n,r,g,e⟩:=I.lstM f;have J:its.toArray.size*k.toNat<=sizeLine:=by rw[bx,<-g];exact b
 have R:¬its.toArray.size*k.toNat > (2 ^ 63-1) / 8:=by
  have:(sizeLine:Nat)<=(2 ^ 63-1) / 8:=by decide
  lia
 have S:¬(!Builtin.List.listFitsIndex k)=true:=by
  rw[fitsIndex_both h1 h2];exact cg
 have D:¬Builtin.List.listTooLong (its.toArray.size*k.toNat)=true:=by
  rw[zrm J];exact cg
 have V:List.foldl (λY Z=>Y++Z) #[] (List.replicate (if its.toArray.isEmpty=true then 0 else k.toNat) its.toArray)=(List.replicate k.toNat its).flatten.toArray:=by
  have i:∀m:Nat,List.foldl (λY Z=>Y++Z) #[] (List.replicate m its.toArray)=(List.replicate m its).flatten.toArray:=λm=>by
   have:=zox its m [];rw[lj] at this;exact this
  rw[i];cases its with
  | nil=>simp
  | cons a r'=>rw[if_neg (by simp)]
 refine wpAny_binaryOp_repeat_ref (T:="list") (U:="int") (by decide) ⟨_,e,rfl⟩ (λs'=>typeIs_int s' k t) noFill_list_mul F.fills_int_mul F.slot_int_rmul repeat_list F.slot_int_index.lookup
  (call_meets F.slot_int_rmul (typeIs_int s k t) F.entry_int_rmul (F.args_int_rmul_2 _ _) (int___rmul___int_list k t l its.toArray n)
    ⟨e,rfl,⟨_,e,rfl⟩,call_meets F.slot_list_mul ⟨_,e,rfl⟩ F.entry_list_mul (F.args_list_mul_2 _ _) (AutoListH.list___mul___list_int_3 l its.toArray n k t S R D) ⟨e,?_⟩⟩)
 rw[V];exact⟨.ref _,_,I.lnew (t':=s.toks) (r.rep k.toNat) (by rw[z0x,Nat.mul_comm];exact b),rfl,q _ I.fresh⟩
end L2
namespace Att
open PySem PySem.W PySem.Calls PyProof.Rows
variable{P:Params}{h:Heap}
def zlo:∀(D:ik) (vs:g8),WellAll P h vs (D.map WData.int)->IntsAre vs D:=by
 intro D;induction D with
 | nil =>
   intro vs w;rw[du] at w;cases w;exact .nil
 | cons n D ih =>
   intro vs w;rw[bn] at w;cases w with
   | cons a b =>
     cases a;exact .cons _ _ (ih _ b)
variable{l:OpenLaw}{n:Nat}
theorem zuc(b:l.most=some n){args:List WData}{I:g8}(J:l.row.toRowW.claim.pre args=true)(V:WellAll P h I args) :
  ∃a vs D,I=[Value.ref a]/\args=[WData.list (D.map WData.int)]/\h.get? a=some { cls:=.type "list",data:=.seq vs.toArray }/\IntsAre vs D/\D.length<=n:=by
 have Y:WShape.hasAll [] args [.list .int]=true:=(pre_splitW J).1;have Z:l.pre.holds [] { args:=args }=true:=(pre_splitW J).2;obtain⟨d,r,rfl,h1,h2⟩:=hasAllW_cons Y;obtain rfl:=hasAllW_nil h2;obtain⟨xs,rfl,c⟩:=hasW_list h1;obtain⟨D,rfl⟩:=items_int c;have R:D.length<=n:=by
  unfold OpenLaw.pre at Z;have S:(WTm.not (.lt (.lit (.int (n:Int))) (.len (.arg 0)))).holds [] { args:=[.list (D.map .int)] }=true:=by
   have S:=(holds_andW Z).1;rw[b] at S;exact S
  have U:=condW_of S (w_not (w_lt w_lit (w_len_list (w_arg rfl))));rw[ah] at U;refine kq λq=>?_;have e:(n:Int)<((D.length:Nat):Int):=by lia
  first
   | (rw[decide_eq_true e] at U;exact absurd U (by decide))
   | (simp at U;lia)
 cases V with
 | cons w1 w2 =>
   cases w2;cases w1 with
   | list ho hall=>exact⟨_,_,D,rfl,rfl,ho,zlo D _ hall,R⟩
def zud(l:OpenLaw)(args:List WData):l.row.toRowW.claim.post args (.bool true) args=true :=
 postW_of (r:=l.row.toRowW) (X:=(true==true))
  (show WShape.has [] (.bool true) .bool=true by first | rfl | decide | simp[WShape.has,WShape.arms,WShape.armsAll])
  (show(WTm.eq .res (.lit (.bool true))).value [] { args:=args,res:=some (.bool true),after:=args }=some (.bool (true==true)) from w_eq_bool (w_res rfl) w_lit) rfl
def attach_call{q:Program}{I:g7}{k:(Str->g9)->Heap->Prop}{m:World->Heap->Prop}{d:DefRec}(u:l.most=some n)(c:d.params.defaults=[])(call:∀(w:World) (s₀ D:Shared) (mg e:Str->g9) (fa:Addr) (o:Obj) (g Z J:Value) (a:Addr) (vs:g8) (b:ik),
   Ground q I [] k w s₀ mg e D.heap->m w D.heap ->
   D.heap.get? fa=some o->o.data=.func (docDef d.name d.params d.body d.scope g Z J)->D.heap.CodeRec Z d.name->mg d.name=some (.ref fa) ->
   D.heap.get? a=some { cls:=.type "list",data:=.seq vs.toArray }->IntsAre vs b->b.length<=n->D.gens=#[] ->
   codeAny (model l.prog w) callerA (.call (.ref fa) ⟨[.ref a],[]⟩) (λr s'=>r=.ok (.ret (.bool true))/\OldK D.heap s'.heap/\s'.os=D.os/\AllBare s'.gens) D) :
  WalkO q I k m l.row.toRowW d [] (λf vs=>PySem.call f vs):=by
 intro w s₀ D mg e G Y fa o g Z J v kV x y h p i z args s as S t A j B;obtain rfl:v=.none:=Dflts.none p c;obtain rfl:kV=.none:=Dflts.noKw p;obtain⟨a,vs,b,rfl,rfl,U,R,V⟩:=zuc u S j;refine enter_call (codeAny_mono (call w s₀ D mg e fa o g Z J a vs b G Y x (fd_plain y) h i U R V z) λr s' C=>?_);obtain⟨rfl,h2,E,F⟩:=C;exact⟨.inl ⟨.bool true,.bool true,[],rfl,λ_=>rfl,.bool true,zud l _,λ_=>⟨List.Pairwise.nil,λ_ H=>(nomatch H)⟩⟩,h2,E,F⟩
end Att
namespace L2
open PySem PySem.Spec PyProof.Rows
def zoz:∀ {vs:g8} {D:ik},IntsAre vs D->Vals (D.map V.int) vs
 | _,_,.nil=>.nil
 | _,_,.cons n t h=>.cons ⟨t,rfl⟩ (zoz h)
def Only(H:Hp):Prop:=∀b,H b=none\/∃o xs,H b=some (.frz o (.lst xs))
variable{K:kf}{k:Nat}{a:Addr}{x:Str}{vs:g8}
def zw2{P:Program}{w:World}{mg A:Str->g9}{CX:CXT}{fa:Addr}{fd:FuncData}{sp:Sp}{D:Shared}{Y:ik}(L:K.In D.heap)(Z:D.heap.Ns mainGlobals mg)(J:D.heap.Ns builtinsNs A)(B:∀x:Str,x ≠ "__name__"->A x=bootBuiltins x)(c:D.heap.NoLimit)(T:D.gens=#[])(y:D.heap.get? a=some { cls:=.type "list",data:=.seq vs.toArray })(hi:IntsAre vs Y)(M:Y.length<=sizeLine)(W:Room k callerA)(F:∀base:Heap,K.In base->base.Ns mainGlobals mg->FnOk P w K mg base CX k fa fd [x] sp)(U:∀(s:Shared) (u:Value),BindsTo s fd ⟨[u],[]⟩ [(x,u)])(C:∀H:Hp,Only H->SqL K H a (Y.map V.int)->sp [.ref a] H (λv _=>v=.bl true) λ_ _ _=>False)(E:∀H e s',CX [] H D (λ_ _ _=>False) e s'->False) :
  codeAny (model P w) callerA (.call (.ref fa) ⟨[.ref a],[]⟩) (λr s'=>r=.ok (.ret (.bool true))/\OldK D.heap s'.heap/\s'.os=D.os/\AllBare s'.gens) D:=by
 have N:=zoz hi;have f:=hi.length;have S:∀H:Hp,Only H->SqL K H a (Y.map V.int)->HOk P w H D.heap->(∀b,H b≠none->b=a)->(H a≠none->K.lookup a=none) ->
   codeAny (model P w) callerA (.call (.ref fa) ⟨[.ref a],[]⟩) (λr s'=>r=.ok (.ret (.bool true))/\OldK D.heap s'.heap/\s'.os=D.os/\AllBare s'.gens) D:=by
  intro H O X g hA hK;have I:∀ {b:Addr} {o:Obj},D.heap.get? b=some o->H b=none->(hidT D.heap H).get? b=some o:=λe n=>zwp e n;have G:∀ {b:Addr} {o:Obj} {es:Array DictEntry} {i:Nat},D.heap.get? b=some o->o.data=.dict es i->H b=none:=λ{b o es i} e d=>by
   cases q:H b with
   | none=>rfl
   | some u =>
     have e':b=a:=hA b (by rw[q];simp);subst e';rw[y] at e;cases e;have d':Data.seq vs.toArray _=Data.dict es i:=d;cases d'
  have R:∀ {b:Addr} {m:Str->g9},D.heap.Ns b m->(hidT D.heap H).Ns b m:=λ{b m} ⟨o,es,i,e,d,r⟩=>⟨o,es,i,I e (G e d),d,r⟩;have j:K.In (hidT D.heap H):=λb o e=>I (L b o e) (by
   cases q:H b with
   | none=>rfl
   | some u =>
     have e':b=a:=hA b (by rw[q];simp);subst e';rw[hK (by rw[q];simp)] at e;cases e)
  have hM:Mod K mg (hidT D.heap H):=⟨j,R Z,⟨A,R J,B⟩,let ⟨mc,h1,h2⟩:=c;⟨mc,R h1,h2⟩⟩;have e0:Env0 P w K mg (hidT D.heap H) callerA [] D H:=⟨rfl,hM,λb o e=>z0c e,Nat.le_of_eq (zts _ _),trivial,λb J=>absurd (show b∈([]:ia) from J) (by simp),g,.of_eq T⟩;refine codeAny_mono ((F _ j (R Z)).run callerA [] D H ⟨[.ref a],[]⟩ [.ref a] [.ref a] _ _ W e0 (U D (.ref a)) (.cons rfl .nil) (C H O X)) λr s' h=>?_;cases r with
  | error e=>exact(E H e s' h).elim
  | ok fl =>
    cases fl with
    | next=>exact False.elim h
    | brk=>exact False.elim h
    | cont=>exact False.elim h
    | ret u =>
      obtain⟨v,H',os,l,un,p,r',q⟩:=h;have q':v=.bl true:=q;subst q';obtain rfl:u=Value.bool true:=r';refine⟨rfl,OldK.of_keep λb o e=>?_,os,l⟩;cases q:H b with
      | none=>exact un.keep b o e q (by intro z;exact absurd (show b∈([]:ia) from z) (by simp)) (by simp)
      | some u =>
        rcases O b with z | ⟨ob,xs,z⟩
        ·rw[q] at z;cases z
        ·have z2:=un.frzs b ob _ z
         obtain⟨Q,_⟩:=g b _ z;obtain⟨e2,_⟩:=p b _ z2;rw[e] at Q;cases Q;exact e2
 cases hk:K.lookup a with
 | some o =>
   have e:=L a o hk;rw[y] at e;cases e;refine S (λ_=>none) (λ_=>.inl rfl) (.inr ⟨_,vs.toArray,_,hk,rfl,rfl,rfl,by rw[bx,f];exact M,by simpa using N⟩) (λb u z=>by have t:(none:Option HO)=some u:=z;cases t) (λb z=>absurd rfl z) λz=>absurd rfl z
 | none =>
   refine S (λb=>if b=a then some (.frz { cls:=.type "list",data:=.seq vs.toArray } (.lst (Y.map V.int))) else none) (λb=>?_) (.inl (.inr ⟨{ cls:=.type "list",data:=.seq vs.toArray },if_pos rfl⟩)) (λb u z=>?_) (λb z=>?_) λ_=>hk
   ·by_cases J:b=a
    ·exact .inr ⟨_,_,if_pos J⟩
    ·exact .inl (if_neg J)
   ·by_cases J:b=a
    ·have t:=(if_pos J).symm.trans z
     cases t;subst J;exact⟨y,by rw[ah];exact M,vs,_,N,y⟩
    ·have t:=(if_neg J).symm.trans z
     cases t
   ·by_cases J:b=a
    ·exact J
    ·exact absurd (if_neg J) z
variable{l:Addr}{d:D}
def z0y{l:PySem.W.OpenLaw}{n:Nat}{q:Program}{I:g7}{t:(Str->g9)->Heap->Prop}{p:World->Heap->Prop}{d:DefRec}{K:Params->kf}{CX:World->CXT}{sp:World->Sp}(y:l.most=some n)(Z:n<=sizeLine)(c:d.params.defaults=[])(z:Room k callerA)(A:∀(w:World) (h:Heap),p w h->(K w.params).In h)(F:∀(w:World) (mg:Str->g9) (fa:Addr) (h:Heap),(K w.params).In h->h.Ns mainGlobals mg->mg d.name=some (.ref fa) ->
   ∃fd:FuncData,(∀(s:Shared) (u:Value),BindsTo s fd ⟨[u],[]⟩ [(x,u)]) /\
    ∀base:Heap,(K w.params).In base->base.Ns mainGlobals mg->FnOk l.prog w (K w.params) mg base (CX w) k fa fd [x] (sp w))(i:∀(w:World) (H:Hp) (a:Addr) (U:ik),U.length<=n->Only H->SqL (K w.params) H a (U.map V.int)->sp w [.ref a] H (λv _=>v=.bl true) λ_ _ _=>False)(j:∀(w:World) (H:Hp) (s:Shared) (e:Value) (s':Shared),CX w [] H s (λ_ _ _=>False) e s'->False) :
  PySem.W.WalkO q I t p l.row.toRowW d [] (λf vs=>PySem.call f vs):=by
 refine Att.attach_call y c λw s₀ R mg P fa o Q X B a vs U G Y ho hd C m S J D E=>?_;have r:=A w _ Y;obtain⟨fd,L,M⟩:=F w mg fa _ r G.T.g m;exact zw2 r G.T.g G.T.b G.T.builtins G.T.nolimit E S J (de D Z) z M L (λH N O=>i w H a U D N O) λH e s'=>j w H R e s'
def tq(s:Stmt):Arguments:=match s with
 | .FunctionDef _ a _ _ _ _ _ _ _ _=>a
 | _=>{ posonlyargs:=[],args:=[],vararg:=none,kwonlyargs:=[],kw_defaults:=[],kwarg:=none,defaults:=[] }
def lr(s:Stmt):List Stmt:=match s with
 | .FunctionDef _ _ b _ _ _ _ _ _ _=>b
 | _=>[]
def gg(s:Stmt):Scope:=match s with
 | .FunctionDef _ _ _ _ _ _ sc _ _ _=>sc
 | _=>{ kind:=.function,names:=[],isGenerator:=false,isCoroutine:=false }
abbrev CX0:CXT:=λ_ _ _ _ _ _=>False
abbrev E0:XK:=λ_ _ _=>False
variable{X:Cx}
def z0z:zua CX0 X E0:=λ_ _ _ _ _ _ _ h=>h.elim
structure Fun (K:kf) (x qual:Str) (st:Stmt) (f:Addr) (fd:FuncData):Prop where
 ex:∃(oc:Value) (od:Option Addr) (kV doc pm:Value) (an:Option Addr) (cdv ct:Value) (osl:Array g9),
  fd=PySem.W.fnOf x qual (tq st) (lr st) (gg st) .none kV doc pm an cdv ct/\K.lookup f=some ⟨oc,od,.func fd,osl⟩/\PySem.W.codeIn K cdv qual=true
 kp:PySem.W.keepIn K (.ref f)=true
variable{f:FE}
def zue{qual:Str}{st:Stmt}{f:Addr}{oc:Value}{od an:Option Addr}{osl:Array g9}{kV D I cdv ct:Value}(l:K.lookup f=some ⟨oc,od,.func (PySem.W.fnOf x qual (tq st) (lr st) (gg st) .none kV D I an cdv ct),osl⟩)(c:PySem.W.codeIn K cdv qual=true)(k:PySem.W.keepIn K (.ref f)=true):Fun K x qual st f (PySem.W.fnOf x qual (tq st) (lr st) (gg st) .none kV D I an cdv ct):=⟨⟨oc,od,kV,D,I,an,cdv,ct,osl,rfl,l,c⟩,k⟩
def Same(H H':Hp):Prop:=∀b o,H b=some o->H' b=some o
def Same.refl(H:Hp):Same H H:=λ_ _ h=>h
variable{H H1 H2:Hp}
def Same.trans(a:Same H H1)(b:Same H1 H2):Same H H2:=λc o h=>b c o (a c o h)
variable{H':Hp}
def Same.free(e:Same H H')(h:H' l=Option.none):H l=Option.none:=by
 cases q:H l with
 | none=>rfl
 | some o =>
   rw[e l o q] at h;cases h
def zjh{env:Env}:∀(names:List (Str×NameKind)) (D:List (Str×Addr)),
  (∀y∈names,y.2=.free->∃c,env.cells.lookup y.1=some c)->(∀y c,D.lookup y=some c->env.cells.lookup y=some c) ->
  ∃cl,(forIn names D λ(x:Str×NameKind) (cs:List (Str×Addr))=>if (x.2==NameKind.free)=true then(do let c <-cellOf env x.1;pure (ForInStep.yield ((x.1,c)::cs)):Sem _) else pure (ForInStep.yield cs))=pure cl /\
   (∀y c,cl.lookup y=some c->env.cells.lookup y=some c)/\(∀y c,D.lookup y=some c->∃J,cl.lookup y=some J)/\∀y∈names,y.2=.free->∃c,cl.lookup y.1=some c
 | [],D,_,ha=>⟨D,rfl,ha,λy c e=>⟨c,e⟩,λ_ h=>nomatch h⟩
 | (n,k)::r,D,hn,ha=>by
   by_cases S:k=.free
   ·subst S
    obtain⟨c,V⟩:=hn (n,.free) bc rfl;obtain⟨cl,e,h1,h2,U⟩:=zjh r ((n,c)::D) (λy hy=>hn y (am _ hy)) (λy J e=>by
     rw[cw] at e;cases hq:y==n with
     | true=>rw[hq] at e;cases e;rw[eq_of_beq hq];exact V
     | false=>rw[hq] at e;exact ha y J e)
    have I:List.lookup n ((n,c)::D)=some c:=by simp[cw]
    refine⟨cl,?_,h1,λy J e'=>?_,λy hy R=>?_⟩
    ·rw[List.forIn_cons]
     have Y:cellOf env n=pure c:=by unfold cellOf;rw[V]
     simp only[beq_self_eq_true,if_true,Y,pure_bind];exact e
    ·cases hq:y==n with
     | true=>rw[eq_of_beq hq];exact h2 n c I
     | false=>exact h2 y J (by rw[cw,hq];exact e')
    ·rcases ce.mp hy with rfl | hy
     ·exact h2 n c I
     ·exact U y hy R
   ·obtain⟨cl,e,h1,h2,U⟩:=zjh r D (λy hy=>hn y (am _ hy)) ha
    refine⟨cl,?_,h1,h2,λy hy R=>?_⟩
    ·rw[List.forIn_cons]
     have Z:(k==NameKind.free)=false:=by cases k <;> first | rfl | exact absurd rfl S
     simp only[Z,bw,if_false,pure_bind];exact e
    ·rcases ce.mp hy with rfl | hy
     ·exact absurd R S
     ·exact U y hy R
variable{sc:Scope}{env:DE0}
def zmm{env:Env}(h:∀y∈sc.names,y.2=.free->∃c,env.cells.lookup y.1=some c) :
  ∃cl,closureFor sc env=pure cl/\(∀y c,cl.lookup y=some c->env.cells.lookup y=some c)/\∀y∈sc.names,y.2=.free->∃c,cl.lookup y.1=some c:=by
 obtain⟨cl,e,h1,_,D⟩:=zjh (env:=env) sc.names [] h (λy c e=>by simp at e);refine⟨cl,?_,h1,D⟩;unfold closureFor;rw[show(pure cl:Sem _)=(pure cl >>= λcs=>pure cs) by rw[pure_bind],<-e]
def zdp{env:Env}:∀ {names:List (Str×NameKind)} {x:Str} {k:NameKind},
  (names.map λ(n,k)=>if (k==NameKind.free && env.scope.kind==.function && env.kindOf n==some .cell) then(n,NameKind.cell) else(n,k)).lookup x=some k ->
  names.lookup x=some k\/(names.lookup x=some .free/\k=.cell)
 | (n,k0)::r,x,k,h=>by
   have I:=@zdp env r x k;have h:List.lookup x ((if (k0==NameKind.free && env.scope.kind==.function && env.kindOf n==some .cell)=true then(n,NameKind.cell) else(n,k0))::_)=_:=h;cases hx:x==n with
   | true =>
     by_cases D:(k0==NameKind.free && env.scope.kind==.function && env.kindOf n==some .cell)=true
     ·rw[if_pos D] at h
      simp only[cw,hx] at h ⊢;simp only[d9,beq_iff_eq] at D;cases h;exact .inr ⟨by rw[D.1.1],rfl⟩
     ·rw[if_neg D] at h
      simp only[cw,hx] at h ⊢;exact .inl h
   | false =>
     by_cases D:(k0==NameKind.free && env.scope.kind==.function && env.kindOf n==some .cell)=true
     ·rw[if_pos D] at h
      simp only[cw,hx] at h ⊢;exact I h
     ·rw[if_neg D] at h
      simp only[cw,hx] at h ⊢;exact I h
def zci{env:Env}:∀ {names:List (Str×NameKind)} {x:Str},names.lookup x=some .free ->
  (names.map λ(n,k)=>if (k==NameKind.free && env.scope.kind==.function && env.kindOf n==some .cell) then(n,NameKind.cell) else(n,k)).lookup x=some .cell \/
  (names.map λ(n,k)=>if (k==NameKind.free && env.scope.kind==.function && env.kindOf n==some .cell) then(n,NameKind.cell) else(n,k)).lookup x=some .free
 | (n,k0)::r,x,h=>by
   have I:=@zci env r x;show List.lookup x ((if (k0==NameKind.free && env.scope.kind==.function && env.kindOf n==some .cell)=true then(n,NameKind.cell) else(n,k0))::_)=_\/List.lookup x ((if (k0==NameKind.free && env.scope.kind==.function && env.kindOf n==some .cell)=true then(n,NameKind.cell) else(n,k0))::_)=_;cases hx:x==n with
   | true =>
     simp only[cw,hx] at h;cases h;by_cases D:(NameKind.free==NameKind.free && env.scope.kind==.function && env.kindOf n==some .cell)=true
     ·rw[if_pos D];simp only[cw,hx];exact .inl trivial
     ·rw[if_neg D];simp only[cw,hx];exact .inr trivial
   | false =>
     simp only[cw,hx] at h;by_cases D:(k0==NameKind.free && env.scope.kind==.function && env.kindOf n==some .cell)=true
     ·rw[if_pos D];simp only[cw,hx];exact I h
     ·rw[if_neg D];simp only[cw,hx];exact I h
def je(X:Cx)(x:Str)(N':g7)(sc:Scope)(cl:List (Str×Addr))(C:Addr)(s₂:Shared)(H₂:Hp)(fp:ia):Cx :=
 { X with N:=x::N',s₀:=s₂,H₀:=H₂,env:=compEnvC sc cl C X.env,outer:=X.stack,stack:=X.stack,ex:=fp,fn:=λ_=>false,pn:=[],xe:=λ_ _=>False }
def PIfs(X:Cx)(ifs:i3)(tt:TT):Prop :=
 ∀(pins:kl) (s:Shared) (σ:St) (H:Hp) (Q:Bool->Hp->Prop),Inv X pins σ H s->tt σ H Q ->
  wpAny (model X.prog X.w) X.A (forIn ifs true λc r=>if r=true then do let ok <-isTrue c X.env (eval c X.env);pure (ForInStep.yield ok) else pure (ForInStep.yield r)) (TP X pins σ Q) X.xe s
def tYes:TT:=λ_ H Q=>Q true H
def zw3:PIfs X [] tYes:=λ_ _ _ H _ I h=>wpAny_tests_nil ⟨H,I,h⟩
def zw4{c:Expr}{D:TT}(h:PT X c D):PIfs X [c] D:=λpins s σ H Q I q=>wpAny_tests_one (h pins s σ H Q I q)
def xb(wi:TI)(ix:ic)(tt:TT)(te:TE):TE:=λσ H Q=>wi σ H λJ H1=>∃W:Nat->Nat->Hp->k6->Prop,(∃m,W 0 m H1 [])/\∀i m H ys,W i m H ys ->
 (J.stop i H/\ys.length<=sizeLine/\∀D,H D=none->Q (.ref D) (upd H D (.lst ys))) \/
 (J.go i H/\∀x H',J.yld i H x H'->tt (some x::ix.map (λj=>σ.getD j none)) H' λb H2 =>
   if b=true then te (some x::ix.map (λj=>σ.getD j none)) H2 λv R=>ys.length<sizeLine/\∃I,I<m/\W (i+1) I R (ys++[v]) else ∃I,I<m/\W (i+1) I H2 ys)
abbrev lobj(ys:g8):Obj:={ cls:=.type "list",data:=.seq ys.toArray ys.length }
variable{pins:kl}{σ:St}{s2:Shared}{fp:ia}{cl:List (Str×Addr)}{h₁:Heap}{m₁:Str->g9}{ix:ic}{N':g7}
def zuf{tk:Nat}(n:N'=ix.map λi=>X.N.getD i ("" : Str))(H:sc.kind=.function)(U:∀y∈sc.names,y.2≠.cell)(V:∀y∈sc.names,y.2=.free->X.env.kindOf y.1=some .cell\/X.env.kindOf y.1=some .free)(r:∀y∈N',sc.names.lookup y=some .free)(h1:∀y c,cl.lookup y=some c->X.env.cells.lookup y=some c)(G:∀y∈sc.names,y.2=.free->∃c,cl.lookup y.1=some c)(I:Inv X pins σ H2 s2)(l:∀b∈fp,FpOk X pins H2 b)(s:∀b∈fp,∃o,s2.heap.get? b=some o)(S:∀b o,s2.heap.get? b=some o->h₁.get? b=some o)(t:h₁.Ns (s2.heap.objs.size+1) m₁)(K:h₁.get? s2.heap.objs.size=some (lobj [])) :
  Inv (je X x N' sc cl (s2.heap.objs.size+1) s2 H2 fp) [(s2.heap.objs.size,lobj [])] (none::ix.map (λj=>σ.getD j none)) H2 { s2 with heap:=h₁,toks:=tk }:=by
 have A:∀b∈fp,b<s2.heap.objs.size:=λb R=>by obtain⟨o,e⟩:=s b R;exact bi e
 have Z:∀b,s2.heap.objs.size<=b->b∉frs X.stack:=λb R z=>by
  rcases ce.mp (I.stkSub b z) with e | z
  ·exact absurd (bh I.lt (e ▸ R)) (fu _)
  ·exact I.nofs R z
 refine⟨⟨I.ok.mod,H,I.ok.glob,I.ok.blt,qi _,λy z c J D=>I.ok.inj y z c (h1 _ _ J) (h1 _ _ D),λy L=>?_,λy c z _=>(by cases z),I.ok.hd,I.ok.frames,.inl rfl,λb R=>⟨?_,λy c e=>?_⟩,I.bs,de I.ok.bsz I.sz,λb o e R=>?_,λb R z=>?_,I.stack,I.stkFree⟩,
  rfl,I.bare,Un.kept S,⟨m₁,t,λi y v J D W=>?_⟩,λy c e=>?_,I.hok.fresh (qi _),λy c e=>I.freeC y c (h1 y c e),λp B=>?_,I.hok.kept S,?_⟩
 ·have C:(relabel sc X.env).names.lookup y=some .cell\/(relabel sc X.env).names.lookup y=some .free:=L
  have M:sc.names.lookup y=some .free:=by
   rcases C with q | q
   ·rcases zdp q with q | ⟨q,_⟩
    ·exact absurd rfl (U _ (eg q))
    ·exact q
   ·rcases zdp q with q | ⟨_,q⟩
    ·exact q
    ·cases q
  exact G (y,.free) (eg M) rfl
 ·exact b8 (gk (A b R))
 ·exact(l b R).2.2.2.2.1 y c (h1 y c e)
 ·rcases(l b R).2.2.2.1 with z | z
  ·exact I.ok.noex b o e z
  ·exact absurd (bh (bi e) (de I.ok.bsz z)) (fu _)
 ·have z:b∈frs X.stack:=z
  rcases ce.mp (I.stkSub b z) with e | z
  ·exact(l b R).2.1 e
  ·exact(l b R).2.2.1 z
 ·cases i with
  | zero=>simp at D
  | succ j =>
    have J:N'[j]?=some y:=by simpa[je] using J
    have D:(ix.map (λj=>σ.getD j none))[j]?=some (some v):=by simpa using D
    rw[n,cb] at J;rw[cb] at D;cases q:ix[j]? with
    | none=>rw[q] at J;cases J
    | some k =>
      rw[q] at J D;have J:X.N.getD k "" = y:=bu J;have D:σ.getD k none=some v:=bu D;have a:σ[k]?=some (some v):=by
       rw[av] at D;cases q2:σ[k]? with
       | none=>rw[q2] at D;cases D
       | some z=>rw[q2] at D;rw[show z=some v from D]
      have d:k<X.N.length:=by rw[<-I.len];exact(ai.mp a).1
      have E:X.N[k]?=some y:=by
       rw[av,aq d] at J;rw[aq d];exact congrArg some J
      have F:y∈N':=by
       rw[n,<-J];exact d7.mpr ⟨k,bg q,rfl⟩
      have Y:=r y F;have f:=V (y,.free) (eg Y) rfl;have g:Vis X.env.scope y:=by
       rcases f with z | z
       ·exact .inr (.inl z)
       ·exact .inr (.inr z)
      obtain⟨m,hn,O⟩:=I.loc;obtain⟨u,P,Q⟩:=O k y v E a g;refine⟨u,P,.inr ⟨?_,?_⟩⟩
      ·exact zci Y
      ·rcases Q with⟨z,_⟩ | ⟨_,c,hc,hcv⟩
       ·rcases f with w | w <;> rw[show X.env.kindOf y=_ from w] at z <;> cases z
       ·obtain⟨T,h⟩:=G (y,.free) (eg Y) rfl
        have:=h1 y T h;rw[hc] at this;cases this;exact⟨c,h,hcv.keeps S⟩
 ·obtain⟨v,q⟩:=I.cell y c (h1 y c e)
  exact⟨v,q.keeps S⟩
 ·have B:p∈[(s2.heap.objs.size,lobj [])]:=B
  rw[cy.mp B];exact⟨K,I.hok.fresh (b9 _),b8 (fj _),Z _ (b9 _),λv z=>by cases z⟩
 ·simp[je,n]
variable{ys:k6}{y:Str}
def Vals.snoc{y:V}{u:Value}(h:Vals ys vs)(r:RelV y u):Vals (ys++[y]) (vs++[u]):=Vals.append h (.cons r .nil)
def zug(vs:g8)(u:Value):({ cls:=.type "list",data:=.seq (vs.toArray.push u) (vs.length+1) }:Obj)=lobj (vs++[u]):=LCg.lst_snoc vs u
def zrn{d:St}{U:Shared}{h':Heap}(I:Inv X pins σ H2 s2)(i:∀b∈fp,FpOk X pins H2 b)(j:∀b∈fp,∃o,s2.heap.get? b=some o)(J:Inv (je X x N' sc cl (s2.heap.objs.size+1) s2 H2 fp) [(s2.heap.objs.size,lobj vs)] d H' U)(k:Vals ys vs)(l:ys.length<=sizeLine)(Z:Heap.SameBut (s2.heap.objs.size+1) U.heap h') :
  Inv X pins σ (upd H' s2.heap.objs.size (.lst ys)) { U with heap:=h' }:=by
 have h:=J.pin (s2.heap.objs.size,lobj vs) (b7 _ bc);have V:H' s2.heap.objs.size=none:=h.2.1;have Y:H' (s2.heap.objs.size+1)=none:=J.free;have R:Un (frs X.stack) fp H2 H' s2.heap U.heap:=J.base;have a:∀b o,s2.heap.get? b=some o->b≠s2.heap.objs.size/\b≠s2.heap.objs.size+1:=λb o e=>by
  have:=bi e;exact⟨b8 this,b8 (gk this)⟩
 have m:∀b,s2.heap.objs.size<=b->H2 b=none:=λb D=>I.hok.fresh D;have f:∀b o,H2 b=some o->b≠s2.heap.objs.size:=λb o e z=>by rw[z,m _ (b9 _)] at e;cases e
 have p:Un (frs X.stack) fp H2 (upd H' s2.heap.objs.size (.lst ys)) s2.heap h':=by
  refine⟨λb o e n D S=>(Z.2 b (a b o e).2).trans (R.keep b o e n D S),λb o e n D S=>?_,λb o e n S=>?_,λb o e S=>?_,λb xs e=>?_,λb o u e=>?_,λb ps e=>?_⟩
  ·obtain⟨sl,q⟩:=R.slot b o e n D S
   exact⟨sl,(Z.2 b (a b o e).2).trans q⟩
  ·rw[gv (a b o e).1];exact R.free b o e n S
  ·obtain⟨o',q⟩:=R.there b o e S
   exact⟨o',(Z.2 b (a b o e).2).trans q⟩
  ·rw[gv (f b _ e)];exact R.tups b xs e
  ·rw[gv (f b _ e)];exact R.frzs b o u e
  ·rw[gv (f b _ e)];exact R.tbls b ps e
 have kk:∀b u,b≠s2.heap.objs.size+1->U.heap.get? b=some u->h'.get? b=some u:=λb u D q=>(Z.2 b D).trans q;have g:HOk X.prog X.w (upd H' s2.heap.objs.size (.lst ys)) h':=λb u e=>by
  by_cases D:b=s2.heap.objs.size
  ·subst D
   rw[km] at e;cases e;exact⟨l,vs,vs.length,k,kk _ _ (b8 (fj _)) h.1⟩
  ·rw[gv D] at e
   have r:b≠s2.heap.objs.size+1:=λz=>by rw[z,Y] at e;cases e
   refine(J.hok b u e).stay (λc v hc q=>kk c v ?_ q) (λc q=>?_) λc xs q=>?_
   ·rcases hc with rfl | hc
    ·exact r
    ·intro z;rw[z,Y] at hc;cases hc
   ·rw[gv (λz=>by rw[z,V] at q;cases q)];exact q
   ·rw[gv (λz=>by rw[z,V] at q;cases q)];exact q
 refine I.call' (s':={ U with heap:=h' }) (ch:=fp) J.os p g J.bare λb D=>?_;obtain⟨_,s,_,t,y,A⟩:=i b D;exact⟨t,s,y,A⟩
variable{Q:Unit->Shared->Prop}{W:Addr->Prop}{Cm:Cx->Prop}{px pos:Pos}{iter elt:Expr}{ifs:i3}{tt:TT}{te:TE}
theorem zo0{it:Addr}{G:Nat->Heap->Prop}{J:It}{Q:VK}{R:Result->Shared->Prop}{m0:Nat}{W:Nat->Nat->Hp->k6->Prop}(hc:∀cl C s₂ H₂ fp pins σ,Inv X pins σ H₂ s₂->(∀b∈fp,FpOk X pins H₂ b)->Cm (je X x N' sc cl C s₂ H₂ fp))(a5:∀cl C s₂ H₂ fp,Cm (je X x N' sc cl C s₂ H₂ fp)->PIfs (je X x N' sc cl C s₂ H₂ fp) ifs tt)(a6:∀cl C s₂ H₂ fp,Cm (je X x N' sc cl C s₂ H₂ fp)->PE (je X x N' sc cl C s₂ H₂ fp) elt te)(hN:N'=ix.map λi=>X.N.getD i ("" : Str))(a7:(x::N').Nodup)(hk:sc.kind=.function)(hx:sc.names.lookup x=some .local)(L:∀y∈sc.names,y.2≠.cell)(a4:∀y∈sc.names,y.2=.local->sc.names.lookup y.1=some .local)(M:∀y∈sc.names,y.2=.free->X.env.kindOf y.1=some .cell\/X.env.kindOf y.1=some .free)(a8:∀y∈N',sc.names.lookup y=some .free)(h1:∀y c,cl.lookup y=some c->X.env.cells.lookup y=some c)(h3:∀y∈sc.names,y.2=.free->∃c,cl.lookup y.1=some c)(f:Inv X pins σ H2 s2)(T:vi Cm X.prog X.w X.K (.Name x px) J fp it G)(aa:G 0 s2.heap)(t:∀b∈fp,FpOk X pins H2 b)(w0:W 0 m0 H2 [])(turn:∀i m H ys,W i m H ys ->
   (J.stop i H/\ys.length<=sizeLine/\∀D,H D=none->Q (.ref D) (upd H D (.lst ys))) \/
   (J.go i H/\∀x H',J.yld i H x H'->tt (some x::ix.map (λj=>σ.getD j none)) H' λb H2 =>
     if b=true then te (some x::ix.map (λj=>σ.getD j none)) H2 λv H3=>ys.length<sizeLine/\∃g,g<m/\W (i+1) g H3 (ys++[v]) else ∃g,g<m/\W (i+1) g H2 ys))(ab:∀b o,s2.heap.get? b=some o->h₁.get? b=some o)(h:h₁.Ns (s2.heap.objs.size+1) m₁)(ag:h₁.get? s2.heap.objs.size=some (lobj []))(hR:∀s5 B ys vs k,Inv (je X x N' sc cl (s2.heap.objs.size+1) s2 H2 fp) [(s2.heap.objs.size,lobj vs)] k B s5->Vals ys vs->ys.length<=sizeLine->(∀D,B D=none->Q (.ref D) (upd B D (.lst ys)))->R (.ok .next) s5) :
  codeAny (model X.prog X.w) X.A (.compStart (.ListComp elt [⟨.Name x px,iter,ifs,0⟩] sc pos) 0 (.ref it) (.ref s2.heap.objs.size) (compEnvC sc cl (s2.heap.objs.size+1) X.env)) R { s2 with heap:=h₁,toks:=s2.toks+([]:List (Str×Value)).length }:=by
 have al:∀b∈fp,∃o,s2.heap.get? b=some o:=λb I=>by obtain⟨o,e,_⟩:=T.obj _ _ aa b I;exact⟨o,e⟩
 have O:∀b∈fp,b<s2.heap.objs.size:=λb I=>by obtain⟨o,e⟩:=al b I;exact bi e
 have I3:=zuf (x:=x) (tk:=s2.toks+([]:List (Str×Value)).length) hN hk L M a8 h1 h3 f t al ab h ag;have an:G 0 h₁:=T.keep _ _ _ aa λb I o e=>ab b o e;generalize U:je X x N' sc cl (s2.heap.objs.size+1) s2 H2 fp=X' at I3;have eP:X'.prog=X.prog:=by rw[<-U];rfl
 have eW:X'.w=X.w:=by rw[<-U];rfl
 have eK:X'.K=X.K:=by rw[<-U];rfl
 have eA:X'.A=X.A:=by rw[<-U];rfl
 have E:X'.env=compEnvC sc cl (s2.heap.objs.size+1) X.env:=by rw[<-U];rfl
 have eC:Cm X':=by rw[<-U];exact hc _ _ _ _ _ _ _ f t
 have ap:X'.pn=[]:=by rw[<-U];rfl
 have ar:X'.xe=λ_ _=>False:=by rw[<-U];rfl
 have a0:X'.fs=frs X.stack:=by rw[<-U];rfl
 have a9:X'.ex=fp:=by rw[<-U];rfl
 have eN:X'.N=x::N':=by rw[<-U];rfl
 have eS:X'.s₀=s2:=by rw[<-U];rfl
 have ba:∀b∈fp,b∉frs X.stack:=λb I z=>by
  rcases ce.mp (f.stkSub b z) with e | z
  ·exact(t b I).2.1 e
  ·exact(t b I).2.2.1 z
 have a1:s2.heap.objs.size∉frs X.stack:=λz=>by
  rcases ce.mp (f.stkSub _ z) with e | z
  ·exact absurd (e ▸ f.lt) (fu _)
  ·exact f.nofs (b9 _) z
 have Z:∀ {H':Hp} {vs:g8},(∀b∈fp,H' b=none)->∀b∈fp,FpOk X' [(s2.heap.objs.size,lobj vs)] H' b:=λ{H' vs} hn b I=>by
  refine⟨hn b I,?_,?_,.inl (by rw[a9];exact I),λy c e=>?_,λp l=>?_⟩
  ·rw[E];exact b8 (gk (O b I))
  ·rw[a0];exact ba b I
  ·rw[E] at e;exact(t b I).2.2.2.2.1 y c (h1 y c e)
  ·rw[ap] at l
   rw[cy.mp (show p∈[(s2.heap.objs.size,lobj vs)] from l)];exact lh (O b I)
 have loop:∀S:Shared,S={ s2 with heap:=h₁,toks:=s2.toks+([]:List (Str×Value)).length } ->
   codeAny (model X.prog X.w) X.A (.compLoop (.ListComp elt [⟨.Name x px,iter,ifs,0⟩] sc pos) 0 (.ref it) (.ref s2.heap.objs.size) (compEnvC sc cl (s2.heap.objs.size+1) X.env))
    (R) S:=by
  rintro S rfl;refine codeAny_compLoop_tests (λn s'=>∃i Y H' ys vs,Inv X' [(s2.heap.objs.size,lobj vs)] (Y::ix.map (λj=>σ.getD j none)) H' s'/\Vals ys vs/\G i s'.heap/\(∀b∈fp,H' b=none)/\W i n H' ys) ?_ m0
   ⟨0,none,H2,[],[],I3,.nil,an,λb I=>(t b I).1,w0⟩
  rintro n s4 ⟨i,Y,B,ys,vs,I4,hv4,st4,fr4,w4⟩;rcases turn i n B ys w4 with⟨a2,hl,qn⟩ | ⟨go,step⟩
  ·have D:=T.done X' eP eW eK eC i _ s4 _ B (notedBy (model X.prog X.w) X.A (compEnvC sc cl (s2.heap.objs.size+1) X.env) λe s'=>R (.error e) s') I4 (Z fr4) st4 a2
   rw[eA] at D;refine thn D λr s5 s=>?_;obtain⟨hr,I5⟩:=s;subst hr;exact hR s5 B ys vs _ (U ▸ I5) hv4 hl qn
  ·have D:=T.item X' eP eW eK eC i _ s4 _ B (notedBy (model X.prog X.w) X.A (compEnvC sc cl (s2.heap.objs.size+1) X.env) λe s'=>R (.error e) s') I4 (Z fr4) st4 go
   rw[eA] at D;refine thn D λr s5 s=>?_;obtain⟨u,hr,h5⟩:=s;subst hr;have bb:wpAny (model X.prog X.w) X.A (letOwnedTupleGo (.Name x px) (.ref it) u >>= λ_=>assign (.Name x px) (compEnvC sc cl (s2.heap.objs.size+1) X.env) u) (λ_ s₂ =>
     wpAny (model X.prog X.w) X.A (forIn ifs true λc r=>if r=true then do let ok <-isTrue c (compEnvC sc cl (s2.heap.objs.size+1) X.env) (eval c (compEnvC sc cl (s2.heap.objs.size+1) X.env));pure (ForInStep.yield ok) else pure (ForInStep.yield r)) (λok S =>
      if ok=true then wpAny (model X.prog X.w) X.A (eval elt (compEnvC sc cl (s2.heap.objs.size+1) X.env)) (λx a3 =>
       wpAny (model X.prog X.w) X.A (call (.builtin "list.append") [.ref s2.heap.objs.size,x]) (λ_ F=>∃m,m<n/\∃i Y H' ys vs,Inv X' [(s2.heap.objs.size,lobj vs)] (Y::ix.map (λj=>σ.getD j none)) H' F/\Vals ys vs/\G i F.heap/\(∀b∈fp,H' b=none)/\W i m H' ys)
        (notedBy (model X.prog X.w) X.A (compEnvC sc cl (s2.heap.objs.size+1) X.env) λe s'=>R (.error e) s') a3)
       (notedBy (model X.prog X.w) X.A (compEnvC sc cl (s2.heap.objs.size+1) X.env) λe s'=>R (.error e) s') S
      else ∃m,m<n/\∃i Y H' ys vs,Inv X' [(s2.heap.objs.size,lobj vs)] (Y::ix.map (λj=>σ.getD j none)) H' S/\Vals ys vs/\G i S.heap/\(∀b∈fp,H' b=none)/\W i m H' ys)
      (notedBy (model X.prog X.w) X.A (compEnvC sc cl (s2.heap.objs.size+1) X.env) λe s'=>R (.error e) s') s₂)
     (notedBy (model X.prog X.w) X.A (compEnvC sc cl (s2.heap.objs.size+1) X.env) λe s'=>R (.error e) s') s5:=by
    refine wpAny_bind (thn h5 λ_ s6 s=>?_);obtain⟨z,H6,I6,r6,y6,P,bd⟩:=s;have be:=I6.pinned (Z bd) (T.obj _ _ P);have q6:=step z H6 y6;refine wpAny_assign_Name (?_:wpAny _ _ (storeName (compEnvC sc cl (s2.heap.objs.size+1) X.env) x u) _ _ s6);rw[<-E];refine zla (i:=0) be (by rw[eN];exact a7) (by rw[eN];rfl) (.inl (by rw[E];exact lookup_relabel_local hx)) r6 (λs7 I7=>?_) (.inr (by rw[E];exact lookup_relabel_local hx));have t7:=(U ▸ a5 cl (s2.heap.objs.size+1) s2 H2 fp (hc _ _ _ _ _ _ _ f t):PIfs X' ifs tt) _ s7 _ H6 _ I7 q6;rw[eP,eW,eA] at t7;refine wpAny_mono t7 (λb s8 s=>?_) (λe s' z=>by rw[ar] at z;exact z.elim);obtain⟨H8,I8,q8⟩:=s;have a:∀ {s':Shared} {H':Hp} {k:St},Inv X' ([(s2.heap.objs.size,lobj vs)]++zl fp s6.heap) k H' s'->G (i+1) s'.heap/\∀b∈fp,H' b=none:=λ{s' H' k} J'=>by
     refine⟨T.keep _ _ _ P λb I o e=>(J'.pin (b,o) (b7 _ (b7 _ (zix I e)))).1,λb I=>?_⟩;obtain⟨o,e,d⟩:=T.obj _ _ P b I;exact(J'.pin (b,o) (b7 _ (b7 _ (zix I e)))).2.1
    cases b with
    | false =>
      rw[if_neg cg] at q8 ⊢;obtain⟨g,hm,w8⟩:=q8;obtain⟨k1,k2⟩:=a I8;exact⟨g,hm,i+1,some z,H8,ys,vs,I8.unpinned,hv4,k1,k2,w8⟩
    | true =>
      rw[if_pos rfl] at q8 ⊢;have t8:=(U ▸ a6 cl (s2.heap.objs.size+1) s2 H2 fp (hc _ _ _ _ _ _ _ f t):PE X' elt te) _ s8 _ H8 _ I8 q8;rw[eP,eW,eA] at t8;refine wpAny_mono t8 (λv s9 s=>?_) (λe s' z=>by rw[ar] at z;exact z.elim);obtain⟨y,H9,I9,r9,bm,g,hm,w9⟩:=s;have pD:=I9.pin (s2.heap.objs.size,lobj vs) (b7 _ (d6 _ bc));obtain⟨k1,k2⟩:=a I9;have bo:=hv4.length;refine append_at (D:=s2.heap.objs.size) (its:=vs.toArray) (n:=vs.length) pD.1 (λh' sb hD=>?_) (by rw[bx];lia);have bf:Inv X' [] (some z::ix.map (λj=>σ.getD j none)) H9 s9:=I9.pins_of λp l=>nomatch l;have cne:∀y c,X'.env.cells.lookup y=some c->c≠s2.heap.objs.size:=λy c e=>by
       rw[E] at e;obtain⟨v',q⟩:=f.cell y c (h1 y c e);exact b8 q.lt
      have bk:Inv X' [] (some z::ix.map (λj=>σ.getD j none)) H9 { s9 with heap:=h' }:=bf.turned (t':=s9.toks) (it:=s2.heap.objs.size) (λb o I e=>(sb.2 b I).trans e) pD.2.1 (by rw[E];exact b8 (fj _)) (.inr (by rw[eS];exact b9 _)) cne (λp l=>by rw[ap] at l;exact nomatch l);have bl:Inv X' [(s2.heap.objs.size,lobj (vs++[v]))] (some z::ix.map (λj=>σ.getD j none)) H9 { s9 with heap:=h' }:=bk.pins_of λp l=>by
       rw[cy.mp l];exact⟨hD.trans (congrArg some (zug vs v)),pD.2.1,by rw[E];exact b8 (fj _),by rw[a0];exact a1,λv' z'=>by cases z'⟩
      exact⟨g,hm,i+1,some z,H9,ys++[y],vs++[v],bl,hv4.snoc r9,T.keep _ _ _ k1 (λb I o e=>(sb.2 b (b8 (O b I))).trans e),k2,w9⟩
   exact bb
 exact codeAny_compStart_list (loop _ rfl) (T.self X.A 0 _ _ _ an (loop _ rfl))
variable{h:Heap}
def Heap.SameBut.rf(e:∃o,h.get? a=some o):Heap.SameBut a h h:=by
 first | exact⟨rfl,λ_ _=>rfl⟩ | exact⟨e,λ_ _=>rfl⟩
structure zuh (X:Cx) (x:Str) (N':g7) (ix:ic) (sc:Scope):Prop where
 nm:N'=ix.map λi=>X.N.getD i ("" : Str)
 nd:(x::N').Nodup
 kind:sc.kind=.function
 hx:sc.names.lookup x=some .local
 cell:∀y∈sc.names,y.2≠.cell
 names:∀y∈sc.names,y.2=.local->sc.names.lookup y.1=some .local
 free:∀y∈sc.names,y.2=.free->X.env.kindOf y.1=some .cell\/X.env.kindOf y.1=some .free
 fv:∀y∈N',sc.names.lookup y=some .free
variable{wi:TI}
def zqg(c:zuh X x N' ix sc)(p:∀cl C s₂ H₂ fp pins σ,Inv X pins σ H₂ s₂->(∀b∈fp,FpOk X pins H₂ b)->Cm (je X x N' sc cl C s₂ H₂ fp))(hi:PIC Cm X (.Name x px) iter wi)(Y:∀cl C s₂ H₂ fp,Cm (je X x N' sc cl C s₂ H₂ fp)->PIfs (je X x N' sc cl C s₂ H₂ fp) ifs tt)(Z:∀cl C s₂ H₂ fp,Cm (je X x N' sc cl C s₂ H₂ fp)->PE (je X x N' sc cl C s₂ H₂ fp) elt te)(q:∀v,foldedSetIterable iter X.env v=pure v:=by intro _;rfl) :
  PE X (.ListComp elt [⟨.Name x px,iter,ifs,0⟩] sc pos) (xb wi ix tt te):=by
 intro pins s σ H Q I h;obtain⟨cl,a,h1,r⟩:=zmm (sc:=sc) (env:=X.env) (λy d t=>I.ok.has y.1 (c.free y d t));rw[eval_ListComp];refine wpAny_comprehension_free (use:=none) rfl q a c.kind c.names (thn (hi pins s σ H _ I h) λv L u=>thn u λw s2 h2=>?_);obtain⟨it,fp,M,J,H2,rfl,m,T,S,n,W,⟨N,z⟩,turn⟩:=h2;refine wpAny_newObj_type (wpAny_newFunctionEnv c.cell (by intro y d;simp at d) (λh₁ R D=>?_) c.kind);dsimp only at R D ⊢;have U:(s2.heap.push { cls:=.type "list",dict:=none,data:=.seq ([]:g8).toArray }).objs.size=s2.heap.objs.size+1:=i8 ..;rw[U] at R D ⊢;have f:∀b o,s2.heap.get? b=some o->h₁.get? b=some o:=λb o e=>D.extBut b o (b8 (gk (bi e))) (au _ (au _ e));have V:h₁.get? s2.heap.objs.size=some (lobj []):=D.extBut _ _ (b8 (fj _)) (au _ (ci _ rfl));have g:∀b∈fp,∃o,s2.heap.get? b=some o:=λb A=>by obtain⟨o,e,_⟩:=T.obj _ _ S b A;exact⟨o,e⟩
 refine zo0 p Y Z c.nm c.nd c.kind c.hx c.cell c.names c.free c.fv h1 r m T S n z turn f R V λO P ys vs B i j E F=>?_;obtain⟨G,k,_⟩:=i.loc;refine⟨G,k,λh' K=>?_⟩;have l:=(i.pin (s2.heap.objs.size,lobj vs) (b7 _ bc)).2.1;exact⟨.ref s2.heap.objs.size,_,zrn m n g i j E K,rfl,F _ l⟩
variable{i:Nat}
def zm7{py spos:Pos}(c:zuh X x N' ix sc)(hc:∀cl C s₂ H₂ fp pins σ,Inv X pins σ H₂ s₂->(∀b∈fp,FpOk X pins H₂ b)->Cm (je X x N' sc cl C s₂ H₂ fp))(k:X.N.Nodup)(l:X.N[i]?=some y)(n:Loc X.env.scope y)(hi:PIC Cm X (.Name x px) iter wi)(q:∀cl C s₂ H₂ fp,Cm (je X x N' sc cl C s₂ H₂ fp)->PIfs (je X x N' sc cl C s₂ H₂ fp) ifs tt)(r:∀cl C s₂ H₂ fp,Cm (je X x N' sc cl C s₂ H₂ fp)->PE (je X x N' sc cl C s₂ H₂ fp) elt te)(t:swapsWith (.ListComp elt [⟨.Name x px,iter,ifs,0⟩] sc pos) (some (.Name y py)) spos.line X.env=pure true)(u:X.fn y=true\/X.env.scope.names.lookup y=some .local:=by first | exact .inl rfl | exact .inr rfl | assumption)(hs:∀v,foldedSetIterable iter X.env v=pure v:=by intro _;rfl) :
  PS X (.Assign [.Name y py] (.ListComp elt [⟨.Name x px,iter,ifs,0⟩] sc pos) spos) (tAsg (xb wi ix tt te) (m6 i)):=by
 intro pins s σ H Dn I h;have h:xb wi ix tt te σ H λv H1=>Dn.nx (σ.set i (some v)) H1:=h;obtain⟨cl,w,h1,h3⟩:=zmm (sc:=sc) (env:=X.env) (λy B u=>I.ok.has y.1 (c.free y B u));rw[exec_Assign_Name_used _ _ _ _ t];refine wpAny_bind (wpAny_standAt (wpAny_bind ?_));show wpAny _ X.A (do let _ <-comprehension (.ListComp elt [⟨.Name x px,iter,ifs,0⟩] sc pos) sc X.env _ (newList []) false (eval iter X.env) (some (assign (.Name y py) X.env))) _ _ s;refine wpAny_bind (wpAny_mono (wpAny_comprehension_free (use:=some (assign (.Name y py) X.env)) (Q:=λ_ s'=>SP X pins Dn .next s') rfl hs w c.kind c.names
  (thn (hi pins s σ H _ I h) λv s1 g1=>thn g1 λaa s2 h2=>?_)) (λ_ s' hq=>wpAny_pure (wpAny_pure hq)) λ_ _ e=>e)
 obtain⟨it,fp,tn,J,H2,rfl,V,T,Y,P,W,⟨m0,w0⟩,turn⟩:=h2;refine wpAny_newObj_type (wpAny_newFunctionEnv c.cell (by intro y B;simp at B) (λh₁ R D=>?_) c.kind);dsimp only at R D ⊢;have Z:(s2.heap.push { cls:=.type "list",dict:=none,data:=.seq ([]:g8).toArray }).objs.size=s2.heap.objs.size+1:=i8 ..;rw[Z] at R D ⊢;have E:∀b o,s2.heap.get? b=some o->h₁.get? b=some o:=λb o e=>D.extBut b o (b8 (gk (bi e))) (au _ (au _ e));have d:h₁.get? s2.heap.objs.size=some (lobj []):=D.extBut _ _ (b8 (fj _)) (au _ (ci _ rfl));have F:∀b∈fp,∃o,s2.heap.get? b=some o:=λb G=>by obtain⟨o,e,_⟩:=T.obj _ _ Y b G;exact⟨o,e⟩
 refine zo0 (Q:=λv H1=>Dn.nx (σ.set i (some v)) H1) hc q r c.nm c.nd c.kind c.hx c.cell c.names c.free c.fv h1 h3 V T Y P w0 turn E R d λf H4 ys vs ab g K hl qn=>?_;obtain⟨m5,S,_⟩:=g.loc;have S:f.heap.Ns (s2.heap.objs.size+1) m5:=S;have L:=(g.pin (s2.heap.objs.size,lobj vs) (b7 _ bc)).2.1;have oC:∃o,f.heap.get? (s2.heap.objs.size+1)=some o:=let ⟨o,_,_,e,_⟩:=S;⟨o,e⟩;have I6:Inv X pins σ (upd H4 s2.heap.objs.size (.lst ys)) { f with heap:=f.heap }:=zrn V P F g K hl (Heap.SameBut.rf oC);show wpAny _ X.A (assign (.Name y py) X.env (.ref s2.heap.objs.size)) _ _ f;have HC:upd H4 s2.heap.objs.size (.lst ys) (s2.heap.objs.size+1)=none:=by rw[gv (lh (fj _))];exact g.free
 have U:∀a o,s2.heap.get? a=some o->s2.heap.objs.size+1≠a:=λa o e=>lh (gk (bi e));have oL:∃o,s2.heap.get? X.env.locals=some o:=let ⟨m,hn,_⟩:=V.loc;let ⟨o,_,_,e,_⟩:=hn;⟨o,e⟩;have cL:s2.heap.objs.size+1≠X.env.locals:=let ⟨o,e⟩:=oL;U _ o e;have cC:∀z j,X.env.cells.lookup z=some j->j≠s2.heap.objs.size+1:=λz j e=>by
  obtain⟨v',o,e',_⟩:=V.cell z j e;exact Ne.symm (U _ o e')
 refine wpAny_assign_Name (zlj (v:=.ref s2.heap.objs.size) I6 k l n rfl (λs7 I7 zq=>?_) u);obtain⟨a,sb,ha⟩:=zq;have M:s2.heap.objs.size+1≠a:=by
  rcases ha with rfl | ha
  ·exact cL
  ·exact Ne.symm (cC _ _ ha)
 refine⟨m5,S.sameBut sb M,λh' O=>?_⟩;refine⟨_,_,I7.turned (t':=s7.toks) (it:=s2.heap.objs.size+1) (λb o G e=>(O.2 b G).trans e) HC cL (.inr ?_) cC (λp hp=>?_),qn _ L⟩
 ·exact oh V.sz
 ·exact Ne.symm (U _ _ (V.pin p hp).1)
def z00(X:Cx)(xs N':g7)(sc:Scope)(cl:List (Str×Addr))(C:Addr)(s₂:Shared)(H₂:Hp)(fp:ia):Cx :=
 { X with N:=xs++N',s₀:=s₂,H₀:=H₂,env:=compEnvC sc cl C X.env,outer:=X.stack,stack:=X.stack,ex:=fp,fn:=λ_=>false,pn:=[],xe:=λ_ _=>False }
structure z6i (X:Cx) (xs N':g7) (ix:ic) (sc:Scope):Prop where
 nm:N'=ix.map λi=>X.N.getD i ("" : Str)
 nd:(xs++N').Nodup
 kind:sc.kind=.function
 hx:∀y∈xs,sc.names.lookup y=some .local
 cell:∀y∈sc.names,y.2≠.cell
 names:∀y∈sc.names,y.2=.local->sc.names.lookup y.1=some .local
 free:∀y∈sc.names,y.2=.free->X.env.kindOf y.1=some .cell\/X.env.kindOf y.1=some .free
 fv:∀y∈N',sc.names.lookup y=some .free
inductive D where
 | non | bl (b:Bool) | int (i:Int) | str (s:Str) | tup (ds:List D) | lst (ds:List D)
 | dct (ks:ik) (ds:List D)
 | exc (a:Addr)
abbrev k7:=List D
abbrev k8:=Option D
inductive Im where
 | t (vs:k6) | d (kvs:List (Key×V))
@[reducible] noncomputable def Im.out:Im->HO | .t vs=>.tup vs | .d kvs=>.dK kvs
def dkv(ks:ik)(vs:k6):List (Key×V):=ks.zipWith (λk v=>(Sum.inl k,v)) vs
def KL(K:kf)(a:Addr)(xs:k6):Prop :=
 ∃(o:Obj) (its:k4) (n:Nat),K.lookup a=some o/\o.cls=.type "list"/\o.dict=none/\o.data=.seq its n/\its.size<=sizeLine/\Vals xs its.toList
mutual
inductive Rep (K:kf) (H:Hp) (O:Addr->Prop):D->V->Prop
 | non:Rep K H O .non .non
 | bl (b:Bool):Rep K H O (.bl b) (.bl b)
 | int (i:Int):Rep K H O (.int i) (.int i)
 | str (s:Str):Rep K H O (.str s) (.str s)
 | tup {a:Addr} {vs:k6} {ds:k7}:H a=some (.tup vs)->Reps K H O ds vs->Rep K H O (.tup ds) (.ref a)
 | lst {a:Addr} {vs:k6} {ds:k7}:O a->Rd H a (.lst vs)->Reps K H O ds vs->Rep K H O (.lst ds) (.ref a)
 | klst {a:Addr} {vs:k6} {ds:k7}:KL K a vs->Reps K H O ds vs->Rep K H O (.lst ds) (.ref a)
 | dct {a:Addr} {ks:ik} {vs:k6} {ds:k7}:H a=some (.dK (dkv ks vs))->Reps K H O ds vs->Rep K H O (.dct ks ds) (.ref a)
 | exc (a:Addr):Rep K H O (.exc a) (.ref a)
inductive Reps (K:kf) (H:Hp) (O:Addr->Prop):k7->k6->Prop
 | nil:Reps K H O [] []
 | cons {d:D} {v:V} {ds:k7} {vs:k6}:Rep K H O d v->Reps K H O ds vs->Reps K H O (d::ds) (v::vs)
end
variable{vs:k6}{ds:k7}{O:Addr->Prop}
def Reps.ind{P:k7->k6->Prop}(n:P [] [])(c:∀ {d v ds vs},Rep K H O d v->Reps K H O ds vs->P ds vs->P (d::ds) (v::vs)):Reps K H O ds vs->P ds vs :=
 Reps.rec (motive_1:=λ_ _ _=>True) (motive_2:=λds vs _=>P ds vs) ⟨⟩ (λ_=>⟨⟩) (λ_=>⟨⟩) (λ_=>⟨⟩) (λ_ _ _=>⟨⟩) (λ_ _ _ _=>⟨⟩) (λ_ _ _=>⟨⟩) (λ_ _ _=>⟨⟩) (λ_=>⟨⟩) n λr t _=>c r t
variable{v:V}{O':Addr->Prop}
def Rep.mono(D:∀a (u:Im),H a=some u.out->H' a=some u.out)(I:∀a vs,O a->Rd H a (.lst vs)->O' a/\Rd H' a (.lst vs)):Rep K H O d v->Rep K H' O' d v :=
 Rep.rec (motive_1:=λd v _=>Rep K H' O' d v) (motive_2:=λds vs _=>Reps K H' O' ds vs) .non .bl .int .str (λh _=>.tup (D _ (.t _) h)) (λo h _=>.lst (I _ _ o h).1 (I _ _ o h).2) (λh _=>.klst h) (λh _=>.dct (D _ (.d _) h)) .exc .nil λ_ _=>.cons
def Reps.mono(I:∀a (u:Im),H a=some u.out->H' a=some u.out)(J:∀a vs,O a->Rd H a (.lst vs)->O' a/\Rd H' a (.lst vs)){ds:k7}{vs:k6}:Reps K H O ds vs->Reps K H' O' ds vs:=Reps.ind .nil λr _=>.cons (r.mono I J)
def Reps.length{ds:k7}{vs:k6}:Reps K H O ds vs->ds.length=vs.length:=Reps.ind (P:=λds vs=>ds.length=vs.length) rfl λ_ _=>congrArg Nat.succ
def Reps.get(h:Reps K H O ds vs):ds[i]?=some d->∃v,vs[i]?=some v/\Rep K H O d v :=
 Reps.ind (P:=λds vs=>∀ {i:Nat},ds[i]?=some d->∃v,vs[i]?=some v/\Rep K H O d v) nofun (λr _ q i e=>match i with
  | 0=>⟨_,rfl,bu e ▸ r⟩
  | i+1=>q (i:=i) e) h
def Reps.append{es:k7}{ws:k6}(h:Reps K H O ds vs)(s:Reps K H O es ws):Reps K H O (ds++es) (vs++ws):=Reps.ind (P:=λds vs=>Reps K H O (ds++es) (vs++ws)) s (λr _=>.cons r) h
def Reps.take{ds:k7}{vs:k6}(n:Nat)(h:Reps K H O ds vs):Reps K H O (ds.take n) (vs.take n) :=
 Reps.ind (P:=λds vs=>∀n,Reps K H O (ds.take n) (vs.take n)) (λn=>by cases n <;> exact .nil) (λr _ q n=>by cases n;exact .nil;exact .cons r (q _)) h n
def Reps.drop{ds:k7}{vs:k6}(n:Nat)(h:Reps K H O ds vs):Reps K H O (ds.drop n) (vs.drop n) :=
 Reps.ind (P:=λds vs=>∀n,Reps K H O (ds.drop n) (vs.drop n)) (λn=>by cases n <;> exact .nil) (λr t q n=>by cases n;exact .cons r t;exact q _) h n
def Reps.set{d:D}{v:V}(r:Rep K H O d v){ds:k7}{vs:k6}(i:Nat)(h:Reps K H O ds vs):Reps K H O (ds.set i d) (vs.set i v) :=
 Reps.ind (P:=λds vs=>∀i,Reps K H O (ds.set i d) (vs.set i v)) (λ_=>.nil) (λp t q n=>by cases n;exact .cons r t;exact .cons p (q _)) h i
def Reps.dropLast(h:Reps K H O ds vs):Reps K H O ds.dropLast vs.dropLast:=by
 rw[List.dropLast_eq_take,List.dropLast_eq_take,h.length];exact h.take _
def Rep.int_{i:Int}(h:Rep K H O (.int i) v):v=.int i:=by cases h;rfl
def Rep.bl_{i:Bool}(h:Rep K H O (.bl i) v):v=.bl i:=by cases h;rfl
def Rep.str_{i:Str}(h:Rep K H O (.str i) v):v=.str i:=by cases h;rfl
def Rep.exc_(h:Rep K H O (.exc a) v):v=.ref a:=by cases h;rfl
def Rep.non_(h:Rep K H O .non v):v=.non:=by cases h;rfl
def Rep.tup_(h:Rep K H O (.tup ds) v):∃a vs,v=.ref a/\H a=some (.tup vs)/\Reps K H O ds vs:=by cases h with | tup a b=>exact⟨_,_,rfl,a,b⟩
def LsOk(K:kf)(H:Hp)(O:Addr->Prop)(a:Addr)(vs:k6):Prop:=(O a/\Rd H a (.lst vs))\/KL K a vs
def LsOk.sq(h:LsOk K H O a vs):SqL K H a vs:=h.elim (λz=>.inl z.2) .inr
def Rep.lst_(h:Rep K H O (.lst ds) v):∃a vs,v=.ref a/\LsOk K H O a vs/\Reps K H O ds vs:=by
 cases h with
 | lst o a b=>exact⟨_,_,rfl,.inl ⟨o,a⟩,b⟩
 | klst a b=>exact⟨_,_,rfl,.inr a,b⟩
inductive Mo where
 | l (vs:k6) | i (C dx:Addr) (fs:List (Str×V))
@[reducible] noncomputable def Mo.out:Mo->HO | .l vs=>.lst vs | .i C dx fs=>.ins C dx fs
inductive Pt where
 | d (d:D) | o (ds:k7)
abbrev k9:=List Pt
inductive AK where
 | ls | ins (b:Bool) (c:Str) (fs:g7)
inductive Sl where
 | sh (d:D) | ow (ds:k7) | o2 (dss:List k7) | ag (k:AK) (r:Option Nat) (ps:k9) | al (r j:Nat) | ro (k:AK) (ps:k9)
abbrev la:=Option Sl
structure Gd where
 g:Addr->Prop
 r:Nat->ia
instance:CoeFun Gd (λ_=>Addr->Prop):=⟨Gd.g⟩
abbrev gd(g:Addr->Prop):Gd:=⟨g,λ_=>[]⟩
abbrev DE0:=List la
def Ow(G:Gd)(W:Addr->Prop):Addr->Prop:=λa=>G a/\¬W a
def Inn(K:kf)(G:Gd)(W:Addr->Prop)(H:Hp)(dss:List k7)(ls:ia):Prop :=
 ls.length=dss.length/\∀(j:Nat) (ds:k7) (a:Addr),dss[j]?=some ds->ls[j]?=some a->W a/\∃vs,H a=some (.lst vs)/\Reps K H (Ow G W) ds vs
inductive PtsOk (K:kf) (G:Gd) (W:Addr->Prop) (H:Hp):k9->ia->k6->Prop
 | nil:PtsOk K G W H [] [] []
 | d {d:D} {v:V} {ps:k9} {as:ia} {us:k6}:Rep K H (Ow G W) d v->PtsOk K G W H ps as us->PtsOk K G W H (.d d::ps) as (v::us)
 | o {ds:k7} {a:Addr} {vs:k6} {ps:k9} {as:ia} {us:k6}:W a->H a=some (.lst vs)->Reps K H (Ow G W) ds vs->PtsOk K G W H ps as us->PtsOk K G W H (.o ds::ps) (a::as) (.ref a::us)
inductive PtsRo (K:kf) (G:Gd) (W:Addr->Prop) (H:Hp):k9->k6->Prop
 | nil:PtsRo K G W H [] []
 | d {d:D} {v:V} {ps:k9} {us:k6}:Rep K H (Ow G W) d v->PtsRo K G W H ps us->PtsRo K G W H (.d d::ps) (v::us)
 | o {ds:k7} {a:Addr} {vs:k6} {ps:k9} {us:k6}:¬W a->H a=some (.lst vs)->Reps K H (Ow G W) ds vs->PtsRo K G W H ps us->PtsRo K G W H (.o ds::ps) (.ref a::us)
def AkOk(K:kf)(H:Hp):AK->Addr->k6->Prop
 | .ls,p,us=>H p=some (.lst us)
 | .ins _ c fs,p,us=>∃C dx,PySem.W.nsIn K mainGlobals c=some (some (.ref C))/\H p=some (.ins C dx (fs.zip us))/\fs.length=us.length
def Lab:AK->ia->Addr->ia->Prop
 | .ins true _ _,l,p,_=>l=[p]
 | _,l,p,as=>l=p::as
inductive OwOk (K:kf) (G:Gd) (W:Addr->Prop) (H:Hp) (ds:k7) (v:V):Prop
 | mk (l:Addr) (vs:k6) (e:v=.ref l) (w:W l) (h:H l=some (.lst vs)) (r:Reps K H (Ow G W) ds vs):OwOk K G W H ds v
inductive O2Ok (K:kf) (G:Gd) (W:Addr->Prop) (H:Hp) (dss:List k7) (v:V):Prop
 | mk (l:Addr) (ls:ia) (e:v=.ref l) (w:W l) (h:H l=some (.lst (ls.map V.ref))) (n:(l::ls).Nodup) (r:Inn K G W H dss ls):O2Ok K G W H dss v
inductive AgOk (K:kf) (G:Gd) (W:Addr->Prop) (H:Hp) (k:AK) (r:Option Nat) (ps:k9) (v:V):Prop
 | mk (p:Addr) (as:ia) (us:k6) (e:v=.ref p) (w:W p) (n:(p::as).Nodup) (l:∀n,r=some n->Lab k (G.r n) p as) (h:AkOk K H k p us) (q:PtsOk K G W H ps as us):AgOk K G W H k r ps v
def SlOk(K:kf)(G:Gd)(W:Addr->Prop)(H:Hp):Sl->V->Prop
 | .sh d,v=>Rep K H (Ow G W) d v
 | .ow ds,v=>OwOk K G W H ds v
 | .o2 dss,v=>O2Ok K G W H dss v
 | .ag k r ps,v=>AgOk K G W H k r ps v
 | .al r j,v=>∃p as a,G.r r=p::as/\as[j]?=some a/\v=.ref a
 | .ro k ps,v=>∃(p:Addr) (us:k6),v=.ref p/\¬W p/\AkOk K H k p us/\PtsRo K G W H ps us
def zw5:k9->k6->Addr->Prop:=λps us a=>∃(j:Nat) (ds:k7),ps[j]?=some (.o ds)/\us[j]?=some (.ref a)
def AkH(H:Hp):AK->Addr->k6->Prop
 | .ls,p,us=>H p=some (.lst us)
 | .ins _ _ fs,p,us=>fs.length=us.length/\∃C dx,H p=some (.ins C dx (fs.zip us))
def Owns(H:Hp):Sl->V->Addr->Prop
 | .sh _,_,_=>False
 | .ow _,v,a=>v=.ref a
 | .o2 _,v,a=>v=.ref a\/∃(l:Addr) (ls:ia),v=.ref l/\H l=some (.lst (ls.map V.ref))/\a∈ls
 | .ag k _ ps,v,a=>v=.ref a\/∃(p:Addr) (us:k6),v=.ref p/\AkH H k p us/\zw5 ps us a
 | .al _ _,_,_=>False
 | .ro _ _,_,_=>False
structure Ok (K:kf) (G:Gd) (H0:Hp) (W:Addr->Prop) (env:DE0) (σ:St) (H:Hp):Prop where
 stay:Same H0 H
 good:∀a,H0 a=none->G a
 wl:∀l,W l->H0 l=none/\∃m:Mo,H l=some m.out
 slot:∀(i:Nat) (s:Sl),env[i]?=some (some s)->∃v,σ[i]?=some (some v)/\SlOk K G W H s v
 uniq:∀(i j:Nat) (s s':Sl) (v v':V) (a:Addr),env[i]?=some (some s)->env[j]?=some (some s')->σ[i]?=some (some v)->σ[j]?=some (some v')->Owns H s v a->Owns H s' v' a->i=j
 len:env.length=σ.length
variable{ls:ia}
def wb{D:ia}(h:ls.map V.ref=D.map V.ref):ls=D:=by
 induction ls generalizing D with
 | nil=>cases D with | nil=>rfl | cons b r=>cases h
 | cons a t ih=>cases D with | nil=>cases h | cons b r=>simp[List.cons.injEq,V.ref.injEq] at h;rw[h.1,ih h.2]
variable{G:Gd}{ps:k9}{as:ia}{us:k6}
def PtsOk.own(h:PtsOk K G W H ps as us)(ha:a∈as):W a/\∃vs,H a=some (.lst vs):=by
 induction h with
 | nil=>cases ha
 | d _ _ ih=>exact ih ha
 | o hW hl _ _ ih =>
   rcases ce.mp ha with rfl | ha
   ·exact⟨hW,_,hl⟩
   ·exact ih ha
def PtsOk.parts_iff(h:PtsOk K G W H ps as us):zw5 ps us a↔a∈as:=by
 induction h with
 | nil=>exact⟨λ⟨j,ds,e,_⟩=>by simp at e,λz=>by cases z⟩
 | d _ _ ih =>
   rw[<-ih];constructor
   ·rintro⟨j,ds,I,D⟩
    cases j with
    | zero=>simp at I
    | succ j=>exact⟨j,ds,by simpa using I,by simpa using D⟩
   ·rintro⟨j,ds,I,D⟩
    exact⟨j+1,ds,by simpa using I,by simpa using D⟩
 | o _ _ _ _ ih =>
   rw[ce,<-ih];constructor
   ·rintro⟨j,ds,I,D⟩
    cases j with
    | zero=>simp at D;exact .inl D.symm
    | succ j=>exact .inr ⟨j,ds,by simpa using I,by simpa using D⟩
   ·rintro(rfl | ⟨j,ds,I,D⟩)
    ·exact⟨0,_,rfl,rfl⟩
    ·exact⟨j+1,ds,by simpa using I,by simpa using D⟩
variable{G':Gd}{W':Addr->Prop}
protected def PtsOk.step(h:PtsOk K G W H ps as us)(k:∀a vs,a∈as->H a=some (.lst vs)->W' a/\H' a=some (.lst vs))(r:∀d v,Rep K H (Ow G W) d v->Rep K H' (Ow G' W') d v)(D:∀ds vs,Reps K H (Ow G W) ds vs->Reps K H' (Ow G' W') ds vs):PtsOk K G' W' H' ps as us:=by
 induction h with
 | nil=>exact .nil
 | d q _ ih=>exact .d (r _ _ q) (ih k)
 | o hW hl q _ ih =>
   obtain⟨I,J⟩:=k _ _ bc hl;exact .o I J (D _ _ q) (ih λa vs R=>k a vs (am _ R))
protected def PtsRo.step(h:PtsRo K G W H ps us)(k:∀a vs,¬W a->H a=some (.lst vs)->¬W' a/\H' a=some (.lst vs))(r:∀d v,Rep K H (Ow G W) d v->Rep K H' (Ow G' W') d v)(D:∀ds vs,Reps K H (Ow G W) ds vs->Reps K H' (Ow G' W') ds vs):PtsRo K G' W' H' ps us:=by
 induction h with
 | nil=>exact .nil
 | d q _ ih=>exact .d (r _ _ q) ih
 | o hW hl q _ ih=>obtain⟨I,J⟩:=k _ _ hW hl;exact .o I J (D _ _ q) ih
variable{j:Nat}
def PtsRo.get(h:PtsRo K G W H ps us)(e:ps[j]?=some (.o ds)):∃a vs,us[j]?=some (.ref a)/\¬W a/\H a=some (.lst vs)/\Reps K H (Ow G W) ds vs:=by
 induction h generalizing j with
 | nil=>simp at e
 | d _ _ ih =>
   cases j with
   | zero=>simp at e
   | succ j=>obtain⟨a,vs,h1,h2⟩:=ih (j:=j) (by simpa using e);exact⟨a,vs,by simpa using h1,h2⟩
 | @o _ a vs _ _ hW hl r _ ih =>
   cases j with
   | zero=>simp at e;subst e;exact⟨a,vs,rfl,hW,hl,r⟩
   | succ j=>obtain⟨a,vs,h1,h2⟩:=ih (j:=j) (by simpa using e);exact⟨a,vs,by simpa using h1,h2⟩
def PtsRo.getD(h:PtsRo K G W H ps us)(e:ps[j]?=some (.d d)):∃v,us[j]?=some v/\Rep K H (Ow G W) d v:=by
 induction h generalizing j with
 | nil=>simp at e
 | d q _ ih =>
   cases j with
   | zero=>simp at e;subst e;exact⟨_,rfl,q⟩
   | succ j=>obtain⟨a,h1,h2⟩:=ih (j:=j) (by simpa using e);exact⟨a,by simpa using h1,h2⟩
 | o _ _ _ _ ih =>
   cases j with
   | zero=>simp at e
   | succ j=>obtain⟨a,h1,h2⟩:=ih (j:=j) (by simpa using e);exact⟨a,by simpa using h1,h2⟩
variable{k:AK}{p:Addr}
theorem vk{D:k6}(h:AkOk K H k p us)(h':AkH H k p D):D=us:=by
 cases k with
 | ls=>have h:H p=_:=h;have h':H p=_:=h';rw[h] at h';cases h';rfl
 | ins b c fs =>
   obtain⟨C,dx,_,I,R⟩:=h;obtain⟨l',S,J,e⟩:=h';rw[I] at e;have e:fs.zip us=fs.zip D:=by injection e with e;injection e
   have:=congrArg (List.map Prod.snd) e;rw[List.map_snd_zip (by lia),List.map_snd_zip (by lia)] at this;exact this.symm
protected def AkOk.o{K:kf}{H:Hp}{k:AK}{p:Addr}{us:k6}(h:AkOk K H k p us):AkH H k p us:=by
 cases k with
 | ls=>exact h
 | ins b c fs=>obtain⟨C,dx,_,D,I⟩:=h;exact⟨I,C,dx,D⟩
def AkOk.mo(h:AkOk K H k p us):∃m:Mo,H p=some m.out/\∀H',H' p=some m.out->AkOk K H' k p us:=by
 cases k with
 | ls=>exact⟨.l us,h,λH' e=>e⟩
 | ins b c fs=>obtain⟨C,dx,D,I,J⟩:=h;exact⟨.i C dx (fs.zip us),I,λH' e=>⟨C,dx,D,e,J⟩⟩
variable{s:Sl}
def SlOk.owns(h:SlOk K G W H s v)(o:Owns H s v a):W a:=by
 cases s with
 | sh d=>exact o.elim
 | ow ds=>obtain⟨l,vs,e,D,_⟩:=h;rw[show v=.ref a from o] at e;cases e;exact D
 | o2 dss =>
   obtain⟨l,ls,e,D,S,U,hi⟩:=h;rcases o with o | ⟨l',ls',e',hl',ha⟩
   ·rw[o] at e;cases e;exact D
   ·rw[e] at e';cases e'
    rw[S] at hl';have:=wb (by simpa using hl');subst this;obtain⟨j,J,V⟩:=mq ha;have I:j<dss.length:=by rw[<-hi.1];exact J
    exact(hi.2 j dss[j] a (by simp[I]) (by simp[J,V])).1
 | ag k r ps =>
   obtain⟨p,as,us,e,D,U,Z,Y,R⟩:=h;rcases o with o | ⟨p',us',e',hk',ha⟩
   ·rw[o] at e;cases e;exact D
   ·rw[e] at e';cases e'
    rw[vk Y hk'] at ha;exact(R.own (R.parts_iff.mp ha)).1
 | al _ _=>exact o.elim
 | ro _ _=>exact o.elim
def SlOk.back(h:SlOk K G W H s v)(k:∀l,v=.ref l->W l->∀m:Mo,H l=some m.out->H' l=some m.out)(o:Owns H' s v a):Owns H s v a:=by
 cases s with
 | sh d=>exact o.elim
 | ow ds=>exact o
 | o2 dss =>
   obtain⟨l,ls,e,D,I,R,hi⟩:=h;rcases o with o | ⟨l',ls',e',hl',ha⟩
   ·exact .inl o
   ·rw[e] at e';cases e'
    rw[k l e D (.l _) I] at hl';have:=wb (by simpa using hl');subst this;exact .inr ⟨l,ls,e,I,ha⟩
 | ag q r ps =>
   obtain⟨p,as,us,e,D,R,V,J,Y⟩:=h;rcases o with o | ⟨p',us',e',hk',ha⟩
   ·exact .inl o
   ·rw[e] at e';cases e'
    obtain⟨m,S,U⟩:=J.mo;rw[vk (U H' (k p e D m S)) hk'] at ha;exact .inr ⟨p,us,e,J.o,ha⟩
 | al _ _=>exact o.elim
 | ro _ _=>exact o.elim
structure Step (W:Addr->Prop) (H:Hp) (W':Addr->Prop) (H':Hp):Prop where
 keep:∀b o,H b=some o->¬W b->H' b=some o
 ws:∀l,W' l->W l\/H l=none
def Step.refl:Step W H W H:=⟨λ_ _ e _=>e,λ_ h=>.inl h⟩
def Step.trans{W1 D:Addr->Prop}(a:Step W H W1 H1)(b:Step W1 H1 D H2):Step W H D H2 where
 keep:=λc o e n=>b.keep c o (a.keep c o e n) λz=>(a.ws c z).elim n λq=>by rw[q] at e;cases e
 ws:=λl h=>by
  rcases b.ws l h with z | z
  ·exact a.ws l z
  ·by_cases n:W l
   ·exact .inl n
   ·cases e:H l with
    | none=>exact .inr rfl
    | some o=>rw[a.keep l o e n] at z;cases z
def Step.same(h:Same H H'):Step W H W H':=⟨λb o e _=>h b o e,λ_ h=>.inl h⟩
variable{H0:Hp}
def Ok.wkeep(ok:Ok K G H0 W env σ H)(st:Step W H W' H'):∀b o,H b=some o->(∀m:Mo,o≠m.out)->H' b=some o:=λb o e n =>
 st.keep b o e λz=>by obtain⟨_,m,q⟩:=ok.wl b z;rw[e] at q;exact n m (bu q)
def Rd.keep{u:HO}(h:Rd H a u)(k:∀o,H a=some o->H' a=some o):Rd H' a u:=by
 rcases h with h | ⟨o,h⟩
 ·exact .inl (k _ h)
 ·exact .inr ⟨o,k _ h⟩
def Ok.tstep(ok:Ok K G H0 W env σ H)(st:Step W H W' H'):∀a vs,H a=some (.tup vs)->H' a=some (.tup vs):=λ_ _ h=>ok.wkeep st _ _ h λm z=>by cases m <;> cases z
def Ok.istep(ok:Ok K G H0 W env σ H)(st:Step W H W' H'):∀a (u:Im),H a=some u.out->H' a=some u.out:=λ_ u h=>ok.wkeep st _ _ h λm z=>by cases u <;> cases m <;> cases z
def Ok.lstep(ok:Ok K G H0 W env σ H)(st:Step W H W' H'):∀a vs,Ow G W a->Rd H a (.lst vs)->Ow G W' a/\Rd H' a (.lst vs):=λa vs o h=>by
 refine⟨⟨o.1,λz=>?_⟩,h.keep λu e=>st.keep a u e o.2⟩;rcases st.ws a z with q | q
 ·exact o.2 q
 ·rcases h with h | ⟨_,h⟩ <;> rw[q] at h <;> cases h
def Ok.lsstep(ok:Ok K G H0 W env σ H)(st:Step W H W' H')(h:LsOk K H (Ow G W) a vs):LsOk K H' (Ow G W') a vs:=h.elim (λz=>.inl (ok.lstep st a vs z.1 z.2)) .inr
def Ok.rep(ok:Ok K G H0 W env σ H)(st:Step W H W' H')(r:Rep K H (Ow G W) d v):Rep K H' (Ow G W') d v:=r.mono (ok.istep st) (ok.lstep st)
def Ok.reps(ok:Ok K G H0 W env σ H)(st:Step W H W' H'){d:k7}{v:k6}(r:Reps K H (Ow G W) d v):Reps K H' (Ow G W') d v:=r.mono (ok.istep st) (ok.lstep st)
def Ok.slstep(ok:Ok K G H0 W env σ H)(st:Step W H W' H')(h:SlOk K G W H s v)(k:∀a (m:Mo),Owns H s v a->H a=some m.out->W' a/\H' a=some m.out):SlOk K G W' H' s v:=by
 cases s with
 | sh d=>exact ok.rep st h
 | ow ds =>
   obtain⟨l,vs,e,I,R,r⟩:=h;obtain⟨h1,h2⟩:=k l (.l vs) e R;exact⟨l,vs,e,h1,h2,ok.reps st r⟩
 | o2 dss =>
   obtain⟨l,ls,e,I,R,Y,hi⟩:=h;obtain⟨h1,h2⟩:=k l (.l _) (.inl e) R;have f:∀a vs,a∈ls->H a=some (.lst vs)->W' a/\H' a=some (.lst vs):=λa vs J D=>k a (.l vs) (.inr ⟨l,ls,e,R,J⟩) D;refine⟨l,ls,e,h1,h2,Y,hi.1,λj ds a g D=>?_⟩;obtain⟨_,vs,J,i⟩:=hi.2 j ds a g D;obtain⟨k1,k2⟩:=f a vs (bg D) J;exact⟨k1,vs,k2,ok.reps st i⟩
 | ag q r ps =>
   obtain⟨p,as,us,e,I,Y,t,S,U⟩:=h;obtain⟨m,V,Z⟩:=S.mo;obtain⟨h1,h2⟩:=k p m (.inl e) V;exact⟨p,as,us,e,h1,Y,t,Z H' h2,U.step (λa vs J D=>k a (.l vs) (.inr ⟨p,us,e,S.o,U.parts_iff.mpr J⟩) D) (λ_ _ r=>ok.rep st r) λ_ _ r=>ok.reps st r⟩
 | al _ _=>exact h
 | ro q ps =>
   obtain⟨p,us,e,I,S,U⟩:=h;have b:∀a o,¬W a->H a=some o->¬W' a:=λa o n e z=>(st.ws a z).elim n λy=>by rw[y] at e;cases e
   obtain⟨m,V,Z⟩:=S.mo;exact⟨p,us,e,b p _ I V,Z H' (st.keep p _ V I),U.step (λa vs c D=>⟨b a _ c D,st.keep a _ D c⟩) (λ_ _ r=>ok.rep st r) λ_ _ r=>ok.reps st r⟩
def Ok.same(ok:Ok K G H0 W env σ H)(s:Same H H'):Ok K G H0 W env σ H':=by
 have st:Step W H W H':=Step.same s;have bk:∀ {i:Nat} {sl:Sl} {v:V} {a:Addr},env[i]?=some (some sl)->σ[i]?=some (some v)->Owns H' sl v a->Owns H sl v a:=λ{i sl v a} e I o=>by
  obtain⟨Z,D,h⟩:=ok.slot i sl e;rw[I] at D;cases D;exact h.back (λl _ _ vs q=>s l _ q) o
 refine⟨ok.stay.trans s,ok.good,λl h=>?_,λi sl e=>?_,λi j S s2 v1 v2 a I D J R U Y=>ok.uniq i j S s2 v1 v2 a I D J R (bk I J U) (bk D R Y),ok.len⟩
 ·obtain⟨a,vs,b⟩:=ok.wl l h
  exact⟨a,vs,s _ _ b⟩
 ·obtain⟨v,I,h⟩:=ok.slot i sl e
  exact⟨v,I,ok.slstep st h λa vs o D=>⟨h.owns o,s _ _ D⟩⟩
def yc{o:HO}(h:H a=none):Same H (upd H a o):=λb u e=>by rw[gv (nk e h)];exact e
def addW(W:Addr->Prop)(l:Addr):Addr->Prop:=λa=>W a\/a=l
def Ok.fresh0(ok:Ok K G H0 W env σ H)(s:Same H H')(D:H l=none)(I:H' l=some (.lst vs)) :
  ¬W l/\H0 l=none/\Ok K G H0 (addW W l) env σ H'/\Step W H (addW W l) H':=by
 have R:H0 l=none:=ok.stay.free D;have S:¬W l:=λz=>by obtain⟨_,vs,q⟩:=ok.wl l z;rw[D] at q;cases q
 have st:Step W H (addW W l) H':=⟨λb o e _=>s b o e,λa z=>z.elim .inl λq=>.inr (by rw[q];exact D)⟩;have J:=ok.same s;refine⟨S,R,⟨ok.stay.trans s,ok.good,λa z=>?_,λi sl e=>?_,J.uniq,ok.len⟩,st⟩
 ·rcases z with z | rfl
  ·obtain⟨q,us,b⟩:=ok.wl a z
   exact⟨q,us,s _ _ b⟩
  ·exact⟨R,.l vs,I⟩
 ·obtain⟨v,U,h⟩:=ok.slot i sl e
  exact⟨v,U,ok.slstep st h λa vs o V=>⟨.inl (h.owns o),s _ _ V⟩⟩
def Ok.fresh(ok:Ok K G H0 W env σ H)(s:Same H H')(D:H l=none)(I:H' l=some (.lst vs))(r:Reps K H' (λa=>(Ow G W a\/H a=none)/\a≠l) ds vs) :
  ¬W l/\H0 l=none/\Ok K G H0 (addW W l) env σ H'/\Reps K H' (Ow G (addW W l)) ds vs/\Step W H (addW W l) H':=by
 have R:H0 l=none:=ok.stay.free D;have S:¬W l:=λz=>by obtain⟨_,vs,q⟩:=ok.wl l z;rw[D] at q;cases q
 have st:Step W H (addW W l) H':=⟨λb o e _=>s b o e,λa z=>z.elim .inl λq=>.inr (by rw[q];exact D)⟩;have U:∀a,W a->H a≠none:=λa z q=>by obtain⟨_,vs,e⟩:=ok.wl a z;rw[q] at e;cases e
 have J:=ok.same s;refine⟨S,R,⟨ok.stay.trans s,ok.good,λa z=>?_,λi sl e=>?_,J.uniq,ok.len⟩,r.mono (λ_ _ h=>h) λa us o h=>⟨⟨?_,?_⟩,h⟩,st⟩
 ·rcases z with z | rfl
  ·obtain⟨q,us,b⟩:=ok.wl a z
   exact⟨q,us,s _ _ b⟩
  ·exact⟨R,.l vs,I⟩
 ·obtain⟨v,V,h⟩:=ok.slot i sl e
  exact⟨v,V,ok.slstep st h λa vs o Y=>⟨.inl (h.owns o),s _ _ Y⟩⟩
 ·rcases o.1 with q | q
  ·exact q.1
  ·exact ok.good a (ok.stay.free q)
 ·rintro(z | z)
  ·rcases o.1 with q | q
   ·exact q.2 z
   ·exact U a z q
  ·exact o.2 z
def Ok.noOwn(ok:Ok K G H0 W env σ H)(I:¬W l):∀(j:Nat) (s:Sl) (v:V),env[j]?=some (some s)->σ[j]?=some (some v)->¬Owns H s v l:=λj s v e J o=>by
 obtain⟨R,D,h⟩:=ok.slot j s e;rw[J] at D;cases D;exact I (h.owns o)
variable{α:Type}
def zm8{N:List α}(D:N.Nodup){x:α}(a:N[i]?=some x)(b:N[j]?=some x):i=j:=by
 obtain⟨h1,I⟩:=ai.mp a;obtain⟨h2,J⟩:=ai.mp b;exact(List.getElem_inj D).mp (I.trans J.symm)
theorem ni{xs:List α}{x y:α}(h:(xs.set i x)[j]?=some y):(i=j/\y=x/\i<xs.length)\/(i≠j/\xs[j]?=some y):=by
 by_cases D:i=j
 ·subst D
  by_cases hi:i<xs.length
  ·rw[di hi] at h;cases h;exact .inl ⟨rfl,rfl,hi⟩
  ·rw[cx (by rw[dw];lia)] at h;cases h
 ·rw[dg D] at h;exact .inr ⟨D,h⟩
def Ok.put(ok:Ok K G H0 W env σ H)(h:SlOk K G W H s v)(Z:∀(j:Nat) (s':Sl) (b:V) (a:Addr),env[j]?=some (some s')->σ[j]?=some (some b)->Owns H s v a->¬Owns H s' b a) :
  Ok K G H0 W (env.set i (some s)) (σ.set i (some v)) H:=by
 refine⟨ok.stay,ok.good,ok.wl,λj sl e=>?_,λj k c s2 v1 v2 a S d D I U Y=>?_,by rw[dw,dw,ok.len]⟩
 ·rcases ni e with⟨rfl,q,hi⟩ | ⟨hj,q⟩
  ·cases q
   exact⟨v,di (by rw[<-ok.len];exact hi),h⟩
  ·obtain⟨u,S,r⟩:=ok.slot j sl q
   exact⟨u,by rw[dg hj];exact S,r⟩
 ·rcases ni S with⟨a1,b1,c1⟩ | ⟨a1,b1⟩ <;> rcases ni d with⟨J,R,f⟩ | ⟨J,R⟩
  ·rw[<-a1,<-J]
  ·subst a1
   cases b1;rw[di (by rw[<-ok.len];exact c1)] at D;cases D;rw[dg J] at I;exact absurd Y (Z k s2 v2 a R I U)
  ·subst J
   cases R;rw[di (by rw[<-ok.len];exact f)] at I;cases I;rw[dg a1] at D;exact absurd U (Z j c v1 a b1 D Y)
  ·rw[dg a1] at D
   rw[dg J] at I;exact ok.uniq j k c s2 v1 v2 a b1 R D I U Y
def Ok.set(ok:Ok K G H0 W env σ H)(r:Rep K H (Ow G W) d v):Ok K G H0 W (env.set i (some (.sh d))) (σ.set i (some v)) H :=
 ok.put (s:=.sh d) r λ_ _ _ _ _ _ o=>o.elim
def Ok.setO(ok:Ok K G H0 W env σ H)(D:W l)(I:H l=some (.lst vs))(r:Reps K H (Ow G W) ds vs)(J:∀(j:Nat) (s:Sl) (v:V),env[j]?=some (some s)->σ[j]?=some (some v)->¬Owns H s v l) :
  Ok K G H0 W (env.set i (some (.ow ds))) (σ.set i (some (.ref l))) H :=
 ok.put (s:=.ow ds) ⟨l,vs,rfl,D,I,r⟩ λj s' R a e S o=>by
  have:l=a:=by have o:V.ref l=V.ref a:=o;simpa using o
  subst this;exact J j s' R e S
def Ok.let(ok:Ok K G H0 W env σ H)(e:env[i]?=some (some s))(U:σ[i]?=some (some v))(W':Addr->Prop)(I:∀a,W' a↔W a/\¬Owns H s v a)(r:Rep K H (Ow G W') d v) :
  Step W H W' H/\Ok K G H0 W' (env.set i (some (.sh d))) σ H:=by
 have st:Step W H W' H:=⟨λb o q _=>q,λa z=>.inl ((I a).mp z).1⟩;refine⟨st,⟨ok.stay,ok.good,λa z=>ok.wl a ((I a).mp z).1,λj sl q=>?_,λj k c s2 v1 v2 a f J g l V Y=>?_,by rw[dw,ok.len]⟩⟩
 ·rcases ni q with⟨rfl,D,_⟩ | ⟨hj,D⟩
  ·cases D
   exact⟨v,U,r⟩
  ·obtain⟨u,Z,h⟩:=ok.slot j sl D
   exact⟨u,Z,ok.slstep st h λa vs o J=>⟨(I a).mpr ⟨h.owns o,λz=>hj (ok.uniq i j s sl v u a e D U Z z o)⟩,J⟩⟩
 ·rcases ni f with⟨_,R,_⟩ | ⟨a1,R⟩
  ·cases R;exact V.elim
  ·rcases ni J with⟨_,S,_⟩ | ⟨a2,S⟩
   ·cases S;exact Y.elim
   ·exact ok.uniq j k c s2 v1 v2 a R S g l V Y
def Ok.share(ok:Ok K G H0 W env σ H)(e:env[i]?=some (some (.ow ds))) :
  ∃W' v,σ[i]?=some (some v)/\Step W H W' H/\Ok K G H0 W' (env.set i (some (.sh (.lst ds)))) σ H/\Rep K H (Ow G W') (.lst ds) v:=by
 obtain⟨v,I,l,vs,rfl,R,S,r⟩:=ok.slot i _ e;have J:Rep K H (Ow G λa=>W a/\¬Owns H (.ow ds) (.ref l) a) (.lst ds) (.ref l) :=
  .lst ⟨ok.good l (ok.wl l R).1,λz=>z.2 rfl⟩ (.inl S) (r.mono (λ_ _ h=>h) λa us o h=>⟨⟨o.1,λz=>o.2 z.1⟩,h⟩)
 obtain⟨st,D⟩:=ok.let e I _ (λa=>Iff.rfl) J;exact⟨_,.ref l,I,st,D,J⟩
def zm9:∀ {dss:List k7} {ls:ia},Inn K G W H dss ls->(∀a,a∈ls->W a->G a/\¬W' a)->(∀ds vs,Reps K H (Ow G W) ds vs->Reps K H (Ow G W') ds vs)->Reps K H (Ow G W') (dss.map D.lst) (ls.map V.ref)
 | [],[],_,_,_=>.nil
 | ds::dss,a::ls,h,g,r=>by
   obtain⟨R,vs,S,U⟩:=h.2 0 ds a rfl rfl;refine .cons (.lst (g a bc R) (.inl S) (r _ _ U)) (zm9 (dss:=dss) (ls:=ls) ⟨Nat.succ.inj h.1,λj ds' I Y Z=>h.2 (j+1) ds' I (by simpa using Y) (by simpa using Z)⟩ (λI J=>g I (am _ J)) r)
variable{dss:List k7}
def Ok.share2(ok:Ok K G H0 W env σ H)(e:env[i]?=some (some (.o2 dss))) :
  ∃W' v,σ[i]?=some (some v)/\Step W H W' H/\Ok K G H0 W' (env.set i (some (.sh (.lst (dss.map D.lst))))) σ H/\Rep K H (Ow G W') (.lst (dss.map D.lst)) v:=by
 obtain⟨v,J,l,ls,rfl,U,R,Z,hi⟩:=ok.slot i _ e;have S:Rep K H (Ow G λa=>W a/\¬Owns H (.o2 dss) (.ref l) a) (.lst (dss.map D.lst)) (.ref l) :=
  .lst ⟨ok.good l (ok.wl l U).1,λz=>z.2 (.inl rfl)⟩ (.inl R) (zm9 hi (λa V Y=>⟨ok.good a (ok.wl a Y).1,λz=>z.2 (.inr ⟨l,ls,rfl,R,V⟩)⟩) λds vs r=>r.mono (λ_ _ h=>h) λa us o h=>⟨⟨o.1,λz=>o.2 z.1⟩,h⟩)
 obtain⟨st,I⟩:=ok.let e J _ (λa=>Iff.rfl) S;exact⟨_,.ref l,J,st,I,S⟩
def Ok.chg(ok:Ok K G H0 W env σ H){s':Sl}(J:Mo)(e:env[i]?=some (some s))(f:σ[i]?=some (some v))(t:Owns H s v a)(w:SlOk K G W (upd H a J.out) s' v)(g:∀b,Owns (upd H a J.out) s' v b->Owns H s v b):Ok K G H0 W (env.set i (some s')) σ (upd H a J.out)/\Step W H W (upd H a J.out):=by
 have Y:W a:=by obtain⟨L,Z,h⟩:=ok.slot i s e;rw[f] at Z;cases Z;exact h.owns t
 have st:Step W H W (upd H a J.out):=⟨λb o q n=>by rw[gv (λz:b=a=>n (by rw[z];exact Y))];exact q,λb z=>.inl z⟩;have r:∀ {j:Nat} {sl:Sl} {u:V} {b:Addr},i≠j->env[j]?=some (some sl)->σ[j]?=some (some u)->Owns H sl u b->b≠a:=λ{j sl u b} hj q D o z=>by
  subst z;exact hj (ok.uniq i j s sl v u b e q f D t o)
 have bk:∀ {j:Nat} {sl:Sl} {u:V} {b:Addr},i≠j->env[j]?=some (some sl)->σ[j]?=some (some u)->Owns (upd H a J.out) sl u b->Owns H sl u b:=λ{j sl u b} hj q D o=>by
  obtain⟨M,R,h⟩:=ok.slot j sl q;rw[D] at R;cases R;cases sl with
  | sh d=>exact o.elim
  | ow ds=>exact o
  | o2 dss=>exact h.back (λl S _ vs U=>by rw[gv (r hj q D (.inl S))];exact U) o
  | ag k p ps=>exact h.back (λl S _ vs U=>by rw[gv (r hj q D (.inl S))];exact U) o
  | al _ _=>exact o.elim
  | ro _ _=>exact o.elim
 refine⟨⟨λb o q=>?_,ok.good,λb z=>?_,λj sl q=>?_,λj k N s2 v1 v2 b D R S U x o2=>?_,by rw[dw,ok.len]⟩,st⟩
 ·rw[gv (λz=>by rw[z,(ok.wl a Y).1] at q;cases q)];exact ok.stay b o q
 ·obtain⟨q,us,g⟩:=ok.wl b z
  by_cases h:b=a
  ·exact⟨q,J,by rw[h,km]⟩
  ·exact⟨q,us,by rw[gv h];exact g⟩
 ·rcases ni q with⟨rfl,I,_⟩ | ⟨hj,I⟩
  ·cases I
   exact⟨v,f,w⟩
  ·obtain⟨u,Z,h⟩:=ok.slot j sl I
   exact⟨u,Z,ok.slstep st h λb vs o R=>⟨h.owns o,by rw[gv (r hj I Z o)];exact R⟩⟩
 ·have back:∀ {m:Nat} {sl:Sl} {u:V},(env.set i (some s'))[m]?=some (some sl)->σ[m]?=some (some u)->Owns (upd H a J.out) sl u b->∃c,env[m]?=some (some c)/\Owns H c u b:=λ{m sl u} q D o=>by
   rcases ni q with⟨rfl,I,_⟩ | ⟨hj,I⟩
   ·cases I
    rw[f] at D;cases D;exact⟨s,e,g b o⟩
   ·exact⟨sl,I,bk hj I D o⟩
  obtain⟨y,A,B⟩:=back D S x;obtain⟨C,E,F⟩:=back R U o2;exact ok.uniq j k y C v1 v2 b A E S U B F
variable{ds':k7}{vs':k6}
def Ok.turn(ok:Ok K G H0 W env σ H)(e:env[i]?=some (some (.ow ds)))(I:σ[i]?=some (some (.ref l)))(r:Reps K H (Ow G W) ds' vs') :
  Ok K G H0 W (env.set i (some (.ow ds'))) σ (upd H l (.lst vs'))/\Step W H W (upd H l (.lst vs')):=by
 obtain⟨v,D,l',vs,rfl,J,R,_⟩:=ok.slot i _ e;rw[I] at D;cases D;have st:Step W H W (upd H l (.lst vs')):=⟨λb o q n=>by rw[gv (λz:b=l=>n (by rw[z];exact J))];exact q,λb z=>.inl z⟩;exact ok.chg (.l vs') e I (show Owns H (.ow ds) (.ref l) l from rfl) ⟨l,vs',rfl,J,km,ok.reps st r⟩ λb o=>o
def Ok.turn2(ok:Ok K G H0 W env σ H)(e:env[i]?=some (some (.o2 dss)))(m:σ[i]?=some (some (.ref l)))(S:H l=some (.lst (ls.map V.ref)))(s:dss[j]?=some ds)(U:ls[j]?=some a)(r:Reps K H (Ow G W) ds' vs'):Ok K G H0 W (env.set i (some (.o2 (dss.set j ds')))) σ (upd H a (.lst vs'))/\Step W H W (upd H a (.lst vs')):=by
 obtain⟨v,D,l',Z,rfl,t,I,c,hi⟩:=ok.slot i _ e;rw[m] at D;cases D;rw[S] at I;have:=wb (by simpa using I);subst this;have p:a∈ls:=bg U;have J:W a:=(hi.2 j ds a s U).1;have st:Step W H W (upd H a (.lst vs')):=⟨λb o q n=>by rw[gv (λz:b=a=>n (by rw[z];exact J))];exact q,λb z=>.inl z⟩;have d:l≠a:=λz=>by subst z;exact(bz.mp c).1 p
 have R:upd H a (.lst vs') l=some (.lst (ls.map V.ref)):=by rw[gv d];exact S
 refine ok.chg (.l vs') e m (.inr ⟨l,ls,rfl,S,p⟩) ⟨l,ls,rfl,t,R,c,by rw[dw];exact hi.1,λk es b u Y=>?_⟩ λb o=>?_
 ·rcases ni u with⟨rfl,z,_⟩ | ⟨hk,q'⟩
  ·cases z
   rw[U] at Y;cases Y;exact⟨J,vs',km,ok.reps st r⟩
  ·obtain⟨f,us,g,w⟩:=hi.2 k es b q' Y
   refine⟨f,us,?_,ok.reps st w⟩;have h:b≠a:=λz=>hk (by
    subst z;exact zm8 (bz.mp c).2 U Y)
   rw[gv h];exact g
 ·rcases o with o | ⟨l',Z,z,q,g⟩
  ·exact .inl o
  ·cases z
   rw[R] at q;have:=wb (by simpa using q);subst this;exact .inr ⟨l,ls,rfl,S,g⟩
def PtsOk.get(h:PtsOk K G W H ps as us)(e:ps[j]?=some (.o ds)):∃a vs,us[j]?=some (.ref a)/\a∈as/\W a/\H a=some (.lst vs)/\Reps K H (Ow G W) ds vs:=by
 induction h generalizing j with
 | nil=>simp at e
 | d _ _ ih =>
   cases j with
   | zero=>simp at e
   | succ j=>obtain⟨a,vs,h1,h2⟩:=ih (j:=j) (by simpa using e);exact⟨a,vs,by simpa using h1,h2⟩
 | @o _ a vs _ _ _ hW hl r _ ih =>
   cases j with
   | zero=>simp at e;subst e;exact⟨a,vs,rfl,bc,hW,hl,r⟩
   | succ j=>obtain⟨a,vs,h1,h2,D⟩:=ih (j:=j) (by simpa using e);exact⟨a,vs,by simpa using h1,am _ h2,D⟩
def PtsOk.getD(h:PtsOk K G W H ps as us)(e:ps[j]?=some (.d d)):∃v,us[j]?=some v/\Rep K H (Ow G W) d v:=by
 induction h generalizing j with
 | nil=>simp at e
 | d q _ ih =>
   cases j with
   | zero=>simp at e;subst e;exact⟨_,rfl,q⟩
   | succ j=>obtain⟨a,h1,h2⟩:=ih (j:=j) (by simpa using e);exact⟨a,by simpa using h1,h2⟩
 | o _ _ _ _ ih =>
   cases j with
   | zero=>simp at e
   | succ j=>obtain⟨a,h1,h2⟩:=ih (j:=j) (by simpa using e);exact⟨a,by simpa using h1,h2⟩
def PtsOk.set(st:Step W H W (upd H a (.lst vs')))(ok:Ok K G H0 W env σ H)(h:PtsOk K G W H ps as us)(I:as.Nodup)(e:ps[j]?=some (.o ds))(D:us[j]?=some (.ref a))(r:Reps K H (Ow G W) ds' vs') :
  PtsOk K G W (upd H a (.lst vs')) (ps.set j (.o ds')) as us:=by
 induction h generalizing j with
 | nil=>simp at e
 | d q t ih =>
   cases j with
   | zero=>simp at e
   | succ j=>exact .d (ok.rep st q) (ih I (by simpa using e) (by simpa using D))
 | @o es b vs ps' as' us' hW hl q t ih =>
   cases j with
   | zero =>
     simp at D;subst D;refine .o hW km (ok.reps st r) (t.step (λb vs J D=>⟨(t.own J).1,?_⟩) (λ_ _ r=>ok.rep st r) λ_ _ r=>ok.reps st r);rw[gv (λz:b=_=>by subst z;exact(bz.mp I).1 J)];exact D
   | succ j =>
     have R:a∈as':=t.parts_iff.mp ⟨j,ds,e,D⟩;have S:b≠a:=λz=>by subst z;exact(bz.mp I).1 R
     exact .o hW (by rw[gv S];exact hl) (ok.reps st q) (ih (bz.mp I).2 e D)
variable{b:Expr}
def zui{b:Addr}(e:ps[j]?=some (.o ds))(h:zw5 (ps.set j (.o ds')) us b):zw5 ps us b:=by
 obtain⟨i,es,h1,h2⟩:=h;rcases ni h1 with⟨rfl,_,_⟩ | ⟨_,z⟩
 ·exact⟨j,ds,e,h2⟩
 ·exact⟨i,es,z,h2⟩
variable{r:Option Nat}
def Ok.turnP(ok:Ok K G H0 W env σ H)(e:env[i]?=some (some (.ag k r ps)))(g:σ[i]?=some (some (.ref p)))(J:AkOk K H k p us)(R:ps[j]?=some (.o ds))(S:us[j]?=some (.ref a))(s:Reps K H (Ow G W) ds' vs') :
  Ok K G H0 W (env.set i (some (.ag k r (ps.set j (.o ds'))))) σ (upd H a (.lst vs'))/\Step W H W (upd H a (.lst vs')):=by
 obtain⟨v,D,p',as,U,rfl,t,V,u,Y,Z⟩:=ok.slot i _ e;rw[g] at D;cases D;have:=vk Y J.o;subst this;have h:a∈as:=Z.parts_iff.mp ⟨j,ds,R,S⟩;have c:=(Z.own h).1;have st:Step W H W (upd H a (.lst vs')):=⟨λb o q n=>by rw[gv (λz:b=a=>n (by rw[z];exact c))];exact q,λb z=>.inl z⟩;have d:p≠a:=λz=>by subst z;exact(bz.mp V).1 h
 have f:=PtsOk.set st ok Z (bz.mp V).2 R S s;obtain⟨m,w,x⟩:=J.mo;have I:AkOk K (upd H a (.lst vs')) k p us:=x _ (by rw[gv d];exact w);refine ok.chg (.l vs') e g (.inr ⟨p,us,rfl,J.o,j,ds,R,S⟩) ⟨p,as,us,rfl,t,V,u,I,f⟩ λb o=>?_;rcases o with o | ⟨p',U,z,q,hb⟩
 ·exact .inl o
 ·cases z
  rw[vk I q] at hb;exact .inr ⟨p,us,rfl,J.o,zui R hb⟩
def Ok.turnD(ok:Ok K G H0 W env σ H){d':D}{I:V}(e:env[i]?=some (some (.ag .ls r ps)))(k:σ[i]?=some (some (.ref p)))(s:H p=some (.lst us))(w:ps[j]?=some (.d d))(x:Rep K H (Ow G W) d' I) :
  Ok K G H0 W (env.set i (some (.ag .ls r (ps.set j (.d d'))))) σ (upd H p (.lst (us.set j I)))/\Step W H W (upd H p (.lst (us.set j I))):=by
 obtain⟨v,S,p',as,R,rfl,Y,u,y,J,c⟩:=ok.slot i _ e;rw[k] at S;cases S;have J:H p=some (.lst R):=J;rw[s] at J;cases J;have st:Step W H W (upd H p (.lst (us.set j I))):=⟨λb o q n=>by rw[gv (λz:b=p=>n (by rw[z];exact Y))];exact q,λb z=>.inl z⟩;have f:=ok.rep st x;have g:PtsOk K G W (upd H p (.lst (us.set j I))) ps as us:=c.step (λb vs Z A=>⟨(c.own Z).1,by rw[gv (λz:b=p=>by subst z;exact(bz.mp u).1 Z)];exact A⟩) (λ_ _ r=>ok.rep st r) λ_ _ r=>ok.reps st r;have go:∀ {a:k9} {bs:ia} {ws:k6} (m:Nat),PtsOk K G W (upd H p (.lst (us.set j I))) a bs ws->a[m]?=some (.d d)->PtsOk K G W (upd H p (.lst (us.set j I))) (a.set m (.d d')) bs (ws.set m I):=by
  intro a bs ws m h;induction h generalizing m with
  | nil=>intro e;simp at e
  | d q t ih =>
    intro e;cases m with
    | zero=>exact .d f t
    | succ m=>exact .d q (ih m (by simpa using e))
  | o Y hl q t ih =>
    intro e;cases m with
    | zero=>simp at e
    | succ m=>exact .o Y hl q (ih m (by simpa using e))
 have U:=go j g w;refine ok.chg (.l (us.set j I)) e k (.inl rfl) ⟨p,as,us.set j I,rfl,Y,u,y,km,U⟩ λb o=>?_;rcases o with o | ⟨p',R,z,q,Z⟩
 ·exact .inl o
 ·cases z
  have q:upd H p (.lst (us.set j I)) p=some (.lst R):=q;rw[km] at q;cases q;exact .inr ⟨p,us,rfl,s,c.parts_iff.mpr (U.parts_iff.mp Z)⟩
structure At (X:Cx) (i:Nat) (x:Str):Prop where
 n:X.N[i]?=some x
 v:Vis X.env.scope x
 d:(x==("__debug__" : Str))=false
 c:(x==("__classdict__" : Str))=false
def At.pe(h:At X i x):PE X (.Name x pos) (tVar i):=z2u h.n h.v h.d h.c
structure To (X:Cx) (i:Nat) (x:Str):Prop where
 nd:X.N.Nodup
 n:X.N[i]?=some x
 l:Loc X.env.scope x
 f:X.fn x=true\/X.env.scope.names.lookup x=some .local
structure Bn (X:Cx) (x:Str):Prop where
 g:Gl X x
 m:X.mg x=none
structure Ats (N cs:g7) (X:Cx):Prop where
 n:X.N=N
 get:∀i x,N[i]?=some x->At X i x
 ck:∀u∈cs,X.env.kindOf u=some .cell\/X.env.kindOf u=some .free
structure Tos (N:g7) (X:Cx):Prop where
 to:∀i x,N[i]?=some x->To X i x
variable{N cs:g7}
protected def Ats.a(h:Ats N cs X)(e:N[i]?=some x):At X i x:=h.get i x e
protected def Tos.t(h:Tos N X)(e:N[i]?=some x):To X i x:=h.to i x e
def Ats.nox(h:Ats N cs X):Ats N cs X.nox:=⟨h.n,λi x e=>let z:=h.get i x e;⟨z.n,z.v,z.d,z.c⟩,h.ck⟩
def Tos.nox(h:Tos N X):Tos N X.nox:=⟨λi x e=>let z:=h.to i x e;⟨z.nd,z.n,z.l,z.f⟩⟩
def okN(x:Str):Bool:=!(x==("__debug__" : Str)) && !(x==("__classdict__" : Str))
def tf(h:okN x=true):(x==("__debug__" : Str))=false/\(x==("__classdict__" : Str))=false:=by
 unfold okN at h;rwa [d9,ki,ki] at h
def uh{o:Option NameKind}{k:NameKind}(h:(o==some k)=true):o=some k:=by
 cases o with
 | none=>cases h
 | some a=>cases a <;> cases k <;> first | rfl | cases h
def subN(N:g7)(ix:ic):g7:=ix.map λi=>N.getD i ("" : Str)
def p8(N cs:g7)(ix:ic)(y:Str)(sc:Scope):Bool:=decide ((y::subN N ix).Nodup) && decide (sc.kind=.function) && (sc.names.lookup y==some .local) && decide (∀z∈sc.names,z.2≠.cell) && decide (∀z∈sc.names,z.2=.local->sc.names.lookup z.1=some .local) && decide (∀z∈sc.names,z.2=.free->z.1∈subN N ix) && (subN N ix).all (λu=>(sc.names.lookup u==some .free) && cs.elem u) && (y::subN N ix).all okN
def gl_d(h:X.env.scope.names.lookup x=some .globalImplicit):Gl X x:=h
variable{s:Shared}{C:Addr}
def z3w(h:sc.names.lookup x=some .local):Vis (je X y N' sc cl C s H fp).env.scope x:=.inl (lookup_relabel_local h)
def z3x(h:sc.names.lookup x=some .free):Vis (je X y N' sc cl C s H fp).env.scope x:=.inr (zci h)
def vq(hA:Ats N cs X)(h:p8 N cs ix y sc=true):zuh X y (subN N ix) ix sc:=by
 unfold p8 at h;simp only[d9,decide_eq_true_eq,gq] at h;obtain⟨⟨⟨⟨⟨⟨⟨h1,h2⟩,I⟩,J⟩,R⟩,S⟩,D⟩,_⟩:=h;exact⟨by rw[hA.n];rfl,h1,h2,uh I,J,R,λz U V=>hA.ck z.1 (List.mem_of_elem_eq_true (D z.1 (S z U V)).2),λu Y=>uh (D u Y).1⟩
variable{s₂:Shared}{H₂:Hp}
def tw(h:p8 N cs ix y sc=true):Ats (y::subN N ix) (subN N ix) (je X y (subN N ix) sc cl C s₂ H₂ fp):=by
 unfold p8 at h;simp only[d9,decide_eq_true_eq,gq] at h;obtain⟨⟨⟨⟨⟨⟨⟨h1,h2⟩,h3⟩,h4⟩,h5⟩,h6⟩,h7⟩,h8⟩:=h;refine⟨rfl,λi x e=>⟨e,?_,(tf (h8 x (bg e))).1,(tf (h8 x (bg e))).2⟩,λu hu=>?_⟩
 ·rcases ce.mp (bg e) with rfl | hm
  ·exact z3w (uh h3)
  ·exact z3x (uh (h7 x hm).1)
 ·exact zci (env:=X.env) (uh (h7 u hu).1)
abbrev FE:=DE0->Option (D×DE0)
abbrev FT:=DE0->Option (Bool×DE0)
abbrev FA:=DE0->Option (k7×DE0)
inductive DP (K:kf) (G:Gd) (H0:Hp) {β:Type} (f:DE0->Option (β×DE0)) (P:(Addr->Prop)->DE0->β->DE0->Prop) (σ:St) (H:Hp):Prop
 | mk (W:Addr->Prop) (env:DE0) (d:β) (env':DE0) (ok:Ok K G H0 W env σ H) (q:f env=some (d,env')) (k:P W env d env'):DP K G H0 f P σ H
def tD(K:kf)(G:Gd)(H0:Hp)(f:FE):TE:=λσ H Q=>DP K G H0 f (λW env d env' =>
 ∀W' v H',Step W H W' H'->Ok K G H0 W' env' σ H'->Rep K H' (Ow G W') d v->Q v H') σ H
def tDT(K:kf)(G:Gd)(H0:Hp)(f:FT):TT:=λσ H Q=>DP K G H0 f (λW env b env' =>
 ∀W' H',Step W H W' H'->Ok K G H0 W' env' σ H'->Q b H') σ H
def tDA(K:kf)(G:Gd)(H0:Hp)(f:FA):TA:=λσ H Q=>DP K G H0 f (λW env ds env' =>
 ∀W' vs H',Step W H W' H'->Ok K G H0 W' env' σ H'->Reps K H' (Ow G W') ds vs->Q vs H') σ H
def tDF(K:kf)(G:Gd)(H0:Hp)(f:FA):TE:=λσ H Q=>DP K G H0 f (λW env ds env' =>
 ∀W' l vs H',Step W H (addW W' l) H'->Ok K G H0 W' env' σ H'->Ok K G H0 (addW W' l) env' σ H'->¬W' l->H' l=some (.lst vs)->Reps K H' (Ow G (addW W' l)) ds vs->Q (.ref l) H') σ H
structure DEx (X:Cx) (G:Gd) (H0:Hp) (e:Expr) (f:FE):Prop where
 out:PE X e (tD X.K G H0 f)
structure DTx (X:Cx) (G:Gd) (H0:Hp) (e:Expr) (f:FT):Prop where
 out:PT X e (tDT X.K G H0 f)
structure DAx (X:Cx) (G:Gd) (H0:Hp) (es:i3) (f:FA):Prop where
 out:PA X es (tDA X.K G H0 f)
structure DFx (X:Cx) (G:Gd) (H0:Hp) (e:Expr) (f:FA):Prop where
 out:PE X e (tDF X.K G H0 f)
variable{e:Expr}{t:TE}
def PE.imp{t':TE}(h:PE X e t)(i:∀σ H Q,t' σ H Q->t σ H Q):PE X e t':=λpins s σ H Q I q=>h pins s σ H Q I (i σ H Q q)
def PT.imp{t t':TT}(h:PT X e t)(i:∀σ H Q,t' σ H Q->t σ H Q):PT X e t':=λpins s σ H Q I q=>h pins s σ H Q I (i σ H Q q)
def PA.imp{e:i3}{t t':TA}(h:PA X e t)(i:∀σ H Q,t' σ H Q->t σ H Q):PA X e t':=λpos pins s σ H Q I q=>h pos pins s σ H Q I (i σ H Q q)
@[simp] noncomputable def fVar(i:Nat):FE:=λe=>match e[i]? with
 | some (some (.sh d))=>some (d,e)
 | some (some (.ow ds))=>some (.lst ds,e.set i (some (.sh (.lst ds))))
 | some (some (.o2 dss))=>some (.lst (dss.map D.lst),e.set i (some (.sh (.lst (dss.map D.lst)))))
 | _=>none
@[simp] noncomputable def fC(d:D):FE:=λe=>some (d,e)
@[simp] noncomputable def fBin(op:D->D->k8)(f g:FE):FE:=λe=>(f e).bind λr=>(g r.2).bind λq=>(op r.1 q.1).map λd=>(d,q.2)
@[simp] noncomputable def fUn(op:D->k8)(f:FE):FE:=λe=>(f e).bind λr=>(op r.1).map λd=>(d,r.2)
@[simp] noncomputable def fAnd(f g:FT):FT:=λe=>(f e).bind λr=>if r.1=true then g r.2 else some (false,r.2)
@[simp] noncomputable def fOr(f g:FT):FT:=λe=>(f e).bind λr=>if r.1=true then some (true,r.2) else g r.2
@[simp] noncomputable def fNot(f:FT):FT:=λe=>(f e).map λr=>(!r.1,r.2)
@[simp] noncomputable def fTst(f:FE):FT:=λe=>(f e).bind λr=>match r.1 with | .bl b=>some (b,r.2) | _=>none
@[simp] noncomputable def wz(f g:FE):FE:=λe=>(f e).bind λr=>match r.1 with | .bl true=>g r.2 | .bl false=>some (.bl false,r.2) | _=>none
@[simp] noncomputable def z01(f:FE):FE:=λe=>(f e).bind λr=>match r.1 with | .bl b=>some (.bl (!b),r.2) | _=>none
@[simp] noncomputable def fNil:FA:=λe=>some ([],e)
@[simp] noncomputable def aw(f:FE)(g:FA):FA:=λe=>(f e).bind λr=>(g r.2).bind λq=>some (r.1::q.1,q.2)
@[simp] noncomputable def fTup(g:FA):FE:=λe=>(g e).bind λr=>if r.1.length<=64 then some (.tup r.1,r.2) else none
@[simp] noncomputable def f8(g:FA):FA:=λe=>(g e).bind λr=>if r.1.length<=64 then some (r.1,r.2) else none
@[simp] noncomputable def fLst(g:FA):FE:=λe=>(g e).map λr=>(.lst r.1,r.2)
@[simp] noncomputable def i4:D->D->k8 | .int i,.int j=>some (.int (i+j)) | _,_=>none
@[simp] noncomputable def dSub:D->D->k8 | .int i,.int j=>some (.int (i-j)) | _,_=>none
def l3(i:Int):Prop:=-(2 ^ 64)<i/\i<2 ^ 64
noncomputable instance (i:Int):Decidable (l3 i):=Classical.propDecidable _
def Few(n:Nat):Prop:=n<=2 ^ 20
noncomputable instance (n:Nat):Decidable (Few n):=Classical.propDecidable _
def Bnd(lo hi i:Int):Prop:=lo<=i/\i<hi
noncomputable instance (lo hi i:Int):Decidable (Bnd lo hi i):=Classical.propDecidable _
def dMul:D->D->k8 | .int i,.int j=>if l3 i\/l3 j then some (.int (i*j)) else none | _,_=>none
def dMod:D->D->k8 | .int i,.int j=>if 0<j then some (.int (i % j)) else none | _,_=>none
def dDiv:D->D->k8 | .int i,.int j=>if Bnd 1 1073741824 j then some (.int (i / j)) else none | _,_=>none
@[simp] noncomputable def dNeg:D->k8 | .int i=>some (.int (-i)) | _=>none
@[simp] noncomputable def dLt:D->D->k8 | .int i,.int j=>some (.bl (decide (i<j))) | _,_=>none
@[simp] noncomputable def dLe:D->D->k8 | .int i,.int j=>some (.bl (decide (i<=j))) | _,_=>none
@[simp] noncomputable def dGt:D->D->k8 | .int i,.int j=>some (.bl (decide (j<i))) | _,_=>none
@[simp] noncomputable def dGe:D->D->k8 | .int i,.int j=>some (.bl (decide (j<=i))) | _,_=>none
@[simp] noncomputable def dEq:D->D->k8
 | .int i,.int j=>some (.bl (decide (i=j))) | .str i,.str j=>some (.bl (decide (i=j))) | .bl i,.bl j=>some (.bl (decide (i=j))) | _,_=>none
@[simp] noncomputable def dNe:D->D->k8
 | .int i,.int j=>some (.bl (!decide (i=j))) | .str i,.str j=>some (.bl (!decide (i=j))) | .bl i,.bl j=>some (.bl (!decide (i=j))) | _,_=>none
@[simp] noncomputable def dIx:D->D->k8 | .tup ds,.int i=>atI ds i | .lst ds,.int i=>atI ds i | _,_=>none
def OpD(X:Cx)(G:Gd)(H0:Hp)(r:R2)(op:D->D->k8):Prop :=
 ∀W env σ H x y d1 d2 d (Q:VK),Ok X.K G H0 W env σ H->Rep X.K H (Ow G W) d1 x->Rep X.K H (Ow G W) d2 y->op d1 d2=some d ->
  (∀v H',Step W H W H'->Ok X.K G H0 W env σ H'->Rep X.K H' (Ow G W) d v->Q v H')->r x y H Q
variable{r:R2}{op:D->D->k8}{g:FE}
def zw6(S:OpD X G H0 r op):∀σ H Q,tD X.K G H0 (fBin op f g) σ H Q->tOp r (tD X.K G H0 f) (tD X.K G H0 g) σ H Q:=by
 rintro σ H Q ⟨W,env,d,env',ok,e,k⟩;cases e1:f env with
 | none=>simp[e1] at e
 | some r1 =>
   cases e2:g r1.2 with
   | none=>simp[e1,e2] at e
   | some r2 =>
     have e:(op r1.1 r2.1).map (λd=>(d,r2.2))=some (d,env'):=by simpa[fBin,e1,e2] using e
     cases e3:op r1.1 r2.1 with
     | none=>rw[e3] at e;cases e
     | some d' =>
       rw[e3] at e;have U:(d',r2.2)=(d,env'):=bu e;cases U;refine⟨W,env,r1.1,r1.2,ok,e1,λW1 v1 H1 V D p1=>⟨W1,r1.2,r2.1,r2.2,D,e2,λR v2 H2 s2 I p2=>?_⟩⟩;exact S R _ σ H2 v1 v2 _ _ _ Q I (D.rep s2 p1) p2 e3 λv Y Z J a=>k R v Y ((V.trans s2).trans Z) J a
variable{a:Expr}{p:D->D->k8}
def xl{op:Operator}(D:OpR X (binaryOp op) r)(I:OpD X G H0 r p)(J:DEx X G H0 a f)(R:DEx X G H0 b g):DEx X G H0 (.BinOp a op b pos) (fBin p f g) :=
 ⟨(z0i D J.out R.out).imp (zw6 I)⟩
def zp{op:CmpOp}(D:OpR X (compareOp op) r)(I:OpD X G H0 r p)(J:DEx X G H0 a f)(R:DEx X G H0 b g)(S:behindInMarks op b=false):DEx X G H0 (.Compare a [op] [b] pos) (fBin p f g) :=
 ⟨(z0k D J.out R.out S).imp (zw6 I)⟩
def z3y(D:IxR X r)(I:OpD X G H0 r p)(J:DEx X G H0 a f)(R:DEx X G H0 b g)(S:uv b):DEx X G H0 (.Subscript a b pos) (fBin p f g) :=
 ⟨(xf D J.out R.out S).imp (zw6 I)⟩
def z3z(h:∀σ H Q,tD X.K G H0 f σ H Q->t σ H Q):∀σ H Q,tDT X.K G H0 (fTst f) σ H Q->z3m t σ H Q:=by
 rintro σ H Q ⟨W,env,b,env',ok,e,k⟩;refine h σ H _ ?_;cases e1:f env with
 | none=>simp[e1] at e
 | some r1 =>
   obtain⟨d,D⟩:=r1;cases d with
   | bl b' =>
     have e:some (b',D)=some (b,env'):=by simpa[fTst,e1] using e
     cases e;exact⟨W,env,_,_,ok,e1,λW1 v1 H1 J I p1=>⟨_,p1.bl_,k W1 H1 J I⟩⟩
   | _=>simp[e1] at e
def xk{op:CmpOp}(D:OpR X (compareOp op) r)(I:OpD X G H0 r p)(J:DEx X G H0 a f)(R:DEx X G H0 b g)(S:behindInMarks op b=false):DTx X G H0 (.Compare a [op] [b] pos) (fTst (fBin p f g)) :=
 ⟨(z0l D J.out R.out S).imp (z3z (zw6 I))⟩
variable{g:Int->Int->Int}
def od_I{C:Int->Int->Prop}(h:∀D I d,op D I=some d->∃i j,D=.int i/\I=.int j/\C i j/\d=.int (g i j)):OpD X G H0 (rI C λi j=>.int (g i j)) op:=by
 intro W env σ H x y D I d Q ok p1 p2 e k;obtain⟨i,j,rfl,rfl,J,rfl⟩:=h _ _ _ e;exact⟨i,j,p1.int_,p2.int_,J,k _ H Step.refl ok (.int _)⟩
def z30(h:∀D I d,op D I=some d->∃i j,D=.int i/\I=.int j/\d=.int (g i j)):OpD X G H0 (rI0 λi j=>.int (g i j)) op:=by
 intro W env σ H x y D I d Q ok p1 p2 e k;obtain⟨i,j,rfl,rfl,rfl⟩:=h _ _ _ e;exact⟨i,j,p1.int_,p2.int_,k _ H Step.refl ok (.int _)⟩
variable{g:FE}
def zw7{g:Int->Int->Bool}(h:∀D I d,op D I=some d->∃i j,D=.int i/\I=.int j/\d=.bl (g i j)):OpD X G H0 (rI0 λi j=>.bl (g i j)) op:=by
 intro W env σ H x y D I d Q ok p1 p2 e k;obtain⟨i,j,rfl,rfl,rfl⟩:=h _ _ _ e;exact⟨i,j,p1.int_,p2.int_,k _ H Step.refl ok (.bl _)⟩
def z31:OpD X G H0 (rI0 λi j=>.int (i+j)) i4:=z30 λD I d e=>by
 cases D <;> try (cases e;done)
 all_goals cases I <;> first | (cases e;done) | exact⟨_,_,rfl,rfl,(bu e).symm⟩
def z32:OpD X G H0 (rI0 λi j=>.int (i-j)) dSub:=z30 λD I d e=>by
 cases D <;> try (cases e;done)
 all_goals cases I <;> first | (cases e;done) | exact⟨_,_,rfl,rfl,(bu e).symm⟩
def z33:OpD X G H0 (rI CMul λi j=>.int (i*j)) dMul:=od_I λD I d e=>by
 cases D <;> try (cases e;done)
 all_goals cases I <;> first
  | (cases e;done)
  | (rename_i i j
     by_cases h:l3 i\/l3 j
     ·simp only[dMul,if_pos h] at e;exact⟨_,_,rfl,rfl,h,(bu e).symm⟩
     ·simp only[dMul,if_neg h] at e;cases e)
def z34:OpD X G H0 (rI (λ_ j=>0<j) λi j=>.int (i % j)) dMod:=od_I λD I d e=>by
 cases D <;> try (cases e;done)
 all_goals cases I <;> first
  | (cases e;done)
  | (rename_i i j
     by_cases h:0<j
     ·simp only[dMod,if_pos h] at e;exact⟨_,_,rfl,rfl,h,(bu e).symm⟩
     ·simp only[dMod,if_neg h] at e;cases e)
theorem z35:OpD X G H0 (rI CDiv λi j=>.int (i / j)) dDiv:=od_I λD I d e=>by
 cases D <;> try (cases e;done)
 all_goals cases I <;> first
  | (cases e;done)
  | (rename_i i j
     by_cases h:Bnd 1 1073741824 j
     ·simp only[dDiv,if_pos h] at e;exact⟨_,_,rfl,rfl,⟨by have:=h.1;lia,h.2⟩,(bu e).symm⟩
     ·simp only[dDiv,if_neg h] at e;cases e)
def z6j:OpD X G H0 (rI0 λi j=>.bl (decide (i<j))) dLt:=zw7 λD I d e=>by
 cases D <;> try (cases e;done)
 all_goals cases I <;> first | (cases e;done) | exact⟨_,_,rfl,rfl,(bu e).symm⟩
def z36:OpD X G H0 (rI0 λi j=>.bl (decide (i<=j))) dLe:=zw7 λD I d e=>by
 cases D <;> try (cases e;done)
 all_goals cases I <;> first | (cases e;done) | exact⟨_,_,rfl,rfl,(bu e).symm⟩
def z37:OpD X G H0 (rI0 λi j=>.bl (decide (j<i))) dGt:=zw7 λD I d e=>by
 cases D <;> try (cases e;done)
 all_goals cases I <;> first | (cases e;done) | exact⟨_,_,rfl,rfl,(bu e).symm⟩
def z38:OpD X G H0 (rI0 λi j=>.bl (decide (j<=i))) dGe:=zw7 λD I d e=>by
 cases D <;> try (cases e;done)
 all_goals cases I <;> first | (cases e;done) | exact⟨_,_,rfl,rfl,(bu e).symm⟩
def zzd(i j:Int):decide (V.int i=V.int j)=decide (i=j):=by simp
def zze(i j:Str):decide (V.str i=V.str j)=decide (i=j):=by simp
def z39(i j:Bool):decide (V.bl i=V.bl j)=decide (i=j):=by simp
def z4a:OpD X G H0 rEq dEq:=by
 intro W env σ H x y D I d Q ok p1 p2 e k;cases D <;> try (cases e;done)
 all_goals cases I <;> first
  | (cases e;done)
  | (cases p1.int_;cases p2.int_;cases e;refine⟨rfl,?_⟩;rw[zzd];exact k _ H Step.refl ok (.bl _))
  | (cases p1.str_;cases p2.str_;cases e;refine⟨rfl,?_⟩;rw[zze];exact k _ H Step.refl ok (.bl _))
  | (cases p1.bl_;cases p2.bl_;cases e;refine⟨rfl,?_⟩;rw[z39];exact k _ H Step.refl ok (.bl _))
def z4b:OpD X G H0 rNe dNe:=by
 intro W env σ H x y D I d Q ok p1 p2 e k;cases D <;> try (cases e;done)
 all_goals cases I <;> first
  | (cases e;done)
  | (cases p1.int_;cases p2.int_;cases e;refine⟨rfl,?_⟩;rw[zzd];exact k _ H Step.refl ok (.bl _))
  | (cases p1.str_;cases p2.str_;cases e;refine⟨rfl,?_⟩;rw[zze];exact k _ H Step.refl ok (.bl _))
  | (cases p1.bl_;cases p2.bl_;cases e;refine⟨rfl,?_⟩;rw[z39];exact k _ H Step.refl ok (.bl _))
def xy{i:Int}(r:Reps K H O ds vs)(h:atI ds i=some d):∃v,atI vs i=some v/\Rep K H O d v:=by
 unfold atI at h ⊢;rw[<-r.length];cases q:ixN ds.length i with
 | none=>rw[q] at h;cases h
 | some j=>rw[q] at h;exact r.get h
def z6k:OpD X G H0 (rIx X.K) dIx:=by
 intro W env σ H x y J R d Q ok p1 p2 e k;cases J <;> first
  | (cases e;done)
  | (cases R <;> first
      | (cases e;done)
      | (cases p2
         first
          | (obtain⟨a, vs, rfl, h, r⟩ := p1.tup_
             obtain⟨v,D,I⟩:=xy r e;exact .inr (.inl ⟨a,vs,_,v,rfl,rfl,SqT.of h,D,k _ H Step.refl ok I⟩))
          | (obtain⟨a, vs, rfl, h, r⟩ := p1.lst_
             obtain⟨v,D,I⟩:=xy r e;exact .inl ⟨a,vs,_,v,rfl,rfl,h.sq,D,k _ H Step.refl ok I⟩)))
def ky(D:DEx X G H0 a f)(I:DEx X G H0 b g):DEx X G H0 (.BinOp a .Add b pos) (fBin i4 f g):=xl z3c z31 D I
def j2(D:DEx X G H0 a f)(I:DEx X G H0 b g):DEx X G H0 (.BinOp a .Sub b pos) (fBin dSub f g):=xl z3d z32 D I
def qz(D:DEx X G H0 a f)(I:DEx X G H0 b g):DEx X G H0 (.BinOp a .Mult b pos) (fBin dMul f g):=xl z3e z33 D I
def mj(D:DEx X G H0 a f)(I:DEx X G H0 b g):DEx X G H0 (.BinOp a .Mod b pos) (fBin dMod f g):=xl z3f z34 D I
def td(D:DEx X G H0 a f)(I:DEx X G H0 b g):DEx X G H0 (.BinOp a .FloorDiv b pos) (fBin dDiv f g):=xl z0j z35 D I
def z6l(D:DEx X G H0 a f)(I:DEx X G H0 b g):DEx X G H0 (.Compare a [.LtE] [b] pos) (fBin dLe f g):=zp z3j z36 D I (qc _)
def z6m(D:DEx X G H0 a f)(I:DEx X G H0 b g):DEx X G H0 (.Compare a [.Gt] [b] pos) (fBin dGt f g):=zp z3k z37 D I (qc _)
def z4c(D:DEx X G H0 a f)(I:DEx X G H0 b g):DEx X G H0 (.Compare a [.GtE] [b] pos) (fBin dGe f g):=zp z3l z38 D I (qc _)
def zw8(D:DEx X G H0 a f)(I:DEx X G H0 b g):DEx X G H0 (.Compare a [.Eq] [b] pos) (fBin dEq f g):=zp z3h z4a D I (qc _)
def z6n(D:DEx X G H0 a f)(I:DEx X G H0 b g):DEx X G H0 (.Compare a [.NotEq] [b] pos) (fBin dNe f g):=zp z3i z4b D I (qc _)
def me(D:DEx X G H0 a f)(I:DEx X G H0 b g):DTx X G H0 (.Compare a [.Lt] [b] pos) (fTst (fBin dLt f g)):=xk z6f z6j D I (qc _)
def z4d(D:DEx X G H0 a f)(I:DEx X G H0 b g):DTx X G H0 (.Compare a [.LtE] [b] pos) (fTst (fBin dLe f g)):=xk z3j z36 D I (qc _)
def lw(D:DEx X G H0 a f)(I:DEx X G H0 b g):DTx X G H0 (.Compare a [.Gt] [b] pos) (fTst (fBin dGt f g)):=xk z3k z37 D I (qc _)
def wy(D:DEx X G H0 a f)(I:DEx X G H0 b g):DTx X G H0 (.Compare a [.GtE] [b] pos) (fTst (fBin dGe f g)):=xk z3l z38 D I (qc _)
def jx(D:DEx X G H0 a f)(I:DEx X G H0 b g):DTx X G H0 (.Compare a [.Eq] [b] pos) (fTst (fBin dEq f g)):=xk z3h z4a D I (qc _)
def vg(D:DEx X G H0 a f)(I:DEx X G H0 b g):DTx X G H0 (.Compare a [.NotEq] [b] pos) (fTst (fBin dNe f g)):=xk z3i z4b D I (qc _)
def j9(D:DEx X G H0 a f)(I:DEx X G H0 b g)(J:uv b:=by intro _ _;rfl):DEx X G H0 (.Subscript a b pos) (fBin dIx f g):=z3y zy9 z6k D I J
def bj{Nn Cn:g7}(an:Ats Nn Cn X)(J:Nn[i]?=some x:=by rfl):DEx X G H0 (.Name x pos) (fVar i):=⟨((an.a J).pe).imp λσ H Q R=>by
 obtain⟨W,env,d,env',ok,e,k⟩:=R;unfold fVar at e;cases q:env[i]? with
 | none=>rw[q] at e;cases e
 | some o =>
   cases o with
   | none=>rw[q] at e;cases e
   | some sl =>
     cases sl with
     | sh d' =>
       rw[q] at e;cases e;obtain⟨v,I,r⟩:=ok.slot i _ q;exact⟨v,I,k W v H Step.refl ok r⟩
     | ow ds =>
       rw[q] at e;cases e;obtain⟨W',v,I,st,D,r⟩:=ok.share q;exact⟨v,I,k W' v H st D r⟩
     | o2 dss =>
       rw[q] at e;cases e;obtain⟨W',v,I,st,D,r⟩:=ok.share2 q;exact⟨v,I,k W' v H st D r⟩
     | ag _ _ _=>rw[q] at e;cases e
     | al _ _=>rw[q] at e;cases e
     | ro _ _=>rw[q] at e;cases e⟩
def de_c(h:PE X e (tC v))(r:∀H O,Rep X.K H O d v):DEx X G H0 e (fC d):=⟨h.imp λσ H Q D=>by
 obtain⟨W,env,d',env',ok,q,k⟩:=D;cases q;exact k W v H Step.refl ok (r _ _)⟩
def cf{i:Int}:DEx X G H0 (.Constant (.int i) j pos) (fC (.int i)):=de_c xn λ_ _=>.int _
def pj{i:Bool}:DEx X G H0 (.Constant (.bool i) j pos) (fC (.bl i)):=de_c z56 λ_ _=>.bl _
def gi{i:Str}:DEx X G H0 (.Constant (.str i) j pos) (fC (.str i)):=de_c zy3 λ_ _=>.str _
def p9(R:DEx X G H0 a f):DEx X G H0 (.UnaryOp .USub a pos) (fUn dNeg f):=⟨(z3b zy5 R.out).imp λσ H Q S=>by
 obtain⟨W,env,d',env',ok,q,k⟩:=S;cases e1:f env with
 | none=>simp[e1] at q
 | some r =>
   obtain⟨d,I⟩:=r;cases d with
   | int i =>
     have q:some (D.int (-i),I)=some (d',env'):=by simpa[fUn,e1,dNeg] using q
     cases q;exact⟨W,env,_,_,ok,e1,λW1 v1 H1 U J p1=>⟨i,p1.int_,k W1 _ H1 U J (.int _)⟩⟩
   | _=>simp[e1] at q⟩
section
variable {X:Cx} {G:Gd} {H0:Hp} {a b c e:Expr} {es rest:i3} {f g:FE} {F:FA} {p q:FT} {pos:Pos}
structure DWx (X:Cx) (G:Gd) (H0:Hp) (e:Expr) (f:FT):Prop where
 out:PW X e (tDT X.K G H0 f)
def PW.imp{X:Cx}{e:Expr}{t t':TT}(h:PW X e t)(i:∀σ H Q,t' σ H Q->t σ H Q):PW X e t':=λw pins s σ H Q I q=>h w pins s σ H Q I (i σ H Q q)
def dt_w(h:DWx X G H0 e p):DTx X G H0 e p:=⟨PW.pt h.out⟩
def n4(h:DTx X G H0 a p):DWx X G H0 (.BoolOp .And [a] pos) p:=⟨z0e h.out⟩
def mi(h:DTx X G H0 a p):DWx X G H0 (.BoolOp .Or [a] pos) p:=⟨z2w h.out⟩
def nt(h:DTx X G H0 a p)(h2:DWx X G H0 (.BoolOp .And (b::rest) pos) q):DWx X G H0 (.BoolOp .And (a::b::rest) pos) (fAnd p q):=⟨(z2x h.out h2.out).imp λσ H Q S=>by
 obtain⟨W,env,d,env',ok,e,k⟩:=S;cases e1:p env with
 | none=>simp[e1] at e
 | some r =>
   obtain⟨t,D⟩:=r;refine⟨W,env,t,D,ok,e1,λW1 H1 R I=>?_⟩;cases t with
   | true =>
     exact⟨W1,D,d,env',I,by simpa[fAnd,e1] using e,λU H2 s2 J=>k U H2 (R.trans s2) J⟩
   | false =>
     have e:some (false,D)=some (d,env'):=by simpa[fAnd,e1] using e
     cases e;exact k W1 H1 R I⟩
def lv(h:DTx X G H0 a p)(h2:DWx X G H0 (.BoolOp .Or (b::rest) pos) q):DWx X G H0 (.BoolOp .Or (a::b::rest) pos) (fOr p q):=⟨(z57 h.out h2.out).imp λσ H Q S=>by
 obtain⟨W,env,d,env',ok,e,k⟩:=S;cases e1:p env with
 | none=>simp[e1] at e
 | some r =>
   obtain⟨t,D⟩:=r;refine⟨W,env,t,D,ok,e1,λW1 H1 R I=>?_⟩;cases t with
   | false =>
     exact⟨W1,D,d,env',I,by simpa[fOr,e1] using e,λU H2 s2 J=>k U H2 (R.trans s2) J⟩
   | true =>
     have e:some (true,D)=some (d,env'):=by simpa[fOr,e1] using e
     cases e;exact k W1 H1 R I⟩
def qy(h:DTx X G H0 a p):DTx X G H0 (.UnaryOp .Not a pos) (fNot p):=⟨(z2y h.out).imp λσ H Q I=>by
 obtain⟨W,env,d,env',ok,e,k⟩:=I;cases e1:p env with
 | none=>simp[e1] at e
 | some r =>
   have e:some (!r.1,r.2)=some (d,env'):=by simpa[fNot,e1] using e
   cases e;exact⟨W,env,_,_,ok,e1,λW1 H1 J D=>k W1 H1 J D⟩⟩
def mr(h:DEx X G H0 a f)(D:∀whole,isTrue a X.env whole=(do let v <-whole;standAt a.pos;holding [v] (truthy v)):=by intro _;rfl):DTx X G H0 a (fTst f):=⟨(z2v h.out D).imp (z3z λ_ _ _ z=>z)⟩
def zzf{op:BoolOp}(h:DEx X G H0 a f):DEx X G H0 (.BoolOp op [a] pos) f:=⟨z2z h.out⟩
def zzg(h:DEx X G H0 a f)(h2:DEx X G H0 (.BoolOp .And (b::rest) pos) g):DEx X G H0 (.BoolOp .And (a::b::rest) pos) (wz f g):=⟨(z20 h.out h2.out).imp λσ H Q U=>by
 obtain⟨W,env,d,env',ok,e,k⟩:=U;cases e1:f env with
 | none=>simp[e1] at e
 | some r =>
   obtain⟨t,I⟩:=r;refine⟨W,env,t,I,ok,e1,λW1 v1 H1 S J p1=>?_⟩;cases t with
   | bl t =>
     refine⟨t,p1.bl_,?_⟩;cases t with
     | true =>
       exact⟨W1,I,d,env',J,by simpa[wz,e1] using e,λV v2 H2 s2 R p2=>k V v2 H2 (S.trans s2) R p2⟩
     | false =>
       have e:some (D.bl false,I)=some (d,env'):=by simpa[wz,e1] using e
       cases e;exact k W1 _ H1 S J (.bl _)
   | _=>simp[e1] at e⟩
def z4e(h:DEx X G H0 a f):DEx X G H0 (.UnaryOp .Not a pos) (z01 f):=⟨(z21 h.out).imp λσ H Q R=>by
 obtain⟨W,env,d,env',ok,e,k⟩:=R;cases e1:f env with
 | none=>simp[e1] at e
 | some r =>
   obtain⟨t,I⟩:=r;refine⟨W,env,t,I,ok,e1,λW1 v1 H1 S J p1=>?_⟩;cases t with
   | bl t =>
     have e:some (D.bl (!t),I)=some (d,env'):=by simpa[z01,e1] using e
     cases e;exact⟨t,p1.bl_,k W1 _ H1 S J (.bl _)⟩
   | _=>simp[e1] at e⟩
def dc  : DAx X G H0 [] fNil:=⟨pk.imp λσ H Q D=>by
 obtain⟨W,env,ds,env',ok,e,k⟩:=D;cases e;exact k W [] H Step.refl ok .nil⟩
def bq(R:DEx X G H0 e f)(S:DAx X G H0 es F)(U:starEach (e::es) X.env=(false,eval e X.env)::starEach es X.env:=by rfl):DAx X G H0 (e::es) (aw f F):=⟨(mw R.out S.out U).imp λσ H Q V=>by
 obtain⟨W,env,ds,env',ok,q,k⟩:=V;cases e1:f env with
 | none=>simp[e1] at q
 | some r =>
   obtain⟨d,D⟩:=r;cases e2:F D with
   | none=>simp[e1,e2] at q
   | some r2 =>
     have q:some (d::r2.1,r2.2)=some (ds,env'):=by simpa[aw,e1,e2] using q
     cases q;exact⟨W,env,d,D,ok,e1,λW1 v1 H1 Y I p1=>⟨W1,D,_,_,I,e2,λZ vs H2 s2 J p2=>k Z _ H2 (Y.trans s2) J (.cons (I.rep s2 p1) p2)⟩⟩⟩
def le64{n:Nat}(h:n<=64):n<=sizeLine:=de h (by rw[sizeLine_eq];decide)
def kx{k1}(h:DAx X G H0 es F):DEx X G H0 (.Tuple es k1 pos) (fTup F):=⟨(z3p h.out).imp λσ H Q S=>by
 obtain⟨W,env,d,env',ok,q,k⟩:=S;cases e1:F env with
 | none=>simp[e1] at q
 | some r =>
   obtain⟨ds,I⟩:=r;by_cases R:ds.length<=64
   ·have q:some (D.tup ds,I)=some (d,env'):=by simpa[fTup,e1,R] using q
    cases q;refine⟨W,env,ds,_,ok,e1,λW1 vs H1 U J p1=>⟨by rw[<-p1.length];exact le64 R,λl V=>?_⟩⟩;have sm:Same H1 (upd H1 l (.tup vs)):=yc V;have st:Step W1 H1 W1 (upd H1 l (.tup vs)):=Step.same sm;exact k W1 _ _ (U.trans st) (J.same sm) (.tup km (J.reps st p1))
   ·simp[e1,R] at q⟩
def um{W:Addr->Prop}{env:DE0}{σ:St}{H:Hp}{l:Addr}{vs:k6}{ds:k7}(ok:Ok X.K G H0 W env σ H)(r:Reps X.K H (Ow G W) ds vs)(I:H l=none) :
  Step W H (addW W l) (upd H l (.lst vs))/\Ok X.K G H0 W env σ (upd H l (.lst vs))/\Ok X.K G H0 (addW W l) env σ (upd H l (.lst vs))/\¬W l/\upd H l (.lst vs) l=some (.lst vs)/\Reps X.K (upd H l (.lst vs)) (Ow G (addW W l)) ds vs:=by
 have sm:Same H (upd H l (.lst vs)):=yc I;obtain⟨h1,h2,J,R,S⟩:=ok.fresh (l:=l) (vs:=vs) (ds:=ds) sm I km ((r.mono (O':=λa=>(Ow G W a\/H a=none)/\a≠l) (λ_ _ h=>sm _ _ h) λa us o h=>⟨⟨.inl o,λz=>by
  subst z;have h2:Rd H a (.lst us):=h;rcases h2 with h2 | ⟨_,h2⟩ <;> rw[I] at h2 <;> cases h2⟩,h.keep λo e=>sm _ o e⟩))
 exact⟨S,ok.same sm,J,h1,km,R⟩
def ja(h:DAx X G H0 es F):DFx X G H0 (.List es pos) (f8 F):=⟨(zy8 h.out).imp λσ H Q R=>by
 obtain⟨W,env,d,env',ok,q,k⟩:=R;cases e1:F env with
 | none=>simp[e1] at q
 | some r =>
   obtain⟨ds,D⟩:=r;by_cases I:ds.length<=64
   ·have q:some (ds,D)=some (d,env'):=by simpa[f8,e1,I] using q
    cases q;refine⟨W,env,_,_,ok,e1,λW1 vs H1 S J p1=>⟨by rw[<-p1.length];exact le64 I,λl U=>?_⟩⟩;obtain⟨h1,h2,V,Y,Z,a⟩:=um J p1 U;exact k W1 l vs _ (S.trans h1) h2 V Y Z a
   ·simp[e1,I] at q⟩
def gh(h:DFx X G H0 e F):DEx X G H0 e (fLst F):=⟨h.out.imp λσ H Q S=>by
 obtain⟨W,env,d,env',ok,q,k⟩:=S;cases e1:F env with
 | none=>simp[e1] at q
 | some r =>
   have q:some (D.lst r.1,r.2)=some (d,env'):=by simpa[fLst,e1] using q
   cases q;refine⟨W,env,_,_,ok,e1,λW1 l vs H1 R I J U V Y=>k W1 _ H1 ⟨R.keep,λa z=>R.ws a (.inl z)⟩ I (.lst ⟨I.good l (J.wl l (.inr rfl)).1,U⟩ (.inl V) (Y.mono (λ_ _ h=>h) λa us o h=>⟨⟨o.1,λz=>o.2 (.inl z)⟩,h⟩))⟩⟩
def Cal(P:Program)(w:World)(K:kf)(mg:Str->g9)(base:Heap)(CX:CXT)(x:Str)(k:Nat)(sp:Sp):Prop :=
 ∃fa fd ps,FnOk P w K mg base CX k fa fd ps sp/\mg x=some (.ref fa)/\PySem.W.keepIn K (.ref fa)=true/\Binds K fd ps []/\(x==("__debug__" : Str))=false
def dSp(K:kf)(m:k7->k8):Sp:=λvs H Q _=>∃O ds d,Reps K H O ds vs/\m ds=some d/\∀v H',Same H H'->Rep K H' (λa=>O a\/H a=none) d v->Q v H'
def fSp(K:kf)(m:k7->Option k7):Sp:=λvs H Q _=>∃O ds I,Reps K H O ds vs/\m ds=some I/\∀l us H',Same H H'->H l=none->H' l=some (.lst us)->Reps K H' (λa=>(O a\/H a=none)/\a≠l) I us->Q (.ref l) H'
@[simp] noncomputable def d5(m:k7->k8)(F:FA):FE:=λe=>(F e).bind λr=>(m r.1).map λd=>(d,r.2)
@[simp] noncomputable def jw(m:k7->Option k7)(F:FA):FA:=λe=>(F e).bind λr=>(m r.1).map λd=>(d,r.2)
def z4f{m:k7->k8}{E:XK}:∀σ H Q,tD X.K G H0 (d5 m F) σ H Q->zwy (dSp X.K m) [] E (tDA X.K G H0 F) σ H Q:=λσ H Q R=>by
 obtain⟨W,env,d,env',ok,q,k⟩:=R;cases e1:F env with
 | none=>simp[e1] at q
 | some r =>
   obtain⟨ds,J⟩:=r;cases e2:m ds with
   | none=>simp[e1,e2] at q
   | some d' =>
     have q:some (d',J)=some (d,env'):=by simpa[d5,e1,e2] using q
     cases q;refine⟨W,env,ds,_,ok,e1,λW1 vs H1 S I p1=>?_⟩;show dSp X.K m (vs++[]) H1 Q E;rw[dh];refine⟨Ow G W1,ds,_,p1,e2,λv H2 sm U=>?_⟩;refine k W1 v H2 (S.trans (Step.same sm)) (I.same sm) (U.mono (λ_ _ h=>h) λa us o h=>⟨?_,h⟩);rcases o with o | o
     ·exact o
     ·exact⟨I.good a (I.stay.free o),λz=>by obtain⟨_,us,q⟩:=I.wl a z;rw[o] at q;cases q⟩
def z02{m:k7->Option k7}{E:XK}:∀σ H Q,tDF X.K G H0 (jw m F) σ H Q->zwy (fSp X.K m) [] E (tDA X.K G H0 F) σ H Q:=λσ H Q S=>by
 obtain⟨W,env,d,env',ok,q,k⟩:=S;cases e1:F env with
 | none=>simp[e1] at q
 | some r =>
   obtain⟨ds,I⟩:=r;cases e2:m ds with
   | none=>simp[e1,e2] at q
   | some d' =>
     have q:some (d',I)=some (d,env'):=by simpa[jw,e1,e2] using q
     cases q;refine⟨W,env,ds,_,ok,e1,λW1 vs H1 U J p1=>?_⟩;show fSp X.K m (vs++[]) H1 Q E;rw[dh];refine⟨Ow G W1,ds,_,p1,e2,λl us H2 sm V R Y=>?_⟩;obtain⟨h1,h2,Z,a,b⟩:=J.fresh sm V R Y;exact k W1 l us H2 (U.trans b) (J.same sm) Z h1 R a
variable {CX:CXT} {k:Nat} {fa:Addr} {fd:FuncData} {ps:g7} {m:k7->k8} {mF:k7->Option k7} {x:Str} {p':Pos} {E:XK}
def gy{jr:Nat}(c:Cal X.prog X.w X.K X.mg X.base CX0 x k (dSp X.K m))(R:Room jr X.A)(S:DAx X G H0 (e::es) F)(D:k<=jr:=by decide)(U:Gl X x:=by walk_at "g")(V:starEach (e::es) X.env=(false,eval e X.env)::starEach es X.env:=by rfl)(I:(backTo pos (starEach es X.env)).any (·.1)=false:=by rfl) :
  DEx X G H0 (.Call (.Name x p') (e::es) [] pos) (d5 m F):=let ⟨_,_,_,Y,Z,a,b,J⟩:=c;⟨(zqb Y (R.mono D) U Z a b .nil z0z S.out J V I).imp z4f⟩
def zqi{jr:Nat}(c:Cal X.prog X.w X.K X.mg X.base CX0 x k (fSp X.K mF))(R:Room jr X.A)(S:DAx X G H0 (e::es) F)(D:k<=jr:=by decide)(U:Gl X x:=by walk_at "g")(V:starEach (e::es) X.env=(false,eval e X.env)::starEach es X.env:=by rfl)(I:(backTo pos (starEach es X.env)).any (·.1)=false:=by rfl) :
  DFx X G H0 (.Call (.Name x p') (e::es) [] pos) (jw mF F):=let ⟨_,_,_,Y,Z,a,b,J⟩:=c;⟨(zqb Y (R.mono D) U Z a b .nil z0z S.out J V I).imp z02⟩
end
section
variable {X:Cx} {G:Gd} {H0:Hp} {a b c e:Expr} {es rest:i3} {f g:FE} {F:FA} {p q:FT} {pos p':Pos} {x:Str}
def ug(X:Cx)(G:Gd)(H0:Hp)(r:k6->Hp->VK->Prop)(op:k7->k8):Prop :=
 ∀W env σ H vs ds d (Q:VK),Ok X.K G H0 W env σ H->Reps X.K H (Ow G W) ds vs->op ds=some d ->
  (∀v H',Step W H W H'->Ok X.K G H0 W env σ H'->Rep X.K H' (Ow G W) d v->Q v H')->r vs H Q
def zuj(X:Cx)(G:Gd)(H0:Hp)(r:k6->Hp->VK->Prop)(op:k7->Option k7):Prop :=
 ∀W env σ H vs ds rs (Q:VK),Ok X.K G H0 W env σ H->Reps X.K H (Ow G W) ds vs->op ds=some rs ->
  (∀l us H',Step W H (addW W l) H'->Ok X.K G H0 W env σ H'->Ok X.K G H0 (addW W l) env σ H'->¬W l->H' l=some (.lst us)->Reps X.K H' (Ow G (addW W l)) rs us->Q (.ref l) H')->r vs H Q
def z4g{r:k6->Hp->VK->Prop}{op:k7->k8}(S:ug X G H0 r op):∀σ H Q,tD X.K G H0 (d5 op F) σ H Q->tCB r (tDA X.K G H0 F) σ H Q:=λσ H Q U=>by
 obtain⟨W,env,d,env',ok,q,k⟩:=U;cases e1:F env with
 | none=>simp[e1] at q
 | some z =>
   obtain⟨ds,I⟩:=z;cases e2:op ds with
   | none=>simp[e1,e2] at q
   | some d' =>
     have q:some (d',I)=some (d,env'):=by simpa[d5,e1,e2] using q
     cases q;exact⟨W,env,ds,_,ok,e1,λW1 vs H1 Y J p1=>S W1 _ σ H1 vs ds _ Q J p1 e2 λv H2 s2 R p2=>k W1 v H2 (Y.trans s2) R p2⟩
def z4h{r:k6->Hp->VK->Prop}{op:k7->Option k7}(U:zuj X G H0 r op):∀σ H Q,tDF X.K G H0 (jw op F) σ H Q->tCB r (tDA X.K G H0 F) σ H Q:=λσ H Q Y=>by
 obtain⟨W,env,d,env',ok,q,k⟩:=Y;cases e1:F env with
 | none=>simp[e1] at q
 | some z =>
   obtain⟨ds,I⟩:=z;cases e2:op ds with
   | none=>simp[e1,e2] at q
   | some d' =>
     have q:some (d',I)=some (d,env'):=by simpa[jw,e1,e2] using q
     cases q;exact⟨W,env,ds,_,ok,e1,λW1 vs H1 Z J p1=>U W1 _ σ H1 vs ds _ Q J p1 e2 λl us H2 s2 R S a b c=>k W1 l us H2 (Z.trans s2) R S a b c⟩
variable {id T:String} {r:k6->Hp->VK->Prop} {op:k7->k8} {opF:k7->Option k7}
def zna(J:oz X (.builtin id) r)(R:ug X G H0 r op)(S:Gl X x)(U:X.mg x=none)(V:bootBuiltins x=some (.builtin id))(Y:DAx X G H0 (e::es) F)(Z:x ≠ "__name__":=by decide)(D:(x==("__debug__" : Str))=false:=by decide)(a:starEach (e::es) X.env=(false,eval e X.env)::starEach es X.env:=by rfl)(I:(backTo pos (starEach es X.env)).any (·.1)=false:=by rfl):DEx X G H0 (.Call (.Name x p') (e::es) [] pos) (d5 op F):=⟨(x0 J S U V Y.out Z D a I).imp (z4g R)⟩
def zro(J:oz X (.type T) r)(R:ug X G H0 r op)(S:Gl X x)(U:X.mg x=none)(V:bootBuiltins x=some (.type T))(Y:DAx X G H0 (e::es) F)(Z:x ≠ "__name__":=by decide)(D:(x==("__debug__" : Str))=false:=by decide)(a:starEach (e::es) X.env=(false,eval e X.env)::starEach es X.env:=by rfl)(I:(backTo pos (starEach es X.env)).any (·.1)=false:=by rfl):DEx X G H0 (.Call (.Name x p') (e::es) [] pos) (d5 op F):=⟨(zou J S U V Y.out Z D a I).imp (z4g R)⟩
def zw9(J:oz X (.type T) r)(R:zuj X G H0 r opF)(S:Gl X x)(U:X.mg x=none)(V:bootBuiltins x=some (.type T))(Y:DAx X G H0 (e::es) F)(Z:x ≠ "__name__":=by decide)(D:(x==("__debug__" : Str))=false:=by decide)(a:starEach (e::es) X.env=(false,eval e X.env)::starEach es X.env:=by rfl)(I:(backTo pos (starEach es X.env)).any (·.1)=false:=by rfl):DFx X G H0 (.Call (.Name x p') (e::es) [] pos) (jw opF F):=⟨(zou J S U V Y.out Z D a I).imp (z4h R)⟩
def qt{K:kf}{H:Hp}{O:Addr->Prop}{d:D}{vs:k6}(h:Reps K H O [d] vs):∃v,vs=[v]/\Rep K H O d v:=by
 cases h with | cons r t=>cases t;exact⟨_,rfl,r⟩
def z6o{K:kf}{H:Hp}{O:Addr->Prop}{d d':D}{vs:k6}(h:Reps K H O [d,d'] vs):∃v I,vs=[v,I]/\Rep K H O d v/\Rep K H O d' I:=by
 cases h with | cons r t=>cases t with | cons r' t=>cases t;exact⟨_,_,rfl,r,r'⟩
@[simp] noncomputable def bLen:k7->k8 | [.tup ds]=>some (.int ds.length) | [.lst ds]=>some (.int ds.length) | _=>none
def z4i:ug X G H0 (λxs H Q=>∃p ys,xs=[.ref p]/\(SqL X.K H p ys\/SqT X.K H p ys)/\Q (.int ys.length) H) bLen:=by
 intro W env σ H vs ds d Q ok r e k;unfold bLen at e;split at e
 ·rename_i ds
  cases e;obtain⟨v,rfl,D⟩:=qt r;have r:=D;obtain⟨a,us,rfl,h,r⟩:=r.tup_;exact⟨a,us,rfl,.inr (SqT.of h),by rw[<-r.length];exact k _ H Step.refl ok (.int _)⟩
 ·rename_i ds
  cases e;obtain⟨v,rfl,D⟩:=qt r;have r:=D;obtain⟨a,us,rfl,h,r⟩:=r.lst_;exact⟨a,us,rfl,.inl h.sq,by rw[<-r.length];exact k _ H Step.refl ok (.int _)⟩
 ·cases e
def sy(I:DAx X G H0 [e] F)(D:Bn X "len":=by walk_at "b")(J:starEach [e] X.env=(false,eval e X.env)::starEach [] X.env:=by rfl):DEx X G H0 (.Call (.Name "len" p') [e] [] pos) (d5 bLen F) :=
 zna zh7 z4i D.g D.m u9 I (by decide) (by decide) J rfl
@[simp] noncomputable def bInt:k7->k8 | [.int i]=>some (.int i) | [.bl k]=>some (.int (if k then 1 else 0)) | _=>none
def z4j:ug X G H0 (λxs H Q=>(∃i,xs=[.int i]/\Q (.int i) H)\/∃k,xs=[.bl k]/\Q (.int (if k then 1 else 0)) H) bInt:=by
 intro W env σ H vs ds d Q ok r e k;unfold bInt at e;split at e
 ·cases e
  obtain⟨v,rfl,D⟩:=qt r;have r:=D;exact .inl ⟨_,by rw[r.int_],k _ H Step.refl ok (.int _)⟩
 ·cases e
  obtain⟨v,rfl,D⟩:=qt r;have r:=D;exact .inr ⟨_,by rw[r.bl_],k _ H Step.refl ok (.int _)⟩
 ·cases e
def zuk:bootBuiltins "int" = some (.type "int"):=by decide +kernel
def z03(I:DAx X G H0 [e] F)(D:Bn X "int":=by walk_at "b")(J:starEach [e] X.env=(false,eval e X.env)::starEach [] X.env:=by rfl):DEx X G H0 (.Call (.Name "int" p') [e] [] pos) (d5 bInt F) :=
 zro zt6 z4j D.g D.m zuk I (by decide) (by decide) J rfl
@[simp] noncomputable def bMax:k7->k8 | [.int i,.int j]=>some (.int (if j > i then j else i)) | _=>none
def z4k:ug X G H0 (λxs H Q=>∃i j,xs=[.int i,.int j]/\Q (.int (if j > i then j else i)) H) bMax:=by
 intro W env σ H vs ds d Q ok r e k;unfold bMax at e;split at e
 ·cases e
  obtain⟨v,J,rfl,D,I⟩:=z6o r;have r:=D;exact⟨_,_,by rw[r.int_,I.int_],k _ H Step.refl ok (.int _)⟩
 ·cases e
def zzh(J:DAx X G H0 [a,b] F)(R:X.calm=true:=by rfl)(I:Bn X "max":=by walk_at "b")(S:starEach [a,b] X.env=(false,eval a X.env)::starEach [b] X.env:=by rfl)(D:(backTo pos (starEach [b] X.env)).any (·.1)=false:=by rfl):DEx X G H0 (.Call (.Name "max" p') [a,b] [] pos) (d5 bMax F) :=
 zna (zt5 R) z4k I.g I.m boot_max J (by decide) (by decide) S D
def ints?:k7->Option ik
 | []=>some []
 | .int i::r=>(ints? r).map (i::·)
 | _::_=>none
def zlb:∀ {ds:k7} {I:ik},ints? ds=some I->ds=I.map D.int
 | [],I,h=>by cases h;rfl
 | .int i::r,I,h=>by
   unfold ints? at h;cases q:ints? r with
   | none=>rw[q] at h;cases h
   | some ms=>rw[q] at h;cases h;rw[zlb q];rfl
 | .str _::_,_,h=>by cases h
def zul(I:ik):ints? (I.map D.int)=some I:=by
 induction I with
 | nil=>rfl
 | cons n r ih=>show(ints? (r.map D.int)).map (n::·)=_;rw[ih];rfl
def zjz{K:kf}{H:Hp}{O:Addr->Prop}:∀ {I:ik} {vs:k6},Reps K H O (I.map D.int) vs->vs=I.map V.int
 | [],_,h=>by cases h;rfl
 | n::r,_,h=>by cases h with | cons a t=>rw[zjz t,a.int_];rfl
def zo4(U:X.calm=true):oz X (.builtin "sum") (λxs H Q=>∃p,∃D:ik,xs=[.ref p]/\SqL X.K H p (D.map V.int)/\Q (.int D.sum) H):=by
 intro pins s σ H xs us Q I r h;obtain⟨p,D,rfl,Y,q⟩:=h;obtain⟨u,rfl,Z⟩:=vh r;cases Z;obtain⟨its,a,pl,d⟩:=I.list Y;have hi:IntsAre its D:=zs3 a;have R:=pl.isList;obtain⟨xs,J⟩:=hi.allInts.items;rw[J] at R;refine sum_intListG (I.ok.hd U) R λh' tk t' b=>⟨.int D.sum,H,I.kept b,⟨t',?_⟩,q⟩;have c:numsOf its=D:=hi.numsOf;have S:numsOf (intItems xs).toList=D:=by rw[<-J];exact c
 rw[nums_intItems] at S;rw[preSum_eq,jm (by simp),S]
def bSum:k7->k8 | [.lst ds]=>(ints? ds).map λI=>.int I.sum | _=>none
def z4l:ug X G H0 (λxs H Q=>∃p,∃D:ik,xs=[.ref p]/\SqL X.K H p (D.map V.int)/\Q (.int D.sum) H) bSum:=by
 intro W env σ H vs ds d Q ok r e k;unfold bSum at e;split at e
 ·rename_i ds
  cases q:ints? ds with
  | none=>rw[q] at e;cases e
  | some D =>
    rw[q] at e;cases e;obtain⟨v,rfl,I⟩:=qt r;have r:=I;obtain⟨a,us,rfl,h,r⟩:=r.lst_;rw[zlb q] at r;rw[zjz r] at h;exact⟨a,D,rfl,h.sq,k _ H Step.refl ok (.int _)⟩
 ·cases e
def vj(I:DAx X G H0 [e] F)(J:X.calm=true:=by rfl)(D:Bn X "sum":=by walk_at "b")(R:starEach [e] X.env=(false,eval e X.env)::starEach [] X.env:=by rfl):DEx X G H0 (.Call (.Name "sum" p') [e] [] pos) (d5 bSum F) :=
 zna (zo4 J) z4l D.g D.m boot_sum I (by decide) (by decide) R rfl
@[simp] noncomputable def uf:k7->Option k7 | [.lst ds]=>some ds | [.tup ds]=>some ds | _=>none
def z04:zuj X G H0 (λxs H Q=>∃p ys,xs=[.ref p]/\(SqL X.K H p ys\/SqT X.K H p ys)/\∀l,H l=none->Q (.ref l) (upd H l (.lst ys))) uf:=by
 intro W env σ H vs ds V Q ok r e k;unfold uf at e;split at e
 ·cases e
  obtain⟨v,rfl,D⟩:=qt r;have r:=D;obtain⟨a,us,rfl,h,r⟩:=r.lst_;refine⟨a,us,rfl,.inl h.sq,λl I=>?_⟩;obtain⟨h1,h2,J,R,S,U⟩:=um ok r I;exact k l us _ h1 h2 J R S U
 ·cases e
  obtain⟨v,rfl,D⟩:=qt r;have r:=D;obtain⟨a,us,rfl,h,r⟩:=r.tup_;refine⟨a,us,rfl,.inr (SqT.of h),λl I=>?_⟩;obtain⟨h1,h2,J,R,S,U⟩:=um ok r I;exact k l us _ h1 h2 J R S U
 ·cases e
def zta:bootBuiltins "list" = some (.type "list"):=by decide +kernel
def zum(I:DAx X G H0 [e] F)(D:Bn X "list":=by walk_at "b")(J:starEach [e] X.env=(false,eval e X.env)::starEach [] X.env:=by rfl):DFx X G H0 (.Call (.Name "list" p') [e] [] pos) (jw uf F) :=
 zw9 zow z04 D.g D.m zta I (by decide) (by decide) J rfl
end
section
variable {X:Cx} {G:Gd} {H0:Hp} {a b c e:Expr} {es rest:i3} {f g:FE} {F:FA} {p q:FT} {pos p' p1 pos1:Pos} {x:Str}
def rngL(lo hi:Int):ik:=(List.range (hi-lo).toNat).map λ(k:Nat)=>lo+(k:Int)
def z7p(ds:k7):Option k7:=match ds with
 | [.int j]=>if Bnd (-(2 ^ 62)) (2 ^ 20+1) j then some ((rngL 0 j).map D.int) else none
 | _=>none
def zh9{K:kf}{H:Hp}{O:Addr->Prop}:∀(I:ik),Reps K H O (I.map D.int) (I.map V.int)
 | []=>.nil
 | n::r=>.cons (.int n) (zh9 r)
abbrev FO:=DE0->Option (kb×DE0)
def tDO(K:kf)(G:Gd)(H0:Hp)(f:FO):TO:=λσ H Q=>DP K G H0 f (λW env o env'=> ∀W' H',Step W H W' H'->Ok K G H0 W' env' σ H'->Q o H') σ H
structure DOx (X:Cx) (G:Gd) (H0:Hp) (e:Option Expr) (f:FO):Prop where
 out:PO X e (tDO X.K G H0 f)
def PO.imp{X:Cx}{e:Option Expr}{t t':TO}(h:PO X e t)(i:∀σ H Q,t' σ H Q->t σ H Q):PO X e t':=λpins s σ H Q I q=>h pins s σ H Q I (i σ H Q q)
@[simp] noncomputable def fO0:FO:=λe=>some (none,e)
@[simp] noncomputable def fO1(f:FE):FO:=λe=>(f e).bind λr=>match r.1 with | .int i=>some (some i,r.2) | _=>none
def vp  : DOx X G H0 none fO0:=⟨z0s.imp λσ H Q ⟨W,env,o,env',ok,q,k⟩=>by cases q;exact k W H Step.refl ok⟩
def tm(h:DEx X G H0 e f):DOx X G H0 (some e) (fO1 f):=⟨(z0t h.out).imp λσ H Q J=>by
 obtain⟨W,env,o,env',ok,q,k⟩:=J;cases e1:f env with
 | none=>simp[e1] at q
 | some r =>
   obtain⟨d,D⟩:=r;cases d with
   | int i =>
     have q:some (some i,D)=some (o,env'):=by simpa[fO1,e1] using q
     cases q;exact⟨W,env,_,_,ok,e1,λW1 v1 H1 R I p1=>⟨i,p1.int_,k W1 H1 R I⟩⟩
   | _=>simp[e1] at q⟩
def cutD(xs:k7)(lo hi:kb):k7:=(xs.drop (HT.sIx xs.length 0 lo)).take (HT.sIx xs.length xs.length hi-HT.sIx xs.length 0 lo)
def Reps.cut{K:kf}{H:Hp}{O:Addr->Prop}{ds:k7}{vs:k6}(r:Reps K H O ds vs)(lo hi:kb):Reps K H O (cutD ds lo hi) (cutV vs lo hi):=by
 unfold cutD cutV;rw[r.length];exact(r.drop _).take _
@[simp] noncomputable def fSl(f:FE)(l h:FO):FA:=λe=>(f e).bind λr=>(l r.2).bind λD=>(h D.2).bind λI=>match r.1 with | .lst ds=>some (cutD ds D.1 I.1,I.2) | _=>none
def ue{lo hi:Option Expr}{fl S:FO}{sp:Pos}(c:DEx X G H0 a f)(e:DOx X G H0 lo fl)(g:DOx X G H0 hi S) :
  DFx X G H0 (.Subscript a (.Slice lo hi none sp) pos) (fSl f fl S):=⟨(zwz z0u c.out e.out g.out).imp λσ H Q i=>by
 obtain⟨W,env,d,env',ok,q,k⟩:=i;cases e1:f env with
 | none=>simp[e1] at q
 | some r =>
   obtain⟨j,D⟩:=r;cases e2:fl D with
   | none=>simp[e1,e2] at q
   | some r2 =>
     obtain⟨Y,I⟩:=r2;cases e3:S I with
     | none=>simp[e1,e2,e3] at q
     | some r3 =>
       obtain⟨Z,J⟩:=r3;cases j with
       | lst ds =>
         have q:some (cutD ds Y Z,J)=some (d,env'):=by simpa[fSl,e1,e2,e3] using q
         cases q;refine⟨W,env,_,_,ok,e1,λW1 v1 H1 m R p1=>⟨W1,D,_,_,R,e2,λn H2 s2 U=>⟨n,I,_,_,U,e3,λo w b V=>?_⟩⟩⟩;obtain⟨l,us,rfl,h,r⟩:=(R.rep (s2.trans b) p1).lst_;refine⟨l,us,rfl,h.sq,λl' p=>?_⟩;obtain⟨h1,h2,s,t,u,v⟩:=um V (r.cut Y Z) p;exact k o l' _ _ (((m.trans s2).trans b).trans h1) h2 s t u v
       | _=>simp[e1,e2,e3] at q⟩
def z6p(K:kf):R2:=λx y H Q=>∃l b xs D,x=.ref l/\y=.ref b/\SqL K H l xs/\SqL K H b D/\xs.length+D.length<=sizeLine/\∀p,H p=none->Q (.ref p) (upd H p (.lst (xs++D)))
theorem z05:OpR X (binaryOp .Add) (z6p X.K):=by
 intro pins s σ H x y v u Q I d e h;obtain⟨l,b,xs,p,rfl,rfl,f,g,t,q⟩:=h;cases d;cases e;obtain⟨its,r,⟨⟨cls,dd,data,sl⟩,n,Z,i,S,j⟩,z⟩:=I.list f;obtain⟨D,a,⟨⟨c,k,data2,U⟩,m,J,V,R,Y⟩,w⟩:=I.list g;subst i j V Y S R;have A:=r.length;have o:=a.length;refine concat_meets ⟨_,Z,rfl⟩ ⟨_,J,rfl⟩ noFill_list_add seq_list_add PySem.F.slot_list_add PySem.F.entry_list_add (PySem.F.args_list_add_2 _ _) (list_addW l b its.toArray D.toArray n m none none sl U (by simp;lia)) ⟨Z,J,?_⟩;have ea:its.toArray++D.toArray=(its++D).toArray:=by simp
 rw[ea];exact⟨.ref _,_,I.lnew (t':=s.toks) (r.append a) (by rw[ao];lia),rfl,q _ I.fresh⟩
@[simp] noncomputable def fCat(f g:FE):FA:=λe=>(f e).bind λr=>(g r.2).bind λq=>match r.1,q.1 with | .lst ds,.lst es=>if Few (ds.length+es.length) then some (ds++es,q.2) else none | _,_=>none
def mh(Y:DEx X G H0 a f)(Z:DEx X G H0 b g):DFx X G H0 (.BinOp a .Add b pos) (fCat f g):=⟨(z0i z05 Y.out Z.out).imp λσ H Q c=>by
 obtain⟨W,env,d,env',ok,q,k⟩:=c;cases e1:f env with
 | none=>simp[e1] at q
 | some r =>
   obtain⟨e,D⟩:=r;cases e2:g D with
   | none=>simp[e1,e2] at q
   | some r2 =>
     obtain⟨i,I⟩:=r2;cases e with
     | lst ds =>
       cases i with
       | lst es =>
         by_cases R:Few (ds.length+es.length)
         ·have q:some (ds++es,I)=some (d,env'):=by simpa only[fCat,e1,e2,ac,if_pos R] using q
          cases q;refine⟨W,env,_,_,ok,e1,λW1 v1 H1 j J p1=>⟨W1,D,_,_,J,e2,λm v2 H2 s2 S p2=>?_⟩⟩;obtain⟨l,us,rfl,h,r⟩:=(J.rep s2 p1).lst_;obtain⟨l',U,rfl,h',V⟩:=p2.lst_;refine⟨l,l',us,U,rfl,rfl,h.sq,h'.sq,?_,λn o=>?_⟩
          ·rw[<-r.length,<-V.length];exact de R (by rw[sizeLine_eq];decide)
          ·obtain⟨h1,h2,p,s,t,u⟩:=um S (r.append V) o
           exact k m n _ _ ((j.trans s2).trans h1) h2 p s t u
         ·simp only[fCat,e1,e2,ac,if_neg R] at q;cases q
       | _=>simp[e1,e2] at q
     | _=>simp[e1,e2] at q⟩
@[simp] noncomputable def i9(i:Nat):FE:=λe=>match e[i]? with
 | some (some (.ow ds))=>some (.int ds.length,e)
 | some (some (.sh (.lst ds)))=>some (.int ds.length,e)
 | some (some (.sh (.tup ds)))=>some (.int ds.length,e)
 | _=>none
def kz{Nn Cn:g7}{i:Nat}(an:Ats Nn Cn X)(R:Bn X "len":=by walk_at "b")(J:Nn[i]?=some x:=by rfl)(S:starEach [.Name x p1] X.env=(false,eval (.Name x p1) X.env)::starEach [] X.env:=by rfl):DEx X G H0 (.Call (.Name "len" p') [.Name x p1] [] pos) (i9 i) :=
 ⟨(x0 zh7 R.g R.m u9 (mw ((an.a J).pe) pk S) (by decide) (by decide) S rfl).imp λσ H Q U=>by
  obtain⟨W,env,d,env',ok,q,k⟩:=U;unfold i9 at q;split at q
  ·rename_i ds D
   cases q;obtain⟨v,I,l,vs,rfl,Y,V,r⟩:=ok.slot i _ D;exact⟨_,I,l,vs,rfl,.inl (.inl (.inl V)),by rw[<-r.length];exact k W _ H Step.refl ok (.int _)⟩
  ·rename_i ds D
   cases q;obtain⟨v,I,r⟩:=ok.slot i _ D;obtain⟨l,us,rfl,h,r⟩:=Rep.lst_ r;exact⟨_,I,l,us,rfl,.inl h.sq,by rw[<-r.length];exact k W _ H Step.refl ok (.int _)⟩
  ·rename_i ds D
   cases q;obtain⟨v,I,r⟩:=ok.slot i _ D;obtain⟨l,us,rfl,h,r⟩:=Rep.tup_ r;exact⟨_,I,l,us,rfl,.inr (SqT.of h),by rw[<-r.length];exact k W _ H Step.refl ok (.int _)⟩
  ·cases q⟩
@[simp] noncomputable def ixSl:D->Option la->k8
 | .int k,some (some (.ow ds))=>atI ds k
 | .int k,some (some (.sh (.lst ds)))=>atI ds k
 | .int k,some (some (.sh (.tup ds)))=>atI ds k
 | _,_=>none
@[simp] noncomputable def fIxV(i:Nat)(g:FE):FE:=λe=>match e[i]? with
 | some (some _)=>(g e).bind λr=>(ixSl r.1 r.2[i]?).map λd=>(d,r.2)
 | _=>none
def eh{Nn Cn:g7}{i:Nat}(j:DEx X G H0 b g)(an:Ats Nn Cn X)(m:uv b:=by intro _ _;rfl)(Y:Nn[i]?=some x:=by rfl):DEx X G H0 (.Subscript (.Name x p1) b pos) (fIxV i g) :=
 ⟨(xf zy9 ((an.a Y).pe) j.out m).imp λσ H Q n=>by
  obtain⟨W,env,d,env',ok,q,k⟩:=n;unfold fIxV at q;split at q;case h_2=>cases q
  rename_i p Z;obtain⟨v,V,_⟩:=ok.slot i _ Z;cases e1:g env with
  | none=>rw[e1] at q;cases q
  | some r =>
    obtain⟨e,J⟩:=r;rw[e1,ac] at q;cases e3:ixSl e J[i]? with
    | none=>rw[e3] at q;cases q
    | some d' =>
      rw[e3] at q;cases q;refine⟨v,V,W,env,e,_,ok,e1,λW1 v1 H1 c D p1=>?_⟩;unfold ixSl at e3;split at e3
      ·rename_i kk ds R
       obtain⟨f,I,l,vs,rfl,s,o,r⟩:=D.slot i _ R;rw[V] at I;cases I;obtain⟨u,S,U⟩:=xy r e3;exact .inl ⟨l,vs,kk,u,rfl,p1.int_,.inl (.inl o),S,k W1 _ H1 c D U⟩
      ·rename_i kk ds R
       obtain⟨f,I,r⟩:=D.slot i _ R;rw[V] at I;cases I;obtain⟨l,us,rfl,h,r⟩:=Rep.lst_ r;obtain⟨u,S,U⟩:=xy r e3;exact .inl ⟨l,us,kk,u,rfl,p1.int_,h.sq,S,k W1 _ H1 c D U⟩
      ·rename_i kk ds R
       obtain⟨f,I,r⟩:=D.slot i _ R;rw[V] at I;cases I;obtain⟨l,us,rfl,h,r⟩:=Rep.tup_ r;obtain⟨u,S,U⟩:=xy r e3;exact .inr (.inl ⟨l,us,kk,u,rfl,p1.int_,SqT.of h,S,k W1 _ H1 c D U⟩)
      ·cases e3⟩
end
section
variable {X:Cx} {G:Gd} {H0:Hp} {a b c e:Expr} {es rest:i3} {f g:FE} {F:FA} {p q:FT} {pos p' p1 pos1:Pos} {x:Str}
@[simp] noncomputable def tyD:D->String | .non=>"NoneType" | .bl _=>"bool" | .int _=>"int" | .str _=>"str" | .tup _=>"tuple" | .lst _=>"list" | .dct _ _=>"dict" | .exc _=>"exc"
@[simp] noncomputable def isiT(t T:String):Bool:=t==T || (t=="bool" && T=="int")
def zun(T:String):Bool:=T=="int" || T=="bool" || T=="str" || T=="tuple" || T=="list"
def zxa(K:kf)(d:D)(T:String)(h:zun T=true)(I:∀a,d≠.exc a):PySem.W.kitOne K (.type (tyD d)) (.type T)=some (isiT (tyD d) T):=by
 simp only[zun,Bool.or_eq_true,beq_iff_eq] at h;rcases h with(((rfl | rfl) | rfl) | rfl) | rfl <;> cases d <;> first | rfl | exact absurd rfl (I _)
def zxb:oz X (.builtin "isinstance") (λxs H Q=>∃x T t b,xs=[x,.ty T]/\(TyOf X.K H x t\/(t=.type "list"/\∃a us,x=.ref a/\SqL X.K H a us))/\PySem.W.kitOne X.K t (.type T)=some b/\Q (.bl b) H):=by
 intro pins s σ H xs us Q I r h;obtain⟨x,T,t,b,rfl,D,e,q⟩:=h;obtain⟨u,R,rfl,J,rt⟩:=z0m r;cases (show R=Value.type T from rt);rcases D with D | ⟨rfl,a,ws,rfl,hq⟩
 ·exact zt9 I J D e λtk=>⟨.bl b,H,I.tok tk,rfl,q⟩
 ·cases (show u=Value.ref a from J)
  obtain⟨its,_,⟨o,n,h1,h2,_⟩,_⟩:=I.list hq;exact d8 oa I.kIn ⟨o,h1,h2⟩ e (λz=>nomatch z) λtk=>⟨.bl b,H,I.tok tk,rfl,q⟩
def z4m{K:kf}{H:Hp}{O:Addr->Prop}{d:D}{v:V}(r:Rep K H O d v)(I:∀a,d≠.exc a):TyOf K H v (.type (tyD d))\/(Value.type (tyD d)=.type "list"/\∃a us,v=.ref a/\SqL K H a us):=by
 cases r with
 | non=>exact .inl .non
 | bl b=>exact .inl (.bl b)
 | int i=>exact .inl (.int i)
 | str s=>exact .inl (.str s)
 | tup h _=>exact .inl (.tup h)
 | lst o h _=>exact .inr ⟨rfl,_,_,rfl,.inl h⟩
 | klst h _=>exact .inr ⟨rfl,_,_,rfl,.inr h⟩
 | dct h _=>exact .inl (.dK h)
 | exc a=>exact absurd rfl (I a)
def zrp:bootBuiltins "isinstance" = some (.builtin "isinstance"):=by decide +kernel
@[simp] noncomputable def fIsi(T:String)(f:FE):FE:=λe=>(f e).bind λr=>match r.1 with | .exc _=>none | d=>some (.bl (isiT (tyD d) T),r.2)
structure Ty (x:Str) (T:String):Prop where
 b:bootBuiltins x=some (.type T)
 k:zun T=true
 d:(x==("__debug__" : Str))=false
 n:x ≠ "__name__"
def ul{T:String}(D:Ty x T)(c:DEx X G H0 a f)(V:Bn X "isinstance":=by walk_at "b")(I:Gl X x:=by walk_at "g")(J:X.mg x=none:=by assumption)(Y:starEach [a,.Name x p1] X.env=(false,eval a X.env)::starEach [.Name x p1] X.env:=by rfl)(R:starEach [.Name x p1] X.env=(false,eval (.Name x p1) X.env)::starEach [] X.env:=by rfl)(S:(backTo pos (starEach [.Name x p1] X.env)).any (·.1)=false:=by rfl) :
  DEx X G H0 (.Call (.Name "isinstance" p') [a,.Name x p1] [] pos) (fIsi T f) :=
 ⟨(x0 zxb V.g V.m zrp (mw c.out (mw (ztu (v:=.ty T) I J D.b rfl D.n D.d) pk R) Y) (by decide) (by decide) Y S).imp λσ H Q e=>by
  obtain⟨W,env,d,env',ok,q,k⟩:=e;cases e1:f env with
  | none=>simp[e1] at q
  | some r =>
    unfold fIsi at q;rw[e1,ac] at q;split at q
    ·cases q
    ·rename_i Z
     cases q;exact⟨W,env,_,_,ok,e1,λW1 v1 H1 h U p1=>⟨v1,T,_,_,rfl,z4m p1 Z,zxa X.K _ T D.k Z,k W1 _ H1 h U (.bl _)⟩⟩⟩
abbrev FI:=DE0->Option (k7×DE0)
structure Walk (K:kf) (G:Gd) (J:It) (W:Addr->Prop) (H:Hp) (ds:k7):Prop where
 go:∀W' H' (i:Nat) d,Step W H W' H'->ds[i]?=some d->J.go i H'/\∀x H'',J.yld i H' x H''->H''=H'/\Rep K H' (Ow G W') d x
 stop:∀W' H',Step W H W' H'->J.stop ds.length H'
def tDI(K:kf)(G:Gd)(H0:Hp)(f:FI):TI:=λσ H R=>DP K G H0 f (λW env ds env' =>
 ∀W' J H',Step W H W' H'->Ok K G H0 W' env' σ H'->Walk K G J W' H' ds->R J H') σ H
structure DIC (Cm:Cx->Prop) (X:Cx) (G:Gd) (H0:Hp) (tg:Expr) (e:Expr) (f:FI):Prop where
 out:PIC Cm X tg e (tDI X.K G H0 f)
abbrev DIx:=DIC λX=>X.calm=true
def PI.imp{X:Cx}{tg e:Expr}{t t':TI}(h:PI X tg e t)(i:∀σ H Q,t' σ H Q->t σ H Q):PI X tg e t':=λpins s σ H Q I q=>h pins s σ H Q I (i σ H Q q)
def PIC.imp{Cm:Cx->Prop}{X:Cx}{tg e:Expr}{t t':TI}(h:PIC Cm X tg e t)(i:∀σ H Q,t' σ H Q->t σ H Q):PIC Cm X tg e t':=λpins s σ H Q I q=>h pins s σ H Q I (i σ H Q q)
def zo7{W:Addr->Prop}{H:Hp}{a:Addr}{vs:k6}{ds:k7}{env:DE0}{σ:St}(ok:Ok X.K G H0 W env σ H)(h:LsOk X.K H (Ow G W) a vs)(r:Reps X.K H (Ow G W) ds vs):Walk X.K G (Itl X.K a) W H ds where
 go:=λW' H' i d st e=>by
  obtain⟨v,I,J⟩:=(ok.reps st r).get e;have h':=(ok.lsstep st h).sq;exact⟨⟨vs,v,h',I⟩,λx H'' ⟨e2,y⟩=>⟨e2,by have:=y vs h';rw[I] at this;cases this;exact J⟩⟩
 stop:=λW' H' st=>⟨vs,(ok.lsstep st h).sq,by rw[r.length];exact b9 _⟩
def zxc{W:Addr->Prop}{H:Hp}{a:Addr}{vs:k6}{ds:k7}{env:DE0}{σ:St}(ok:Ok X.K G H0 W env σ H)(h:H a=some (.tup vs))(r:Reps X.K H (Ow G W) ds vs):Walk X.K G (Itt X.K a) W H ds where
 go:=λW' H' i d st e=>by
  obtain⟨v,I,J⟩:=(ok.reps st r).get e;have h':=ok.tstep st a vs h;exact⟨⟨vs,v,SqT.of h',I⟩,λx H'' ⟨e2,y⟩=>⟨e2,by have:=y vs (SqT.of h');rw[I] at this;cases this;exact J⟩⟩
 stop:=λW' H' st=>⟨vs,SqT.of (ok.tstep st a vs h),by rw[r.length];exact b9 _⟩
def zxd{W:Addr->Prop}{H:Hp}{lo:Int}{n:Nat}:Walk X.K G (Itr lo n) W H ((List.range n).map λ(k:Nat)=>D.int (lo+(k:Int))) where
 go:=λW' H' i d st e=>by
  rw[cb] at e;have hi:i<n:=by
   have:=(ai.mp (show((List.range n).map λ(k:Nat)=>D.int (lo+(k:Int)))[i]?=some d by rw[cb];exact e)).1;simpa using this
  rw[List.getElem?_range hi] at e;cases e;exact⟨hi,λx H'' ⟨e2,y⟩=>⟨e2,by rw[y];exact .int _⟩⟩
 stop:=λW' H' st=>by rw[ah,kh];exact b9 _
@[simp] noncomputable def fiS(f:FE):FI:=λe=>(f e).bind λr=>match r.1 with | .lst ds=>some (ds,r.2) | .tup ds=>some (ds,r.2) | _=>none
def PI.or{tg:Expr}{t t':TI}(h:PI X tg e t)(h':PI X tg e t'):PI X tg e (λσ H R=>t σ H R\/t' σ H R):=λpins s σ H R I q=>q.elim (h pins s σ H R I) (h' pins s σ H R I)
def kj{tg:Expr}(h:DEx X G H0 e f):DIx X G H0 tg e (fiS f):=⟨((zt0 h.out).or (z29 h.out)).imp λσ H R S=>by
 obtain⟨W,env,ds,env',ok,q,k⟩:=S;cases e1:f env with
 | none=>simp[e1] at q
 | some r =>
   obtain⟨d,I⟩:=r;cases d with
   | lst ds' =>
     have q:some (ds',I)=some (ds,env'):=by simpa[fiS,e1] using q
     cases q;refine .inl ⟨W,env,_,_,ok,e1,λW1 v1 H1 J D p1=>?_⟩;obtain⟨a,vs,rfl,h.out,r⟩:=p1.lst_;exact⟨a,rfl,⟨vs,h.out.sq⟩,k W1 _ H1 J D (zo7 D h.out r)⟩
   | tup ds' =>
     have q:some (ds',I)=some (ds,env'):=by simpa[fiS,e1] using q
     cases q;refine .inr ⟨W,env,_,_,ok,e1,λW1 v1 H1 J D p1=>?_⟩;obtain⟨a,vs,rfl,h.out,r⟩:=p1.tup_;exact⟨a,rfl,⟨vs,SqT.of h.out⟩,k W1 _ H1 J D (zxc D h.out r)⟩
   | _=>simp[e1] at q⟩
def rngD(lo:Int)(n:Nat):k7:=(List.range n).map λ(k:Nat)=>D.int (lo+(k:Int))
def iR1(ds:k7):Option k7:=match ds with | [.int j]=>if Bnd (-(2 ^ 62)) (2 ^ 62) j then some (rngD 0 j.toNat) else none | _=>none
def zmp{Cm:Cx->Prop}{tg:Expr}(hT:∀(it:Addr) (lo:Int) (n:Nat),vi Cm X.prog X.w X.K tg (Itr lo n) [it] it (λi h=>IsRangeIter h it (lo+(i:Nat)*1) ((n:Int)-(i:Nat)) 1))(U:DAx X G H0 [a] F)(J:Bn X "range":=by walk_at "b")(V:starEach [a] X.env=[(false,eval a X.env)]:=by rfl):DIC Cm X G H0 tg (.Call (.Name "range" p') [a] [] pos) (jw iR1 F) :=
 ⟨PIC.imp (zsy hT J.g J.m U.out V) λσ H R Y=>by
  obtain⟨W,env,ds,env',ok,q,k⟩:=Y;cases e1:F env with
  | none=>simp[e1] at q
  | some z =>
    obtain⟨as,D⟩:=z;cases e2:iR1 as with
    | none=>simp[e1,e2] at q
    | some d' =>
      have q:some (d',D)=some (ds,env'):=by simpa[jw,e1,e2] using q
      cases q;refine⟨W,env,as,_,ok,e1,λW1 vs H1 Z I p1=>?_⟩;unfold iR1 at e2;split at e2
      ·rename_i j
       split at e2
       ·rename_i S
        cases e2;obtain⟨v,rfl,b⟩:=qt p1;cases b;exact⟨j,rfl,S.1,S.2,k W1 _ H1 Z I zxd⟩
       ·cases e2
      ·cases e2⟩
def wd{tg:Expr}(D:DAx X G H0 [a] F)(I:Bn X "range":=by walk_at "b")(J:starEach [a] X.env=[(false,eval a X.env)]:=by rfl):DIx X G H0 tg (.Call (.Name "range" p') [a] [] pos) (jw iR1 F):=zmp (λit lo n=>ziw it lo n) D I J
def capt:la->la | some (.sh d)=>some (.sh d) | _=>none
def m4(tt:FT)(te:FE)(base:DE0):k7->Option k7
 | []=>some []
 | d::r=>(tt (some (.sh d)::base)).bind λb=>if b.1=true then(te b.2).bind λv=>(m4 tt te base r).map (v.1::·) else m4 tt te base r
def iz(fi:FI)(ix:ic)(tt:FT)(te:FE):FA:=λe=>(fi e).bind λr=>if Few r.1.length then(m4 tt te (ix.map λj=>capt (r.2.getD j none)) r.1).map λds=>(ds,r.2) else none
@[simp] noncomputable def fYes:FT:=λe=>some (true,e)
def tDxT(K:kf)(f:FT):TT:=λσ H Q=>∃G H0,tDT K G H0 f σ H Q
def tDx(K:kf)(f:FE):TE:=λσ H Q=>∃G H0,tD K G H0 f σ H Q
def NoW:Addr->Prop:=λ_=>False
def znb{W:Addr->Prop}{env:DE0}{σ:St}{H:Hp}{ix:ic}{d:D}{v:V}(ok:Ok X.K G H0 W env σ H)(r:Rep X.K H (Ow G W) d v) :
  Ok X.K (gd λa=>Ow G W a\/H a=none) H NoW (some (.sh d)::ix.map λj=>capt (env.getD j none)) (some v::ix.map λj=>σ.getD j none) H:=by
 have R:∀ {d:D} {v:V},Rep X.K H (Ow G W) d v->Rep X.K H (Ow (gd λa=>Ow G W a\/H a=none) NoW) d v:=λr=>r.mono (λ_ _ h=>h) λa us o h=>⟨⟨.inl o,λz=>z⟩,h⟩;have I:∀(i:Nat) (s:Sl),(some (Sl.sh d)::ix.map λj=>capt (env.getD j none))[i]?=some (some s)->∃d',s=.sh d':=λi s z=>by
  cases i with
  | zero=>exact⟨d,by simpa using z.symm⟩
  | succ i =>
    simp only[af,cb] at z;cases q:ix[i]? with
    | none=>rw[q] at z;cases z
    | some j =>
      rw[q] at z;have z:capt (env.getD j none)=some s:=bu z;unfold capt at z;split at z
      ·cases z;exact⟨_,rfl⟩
      ·cases z
 refine⟨Same.refl _,λa z=>.inr z,λl z=>z.elim,λi s e=>?_,λi j S s2 v1 v2 a J _ _ _ o _=>by obtain⟨d',rfl⟩:=I i S J;exact o.elim,by simp⟩;cases i with
 | zero =>
   cases e;exact⟨v,rfl,R r⟩
 | succ i =>
   simp only[af,cb] at e ⊢;cases q:ix[i]? with
   | none=>rw[q] at e;cases e
   | some j =>
     rw[q] at e;have e:capt (env.getD j none)=some s:=bu e;rw[av] at e;cases q2:env[j]? with
     | none=>rw[q2] at e;cases e
     | some o =>
       rw[q2] at e;have e:capt o=some s:=e;unfold capt at e;split at e
       ·rename_i d'
        cases e;obtain⟨u,J,U⟩:=ok.slot j _ q2;exact⟨u,by simp only[aj];rw[av,J];rfl,R U⟩
       ·cases e
inductive CInv (K:kf) (O:Addr->Prop) (H1:Hp) (ds d:k7) (f:k7->Option k7) (i m:Nat) (H':Hp) (ys:k6):Prop
 | mk (rest done:k7) (hm:m=ds.length-i) (hi:i<=ds.length) (sm:Same H1 H') (rp:Reps K H' O done ys) (hd:done.length<=i) (ec:f (ds.drop i)=some rest) (hz:d=done++rest):CInv K O H1 ds d f i m H' ys
def zlc:2 ^ 20<=sizeLine:=by rw[sizeLine_eq];decide
def zrq{fi:FI}{ix:ic}{tt:FT}{te:FE}:∀σ H Q,tDF X.K G H0 (iz fi ix tt te) σ H Q->xb (tDI X.K G H0 fi) ix (tDxT X.K tt) (tDx X.K te) σ H Q:=λσ H Q z=>by
 obtain⟨W,env,d,env',ok,q,k⟩:=z;obtain⟨⟨ds,Z⟩,E,q⟩:=dq.mp q;by_cases n:Few ds.length;case neg=>cases (if_neg n).symm.trans q
 obtain⟨A,F,q⟩:=ij.mp ((if_pos n).symm.trans q);cases q;refine⟨W,env,ds,_,ok,E,λW1 J H1 L s B=>⟨CInv X.K (Ow G W1) H1 ds d (m4 tt te (ix.map λj=>capt (Z.getD j none))),⟨ds.length,d,[],rfl,gz _,Same.refl _,.nil,b9 _,F,rfl⟩,λi m H' ys z=>?_⟩⟩;obtain⟨rest,S,M,hi,sm,c,p,R,t⟩:=z;subst M;have D:=s.same sm;by_cases I:i<ds.length
 ·rw[gf I] at R
  obtain⟨⟨b,U⟩,N,R⟩:=dq.mp R;obtain⟨O,P⟩:=B.go W1 H' i ds[i] (Step.same sm) (aq I);refine .inr ⟨O,λx u y=>?_⟩;obtain⟨e,T⟩:=P x u y;subst e;refine⟨_,_,NoW,_,b,U,znb (ix:=ix) D T,N,λW2 H2 s2 V=>?_⟩;have r:ds.length-(i+1)<ds.length-i:=l7 _ _ I;cases b with
  | false=>exact⟨_,r,rest,S,rfl,I,sm.trans V.stay,D.reps (Step.same V.stay) c,oh p,R,t⟩
  | true =>
    obtain⟨⟨C,f⟩,e4,R⟩:=dq.mp R;obtain⟨Y,e5,e6⟩:=ij.mp R;refine⟨_,_,W2,U,C,f,V,e4,λW3 v H3 s3 g r3=>⟨?_,_,r,Y,S++[C],rfl,I,sm.trans g.stay,(D.reps (Step.same g.stay) c).append (.cons (r3.mono (λ_ _ h=>h) λa us o h=>⟨?_,h⟩) .nil),?_,e5,?_⟩⟩
    ·rw[<-c.length];exact bh (Nat.lt_of_le_of_lt p (bh I n)) zlc
    ·rcases o.1 with z | z
     ·exact z
     ·exact⟨D.good a (D.stay.free z),λw=>by obtain⟨_,us,q⟩:=D.wl a w;rw[z] at q;cases q⟩
    ·rw[ao];exact Nat.succ_le_succ p
    ·rw[t,<-e6,df];rfl
 ·cases sg hi (kq I)
  rw[kt] at R;cases R;refine .inl ⟨B.stop W1 H' (Step.same sm),by rw[<-c.length];exact de p (de n zlc),λl r=>?_⟩;obtain⟨h1,h2,h3,h4,h5,h6⟩:=um D c r;rw[t,dh] at k;exact k W1 l _ _ ((L.trans (Step.same sm)).trans h1) h2 h3 h4 h5 h6
def zb{D:Cx}(R:D.K=X.K):PIfs D [] (tDxT X.K fYes):=λpins s σ H Q I J=>by
 obtain⟨G,H0,W,env,b,env',ok,e,k⟩:=J;cases e;exact zw3 pins s σ H Q I (k W H Step.refl ok)
def if_x{D:Cx}{tt:FT}(J:D.K=X.K)(h:∀G H0,DTx D G H0 c tt):PIfs D [c] (tDxT X.K tt):=λpins s σ H Q I ⟨G,H0,q⟩=>zw4 (h G H0).out pins s σ H Q I (by rw[J];exact q)
def el_x{D:Cx}{te:FE}(J:D.K=X.K)(h:∀G H0,DEx D G H0 e te):PE D e (tDx X.K te):=λpins s σ H Q I ⟨G,H0,q⟩=>(h G H0).out pins s σ H Q I (by rw[J];exact q)
def uu{Nn Cn:g7}{ix:ic}{sc:Scope}{px:Pos}{fi:FI}{te:FE}(an:Ats Nn Cn X)(hi:DIx X G H0 (.Name x px) a fi)(I:∀cl C s₂ H₂ fp G H0,Ats (x::(subN Nn ix)) (subN Nn ix) (je X x (subN Nn ix) sc cl C s₂ H₂ fp)->DEx (je X x (subN Nn ix) sc cl C s₂ H₂ fp) G H0 e te)(D:p8 Nn Cn ix x sc=true:=by decide +kernel)(J:X.calm=true:=by rfl)(R:∀v,foldedSetIterable a X.env v=pure v:=by intro _;rfl) :
  DFx X G H0 (.ListComp e [⟨.Name x px,a,[],0⟩] sc pos) (iz fi ix fYes te) :=
 ⟨(zqg (vq an D) (λ_ _ _ _ _ _ _ _ _=>J) hi.out (λcl C s₂ H₂ fp _=>zb (X:=X) rfl) (λcl C s₂ H₂ fp _=>el_x (X:=X) rfl (λG H0=>I cl C s₂ H₂ fp G H0 (tw D))) R).imp zrq⟩
def zo8{Nn Cn:g7}{ix:ic}{sc:Scope}{px:Pos}{fi:FI}{te:FE}{tt:FT}{R:Expr}(an:Ats Nn Cn X)(hi:DIx X G H0 (.Name x px) a fi)(I:∀cl C s₂ H₂ fp G H0,Ats (x::(subN Nn ix)) (subN Nn ix) (je X x (subN Nn ix) sc cl C s₂ H₂ fp)->DTx (je X x (subN Nn ix) sc cl C s₂ H₂ fp) G H0 R tt)(J:∀cl C s₂ H₂ fp G H0,Ats (x::(subN Nn ix)) (subN Nn ix) (je X x (subN Nn ix) sc cl C s₂ H₂ fp)->DEx (je X x (subN Nn ix) sc cl C s₂ H₂ fp) G H0 e te)(D:p8 Nn Cn ix x sc=true:=by decide +kernel)(S:X.calm=true:=by rfl)(U:∀v,foldedSetIterable a X.env v=pure v:=by intro _;rfl) :
  DFx X G H0 (.ListComp e [⟨.Name x px,a,[R],0⟩] sc pos) (iz fi ix tt te) :=
 ⟨(zqg (vq an D) (λ_ _ _ _ _ _ _ _ _=>S) hi.out (λcl C s₂ H₂ fp _=>if_x (X:=X) rfl (λG H0=>I cl C s₂ H₂ fp G H0 (tw D))) (λcl C s₂ H₂ fp _=>el_x (X:=X) rfl (λG H0=>J cl C s₂ H₂ fp G H0 (tw D))) U).imp zrq⟩
end
def Here(h h':Heap):Prop:=∀b o,h.get? b=some o->∃o',h'.get? b=some o'
def Here.trans{a b c:Heap}(x:Here a b)(y:Here b c):Here a c:=λp o q=>let ⟨o',e⟩:=x p o q;y p o' e
def znc{a:Addr}{f:Obj->Obj}(D:∀o,h.get? a=some o->(h.update a f).get? a=some (f o)):Here h (h.update a f):=λb o q=>by
 by_cases e:a=b
 ·subst e;exact⟨_,D o q⟩
 ·exact⟨o,(cj _ _ e).trans q⟩
structure XOk (B:Heap) (l:i0) (e:Addr) (cls fl:Value) (h:Heap):Prop where
 stay:B.StaysIn h
 new:B.get? e=none
 fr:h.FunFrames B l
 tr:∃oe vs T oT ts,h.get? e=some oe/\oe.cls=cls/\oe.dict=none/\oe.data=.fields vs/\vs[1]?=some (.ref T)/\vs[2]?=some .none/\B.get? T=none/\T≠e/\h.get? T=some oT/\oT.data=.fields ts/\ts[3]?=some fl
def zup(o:Obj)(f:k4->k4):(o.mapFields f).dict=o.dict:=by obtain⟨c,d,D,sl⟩:=o;cases D <;> rfl
variable{env:Env}{e L:Addr}{M:Model}{A:Around}{E:Value->Shared->Prop}{B:Heap}{outer:i0}
def zzi{D:Obj}{vs:k4}{g:Value}{nx:Bool}(p:A.frames=some (env::outer))(U:s.heap.FunFrames B (env::outer))(r:env.frame=some L)(V:s.heap.get? e=some D)(gd:D.dict=none)(I:D.data=.fields vs)(i:1<vs.size)(t:vs[2]?=some .none)(k1:B.StaysIn s.heap)(k2:B.get? e=none)(h:∀h',XOk B (env::outer) e D.cls (rawInt L) h'->s.heap.UpToSlots h'->Here s.heap h'->Q () { s with heap:=h' }) :
  wpAny M A (do let a <-frameOf env;let pl <-entryPlaceOf L nx;let b <-EntryCells.newEntry g a .none (rawInt L) .none pl;setField (.ref e) 1 b) Q E s:=by
 have Y:e∉(env::outer).filterMap (·.frame):=λz=>by
  obtain⟨_,o,j,u⟩:=U.mem z;rw[V] at j;cases j;exact u vs I
 refine wpAny_bind (wpAny_frameOf_fun p U r λh1 J=>?_);refine wpAny_bind (wpAny_entryPlaceOf λpl R=>?_);refine wpAny_bind (wpAny_newObj_type ?_ (R.sizeOk5 _ _ _ _ _));have k:h1.get? e=some D:=(J.2.1 e Y).trans V;have l:B.StaysIn h1:=λb o q=>(J.2.1 b λz=>by rw[(U.mem z).1] at q;cases q).trans (k1 b o q);generalize S:({ cls:=.type "traceback",dict:=none,data:=.fields ([g,.ref L,.none,rawInt L,.none]++(if pl.isEmpty then List.replicate 6 Value.none else pl)).toArray }:Obj)=ob;have Z:∃ts,ob.data=.fields ts/\ts[3]?=some (rawInt L):=by subst S;exact⟨_,rfl,by first | (simp;done) | (rcases R with rfl | ⟨_,_,_,_,_,_,_,rfl⟩ <;> simp)⟩
 have c:ob.isFreed=false:=by subst S;rfl
 have d:=au (h:=h1) ob k;have m:h1.objs.size≠e:=lh (bi k);have f:=Obj.data_mapFields I (·.setIfInBounds 1 (Value.ref h1.objs.size));refine wpAny_setField d I i (h _ ?_ ?_ ?_)
 ·refine⟨λb o q=>?_,k2,U.of_keeps λb o q n=>?_,?_⟩
  ·rw[cj _ _ (λz:e=b=>by rw[<-z,k2] at q;cases q)]
   exact au _ (l b o q)
  ·obtain⟨sl,z⟩:=J.2.2 b o q
   refine⟨{ o with slots:=sl },?_,rfl⟩;rw[cj _ _ (λy:e=b=>by rw[<-y,V] at q;cases q;exact n vs I)];exact au _ z
  ·obtain⟨ts,v,w⟩:=Z
   refine⟨_,_,h1.objs.size,ob,ts,fy _ d (Obj.isFreed_of_fields f),Obj.cls_mapFields _ _,(zup _ _).trans gd,f,by simp[i],by rw[Array.getElem?_setIfInBounds_ne (by decide)];exact t,l.fresh,m,?_,v,w⟩;rw[cj _ _ (Ne.symm m)];exact ci h1 c
 ·intro b o q n
  obtain⟨sl,z⟩:=J.2.2 b o q;refine⟨sl,?_⟩;rw[cj _ _ (λy:e=b=>by rw[<-y,V] at q;cases q;exact n vs I)];exact au _ z
 ·intro b o q
  obtain⟨sl,z⟩:=J.2.2 b o q;exact znc (λo q=>fy _ q (by rw[d] at q;cases q;exact Obj.isFreed_of_fields f)) b _ (au _ z)
variable{l:i0}{cls fl:Value}
def zqj(x:XOk B l e cls fl s.heap)(h:∀h',XOk B l e cls .none h'->s.heap.UpToSlots h'->Here s.heap h'->Q () { s with heap:=h' }):wpAny M A (setFlight (.ref e) none) Q E s:=by
 obtain⟨d,vs,T,g,ts,R,Z,gd,S,U,a,V,Y,D,I,c⟩:=x.tr;have sz:3<ts.size:=(j8.mp c).1;unfold setFlight;refine wpAny_bind (wpAny_field R S U ?_);have J:=Obj.data_mapFields I (·.setIfInBounds 3 ((none:Option Addr).elim Value.none λf=>rawInt f));refine wpAny_setField D I sz (h _ ⟨λb o q=>?_,x.new,x.fr.of_keeps λb o q n=>⟨o,?_,rfl⟩,_,vs,T,_,_,(cj _ _ Y).trans R,Z,gd,S,U,a,V,Y,fy _ D (Obj.isFreed_of_fields J),J,by simp[sz]⟩ (λb o q n=>⟨o.slots,?_⟩) (znc λo q=>fy _ q (by rw[D] at q;cases q;exact Obj.isFreed_of_fields J)))
 ·exact(cj _ _ λz=>by rw[<-z,V] at q;cases q).trans (x.stay b o q)
 ·exact(cj _ _ λz=>by rw[<-z,D] at q;cases q;exact n ts I).trans q
 ·exact(cj _ _ λz=>by rw[<-z,D] at q;cases q;exact n ts I).trans q
def z6q(Z:A.frames=some (env::outer))(J:env.frame=some L)(x:XOk B (env::outer) e cls .none s.heap)(h:∀h',XOk B (env::outer) e cls (rawInt L) h'->s.heap.UpToSlots h'->Here s.heap h'->Q () { s with heap:=h' }):wpAny M A (noteFrame (.ref e) env) Q E s:=by
 obtain⟨g,vs,T,i,ts,R,a,gd,S,U,c,d,f,D,I,V⟩:=x.tr;subst a;unfold noteFrame;simp only[J];refine wpAny_bind (wpAny_field R S U ?_);refine wpAny_bind (wpAny_field D I V ?_);refine wpAny_bind (wpAny_setField D I (j8.mp V).1 ?_);have Y:∀b o,s.heap.get? b=some o->(∀vs,o.data≠.fields vs)->(s.heap.update T (Obj.mapFields (·.setIfInBounds 3 Value.none))).get? b=some o:=λb o q n =>
  (cj _ _ λz=>by rw[<-z,D] at q;cases q;exact n ts I).trans q
 refine zzi Z (x.fr.of_keeps λb o q n=>⟨o,Y b o q n,rfl⟩) J ((cj _ _ f).trans R) gd S (j8.mp U).1 c (λb o q=>(cj _ _ λz=>by rw[<-z,d] at q;cases q).trans (x.stay b o q)) x.new λh' y u w=>h h' y (λb o q n=>u b o (Y b o q n) n) (Here.trans (znc λo q=>fy _ q (by rw[D] at q;cases q;exact Obj.isFreed_of_fields (Obj.data_mapFields I _))) w)
def z6r(D:A.frames=some (env::outer))(I:env.frame=some L)(x:XOk B (env::outer) e cls .none s.heap)(h:∀h',XOk B (env::outer) e cls .none h'->s.heap.UpToSlots h'->Here s.heap h'->Q () { s with heap:=h' }):wpAny M A (noteFrame (.ref e) env) (λ_ J=>wpAny M A (setFlight (.ref e) none) Q E J) E s :=
 z6q D I x λh1 R S U=>zqj R λh2 V Y Z=>h h2 V (S.trans Y) (U.trans Z)
def z4n{D:Heap}{args:g8}(R:A.frames=some (env::outer))(S:D.FunFrames B (env::outer))(I:env.frame=some L)(k1:B.StaysIn D)(m:Heap.MadeExcOf D s.heap e cls args)(h:∀h',XOk B (env::outer) e cls .none h'->s.heap.UpToSlots h'->Here s.heap h'->Q () { s with heap:=h' }):wpAny M A (noteFrame (.ref e) env) (λ_ U=>wpAny M A (setFlight (.ref e) none) Q E U) E s:=by
 obtain⟨t,J,_,_⟩:=m.there;have k2:B.get? e=none:=by
  cases q:B.get? e with
  | none=>rfl
  | some o=>have:=k1 e o q;rw[m.new] at this;cases this
 unfold noteFrame;simp only[I];refine wpAny_bind (wpAny_field J rfl (x:=Value.none) rfl ?_);exact zzi R (S.of_keeps λb o q _=>⟨o,m.keeps b o q,rfl⟩) I J rfl rfl (by simp) rfl (λb o q=>m.keeps b o (k1 b o q)) k2 λh1 V Y Z=>zqj V λh2 a c d=>h h2 a (Y.trans c) (Z.trans d)
end L2
namespace L2
open PySem PySem.Spec PyProof.Rows PySem.W
def Cl(K:kf)(c:Str)(C:Addr):Prop:=PySem.W.nsIn K mainGlobals c=some (some (.ref C))
def Fly(P:Program)(w:World)(l:i0)(H:Hp)(s:Shared)(C e:Addr)(H':Hp)(s':Shared):Prop :=
 ∃B,XOk B l e (.ref C) .none s'.heap/\(∀b o,s.heap.get? b=some o->H b=none->b∉frs l->B.get? b=some o)/\HOk P w H' B/\Un (frs l) [] H H' s.heap s'.heap/\s'.os=s.os/\AllBare s'.gens
abbrev CXr(P:Program)(w:World):CXT:=λl H s E e s'=>∃ea C H',e=.ref ea/\Fly P w l H s C ea H' s'/\E (.ref C) none H'
def XS(X:Cx)(pins:kl)(σ:St)(H:Hp)(C e:Addr)(s':Shared):Prop :=
 (∃s H1,Inv X pins σ H1 s/\Fly X.prog X.w X.stack H1 s C e H s')\/∃s args,Inv X pins σ H s/\Heap.MadeExcOf s.heap s'.heap e (.ref C) args/\s'={ s with heap:=s'.heap }
variable{CX:CXT}{P:Program}{w:World}{K:kf}{mg:Str->g9}{base:Heap}{x qual:Str}{st:Stmt}{f:Addr}{fd:FuncData}{N ps:g7}{k:Nat}{sp:Sp}
theorem Fun.okX(F:Fun K x qual st f fd)(S:qe N ps (gg st))(len:∀vs H Q E,sp vs H Q E->vs.length=ps.length)(D:∀(cdv:Value) (A:Around) (outer:i0) (s:Shared) (H:Hp) (vs:k6) (Q:VK) (E:XK),Room k (A.deeper (envOfC qual (gg st) s.heap.objs.size f cdv))->sp vs H Q E ->
   ∃t,PSs (cxOf CX P w K mg base N qual (gg st) f cdv A outer s H E) (lr st) t/\t { nx:=λ_ H'=>Q .non H',rt:=Q } (start N vs) H):FnOk P w K mg base CX (k+1) f fd ps sp:=by
 obtain⟨oc,od,kV,R,Z,an,cdv,ct,osl,rfl,U,I⟩:=F.ex;exact z6g U I S len λA outer s H vs Q E Y J=>D cdv A outer s H vs Q E Y J
theorem Fun.okC(F:Fun K x qual st f fd)(S:qe N ps (gg st))(len:∀vs H Q E,sp vs H Q E->vs.length=ps.length)(D:∀(cdv:Value) (A:Around) (outer:i0) (s:Shared) (H:Hp) (vs:k6) (Q:VK) (E:XK),Room k (A.deeper (envOfC qual (gg st) s.heap.objs.size f cdv))->sp vs H Q E ->
   ∃t,PSs (cxOf CX P w K mg base N qual (gg st) f cdv A outer s H E).nox (lr st) t/\t { nx:=λ_ H'=>Q .non H',rt:=Q } (start N vs) H):FnOk P w K mg base CX (k+1) f fd ps sp :=
 F.okX S len λcdv A outer s H vs Q E I h=>let ⟨t,p,q⟩:=D cdv A outer s H vs Q E I h;⟨t,p.nox,q⟩
variable{X:Cx}{pins:kl}{σ:St}{H H':Hp}{s s':Shared}{C e:Addr}
def Fly.inv(I:Inv X pins σ H s)(f:Fly X.prog X.w X.stack H s C e H' s'):Inv X pins σ H' s':=by
 obtain⟨B,x,_,D,un,os,J⟩:=f;exact I.call' (ch:=[]) os un (D.kept x.stay) J λb z=>absurd z (by simp)
def XS.come{E:Value->Shared->Prop}{Q:Unit->Shared->Prop}(h:XS X pins σ H' C e s')(R:X.stack=X.env::X.outer)(j:X.env.frame=some X.env.locals)(k:∀h2 D H1,Inv X pins σ H1 D->Fly X.prog X.w X.stack H1 D C e H' { s' with heap:=h2 }->Q () { s' with heap:=h2 }):wpAny (model X.prog X.w) X.A (noteFrame (.ref e) X.env) (λ_ D=>wpAny (model X.prog X.w) X.A (setFlight (.ref e) none) Q E D) E s':=by
 rcases h with⟨D,H1,I,f⟩ | ⟨D,args,I,m,es⟩
 ·obtain⟨B,x,l,p,un,os,r⟩:=f
  have st:=I.stack;rw[R] at x st;refine z6r (I.ok.frames.trans (by rw[R])) j x λh2 S Y U=>k h2 D H1 I ⟨B,R ▸ S,l,p,⟨λb o q n J _=>S.stay b o (l b o q n J),λb o q n J Z=>?_,un.free,λb o q Z=>?_,un.tups,un.frzs,un.tbls⟩,os,r⟩
  ·obtain⟨sl,z⟩:=un.slot b o q n J Z
   rw[R] at J;obtain⟨_,s,y,d⟩:=st.mem J;rw[q] at y;cases y;obtain⟨g,t⟩:=Y b _ z d;exact⟨g,t⟩
  ·obtain⟨o',z⟩:=un.there b o q Z
   exact U b o' z
 ·have st:=I.stack
  have v:∀b∈frs X.stack,H' b=none:=I.stkFree;have V:∀b o,H' b=some o->b∉frs X.stack:=λb o q z=>by rw[v b z] at q;cases q
  have i:HOk X.prog X.w H' (hideAll D.heap (frs X.stack)):=λb o q =>
   (I.hok b o q).stay (λc u hc z=>hideAll_get _ z (by rcases hc with rfl | hc;exact V _ _ q;exact V _ _ hc)) (λ_ z=>z) λ_ _ z=>z
  have F:D.heap.FunFrames (hideAll D.heap (frs X.stack)) (X.env::X.outer):=R ▸ funFrames_hide (as:=frs X.stack) st λenv U a G=>ng.mpr ⟨env,U,G⟩;refine z4n (B:=hideAll D.heap (frs X.stack)) (I.ok.frames.trans (by rw[R])) F j (λb o q=>of_hideAll _ q) m λh2 S Y U=>k h2 D H' I ⟨_,R ▸ S,λb o q n J=>hideAll_get _ q J,i,⟨λb o q n J _=>S.stay b o (hideAll_get _ q J),λb o q n J _=>?_,λ_ _ _ n _=>n,λb o q _=>U b o (m.keeps b o q),λ_ _ z=>z,λ_ _ _ z=>z,λ_ ps z=>⟨#[],by rw[Array.append_empty];exact z⟩⟩,by rw[es],by rw[es];exact I.bare⟩;obtain⟨_,s,y,d⟩:=st.mem J;rw[q] at y;cases y;exact Y b o (m.keeps b o q) d
def zke{scope:Scope}{D:Value}{A:Around}{outer:i0}{s₀:Shared}{H₀:Hp}{E:XK}(h:XS (cxOf (CXr P w) P w K mg base N qual scope f D A outer s₀ H₀ E) pins σ H' C e s')(S:E (.ref C) none H'):(cxOf (CXr P w) P w K mg base N qual scope f D A outer s₀ H₀ E).xe (.ref e) s':=by
 refine wpAny_bind (h.come rfl rfl λh2 Y H1 I f=>⟨e,C,H',rfl,?_,S⟩);have J:=f.inv I;obtain⟨B,x,U,V,_⟩:=f;refine⟨B,⟨x.stay,x.new,x.fr.2.2,x.tr⟩,λb o q n R=>?_,V,J.base,J.os,J.bare⟩;refine U b o (I.base.keep b o q n R (by simp[cxOf])) (I.base.free b o q n (by simp[cxOf])) λz=>?_;rcases ce.mp (show b∈s₀.heap.objs.size::frs outer from z) with z | z
 ·rw[z] at q;exact absurd (bi q) (fu _)
 ·exact R z
end L2
namespace L2
open PySem PySem.Spec PyProof.Rows
inductive Fl where
 | nx | bk | ct | rt (d:D) | rf (ds:k7) | r2 (dss:List k7) | xc (c:Str) | ra (k:AK) (ps:k9)
abbrev FS:=DE0->Option (Fl×DE0)
structure N2 (K:kf) (G:Gd) (H0 H:Hp) (l:Addr) (ls:ia) (dss:List k7):Prop where
 nd:(l::ls).Nodup
 new:∀a∈l::ls,H0 a=none
 top:H l=some (.lst (ls.map V.ref))
 len:ls.length=dss.length
 inn:∀(j:Nat) (ds:k7) (a:Addr),dss[j]?=some ds->ls[j]?=some a->∃vs,H a=some (.lst vs)/\Reps K H (λb=>G b/\b∉l::ls) ds vs
def EndOk(X:Cx)(G:Gd)(H0:Hp)(W:Addr->Prop)(H:Hp)(Dn:Ends)(env':DE0):Fl->Prop
 | .nx=>∀W' D H',Step W H W' H'->Ok X.K G H0 W' env' D H'->Dn.nx D H'
 | .bk=>∀W' D H',Step W H W' H'->Ok X.K G H0 W' env' D H'->Dn.bk D H'
 | .ct=>∀W' D H',Step W H W' H'->Ok X.K G H0 W' env' D H'->Dn.ct D H'
 | .rt d=>∀W' D v H',Step W H W' H'->Ok X.K G H0 W' env' D H'->Rep X.K H' (Ow G W') d v->Dn.rt v H'
 | .rf ds=>∀l vs H',Same H0 H'->H0 l=none->H' l=some (.lst vs)->Reps X.K H' (λa=>G a/\a≠l) ds vs->Dn.rt (.ref l) H'
 | .r2 dss=>∀l ls H',Same H0 H'->N2 X.K G H0 H' l ls dss->Dn.rt (.ref l) H'
 | .xc c=>∀W' D H' C,Cl X.K c C->Step W H W' H'->Ok X.K G H0 W' env' D H'->∀pins e s',XS X pins D H' C e s'->X.xe (.ref e) s'
 | .ra k ps=>∀W' D p H',Step W H W' H'->Ok X.K G H0 W' env' D H'->SlOk X.K G W' H' (.ag k none ps) (.ref p)->Dn.rt (.ref p) H'
def tDS(X:Cx)(G:Gd)(H0:Hp)(g:FS):TS:=λDn σ H=>DP X.K G H0 g (λW env fl env'=> EndOk X G H0 W H Dn env' fl) σ H
structure DSx (X:Cx) (G:Gd) (H0:Hp) (s:Stmt) (g:FS):Prop where
 out:PS X s (tDS X G H0 g)
structure DBx (X:Cx) (G:Gd) (H0:Hp) (s:List Stmt) (g:FS):Prop where
 out:PSs X s (tDS X G H0 g)
variable{X:Cx}{e:Expr}{t t':TS}
def PS.imp{e:Stmt}(h:PS X e t)(i:∀D σ H,t' D σ H->t D σ H):PS X e t':=λpins s σ H D I q=>h pins s σ H D I (i D σ H q)
def PSs.imp{e:List Stmt}(h:PSs X e t)(i:∀D σ H,t' D σ H->t D σ H):PSs X e t':=λpins s σ H D I q=>h pins s σ H D I (i D σ H q)
variable{G:Gd}{W W1:Addr->Prop}{H0 H H1:Hp}{Dn:Ends}{env':DE0}{fl:Fl}
protected def EndOk.step(st:Step W H W1 H1)(h:EndOk X G H0 W H Dn env' fl):EndOk X G H0 W1 H1 Dn env' fl:=by
 cases fl with
 | nx=>exact λW' D H' s o=>h W' D H' (st.trans s) o
 | bk=>exact λW' D H' s o=>h W' D H' (st.trans s) o
 | ct=>exact λW' D H' s o=>h W' D H' (st.trans s) o
 | rt d=>exact λW' D v H' s o=>h W' D v H' (st.trans s) o
 | rf ds=>exact h
 | r2 dss=>exact h
 | xc c=>exact λW' D H' C z s o=>h W' D H' C z (st.trans s) o
 | ra k ps=>exact λW' D p H' s o=>h W' D p H' (st.trans s) o
def Fl.out:Fl->Bool | .rt _=>true | .rf _=>true | .r2 _=>true | .xc _=>true | .ra _ _=>true | _=>false
variable{Dn':Ends}
protected def EndOk.go(I:fl.out=true)(h:EndOk X G H0 W H Dn env' fl)(e:Dn'.rt=Dn.rt)(st:Step W H W1 H1):EndOk X G H0 W1 H1 Dn' env' fl:=by
 cases fl with
 | nx=>cases I
 | bk=>cases I
 | ct=>cases I
 | rt d=>intro W' D v H' s o r;rw[e];exact h W' D v H' (st.trans s) o r
 | rf ds=>intro v vs H' s n l r;rw[e];exact h v vs H' s n l r
 | r2 dss=>intro v ls H' s n;rw[e];exact h v ls H' s n
 | xc c=>exact λW' D H' C z s o=>h W' D H' C z (st.trans s) o
 | ra k ps=>intro W' D p H' s o r;rw[e];exact h W' D p H' (st.trans s) o r
@[simp] noncomputable def sNil:FS:=λe=>some (.nx,e)
@[simp] noncomputable def sSeq(g h:FS):FS:=λe=>(g e).bind λr=>match r.1 with | .nx=>h r.2 | _=>some r
@[simp] noncomputable def sSet(i:Nat)(f:FE):FS:=λe=>(f e).map λr=>(.nx,r.2.set i (some (.sh r.1)))
@[simp] noncomputable def sOwn(i:Nat)(f:FA):FS:=λe=>(f e).map λr=>(.nx,r.2.set i (some (.ow r.1)))
@[simp] noncomputable def sRet(f:FE):FS:=λe=>(f e).map λr=>(.rt r.1,r.2)
@[simp] noncomputable def sIf(c:FT)(g h:FS):FS:=λe=>(c e).bind λr=>if r.1=true then g r.2 else h r.2
@[simp] noncomputable def i7(f:FE):FS:=λe=>(f e).map λr=>(.nx,r.2)
@[simp] noncomputable def zrr:FS:=λ_=>none
def forL(i:Nat)(g:FS):k7->DE0->Option (Fl×DE0)
 | [],e=>some (.nx,e)
 | d::r,e=>(g (e.set i (some (.sh d)))).bind λq=>match q.1 with | .nx=>forL i g r q.2 | .ct=>forL i g r q.2 | .bk=>some (.nx,q.2) | .rt d=>some (.rt d,q.2) | .rf ds=>some (.rf ds,q.2) | .r2 ds=>some (.r2 ds,q.2) | .xc c=>some (.xc c,q.2) | .ra k ps=>some (.ra k ps,q.2)
@[simp] noncomputable def sFor(i:Nat)(fi:FI)(g:FS):FS:=λe=>(fi e).bind λr=>forL i g r.1 r.2
def mf(c:FT)(g:FS):Nat->DE0->Option (Fl×DE0)
 | 0,_=>none
 | n+1,e=>(c e).bind λr=>if r.1=true then(g r.2).bind λq=>match q.1 with | .nx=>mf c g n q.2 | .ct=>mf c g n q.2 | .bk=>some (.nx,q.2) | .rt d=>some (.rt d,q.2) | .rf ds=>some (.rf ds,q.2) | .r2 ds=>some (.r2 ds,q.2) | .xc c=>some (.xc c,q.2) | .ra k ps=>some (.ra k ps,q.2) else some (.nx,r.2)
section
variable {X:Cx} {G:Gd} {H0:Hp} {a b c e:Expr} {es rest:i3} {f g:FE} {F:FA} {p q:FT} {s:Stmt} {ss:List Stmt} {u v:FS} {pos p' p1 pos1:Pos} {x:Str} {i:Nat}
def ii  : DBx X G H0 [] sNil:=⟨z0f.imp λDn σ H D=>by
 obtain⟨W,env,fl,env',ok,q,k⟩:=D;cases q;exact k W σ H Step.refl ok⟩
def dm(h1:DSx X G H0 s u)(h2:DBx X G H0 ss v):DBx X G H0 (s::ss) (sSeq u v):=⟨(zwq h1.out h2.out).imp λDn σ H R=>by
 obtain⟨W,env,fl,env',ok,q,k⟩:=R;cases e1:u env with
 | none=>simp[e1] at q
 | some r =>
   obtain⟨I,D⟩:=r;refine⟨W,env,I,D,ok,e1,?_⟩;cases I with
   | nx =>
     have q:v D=some (fl,env'):=by simpa[sSeq,e1] using q
     exact λW1 S H1 U J=>⟨W1,D,fl,env',J,q,k.step U⟩
   | bk =>
     have q:some (Fl.bk,D)=some (fl,env'):=by simpa[sSeq,e1] using q
     cases q;exact k
   | ct =>
     have q:some (Fl.ct,D)=some (fl,env'):=by simpa[sSeq,e1] using q
     cases q;exact k
   | rt d =>
     have q:some (Fl.rt d,D)=some (fl,env'):=by simpa[sSeq,e1] using q
     cases q;exact k
   | rf d =>
     have q:some (Fl.rf d,D)=some (fl,env'):=by simpa[sSeq,e1] using q
     cases q;exact k
   | r2 d =>
     have q:some (Fl.r2 d,D)=some (fl,env'):=by simpa[sSeq,e1] using q
     cases q;exact k
   | xc d =>
     have q:some (Fl.xc d,D)=some (fl,env'):=by simpa[sSeq,e1] using q
     cases q;exact k
   | ra d d' =>
     have q:some (Fl.ra d d',D)=some (fl,env'):=by simpa[sSeq,e1] using q
     cases q;exact k⟩
def dy(h:DSx X G H0 s u):DBx X G H0 [s] u:=⟨z0g h.out⟩
def z4o(R:X.N.Nodup)(hi:X.N[i]?=some x:=by rfl)(S:DEx X G H0 e f)(ps:PS X (.Assign [.Name x p'] e pos) (tAsg (tD X.K G H0 f) (m6 i))):DSx X G H0 (.Assign [.Name x p'] e pos) (sSet i f):=⟨ps.imp λDn σ H I=>by
 obtain⟨W,env,fl,env',ok,q,k⟩:=I;cases e1:f env with
 | none=>simp[e1] at q
 | some r =>
   have q:some (Fl.nx,r.2.set i (some (Sl.sh r.1)))=some (fl,env'):=by simpa[sSet,e1] using q
   cases q;exact⟨W,env,_,_,ok,e1,λW1 v1 H1 J D p1=>k W1 _ H1 J (D.set p1)⟩⟩
def o6(ps:PS X (.Assign [.Name x p'] e pos) (tAsg (tDF X.K G H0 F) (m6 i))):DSx X G H0 (.Assign [.Name x p'] e pos) (sOwn i F):=⟨ps.imp λDn σ H J=>by
 obtain⟨W,env,fl,env',ok,q,k⟩:=J;cases e1:F env with
 | none=>simp[e1] at q
 | some r =>
   have q:some (Fl.nx,r.2.set i (some (Sl.ow r.1)))=some (fl,env'):=by simpa[sOwn,e1] using q
   cases q;exact⟨W,env,_,_,ok,e1,λW1 l vs H1 R D I S U V=>k (addW W1 l) _ H1 R (I.setO (.inr rfl) U V (D.noOwn S))⟩⟩
def fo(I:DEx X G H0 e f):DSx X G H0 (.Return (some e) pos) (sRet f):=⟨(zrj I.out).imp λDn σ H J=>by
 obtain⟨W,env,fl,env',ok,q,k⟩:=J;cases e1:f env with
 | none=>simp[e1] at q
 | some r =>
   have q:some (Fl.rt r.1,r.2)=some (fl,env'):=by simpa[sRet,e1] using q
   cases q;exact⟨W,env,_,_,ok,e1,λW1 v1 H1 R D p1=>k W1 σ v1 H1 R D p1⟩⟩
def fOwn(i:Nat):FA:=λe=>match e[i]? with | some (some (.ow ds))=>some (ds,e.set i none) | _=>none
@[simp] noncomputable def zxe(i:Nat):FS:=λe=>match e[i]? with | some (some (.ow ds))=>some (.rf ds,e) | _=>none
def z06{Nn Cn:g7}{i:Nat}(an:Ats Nn Cn X)(D:Nn[i]?=some x:=by rfl):DSx X G H0 (.Return (some (.Name x p')) pos) (zxe i):=⟨(zrj ((an.a D).pe)).imp λDn σ H J=>by
 obtain⟨W,env,fl,env',ok,q,k⟩:=J;unfold zxe at q;split at q
 ·rename_i ds R
  cases q;obtain⟨v,S,l,vs,rfl,I,U,r⟩:=ok.slot i _ R;exact⟨_,S,k l vs H ok.stay (ok.wl l I).1 U (r.mono (λ_ _ h=>h) λa us o h=>⟨⟨o.1,λz=>o.2 (z ▸ I)⟩,h⟩)⟩
 ·cases q⟩
def gw{J R:List Stmt}(U:DTx X G H0 c p)(V:DBx X G H0 J u)(Y:DBx X G H0 R v):DSx X G H0 (.If c J R pos) (sIf p u v):=⟨(z6c U.out V.out Y.out).imp λDn σ H Z=>by
 obtain⟨W,env,fl,env',ok,q,k⟩:=Z;cases e1:p env with
 | none=>simp[e1] at q
 | some r =>
   obtain⟨t,D⟩:=r;refine⟨W,env,t,D,ok,e1,λW1 H1 S I=>?_⟩;cases t with
   | true=>rw[if_pos rfl];exact⟨W1,D,fl,env',I,by simpa[sIf,e1] using q,k.step S⟩
   | false=>rw[if_neg cg];exact⟨W1,D,fl,env',I,by simpa[sIf,e1] using q,k.step S⟩⟩
def znd  : DSx X G H0 s zrr:=⟨zwr.imp λDn σ H ⟨W,env,fl,env',ok,q,k⟩=>by cases q⟩
def jv(I:DEx X G H0 e f)(J:swapsWith e none pos.line X.env=pure false:=by rfl):DSx X G H0 (.Expr e pos) (i7 f):=⟨(ztv I.out J).imp λDn σ H R=>by
 obtain⟨W,env,fl,env',ok,q,k⟩:=R;cases e1:f env with
 | none=>simp[e1] at q
 | some r =>
   have q:some (Fl.nx,r.2)=some (fl,env'):=by simpa[i7,e1] using q
   cases q;exact⟨W,env,_,_,ok,e1,λW1 v1 H1 S D p1=>k W1 σ H1 S D⟩⟩
structure z4p (K:kf) (G:Gd) (J:It) (W:Addr->Prop) (H:Hp) (ds:k7):Prop where
 go:∀W' H' (i:Nat) d,Step W H W' H'->ds[i]?=some d->J.go i H'/\∀x H'',J.yld i H' x H''->Same H' H''/\Rep K H'' (Ow G W') d x
 stop:∀W' H',Step W H W' H'->J.stop ds.length H'
def tDJ(K:kf)(G:Gd)(H0:Hp)(f:FI):TI:=λσ H R=>DP K G H0 f (λW env ds env' =>
 ∀W' J H',Step W H W' H'->Ok K G H0 W' env' σ H'->z4p K G J W' H' ds->R J H') σ H
structure DJx (X:Cx) (G:Gd) (H0:Hp) (tg:Expr) (e:Expr) (f:FI):Prop where
 out:PI X tg e (tDJ X.K G H0 f)
def DIC.dj{tg:Expr}{f:FI}(h:DIx X G H0 tg a f):DJx X G H0 tg a f:=⟨h.out.imp λσ H R z=>by
 obtain⟨W,env,ds,env',ok,q,k⟩:=z;exact⟨W,env,ds,env',ok,q,λW' J H' st D w=>k W' J H' st D ⟨λI H2 i d s e=>⟨(w.go I H2 i d s e).1,λx S y=>by
  obtain⟨U,r⟩:=(w.go I H2 i d s e).2 x S y;cases U;exact⟨Same.refl _,r⟩⟩,w.stop⟩⟩⟩
def forK(k:DE0->Option (Fl×DE0))(q:Fl×DE0):Option (Fl×DE0):=match q.1 with | .nx=>k q.2 | .ct=>k q.2 | .bk=>some (.nx,q.2) | .rt d=>some (.rt d,q.2) | .rf ds=>some (.rf ds,q.2) | .r2 ds=>some (.r2 ds,q.2) | .xc c=>some (.xc c,q.2) | .ra k ps=>some (.ra k ps,q.2)
def EndOk.loop{Dn:Ends}{W W':Addr->Prop}{H H':Hp}{fl S:Fl}{I env':DE0}{N:St->Hp->Prop}{kk:DE0->Option (Fl×DE0)}(k:EndOk X G H0 W H Dn env' fl)(st:Step W H W' H')(U:forK kk (S,I)=some (fl,env'))(V:∀R D H2,Step W' H' R H2->Ok X.K G H0 R I D H2->kk I=some (fl,env')->N D H2) :
  EndOk X G H0 W' H' { Dn with nx:=N,ct:=N,bk:=Dn.nx } I S:=by
 cases S with
 | nx=>exact λR D H2 s2 J=>V R D H2 s2 J U
 | ct=>exact λR D H2 s2 J=>V R D H2 s2 J U
 | bk=>cases U;exact λR D H2 s2 J=>k R D H2 (st.trans s2) J
 | _=>cases U;exact k.go rfl rfl st
inductive FInv (X:Cx) (G:Gd) (H0:Hp) (W1:Addr->Prop) (H1:Hp) (ds:k7) (L:k7->DE0->Option (Fl×DE0)) (r:Option (Fl×DE0)) (n m:Nat) (σ:St) (H:Hp):Prop
 | mk (W:Addr->Prop) (env:DE0) (hm:m=ds.length-n) (hn:n<=ds.length) (st:Step W1 H1 W H) (ok:Ok X.K G H0 W env σ H) (ef:L (ds.drop n) env=r):FInv X G H0 W1 H1 ds L r n m σ H
def zuq{tg:Expr}{g:TG}{body:List Stmt}{fi:FI}{b:D->DE0->Option DE0}{L:k7->DE0->Option (Fl×DE0)}(hi:DJx X G H0 tg a fi)(f:PG X tg g)(C:DBx X G H0 body u)(E:∀ {W env env' σ H d x} {Q:St->Hp->Prop},Ok X.K G H0 W env σ H->Rep X.K H (Ow G W) d x->b d env=some env'->(∀R,Ok X.K G H0 W env' R H->Q R H)->g x σ H Q)(F:∀e,L [] e=some (.nx,e))(h1:∀d r e,L (d::r) e=(b d e).bind λe'=>(u e').bind λq=>forK (L r) q)(M:PassesOwn (model X.prog X.w) X.A X.env X.xe)(N:X.calm=true)(O:∀x,foldedSetIterable a X.env x=pure x):DSx X G H0 (.For tg a body [] pos) (λe=>(fi e).bind λr=>L r.1 r.2):=⟨(z3a M N hi.out f C.out O).imp λDn σ H z=>by
 obtain⟨W,env,fl,env',ok,q,k⟩:=z;obtain⟨⟨ds,S⟩,P,q⟩:=dq.mp q;refine⟨W,env,ds,S,ok,P,λW1 J H1 s i t=>⟨FInv X G H0 W1 H1 ds L (some (fl,env')),⟨ds.length,W1,S,rfl,gz _,Step.refl,i,q⟩,λn m R H' z=>?_⟩⟩;obtain⟨W',v,T,hn,st,Y,U⟩:=z;subst T;by_cases I:n<ds.length
 ·rw[gf I,h1] at U
  obtain⟨Z,e2,U⟩:=dq.mp U;obtain⟨⟨j,V⟩,e3,U⟩:=dq.mp U;obtain⟨f,hy⟩:=t.go W' H' n ds[n] st (aq I);refine .inr ⟨f,λc H2=>∃B,B<ds.length-n/\FInv X G H0 W1 H1 ds L (some (fl,env')) (n+1) B c H2,λ_ _ h=>h,λx l y=>?_⟩;obtain⟨sm,rx⟩:=hy x l y;have sn:=st.trans (Step.same sm);exact E (Y.same sm) rx e2 λaa o=>⟨W',Z,j,V,o,e3,k.loop (s.trans sn) U λW2 c H2 s2 p e=>⟨_,l7 _ _ I,W2,V,rfl,I,sn.trans s2,p,e⟩⟩
 ·cases sg hn (kq I)
  rw[kt,F] at U;cases U;exact .inl ⟨t.stop W' H' st,k W' R H' (s.trans st) Y⟩⟩
def m7{tg:Str}{px:Pos}{body:List Stmt}{fi:FI}(hi:DIx X G H0 (.Name tg px) a fi)(D:PG X (.Name tg px) (m6 i))(I:DBx X G H0 body u)(J:PassesOwn (model X.prog X.w) X.A X.env X.xe:=by passes_own)(R:X.calm=true:=by rfl)(S:∀x,foldedSetIterable a X.env x=pure x:=by intro _;rfl):DSx X G H0 (.For (.Name tg px) a body [] pos) (sFor i fi u) :=
 zuq (b:=λd e=>some (e.set i (some (.sh d)))) (L:=forL i u) hi.dj D I (λok r e k=>by cases e;exact k _ (ok.set r)) (λ_=>rfl) (λ_ _ _=>rfl) J R S
inductive WInv (X:Cx) (G:Gd) (H0:Hp) (W1:Addr->Prop) (H1:Hp) (L:Nat->DE0->Option (Fl×DE0)) (r:Option (Fl×DE0)) (m:Nat) (σ:St) (H:Hp):Prop
 | mk (W:Addr->Prop) (env:DE0) (st:Step W1 H1 W H) (ok:Ok X.K G H0 W env σ H) (ef:L m env=r):WInv X G H0 W1 H1 L r m σ H
def zne{body:List Stmt}{n:Nat}(g:DTx X G H0 c p)(i:DBx X G H0 body u)(j:PassesOwn (model X.prog X.w) X.A X.env X.xe:=by passes_own):DSx X G H0 (.While c body [] pos) (mf p u n):=⟨(zwt j g.out i.out).imp λDn σ H z=>by
 obtain⟨W,env,fl,env',ok,q,k⟩:=z;refine⟨WInv X G H0 W H (mf p u) (some (fl,env')),⟨n,W,env,Step.refl,ok,q⟩,λm V H' z=>?_⟩;obtain⟨W',R,st,Y,J⟩:=z;cases m with
 | zero=>cases J
 | succ m =>
   obtain⟨⟨t,D⟩,l,J⟩:=dq.mp J;refine⟨W',R,t,D,Y,l,λb H2 s2 S=>?_⟩;cases t with
   | false =>
     cases J;exact k b V H2 (st.trans s2) S
   | true =>
     obtain⟨⟨Z,I⟩,o,J⟩:=dq.mp J;exact⟨λU d=>∃f,f<m+1/\WInv X G H0 W H (mf p u) (some (fl,env')) f U d,λ_ _ h=>h,b,D,Z,I,S,o,k.loop (kk:=mf p u m) (st.trans s2) J λr U d s a e=>⟨m,fj _,r,I,(st.trans s2).trans s,a,e⟩⟩⟩
end
variable{n:Nat}
def lt20(h:n<2 ^ 20):n<sizeLine:=bh h (by rw[sizeLine_eq];decide)
@[simp] noncomputable def wx(d:D)(e:DE0)(i:Nat):Option (D×DE0):=match e[i]? with
 | some (some (.ow ds))=>if Few (ds.length+1) then some (.non,e.set i (some (.ow (ds++[d])))) else none
 | _=>none
@[simp] noncomputable def nj(i:Nat)(f:FE):FE:=λe=>match e[i]? with
 | some (some (.ow _))=>(f e).bind λr=>wx r.1 r.2 i
 | _=>none
variable{Nn Cn:g7}{i:Nat}{a:Expr}{f:FE}{pos p' p1:Pos}{x:Str}
def uy(h:DEx X G H0 a f)(an:Ats Nn Cn X)(V:Nn[i]?=some x:=by rfl)(D:attributeBase (.Name x p') "append" X.env (eval (.Name x p') X.env)=eval (.Name x p') X.env:=by rfl)(J:((backTo pos (starEach [a] X.env)).all (λx=>!x.1) && (backToKw pos (keywordEach [] X.env)).all (λx=>x.1.isSome)
   && decide ([a].length+([]:List Keyword).length+(if ([]:List Keyword).isEmpty then 0 else 1)<30))=true:=by rfl)(I:(p1.endLine==pos.line)=true:=by rfl)(c:starEach [a] X.env=(false,eval a X.env)::starEach [] X.env:=by rfl) :
  DEx X G H0 (.Call (.Attribute (.Name x p') "append" p1) [a] [] pos) (nj i f):=⟨(zw1 fz yz yy zoy ((an.a V).pe) (mw h.out pk c) D J I c rfl).imp λσ H Q j=>by
 obtain⟨W,env,d,env',ok,q,k⟩:=j;unfold nj at q;split at q;case h_2=>cases q
 rename_i m Y;obtain⟨v,Z,l,n,rfl,o,b,_⟩:=ok.slot i _ Y;cases e1:f env with
 | none=>rw[e1] at q;cases q
 | some r =>
   obtain⟨p,R⟩:=r;rw[e1,ac] at q;unfold wx at q;split at q;case h_2=>cases q
   rename_i ds e;split at q;case isFalse=>cases q
   rename_i S;cases q;refine⟨_,Z,.inl ⟨rfl,_,.inl (.inl b)⟩,W,env,p,R,ok,e1,λW1 v1 H1 s U t=>?_⟩;obtain⟨A,g,l',vs,u,B,w,r⟩:=U.slot i _ e;rw[Z] at g;cases g;cases u;obtain⟨y,z⟩:=U.turn e Z (r.append (.cons t .nil));exact⟨l,vs,v1,rfl,rfl,w,by rw[<-r.length];exact lt20 (og S),k W1 _ _ (s.trans z) y .non⟩⟩
@[simp] noncomputable def fPop(i:Nat):FE:=λe=>match e[i]? with
 | some (some (.ow ds))=>(ds[ds.length-1]?).map λd=>(d,e.set i (some (.ow ds.dropLast)))
 | _=>none
def z4q(an:Ats Nn Cn X)(J:Nn[i]?=some x:=by rfl)(D:attributeBase (.Name x p') "pop" X.env (eval (.Name x p') X.env)=eval (.Name x p') X.env:=by rfl)(I:(p1.endLine==pos.line)=true:=by rfl) :
  DEx X G H0 (.Call (.Attribute (.Name x p') "pop" p1) [] [] pos) (fPop i):=⟨(zzb fz PySem.F.slot_list_pop PySem.F.type_list_pop zzc ((an.a J).pe) D I).imp λσ H Q Y=>by
 obtain⟨W,env,d,env',ok,q,k⟩:=Y;unfold fPop at q;split at q;case h_2=>cases q
 rename_i ds R;obtain⟨v,S,l,vs,rfl,e,U,r⟩:=ok.slot i _ R;cases e1:ds[ds.length-1]? with
 | none=>rw[e1] at q;cases q
 | some d' =>
   rw[e1] at q;cases q;obtain⟨u,Z,b⟩:=r.get e1;obtain⟨c,V⟩:=ok.turn R S r.dropLast;exact⟨_,S,.inl ⟨rfl,_,.inl (.inl U)⟩,l,vs,u,rfl,rfl,U,by rw[<-r.length];exact Z,k W _ _ V c (ok.rep V b)⟩⟩
def z6s(k:D)(e:DE0)(i:Nat):Option (D×DE0):=match k,e[i]? with
 | .int k,some (some (.ow ds))=>if Few ds.length then(ixN ds.length k).bind λj=>(ds[j]?).map λd=>(d,e.set i (some (.ow (ds.eraseIdx j)))) else none
 | _,_=>none
def z4r(i:Nat)(f:FE):FE:=λe=>match e[i]? with
 | some (some (.ow _))=>(f e).bind λr=>z6s r.1 r.2 i
 | _=>none
@[simp] noncomputable def za(d k:D)(e:DE0)(i:Nat):Option (Fl×DE0):=match k,e[i]? with
 | .int k,some (some (.ow ds))=>(ixN ds.length k).map λj=>(.nx,e.set i (some (.ow (ds.set j d))))
 | _,_=>none
@[simp] noncomputable def uk(i:Nat)(D I:FE):FS:=λe=>(I e).bind λr=>match r.2[i]? with
 | some (some (.ow _))=>(D r.2).bind λq=>za r.1 q.1 q.2 i
 | _=>none
variable{b:Expr}{g:FE}
def znf(h:DEx X G H0 b g)(m:DEx X G H0 e f)(an:Ats Nn Cn X)(U:Nn[i]?=some x:=by rfl)(n:swapsWithSole [.Subscript (.Name x p') b p1] e pos.line X.env=pure false:=by rfl)(o:swappedStores [.Subscript (.Name x p') b p1] e X.env=pure none:=by rfl)(h1:(assignEach [.Subscript (.Name x p') b p1] X.env).map (·.2)=[assign (.Subscript (.Name x p') b p1) X.env]:=by rfl)(J:∀v,assign (.Subscript (.Name x p') b p1) X.env v=(do
   let ov <-holding [v] (eval (.Name x p') X.env);let iv <-holding [v,ov] (eval b X.env)
   standAt p1
   holding [v,ov,iv] (setItem ov iv v)
   release [v,ov,iv] []):=by intro _;rfl) :
  DSx X G H0 (.Assign [.Subscript (.Name x p') b p1] e pos) (uk i g f):=⟨(zm m.out (zrk ((an.a U).pe) h.out xz J) n o h1).imp λDn σ H p=>by
 obtain⟨W,env,fl,env',ok,q,k⟩:=p;cases e1:f env with
 | none=>simp[e1] at q
 | some r =>
   obtain⟨s,D⟩:=r;simp only[uk,e1,ac] at q;split at q;case h_2=>cases q
   rename_i t V;cases e2:g D with
   | none=>rw[e2] at q;cases q
   | some Y =>
     obtain⟨L,R⟩:=Y;rw[e2,ac] at q;unfold za at q;dsimp only at q;split at q;case h_2=>cases q
     rename_i kk ds c;cases e3:ixN ds.length kk with
     | none=>rw[e3] at q;cases q
     | some j =>
       rw[e3] at q;cases q;refine⟨W,env,s,D,ok,e1,λW1 v1 H1 u I w=>?_⟩;obtain⟨v,Z,l,y,rfl,z,A,_⟩:=I.slot i _ V;refine⟨_,Z,W1,D,_,R,I,e2,λB v2 H2 s2 S Y=>?_⟩;obtain⟨M,d,l',vs,C,N,E,r⟩:=S.slot i _ c;rw[Z] at d;cases d;cases C;obtain⟨F,K⟩:=S.turn c Z (Reps.set (I.rep s2 w) j r);exact⟨l,vs,kk,j,rfl,Y.int_,E,by rw[<-r.length];exact e3,k B _ _ ((u.trans s2).trans K) F⟩⟩
def jl(n:Nat)(ds:k7):DE0:=ds.map (λd=>some (Sl.sh d))++List.replicate (n-ds.length) none
def runD(n ar:Nat)(g:FS):k7->k8:=λds=>if ds.length=ar then(match g (jl n ds) with | some (.rt d,_)=>some d | some (.nx,_)=>some .non | _=>none) else none
def runF(n ar:Nat)(g:FS):k7->Option k7:=λds=>if ds.length=ar then(match g (jl n ds) with | some (.rf d,_)=>some d | _=>none) else none
def zi1:∀ {n:Nat} {ds:k7} {i:Nat} {s:Sl},(jl n ds)[i]?=some (some s)->∃d,ds[i]?=some d/\s=.sh d:=λ{n ds i s} h=>by
 unfold jl at h;by_cases hi:i<ds.length
 ·rw[az (by simpa using hi),cb] at h
  cases e:ds[i]? with
  | none=>rw[e] at h;cases h
  | some d=>rw[e] at h;cases h;exact⟨d,rfl,rfl⟩
 ·rw[dn (by simpa using hi),List.getElem?_replicate] at h
  split at h <;> cases h
variable{O:Addr->Prop}{ds:k7}{vs:k6}{N:g7}{K:kf}
def ux(r:Reps K H O ds vs):Ok K (gd λa=>O a\/H a=none) H NoW (jl N.length ds) (start N vs) H:=by
 refine⟨Same.refl _,λa z=>.inr z,λl z=>z.elim,λi s e=>?_,λi j R s2 v1 v2 a D _ _ _ o _=>?_,?_⟩
 ·obtain⟨d,D,rfl⟩:=zi1 e
  obtain⟨v,I,J⟩:=r.get D;refine⟨v,?_,J.mono (λ_ _ h=>h) λa us o h=>⟨⟨.inl o,λz=>z⟩,h⟩⟩;unfold start;rw[az (by simpa using(ai.mp I).1),cb,I];rfl
 ·obtain⟨d,_,z⟩:=zi1 D
  subst z;exact o.elim
 ·unfold jl start
  rw[ao,ao,ah,ah,fg,fg,r.length]
variable{f:Addr}{CX:CXT}{qual:Str}{st:Stmt}{fd:FuncData}{ps:g7}{k ar:Nat}{P:Program}{w:World}{mg:Str->g9}{base:Heap}
theorem fn_D{g:FS}(F:Fun K x qual st f fd)(S:qe N ps (gg st))(U:n=N.length)(V:ar=ps.length)(D:∀(cdv:Value) (A:Around) (outer:i0) (s:Shared) (H:Hp) (E:XK) (G:Gd) (H0:Hp),Room k (A.deeper (envOfC qual (gg st) s.heap.objs.size f cdv)) ->
   DBx (cxOf CX P w K mg base N qual (gg st) f cdv A outer s H E).nox G H0 (lr st) g):FnOk P w K mg base CX (k+1) f fd ps (dSp K (runD n ar g)):=by
 subst U V;refine F.okC S (λvs H Q E h=>?_) (λcdv A outer s H vs Q E Y h=>?_)
 ·obtain⟨O,ds,d,r,e,_⟩:=h
  rw[<-r.length];unfold runD at e;split at e
  ·assumption
  ·cases e
 ·obtain⟨O,ds,d,r,e,k⟩:=h
  refine⟨_,(D cdv A outer s H E (gd λa=>O a\/H a=none) H Y).out,?_⟩;unfold runD at e;split at e;case isFalse=>cases e
  split at e
  ·rename_i d' env' J
   cases e;exact⟨NoW,_,_,env',ux r,J,λW' R v H' st I Z=>k v H' I.stay (Z.mono (λ_ _ h=>h) λa us o h=>⟨o.1,h⟩)⟩
  ·rename_i env' J
   cases e;exact⟨NoW,_,_,env',ux r,J,λW' R H' st I=>k .non H' I.stay .non⟩
  ·cases e
theorem fn_F{g:FS}(F:Fun K x qual st f fd)(S:qe N ps (gg st))(I:n=N.length)(J:ar=ps.length)(D:∀(cdv:Value) (A:Around) (outer:i0) (s:Shared) (H:Hp) (E:XK) (G:Gd) (H0:Hp),Room k (A.deeper (envOfC qual (gg st) s.heap.objs.size f cdv)) ->
   DBx (cxOf CX P w K mg base N qual (gg st) f cdv A outer s H E).nox G H0 (lr st) g):FnOk P w K mg base CX (k+1) f fd ps (fSp K (runF n ar g)):=by
 subst I J;refine F.okC S (λvs H Q E h=>?_) (λcdv A outer s H vs Q E R h=>?_)
 ·obtain⟨O,ds,d,r,e,_⟩:=h
  rw[<-r.length];unfold runF at e;split at e
  ·assumption
  ·cases e
 ·obtain⟨O,ds,d,r,e,k⟩:=h
  refine⟨_,(D cdv A outer s H E (gd λa=>O a\/H a=none) H R).out,?_⟩;unfold runF at e;split at e;case isFalse=>cases e
  split at e
  ·rename_i d' env' U
   cases e;exact⟨NoW,_,_,env',ux r,U,λl vs' H' sm V Y Z=>k l vs' H' sm V Y Z⟩
  ·cases e
def zrs(K:kf):Sp:=λvs H Q _=>∃(a:Addr) (D:ik),vs=[.ref a]/\SqL K H a (D.map V.int)/\D.length<=63/\∀H',Q (.bl true) H'
theorem z6t{m:k7->k8}(F:FnOk P w K mg base CX k f fd ps (dSp K m))(h:∀I:ik,I.length<=63->m [.lst (I.map D.int)]=some (.bl true)) :
  FnOk P w K mg base CX k f fd ps (zrs K):=F.imp λvs H Q E J=>by
 obtain⟨a,I,e,R,S,q⟩:=J;subst e;exact⟨λ_=>True,[.lst (I.map D.int)],.bl true,.cons (R.elim (λz=>.lst trivial z (zh9 I)) λz=>.klst z (zh9 I)) .nil,h I S,λv H' _ r=>by rw[r.bl_];exact q H'⟩
variable{F:FA}
def fr_D:∀σ H Q,tD X.K G H0 (fLst F) σ H Q->tDF X.K G H0 F σ H Q:=λσ H Q S=>by
 obtain⟨W,env,d,env',ok,q,k⟩:=S;cases e1:F env with
 | none=>simp[e1] at q
 | some r =>
   have q:some (D.lst r.1,r.2)=some (d,env'):=by simpa[fLst,e1] using q
   cases q;refine⟨W,env,_,_,ok,e1,λW1 l vs H1 R I J U V Y=>k W1 _ H1 ⟨R.keep,λa z=>R.ws a (.inl z)⟩ I (.lst ⟨I.good l (J.wl l (.inr rfl)).1,U⟩ (.inl V) (Y.mono (λ_ _ h=>h) λa us o h=>⟨⟨o.1,λz=>o.2 (.inl z)⟩,h⟩))⟩
variable{f:FE}
def fx(I:Tos Nn X)(J:DEx X G H0 e f)(D:Nn[i]?=some x:=by rfl)(R:swapsWith e (some (.Name x p')) pos.line X.env=pure false:=by rfl):DSx X G H0 (.Assign [.Name x p'] e pos) (sSet i f):=z4o (I.t D).nd (I.t D).n J (ztx (I.t D).nd (I.t D).n (I.t D).l J.out R (I.t D).f)
def zus(ps:PS X (.Assign [.Name x p'] e pos) (tAsg (tDF X.K G H0 F) (m6 i))):DSx X G H0 (.Assign [.Name x p'] e pos) (sSet i (fLst F)):=⟨(PS.imp ps (t':=tAsg (tD X.K G H0 (fLst F)) (m6 i)) λDn σ H h=>fr_D σ H _ h).imp λDn σ H I=>by
 obtain⟨W,env,fl,env',ok,q,k⟩:=I;cases e1:fLst F env with
 | none=>simp only[sSet,e1,li] at q;cases q
 | some r =>
   have q:some (Fl.nx,r.2.set i (some (Sl.sh r.1)))=some (fl,env'):=by simpa only[sSet,e1,aj] using q
   cases q;exact⟨W,env,_,_,ok,e1,λW1 v1 H1 J D p1=>k W1 _ H1 J (D.set p1)⟩⟩
variable{y:Str}{ix:ic}{sc:Scope}{px py spos:Pos}{fi:FI}{te:FE}
def z9(an:Ats Nn Cn X)(R:Tos Nn X)(hi:DIx X G H0 (.Name x px) a fi)(S:∀cl C s₂ H₂ fp G H0,Ats (x::(subN Nn ix)) (subN Nn ix) (je X x (subN Nn ix) sc cl C s₂ H₂ fp)->DEx (je X x (subN Nn ix) sc cl C s₂ H₂ fp) G H0 e te)(J:p8 Nn Cn ix x sc=true:=by decide +kernel)(V:X.calm=true:=by rfl)(I:Nn[i]?=some y:=by rfl)(U:swapsWith (.ListComp e [⟨.Name x px,a,[],0⟩] sc pos) (some (.Name y py)) spos.line X.env=pure true:=by rfl)(Y:∀v,foldedSetIterable a X.env v=pure v:=by intro _;rfl) :
  PS X (.Assign [.Name y py] (.ListComp e [⟨.Name x px,a,[],0⟩] sc pos) spos) (tAsg (tDF X.K G H0 (iz fi ix fYes te)) (m6 i)) :=
 (zm7 (vq an J) (λ_ _ _ _ _ _ _ _ _=>V) (R.t I).nd (R.t I).n (R.t I).l hi.out (λcl C s₂ H₂ fp _=>zb (X:=X) rfl) (λcl C s₂ H₂ fp _=>el_x (X:=X) rfl (λG H0=>S cl C s₂ H₂ fp G H0 (tw J))) U (R.t I).f Y).imp λD σ H h=>zrq σ H _ h
variable{tt:FT}
def zqk{Cm:Cx->Prop}{S:Expr}(c:∀cl C s₂ H₂ fp pins σ,Inv X pins σ H₂ s₂->(∀b∈fp,FpOk X pins H₂ b)->Cm (je X x (subN Nn ix) sc cl C s₂ H₂ fp))(an:Ats Nn Cn X)(R:Tos Nn X)(hi:DIC Cm X G H0 (.Name x px) a fi)(U:∀cl C s₂ H₂ fp G H0,Cm (je X x (subN Nn ix) sc cl C s₂ H₂ fp)->Ats (x::(subN Nn ix)) (subN Nn ix) (je X x (subN Nn ix) sc cl C s₂ H₂ fp)->DTx (je X x (subN Nn ix) sc cl C s₂ H₂ fp) G H0 S tt)(V:∀cl C s₂ H₂ fp G H0,Cm (je X x (subN Nn ix) sc cl C s₂ H₂ fp)->Ats (x::(subN Nn ix)) (subN Nn ix) (je X x (subN Nn ix) sc cl C s₂ H₂ fp)->DEx (je X x (subN Nn ix) sc cl C s₂ H₂ fp) G H0 e te)(J:p8 Nn Cn ix x sc=true:=by decide +kernel)(I:Nn[i]?=some y:=by rfl)(Y:swapsWith (.ListComp e [⟨.Name x px,a,[S],0⟩] sc pos) (some (.Name y py)) spos.line X.env=pure true:=by rfl)(d:∀v,foldedSetIterable a X.env v=pure v:=by intro _;rfl) :
  PS X (.Assign [.Name y py] (.ListComp e [⟨.Name x px,a,[S],0⟩] sc pos) spos) (tAsg (tDF X.K G H0 (iz fi ix tt te)) (m6 i)) :=
 (zm7 (vq an J) c (R.t I).nd (R.t I).n (R.t I).l hi.out (λcl C s₂ H₂ fp Z=>if_x (X:=X) rfl (λG H0=>U cl C s₂ H₂ fp G H0 Z (tw J))) (λcl C s₂ H₂ fp Z=>el_x (X:=X) rfl (λG H0=>V cl C s₂ H₂ fp G H0 Z (tw J))) Y (R.t I).f d).imp λD σ H h=>zrq σ H _ h
abbrev FA2:=DE0->Option (List k7×DE0)
def tDF2(K:kf)(G:Gd)(H0:Hp)(f:FA2):TE:=λσ H Q=>DP K G H0 f (λW env dss env' =>
 ∀W' l H',Step W H W' H'->Ok K G H0 W' env' σ H'->SlOk K G W' H' (.o2 dss) (.ref l) ->
  (∀(j:Nat) (s:Sl) (v:V) (a:Addr),env'[j]?=some (some s)->σ[j]?=some (some v)->Owns H' (.o2 dss) (.ref l) a->¬Owns H' s v a)->Q (.ref l) H') σ H
structure DF2x (X:Cx) (G:Gd) (H0:Hp) (e:Expr) (f:FA2):Prop where
 out:PE X e (tDF2 X.K G H0 f)
@[simp] noncomputable def y9(i:Nat)(f:FA2):FS:=λe=>(f e).map λr=>(.nx,r.2.set i (some (.o2 r.1)))
def z07{D:FA2}(ps:PS X (.Assign [.Name x p'] e pos) (tAsg (tDF2 X.K G H0 D) (m6 i))):DSx X G H0 (.Assign [.Name x p'] e pos) (y9 i D):=⟨ps.imp λDn σ H J=>by
 obtain⟨W,env,fl,env',ok,q,k⟩:=J;cases e1:D env with
 | none=>simp[e1] at q
 | some r =>
   have q:some (Fl.nx,r.2.set i (some (Sl.o2 r.1)))=some (fl,env'):=by simpa[y9,e1] using q
   cases q;exact⟨W,env,_,_,ok,e1,λW1 l H1 R I h1 S=>k W1 _ H1 R (I.put h1 S)⟩⟩
def zo(te:FA)(base:DE0):k7->Option (List k7)
 | []=>some []
 | d::r=>(te (some (.sh d)::base)).bind λv=>(zo te base r).map (v.1::·)
def zj(fi:FI)(ix:ic)(te:FA):FA2:=λe=>(fi e).bind λr=>if Few r.1.length then(zo te (ix.map λj=>capt (r.2.getD j none)) r.1).map λds=>(ds,r.2) else none
def tDxF(K:kf)(f:FA):TE:=λσ H Q=>∃G H0,tDF K G H0 f σ H Q
variable{te:FA}
def z6u{D:Cx}(J:D.K=X.K)(h:∀G H0,DFx D G H0 e te):PE D e (tDxF X.K te):=λpins s σ H Q I ⟨G,H0,q⟩=>(h G H0).out pins s σ H Q I (by rw[J];exact q)
inductive z4s (X:Cx) (G:Gd) (H0:Hp) (env:DE0) (σ:St) (W1:Addr->Prop) (H1:Hp) (ds:k7) (d:List k7) (f:k7->Option (List k7)) (i m:Nat) (H':Hp) (ys:k6):Prop
 | mk (Wi:Addr->Prop) (rest done:List k7) (ls:ia) (hm:m=ds.length-i) (hi:i<=ds.length) (sm:Same H1 H') (st:Step W1 H1 Wi H') (ok:Ok X.K G H0 Wi env σ H') (hy:ys=ls.map V.ref) (inn:Inn X.K G Wi H' done ls) (nd:ls.Nodup) (fr:∀a∈ls,H1 a=none) (hd:done.length<=i) (ec:f (ds.drop i)=some rest) (hz:d=done++rest):z4s X G H0 env σ W1 H1 ds d f i m H' ys
theorem z08:∀σ H Q,tDF2 X.K G H0 (zj fi ix te) σ H Q->xb (tDI X.K G H0 fi) ix (tDxT X.K fYes) (tDxF X.K te) σ H Q:=λσ H Q z=>by
 obtain⟨W,env,d,env',ok,q,k⟩:=z;obtain⟨⟨ds,Z⟩,e1,q⟩:=dq.mp q;by_cases O:Few ds.length;case neg=>cases (if_neg O).symm.trans q
 obtain⟨an,e2,q⟩:=ij.mp ((if_pos O).symm.trans q);cases q;refine⟨W,env,ds,_,ok,e1,λW1 J H1 s1 g wk=>⟨z4s X G H0 Z σ W1 H1 ds d (zo te (ix.map λj=>capt (Z.getD j none))),⟨ds.length,W1,d,[],[],rfl,gz _,Same.refl _,Step.refl,g,rfl,⟨rfl,λj ds a e=>by cases e⟩,List.nodup_nil,(λa h=>by cases h),b9 _,e2,rfl⟩,λi m H' ys z=>?_⟩⟩;obtain⟨A,rest,D,ls,hm,hi,sm,st,S,hy,U,nd,fr,hd,u,P⟩:=z;subst hm hy;have I:ls.length=D.length:=U.1;have B:∀a∈ls,∃vs,H' a=some (.lst vs):=λa C=>by
  obtain⟨j,T,e⟩:=mq C;obtain⟨_,vs,h,_⟩:=U.2 j (D[j]'(I ▸ T)) a (aq _) (e ▸ aq T);exact⟨vs,h⟩
 by_cases R:i<ds.length
 ·rw[gf R] at u
  obtain⟨⟨dv,E⟩,e4,u⟩:=dq.mp u;obtain⟨n,e5,e6⟩:=ij.mp u;obtain⟨hg,hy⟩:=wk.go A H' i ds[i] st (aq R);refine .inr ⟨hg,λx Y y=>?_⟩;obtain⟨e,rx⟩:=hy x Y y;subst e;refine⟨_,_,NoW,_,true,_,znb (ix:=ix) S rx,rfl,λW2 H2 s2 aa=>?_⟩;refine⟨_,_,W2,_,dv,E,aa,e4,λW3 l vs H3 s3 ab F nW L rp=>⟨?_,ds.length-(i+1),l7 _ _ R,?_⟩⟩
  ·rw[ah,I];exact bh (Nat.lt_of_le_of_lt hd (bh R O)) zlc
  ·have p:Same Y H3:=ab.stay
   have c:Y l=none:=(F.wl l (.inr rfl)).1;obtain⟨q1,q2,q3,q4,q5⟩:=S.fresh p c L (rp.mono (O':=λa=>(Ow G A a\/Y a=none)/\a≠l) (λ_ _ h=>h) λa us o h=>⟨⟨o.1,λz=>o.2 (.inr z)⟩,h⟩);have nl:l∉ls:=λz=>by obtain⟨us,h⟩:=B l z;rw[c] at h;cases h
   refine⟨addW A l,n,D++[dv],ls++[l],rfl,R,sm.trans p,st.trans q5,q3,by simp,⟨by simp[I],λj es a ea f=>?_⟩,?_,λa C=>?_,by rw[ao,js];lia,e5,by rw[P,<-e6,df];rfl⟩
   ·by_cases T:j<D.length
    ·rw[az T] at ea
     rw[az (by lia)] at f;obtain⟨w,us,h,r⟩:=U.2 j es a ea f;exact⟨.inl w,us,p _ _ h,S.reps q5 r⟩
    ·rw[dn (by lia)] at ea
     rw[dn (by lia),I] at f;have P:j-D.length=0:=by
      have:=(ai.mp ea).1;simp at this;lia
     rw[P] at ea f;simp[Option.some.injEq] at ea f;subst ea f;exact⟨.inr rfl,vs,L,q4⟩
   ·rw[List.nodup_append]
    exact⟨nd,by simp,λa C b hb=>by simp only[cy] at hb;subst hb;intro z;subst z;exact nl C⟩
   ·rcases cz.mp C with z | z
    ·exact fr a z
    ·rw[cy.mp z];exact sm.free c
 ·cases sg hi (kq R)
  rw[kt] at u;cases u;refine .inl ⟨wk.stop A H' st,by rw[ah,I];exact de hd (de O zlc),λl c=>?_⟩;have t:Same H' (upd H' l (.lst (ls.map V.ref))):=yc c;obtain⟨q1,q2,q3,q4⟩:=S.fresh0 (vs:=ls.map V.ref) t c km;have nl:l∉ls:=λz=>by obtain⟨us,h⟩:=B l z;rw[c] at h;cases h
  have ag:Same H1 (upd H' l (.lst (ls.map V.ref))):=sm.trans t;rw[P,dh] at k;refine k (addW A l) l _ ((s1.trans st).trans q4) q3 ⟨l,ls,rfl,.inr rfl,km,bz.mpr ⟨nl,nd⟩,U.1,λj es a ea f=>?_⟩ λj s v a ej ev o1 o2=>?_
  ·obtain⟨w,us,h,r⟩:=U.2 j es a ea f
   exact⟨.inl w,us,t _ _ h,S.reps q4 r⟩
  ·obtain⟨v',M,hs⟩:=g.slot j s ej
   rw[ev] at M;cases M;have al:Owns H1 s v a:=hs.back (λl' _ _ vs q=>ag _ _ q) o2;have wa:W1 a:=hs.owns al;have N:H1 a≠none:=λz=>by obtain⟨_,us,q⟩:=g.wl a wa;rw[z] at q;cases q
   rcases o1 with o1 | ⟨l',ls',z,q,hb⟩
   ·cases o1;exact N (sm.free c)
   ·cases z
    rw[km] at q;have:=wb (by simpa using q);subst this;exact N (fr a hb)
def zxf(an:Ats Nn Cn X)(R:Tos Nn X)(hi:DIx X G H0 (.Name x px) a fi)(S:∀cl C s₂ H₂ fp G H0,Ats (x::(subN Nn ix)) (subN Nn ix) (je X x (subN Nn ix) sc cl C s₂ H₂ fp)->DFx (je X x (subN Nn ix) sc cl C s₂ H₂ fp) G H0 e te)(J:p8 Nn Cn ix x sc=true:=by decide +kernel)(V:X.calm=true:=by rfl)(I:Nn[i]?=some y:=by rfl)(U:swapsWith (.ListComp e [⟨.Name x px,a,[],0⟩] sc pos) (some (.Name y py)) spos.line X.env=pure true:=by rfl)(Y:∀v,foldedSetIterable a X.env v=pure v:=by intro _;rfl) :
  PS X (.Assign [.Name y py] (.ListComp e [⟨.Name x px,a,[],0⟩] sc pos) spos) (tAsg (tDF2 X.K G H0 (zj fi ix te)) (m6 i)) :=
 (zm7 (vq an J) (λ_ _ _ _ _ _ _ _ _=>V) (R.t I).nd (R.t I).n (R.t I).l hi.out (λcl C s₂ H₂ fp _=>zb (X:=X) rfl) (λcl C s₂ H₂ fp _=>z6u (X:=X) rfl (λG H0=>S cl C s₂ H₂ fp G H0 (tw J))) U (R.t I).f Y).imp λD σ H h=>z08 σ H _ h
variable{α:Type}{j:Nat}
def z4t{xs:List α}{k:Int}{y:α}(h:ixN xs.length k=some j)(h2:xs[j]?=some y):atI xs k=some y:=by
 unfold atI;rw[h];exact h2
variable{env:DE0}{σ:St}{v:V}
def zxg{dss:List k7}{k:Int}(ok:Ok X.K G H0 W env σ H)(S:env[i]?=some (some (.o2 dss)))(U:σ[i]?=some (some v))(Y:ixN dss.length k=some j)(J:dss[j]?=some ds) :
  ∃(l:Addr) (ls:ia) (a:Addr) (vs:k6),v=.ref l/\H l=some (.lst (ls.map V.ref))/\ls[j]?=some a/\atI (ls.map V.ref) k=some (.ref a)/\H a=some (.lst vs)/\Reps X.K H (Ow G W) ds vs:=by
 obtain⟨b,R,l,ls,rfl,c,Z,d,hi⟩:=ok.slot i _ S;rw[U] at R;cases R;have I:j<ls.length:=by rw[hi.1];exact(ai.mp J).1
 obtain⟨_,vs,h,r⟩:=hi.2 j ds ls[j] J (by simp[I]);exact⟨l,ls,ls[j],vs,rfl,Z,by simp[I],z4t (j:=j) (by rw[ah,hi.1];exact Y) (by simp[I]),h,r⟩
@[simp] noncomputable def app2(k d:D)(e:DE0)(i:Nat):Option (D×DE0):=match k,e[i]? with
 | .int k,some (some (.o2 dss))=>(ixN dss.length k).bind λj=>(dss[j]?).bind λds=>if Few (ds.length+1) then some (.non,e.set i (some (.o2 (dss.set j (ds++[d]))))) else none
 | _,_=>none
@[simp] noncomputable def zxh(i:Nat)(g f:FE):FE:=λe=>match e[i]? with
 | some (some (.o2 _))=>(g e).bind λr=>(f (r.2.map capt)).bind λq=>app2 r.1 q.1 r.2 i
 | _=>none
def zdr{env:Env}:∀ {names:List (Str×NameKind)} {x:Str},names.lookup x=some .globalImplicit ->
  (names.map λ(n,k)=>if (k==NameKind.free && env.scope.kind==.function && env.kindOf n==some .cell) then(n,NameKind.cell) else(n,k)).lookup x=some .globalImplicit
 | (n,k)::r,x,h=>by
   have D:=@zdr env r x;show List.lookup x ((if (k==NameKind.free && env.scope.kind==.function && env.kindOf n==some .cell)=true then(n,NameKind.cell) else(n,k))::_)=_;cases hx:x==n with
   | true =>
     simp only[cw,hx] at h;cases h;simp[cw,hx]
   | false =>
     simp only[cw,hx] at h;by_cases I:(k==NameKind.free && env.scope.kind==.function && env.kindOf n==some .cell)=true
     ·rw[if_pos I];simp only[cw,hx];exact D h
     ·rw[if_neg I];simp only[cw,hx];exact D h
variable{N':g7}{cl:List (Str×Addr)}{C:Addr}{s:Shared}{fp:ia}
def gl_c(h:sc.names.lookup x=some .globalImplicit):Gl (je X y N' sc cl C s H fp) x:=zdr h
def z4u:Ty "int" "int":=⟨by decide +kernel,by decide +kernel,by decide +kernel,by decide +kernel⟩
def z09:Ty "bool" "bool":=⟨by decide +kernel,by decide +kernel,by decide +kernel,by decide +kernel⟩
def zuu:Ty "str" "str":=⟨by decide +kernel,by decide +kernel,by decide +kernel,by decide +kernel⟩
def z1a:Ty "list" "list":=⟨by decide +kernel,by decide +kernel,by decide +kernel,by decide +kernel⟩
def zrt:Ty "tuple" "tuple":=⟨by decide +kernel,by decide +kernel,by decide +kernel,by decide +kernel⟩
def z1b(l:List α)(k:Nat)(y:α):(l.toArray.extract 0 k).push y++l.toArray.extract k=(l.take k++y::l.drop k).toArray:=by
 simp;exact jm (by simp)
def z1c:V->k6->Hp->VK->Prop:=λx vs H Q=>∃(l:Addr) (xs:k6) (i:Int) (y:V),x=.ref l/\vs=[.int i,y]/\H l=some (.lst xs)/\0<=i/\i<=xs.length/\i<2 ^ 62/\xs.length<sizeLine/\Q .non (upd H l (.lst (xs.take i.toNat++y::xs.drop i.toNat)))
def Vals.ins{xs:k6}{its:g8}{y:V}{u:Value}(r:Vals xs its)(D:Vals [y] [u])(k:Nat):Vals (xs.take k++y::xs.drop k) (its.take k++u::its.drop k):=by
 have:=(r.take k).append (D.append (r.drop k));simpa using this
theorem zuv:MtM X "list.insert" z1c:=by
 intro pins s σ H x vs v us Q I U V h;obtain⟨l,xs,i,y,rfl,rfl,R,Z,h1,h2,a,q⟩:=h;cases U;obtain⟨b,S,rfl,D,J⟩:=V.two;obtain⟨t,rfl⟩:=D;obtain⟨z,its,n,r,c,e⟩:=I.lstM R;refine call_meets F.slot_list_insert ⟨_,e,rfl⟩ F.entry_list_insert (F.args_list_insert_3 _ _ _) (PySem.AutoSeq1.list_insert_list_int_val_1 l its.toArray n i t S (by rw[fitsIndex_both (k:=i) (by lia) (by lia)];decide) (by rw[bx];lia)) ⟨e,?_⟩;refine⟨.non,_,I.lset (its':=its.take i.toNat++S::its.drop i.toNat) R e ?_ (Vals.ins r (.cons J .nil) _) ?_,rfl,q⟩
 ·have Y:(if i<0 then(i+(its.toArray.size:Int)).toNat else min i.toNat its.toArray.size)=i.toNat:=by
   rw[if_neg (by lia),bx]
   lia
  rw[Y,z1b]
 ·rw[ao,ak,dz,fq]
  lia
def z1d(k d:D)(e:DE0)(i:Nat):Option (D×DE0):=match k,e[i]? with
 | .int k,some (some (.ow ds))=>if 0<=k/\k<=ds.length/\Few (ds.length+1) then some (.non,e.set i (some (.ow (ds.take k.toNat++d::ds.drop k.toNat)))) else none
 | _,_=>none
def zng(i:Nat)(f g:FE):FE:=λe=>match e[i]? with
 | some (some (.ow _))=>(aw f (aw g fNil) e).bind λr=>match r.1 with | [k,d]=>z1d k d r.2 i | _=>none
 | _=>none
theorem zuw(p:DEx X G H0 a f)(s:DEx X G H0 b g)(an:Ats Nn Cn X)(V:Nn[i]?=some x:=by rfl)(I:attributeBase (.Name x p') "insert" X.env (eval (.Name x p') X.env)=eval (.Name x p') X.env:=by rfl)(R:((backTo pos (starEach [a,b] X.env)).all (λx=>!x.1) && (backToKw pos (keywordEach [] X.env)).all (λx=>x.1.isSome)
   && decide ([a,b].length+([]:List Keyword).length+(if ([]:List Keyword).isEmpty then 0 else 1)<30))=true:=by rfl)(J:(p1.endLine==pos.line)=true:=by rfl)(j:starEach [a,b] X.env=(false,eval a X.env)::starEach [b] X.env:=by rfl)(Y:starEach [b] X.env=(false,eval b X.env)::starEach [] X.env:=by rfl)(Z:(backTo pos (starEach [b] X.env)).any (·.1)=false:=by rfl) :
  DEx X G H0 (.Call (.Attribute (.Name x p') "insert" p1) [a,b] [] pos) (zng i f g):=⟨(zw1 fz PySem.F.slot_list_insert PySem.F.type_list_insert zuv ((an.a V).pe) (bq p (bq s dc Y) j).out I R J j Z).imp λσ H Q t=>by
 obtain⟨W,env,d,env',ok,q,k⟩:=t;unfold zng at q;split at q;case h_2=>cases q
 rename_i u c;obtain⟨v,e,l,w,rfl,y,h,_⟩:=ok.slot i _ c;cases e1:aw f (aw g fNil) env with
 | none=>rw[e1] at q;cases q
 | some r =>
   obtain⟨z,S⟩:=r;rw[e1,ac] at q;dsimp only at q;split at q;case h_2=>cases q
   unfold z1d at q;split at q;case h_2=>cases q
   rename_i kk ds m;split at q;case isFalse=>cases q
   rename_i A;obtain⟨B,C,n⟩:=A;cases q;refine⟨_,e,.inl ⟨rfl,_,.inl (.inl h)⟩,W,env,_,S,ok,e1,λW1 E H1 K U L=>?_⟩;obtain⟨v',o,l',vs,M,hW,N,r⟩:=U.slot i _ m;rw[e] at o;cases o;cases M;cases L with
   | cons q1 r2 =>
   cases r2 with
   | cons q2 r3 =>
   cases r3;cases q1;obtain⟨O,P⟩:=U.turn m e ((r.take kk.toNat).append (.cons q2 (r.drop kk.toNat)));have D:=r.length;have T:ds.length<sizeLine:=lt20 (og n);have c4:ds.length+1<=2 ^ 20:=n;exact⟨l,vs,kk,_,rfl,rfl,N,B,by rw[<-D];exact C,by lia,by rw[<-D];exact T,k W1 _ _ (K.trans P) O .non⟩⟩
def tj:ic->k7->DE0->DE0
 | i::ix,d::ds,e=>tj ix ds (e.set i (some (.sh d)))
 | _,_,e=>e
def gIs:ic->TGs
 | []=>gNil
 | i::ix=>z23 (m6 i) (gIs ix)
def sUnp(ix:ic)(f:FE):FS:=λe=>(f e).bind λr=>match r.1 with
 | .tup ds=>if ds.length=ix.length then some (.nx,tj ix ds r.2) else none
 | _=>none
def unp(ix:ic)(d:D)(e:DE0):Option DE0:=match d with
 | .tup ds=>if ds.length=ix.length then some (tj ix ds e) else none
 | _=>none
def forU(ix:ic)(g:FS):k7->DE0->Option (Fl×DE0)
 | [],e=>some (.nx,e)
 | d::r,e=>(unp ix d e).bind λI=>(g I).bind λq=>match q.1 with | .nx=>forU ix g r q.2 | .ct=>forU ix g r q.2 | .bk=>some (.nx,q.2) | .rt d=>some (.rt d,q.2) | .rf ds=>some (.rf ds,q.2) | .r2 ds=>some (.r2 ds,q.2) | .xc c=>some (.xc c,q.2) | .ra k ps=>some (.ra k ps,q.2)
@[simp] noncomputable def qr(ix:ic)(fi:FI)(g:FS):FS:=λe=>(fi e).bind λr=>forU ix g r.1 r.2
def zzj{K:kf}{W:Addr->Prop}{H:Hp}:∀(ix:ic) (ds:k7) (vs:k6) (env:DE0) (σ:St) (Q:St->Hp->Prop),Ok K G H0 W env σ H->Reps K H (Ow G W) ds vs->ds.length=ix.length ->
  (∀I,Ok K G H0 W (tj ix ds env) I H->Q I H)->gIs ix vs σ H Q
 | [],ds,vs,env,σ,Q,ok,r,hl,k=>by
   cases r with
   | nil=>exact⟨rfl,k σ ok⟩
   | cons _ _=>cases hl
 | i::ix,ds,vs,env,σ,Q,ok,r,hl,k=>by
   cases r with
   | nil=>cases hl
   | @cons d v ds vs r0 r =>
     refine⟨v,vs,rfl,?_⟩;exact zzj ix ds vs _ _ Q (ok.set r0) r (Nat.succ.inj hl) k
def zi  : PGs X [] (gIs []):=z0h
variable{es:i3}
def m8(I:Tos Nn X)(h:PGs X es (gIs ix))(D:Nn[i]?=some x:=by rfl)(J:(assignEach (.Name x pos::es) X.env).map (·.2)=assign (.Name x pos) X.env::(assignEach es X.env).map (·.2):=by rfl):PGs X (.Name x pos::es) (gIs (i::ix)):=zws (ztw (I.t D).nd (I.t D).n (I.t D).l (I.t D).f) h J
variable{body:List Stmt}{u:FS}
def zux(hi:DJx X G H0 (.Tuple es k p1) a fi)(h:PGs X es (gIs ix))(R:DBx X G H0 body u)(S:PassesOwn (model X.prog X.w) X.A X.env X.xe:=by passes_own)(I:X.calm=true:=by rfl)(U:(assignEach es X.env).length=ix.length:=by rfl)(D:(assignEach es X.env).findIdx? (·.1)=none:=by rfl)(V:∀x,foldedSetIterable a X.env x=pure x:=by intro _;rfl):DSx X G H0 (.For (.Tuple es k p1) a body [] pos) (qr ix fi u) :=
 zuq (b:=unp ix) (L:=forU ix u) hi (z24 (n:=ix.length) I h U D) R (λ{W env env' σ H d x Q} ok r e k=>by
  unfold unp at e;split at e;case h_2=>cases e
  split at e;case isFalse=>cases e
  rename_i J;cases e;cases r with
  | @tup a vs _ ht rr=>exact⟨a,vs,rfl,.inl (.inl ht),by rw[<-rr.length];exact J,zzj ix _ vs _ σ _ ok rr J k⟩) (λ_=>rfl) (λ_ _ _=>rfl) S I V
def zql(hi:DIx X G H0 (.Tuple es k p1) a fi)(h:PGs X es (gIs ix))(I:DBx X G H0 body u)(J:PassesOwn (model X.prog X.w) X.A X.env X.xe:=by passes_own)(R:X.calm=true:=by rfl)(S:(assignEach es X.env).length=ix.length:=by rfl)(D:(assignEach es X.env).findIdx? (·.1)=none:=by rfl)(U:∀x,foldedSetIterable a X.env x=pure x:=by intro _;rfl):DSx X G H0 (.For (.Tuple es k p1) a body [] pos) (qr ix fi u):=zux hi.dj h I J R S D U
def fRep(F:FA)(g:FE):FA:=λe=>(F e).bind λr=>(g r.2).bind λq=>match q.1 with
 | .int k=>if Few (r.1.length*k.toNat)/\Bnd (-(2 ^ 62)) (2 ^ 62) k then some ((List.replicate k.toNat r.1).flatten,q.2) else none
 | _=>none
def Reps.rep{K:kf}{H:Hp}{O:Addr->Prop}{ds:k7}{vs:k6}(r:Reps K H O ds vs):∀k:Nat,Reps K H O (List.replicate k ds).flatten (List.replicate k vs).flatten
 | 0=>.nil
 | k+1=>by
   exact r.append (Reps.rep r k)
theorem zzk(f:DFx X G H0 a F)(i:DEx X G H0 b g):DFx X G H0 (.BinOp a .Mult b pos) (fRep F g):=⟨(z0i z3v f.out i.out).imp λσ H Q j=>by
 obtain⟨W,env,d,env',ok,q,k⟩:=j;unfold fRep at q;cases e1:F env with
 | none=>rw[e1] at q;cases q
 | some r =>
   obtain⟨ds,D⟩:=r;rw[e1,ac] at q;cases e2:g D with
   | none=>rw[e2] at q;cases q
   | some r2 =>
     obtain⟨E,Y⟩:=r2;rw[e2,ac] at q;dsimp only at q;split at q;case h_2=>cases q
     rename_i kk;split at q;case isFalse=>cases q
     rename_i m;obtain⟨p,s,t⟩:=m;cases q;refine⟨W,env,_,_,ok,e1,λW1 l vs H1 Z I c u v e=>⟨W1,D,_,_,I,e2,λw v2 H2 s2 J p2=>?_⟩⟩;have R:Step W H W1 H1:=⟨Z.keep,λa h=>Z.ws a (.inl h)⟩;have S:Reps X.K H1 (Ow G W1) ds vs:=e.mono (λ_ _ h=>h) λa us o h=>⟨⟨o.1,λz=>o.2 (.inl z)⟩,h⟩;have U:=I.reps s2 S;have V:H2 l=some (.lst vs):=s2.keep l _ v u;cases p2;refine⟨l,kk,vs,rfl,rfl,V,by lia,by lia,?_,λn x=>?_⟩
     ·rw[<-e.length];exact de p (by rw[sizeLine_eq];decide)
     ·obtain⟨h1,h2,y,A,B,C⟩:=um J (Reps.rep U kk.toNat) x
      exact k w n _ _ ((R.trans s2).trans h1) h2 y A B C⟩
variable{wr:ia}{pins:kl}{h2:Heap}
def Inv.tupled{tk:Nat}{T:Addr}{us:k4}(I:Inv X pins σ H s)(R:∀b∈wr,FpOk X pins H b)(hT:s.heap.objs.size<=T)(g:T∉wr)(k:∀b o,b∉wr->s.heap.get? b=some o->h2.get? b=some o)(V:h2.IsTuple T us)(Y:Vals vs us.toList)(Z:vs.length<=sizeLine) :
  Inv X pins σ (upd H T (.tup vs)) { s with heap:=h2,toks:=tk }:=by
 have S:H T=none:=I.hok.fresh hT;have U:∀b u,H b=some u->b∉wr:=λb u e z=>by rw[(R b z).1] at e;cases e
 have neT:∀b o,s.heap.get? b=some o->b≠T:=λb o e=>b8 (bh (bi e) hT);refine I.step (g':=s.gens) (d':=s.drawn) (ch:=wr) (λb D=>⟨(R b D).2.2.2.1,(R b D).2.1,(R b D).2.2.2.2.1,(R b D).2.2.2.2.2⟩) (λb o _ _ J e _=>k b o J e) (λb o _ _ J e _=>⟨o.slots,k b o J e⟩)
  (λb o _ e n=>by rw[gv (neT b o e)];exact n) (λb o J e=>⟨o,k b o J e⟩) (λb xs e=>by rw[gv (nk e S)];exact e) (λb o u e=>by rw[gv (nk e S)];exact e)
  (λb ps e=>⟨#[],by rw[gv (nk e S),e];simp⟩) (λm a=>?_) (λb u e=>?_) I.bare
 ·obtain⟨o,es,d,f,r⟩:=a
  exact⟨o,es,d,k _ o (λz=>(R _ z).2.1 rfl) f,r⟩
 ·by_cases D:b=T
  ·subst D
   rw[km] at e;cases e;exact⟨Z,us.toList,Y,by rw[Array.toArray_toList];exact V⟩
  ·rw[gv D] at e
   refine(I.hok b u e).stay (λc v J q=>k c v ?_ q) (λc q=>by rw[gv (nk q S)];exact q) λc xs q=>by rw[gv (nk q S)];exact q
   rcases J with z | z
   ·rw[z];exact U b u e
   ·exact U c _ z
def Inv.turnedL{tk:Nat}(I:Inv X pins σ H s)(J:∀b∈wr,FpOk X pins H b)(k:∀b o,b∉wr->s.heap.get? b=some o->h2.get? b=some o) :
  Inv X pins σ H { s with heap:=h2,toks:=tk }:=by
 have R:∀b u,H b=some u->b∉wr:=λb u e z=>by rw[(J b z).1] at e;cases e
 refine I.step (g':=s.gens) (d':=s.drawn) (ch:=wr) (λb S=>⟨(J b S).2.2.2.1,(J b S).2.1,(J b S).2.2.2.2.1,(J b S).2.2.2.2.2⟩) (λb o _ _ D e _=>k b o D e) (λb o _ _ D e _=>⟨o.slots,k b o D e⟩)
  (λ_ _ _ _ n=>n) (λb o D e=>⟨o,k b o D e⟩) (λ_ _ e=>e) (λ_ _ _ e=>e) (λb ps e=>⟨#[],by rw[e];simp⟩) (λm U=>?_) (λb u e=>?_) I.bare
 ·obtain⟨o,es,V,Y,r⟩:=U
  exact⟨o,es,V,k _ o (λz=>(J _ z).2.1 rfl) Y,r⟩
 ·refine(I.hok b u e).stay (λc v D q=>k c v ?_ q) (λ_ q=>q) λ_ _ q=>q
  rcases D with z | z
  ·rw[z];exact R b u e
  ·exact R c _ z
def Itp(go:Nat->Hp->Prop)(I:Nat->Hp->k6->Prop)(D:Nat->Hp->Prop):It :=
 ⟨go,λi H x H'=>∃t vs,H t=none/\x=.ref t/\H'=upd H t (.tup vs)/\I i H vs,D⟩
variable{it:Addr}
def z4v{S:Nat->Heap->Prop}{go:Nat->Hp->Prop}{u:Nat->Hp->k6->Prop}{J:Nat->Hp->Prop}(mem:it∈fp)(obj:∀i h,S i h->∀b∈fp,∃o,h.get? b=some o/\∀v,o.data≠.cell v)(keep:∀i h h',S i h->(∀b∈fp,∀o,h.get? b=some o->h'.get? b=some o)->S i h')(x:∀(X:Cx),X.prog=P->X.w=w->X.K=K->X.A.handled=none->∀(i:Nat) (pins:kl) (s:Shared) (σ:St) (H:Hp),Inv X pins σ H s->(∀b∈fp,FpOk X pins H b)->S i s.heap->(go i H\/J i H) ->
   ∃U wr n Pt St Y j,WalksT P w X.A it U wr n Pt St Y/\St j s.heap/\(∀b∈wr,b∈fp)/\(∀h,St (j+1) h->S (i+1) h)/\(go i H->j<n)/\(J i H->j=n) /\
    (go i H->∀D,Pt j D->∃vs,Vals vs D.toList/\vs.length<=sizeLine/\u i H vs))(self:∀(A:Around) (i:Nat) (s:Shared) (Q:Value->Shared->Prop) (E:Value->Shared->Prop),S i s.heap->Q (.ref it) s->wpAny (model P w) A (pyIter (.ref it)) Q E s) :
  Turn P w K (.Tuple es k pos) (Itp go u J) fp it S where
 mem:=mem
 obj:=obj
 keep:=keep
 item:=by
  intro X hP m p q i pins s σ H E I a st c;obtain⟨U,wr,n,Pt,St,Y,j,W,r,Z,d,lt,_,t⟩:=x X hP m p (I.ok.hd q) i pins s σ H I a st (.inl c);refine W.item j s _ _ (lt c) r λT D h1 tk y hT z f kk=>⟨_,rfl,?_⟩;obtain⟨vs,B,C,F⟩:=t c D y;have g:T∉wr:=W.apart j T h1 f;refine W.go es k pos j T _ _ _ f λh2 s2 l=>?_;refine⟨.ref T,upd H T (.tup vs),?_,rfl,⟨T,vs,I.hok.fresh hT,rfl,rfl,F⟩,d h2 s2,λb R=>?_⟩
  ·exact I.tupled (λb R=>a b (Z b R)) hT g (λb o R e=>l b o R (kk b o R e)) (z.at λo e=>l T o g e) B C
  ·obtain⟨o,G,_⟩:=obj i _ st b R
   rw[gv (b8 (bh (bi G) hT))];exact(a b R).1
 done:=by
  intro X hP m p q i pins s σ H E I a st c;obtain⟨U,wr,n,Pt,St,Y,j,W,r,Z,d,_,L,_⟩:=x X hP m p (I.ok.hd q) i pins s σ H I a st (.inr c);cases L c;exact W.done s _ _ r λh1 tk kk=>⟨rfl,I.turnedL (λb R=>a b (Z b R)) kk⟩
 self:=self
variable{A:Around}{l:Addr}
theorem ztc(I:A.handled=none)(J:l≠it)(c:Nat)(its:k4) :
  Draws P w A.in1 it [it,l] (c+its.size) (λj x=>∃i,j=c+i/\its[i]?=some x) (λj h=>∃i,j=c+i/\i<=its.size/\h.IsListIter it l i/\h.IsList l its) where
 live:=λj h ⟨i,_,_,⟨o,e,_⟩,_⟩=>⟨o,e⟩
 frame:=λj h h' ⟨i,e,hi,a,b⟩ k=>⟨i,e,hi,a.at λo e=>k it (by simp) o e,b.at λo e=>k l (by simp) o e⟩
 item:=λj s Q E hj ⟨i,e,hi,a,b⟩ hQ=>by
  subst e;have hi:i<its.size:=by lia
  refine wpAny_nextOf_list_item a b (x:=its[i]) (by simp[hi]) λh' R D=>?_;exact hQ _ h' s.toks ⟨i,rfl,by simp[hi]⟩ ⟨i+1,by lia,hi,R,b.extBut D.extBut J⟩ D
 done:=λs Q E ⟨i,e,hi,a,b⟩ hE=>by
  have hi:i=its.size:=by lia
  subst hi;exact wpAny_nextOf_list_end I a b (by simp) hE
def Ite(K:kf)(a:Addr)(c:Nat):It :=
 Itp (λi H=>∃xs x,SqL K H a xs/\xs[i]?=some x) (λi H vs=>∃y,vs=[.int (c+i:Nat),y]/\∀xs,SqL K H a xs->xs[i]?=some y) (λi H=>∃xs,SqL K H a xs/\xs.length=i)
theorem zuy(a it e:Addr)(c:Nat)(N:e≠it) :
  Turn P w K (.Tuple es k pos) (Ite K a c) [e,it] e (λi h=>(∃J,IsEnum h e it (c+i:Nat) J)/\h.IsListIter it a i):=by
 refine z4v (by simp) (λi h st b B=>?_) (λi h h' st kk=>?_) ?_ λA i s Q E st W=>?_
 ·obtain⟨⟨J,R⟩,o,ho,_,hd⟩:=st
  rcases ce.mp B with z | z
  ·subst z
   exact⟨_,R,λv z=>by cases (show Data.fields _=Data.cell v from z)⟩
  ·cases cy.mp z
   exact⟨o,ho,λv z=>by rw[hd] at z;cases z⟩
 ·exact⟨st.1.imp λJ R=>kk e (by simp) _ R,st.2.at λo x=>kk it (by simp) o x⟩
 ·intro X hP hw hK hh i pins s σ H I hf st V
  subst hP hw hK;obtain⟨⟨J,R⟩,Y⟩:=st;have C:∃xs,SqL X.K H a xs/\i<=xs.length:=by
   rcases V with⟨xs,x,q,Z⟩ | ⟨xs,q,Z⟩
   ·exact⟨xs,q,oj (ai.mp Z).1⟩
   ·exact⟨xs,q,Nat.le_of_eq Z.symm⟩
  obtain⟨xs,q,F⟩:=C;obtain⟨its,O,p,hz⟩:=I.list q;have hl:=O.length;obtain⟨ol,U,d,_⟩:=id p.isList;obtain⟨oi,f,g,_⟩:=id Y;have G:a≠it:=λz=>by
   subst z;rw[U] at f;cases f;rw[d] at g;exact absurd g (by decide)
  have L:e≠a:=λz=>by
   subst z;rw[R] at U;cases U;exact absurd (show Value.type "enumerate" = Value.type "list" from d) (by decide)
  have D:=ztc (P:=X.prog) (w:=X.w) hh G c its.toArray;refine⟨_,_,_,_,_,_,c+i,WalksT.enumerateD D e N (by simp[N,L]) (by simp),⟨⟨J,R⟩,i,rfl,by simpa[<-hl] using F,Y,p.isList⟩,λb B=>B,λh st=>?_,λV=>?_,λhs=>?_,λV T hv=>?_⟩
  ·obtain⟨⟨j,M⟩,l,e',_,m,_⟩:=st
   have:l=i+1:=by lia
   subst this;exact⟨⟨j,M⟩,m⟩
  ·obtain⟨ys,y,n,S⟩:=V
   rw[I.list_inj n q] at S;have:=(ai.mp S).1;simp
   lia
  ·obtain⟨ys,n,S⟩:=hs
   rw[I.list_inj n q] at S;simp
   lia
  ·obtain⟨t,x,⟨l,e',Z⟩,rfl⟩:=hv
   have:l=i:=by lia
   subst this;obtain⟨ys,y,n,S⟩:=V;rw[I.list_inj n q] at S;obtain⟨u,hu,ru⟩:=O.get S;have:u=x:=by
    have r:its[l]?=some x:=by simpa using Z
    rw[hu] at r;cases r;rfl
   subst this;exact⟨[.int (c+l:Nat),y],.cons ⟨t,rfl⟩ (.cons ru .nil),by show 2<=sizeLine;rw[sizeLine_eq];decide,y,rfl,λzs C=>by rw[I.list_inj C q];exact S⟩
 ·obtain⟨⟨J,R⟩,_⟩:=st
  exact wpAny_pyIter_enum R W
structure ZNe (z ti to i1 i2:Addr):Prop where
 a1:ti≠z
 a2:to≠z
 a3:i1≠z
 a4:i2≠z
 a5:ti≠to
 a6:ti≠i1
 a7:ti≠i2
 a8:to≠i1
 a9:to≠i2
 aA:i1≠i2
abbrev enH(h:Heap)(l:Addr):Heap:=h.push { cls:=.type "list_iterator",data:=.fields #[.ref l,.int 0 0] }
abbrev enHs(h:Heap)(l:Addr):Heap:=(enH h l).push { cls:=.type "enumerate",data:=.fields #[.none,.bool false,.ref h.objs.size,rawInt 1,.none,.none] }
def ztd(v:Value)(t:Tok):checkTypeCall "enumerate" ⟨[v],[("start",.int 1 t)]⟩=pure ():=by kernel_rfl
def zuz(v:Value)(t:Tok):checkBuiltinCall "enumerate.__new__" ⟨[.type "enumerate",v],[("start",.int 1 t)]⟩=pure ():=by kernel_rfl
def zu0(l:Addr)(D:k4)(n:Nat)(J:Option Addr)(sl:Array g9)(t:Tok) :
  Meets (Builtin.«enumerate.__new__» ⟨[.type "enumerate",.ref l],[("start",.int 1 t)]⟩) (λ_ R s=>s.heap.get? l=some ⟨.type "list",J,.seq D n,sl⟩/\R (.ok (.ret (.ref (enH s.heap l).objs.size))) { s with heap:=enHs s.heap l }) :=
 .of_wp λprog w A R s h=>by
  obtain⟨V,g,d,tk,os⟩:=s;obtain⟨I,h⟩:=h;have S:=sub_enumerate;have U:Heap.IsList (Shared.heap ⟨V,g,d,tk,os⟩) l D:=⟨_,I,rfl,n,rfl⟩
  wp_walk using AutoSeq1.wpAny_loadPart' I
  refine wpAny_stack_any λst=>wpAny_pure ?_;split
  ·rename_i c _ _ _ _ _
   cases (c==Value.type "enumerate") <;> (refine wpAny_bind (wpAny_of_eq (a:=(Value.ref l,some (Value.int 1 t))) (by rfl) ?_);wp_walk using AutoSeq1.wpAny_loadPart' I,wpAny_pyIter_list U;exact⟨_,rfl,h⟩)
  ·refine wpAny_bind (wpAny_of_eq (a:=(Value.ref l,some (Value.int 1 t))) (by rfl) ?_);wp_walk using AutoSeq1.wpAny_loadPart' I,wpAny_pyIter_list U;exact⟨_,rfl,h⟩
variable{t:Tok}
theorem zxi{v x:Value}:Meets (Builtin.«object.__init__» ⟨[v,x],[("start",.int 1 t)]⟩) (λ_ R s=>s.TypeIs v "enumerate"/\R (.ok (.ret .none)) s) :=
 .of_wp λprog w A R s D=>by
  obtain⟨hT,h⟩:=D;have I:=F.called_enumerate.made;have J:=F.called_enumerate.init.lookup;repeat (any_goals (first | assumption | wp_step))
  exact⟨_,rfl,h⟩
theorem zxj(a b:Value)(t:Tok):argsOk "object.__init__" ⟨[a,b],[("start",.int 1 t)]⟩:=by
 unfold argsOk;rw[signature?_of (id:="object.__init__") (n:=['_','_','t','i','n','i','_','_']) (o:=['t','c','e','j','b','o']) (by kernel_rfl) F.owner_object];kernel_rfl
variable{prog:Program}{E:Value->Shared->Prop}
theorem zxk{D:k4}{Q:Value->Shared->Prop}(a:s.heap.IsList l D)(h:Q (.ref (enH s.heap l).objs.size) { s with heap:=enHs s.heap l }):wpAny (model prog w) A (call (.type "enumerate") [.ref l] [("start",.int 1 t)]) Q E s:=by
 obtain⟨⟨c,J,b,sl⟩,d,S,n,U⟩:=a;replace S:c=.type "list":=S;replace U:b=.seq D n:=U;subst S U;have V:=F.called_enumerate.made;have Z:=F.called_enumerate.sub;have e:=ztd (.ref l) t;refine wpAny_call (codeAny_of_tree (show wpAny _ _ (callAny (.type "enumerate") _) _ _ _ from wpAny_pure ⟨Code.quiet_builtin _ (by decide +kernel),codeAny_builtin F.entry_type_call ?_⟩));repeat (any_goals (first | assumption | wp_step))
 refine codeAny_mono (codeAny_call_builtin (R:=λr I=>r=.ok (.ret (.ref (enH s.heap l).objs.size))/\I={ s with heap:=enHs s.heap l }) F.called_enumerate.plain F.entry_enumerate_new (wpAny_of_eq (zuz _ t) (zu0 l D n J sl t prog w A.in1 (λr I=>r=.ok (.ret (.ref (enH s.heap l).objs.size))/\I={ s with heap:=enHs s.heap l }) s ⟨d,rfl,rfl⟩))) λr I f=>?_;obtain⟨rfl,rfl⟩:=f;have hT:Shared.TypeIs { s with heap:=enHs s.heap l } (.ref (enH s.heap l).objs.size) "enumerate":=⟨_,ci _ rfl,rfl⟩;have g:=F.called_enumerate.init.lookup;have i:=F.called_enumerate.init.bind (.ref (enH s.heap l).objs.size);repeat (any_goals (first | assumption | wp_step))
 refine codeAny_mono (codeAny_call_builtin (R:=λr s2=>r=.ok (.ret .none)/\s2={ s with heap:=enHs s.heap l }) F.called_enumerate.init.plain F.entry_object_init (F.called_enumerate.init.check _ _ _ _ _ _ _ _ hT (zxj _ _ t) (zxi prog w A.in1 (λr s2=>r=.ok (.ret .none)/\s2={ s with heap:=enHs s.heap l }) _ ⟨hT,rfl,rfl⟩))) λj s2 Y=>?_;obtain⟨rfl,rfl⟩:=Y;repeat (any_goals (first | assumption | wp_step))
variable{c:Nat}
theorem mem2(h:c∈[n+1,n]):n<=c:=by simp at h;lia
def zu1:bootBuiltins "enumerate" = some (.type "enumerate"):=by decide +kernel
def z4w(K:kf)(c:Nat)(ta:TA):TI:=λσ H R=>ta σ H λvs H1=>∃l xs,vs=[.ref l]/\SqL K H1 l xs/\R (Ite K l c) H1
variable{p p2 kp:Pos}{ta:TA}
def zxl(Y:Bn X "enumerate")(b:PA X [a] ta)(d:starEach [a] X.env=(false,eval a X.env)::starEach [] X.env:=by rfl)(U:(backTo pos (starEach [a] X.env)).any (·.1)=false:=by rfl) :
  PI X (.Tuple es k p1) (.Call (.Name "enumerate" p) [a] [⟨some "start",.Constant (.int 1) j p2,kp⟩] pos) (z4w X.K 1 ta):=by
 intro pins s σ H R I h;refine wpAny_Call_Name_kw (zn I Y.g Y.m zu1 ?_);refine PySem.W.callWith_of (P:=λ_=>True) (by rw[U];rfl) (λ_ _=>⟨Keeper.machine,.inr (.inl rfl),PySem.W.Looks.of_pure rfl⟩) (evalArgs_kw2 rfl (thn (b pos pins s σ H _ I h) λus f V=>?_) d);obtain⟨vs,H1,n,u,v⟩:=V;refine thn (z0q (nm:=some "start") (kpos:=kp) (xn (i:=1) (j:=j) (pos:=p2)) z3r pos pins f σ H1 (λws H2=>H2=H1/\ws=[.int 1]) n ⟨rfl,rfl⟩) λws s2 V=>?_;obtain⟨A,H2,S,w,x,y⟩:=V;refine⟨trivial,?_⟩;subst x y;obtain⟨l,xs,e,z,q⟩:=v;subst e;cases u with
 | cons r rr =>
   cases rr;cases r;cases w with
   | cons r' rr' =>
   obtain⟨t,rfl⟩:=r';obtain⟨its,B,pl,C⟩:=S.list z;refine zxk (t:=t) pl.isList ?_;have Z:IsEnum (enHs s2.heap l) (enH s2.heap l).objs.size s2.heap.objs.size 1 .none:=ci _ rfl;have D:(enH s2.heap l).objs.size=s2.heap.objs.size+1:=i8 ..;refine wpAny_pyIter_enum Z ?_;refine⟨(enH s2.heap l).objs.size,[(enH s2.heap l).objs.size,s2.heap.objs.size],_,_,H2,rfl,S.kept (t':=s2.toks) (λc o e=>au _ (au _ e)),zuy l _ _ 1 (by rw[D];exact Nat.succ_ne_self _),⟨⟨.none,Z⟩,⟨_,au _ (ci _ rfl),rfl,rfl⟩⟩,λc J=>?_,q⟩;have J:s2.heap.objs.size<=c:=by rw[D] at J;exact mem2 J
   exact S.fpOk J (S.hok.fresh J)
def pi:Nat->k7->k7
 | _,[]=>[]
 | c,d::r=>.tup [.int c,d]::pi (c+1) r
def zipD:k7->k7->k7
 | d::r,d'::r'=>.tup [d,d']::zipD r r'
 | _,_=>[]
theorem zpc:∀(ds:k7) (c i:Nat),(pi c ds)[i]?=ds[i]?.map λd=>.tup [.int (c+i:Nat),d]
 | [],c,i=>by simp[pi]
 | d::r,c,0=>by simp[pi]
 | d::r,c,i+1=>by
   simp only[pi,af];rw[zpc r (c+1) i];rw[show c+1+i=c+(i+1) by lia]
def zpd:∀(ds:k7) (c:Nat),(pi c ds).length=ds.length
 | [],_=>rfl
 | d::r,c=>by simp[pi,zpd r]
@[simp] noncomputable def iEn(c:Nat)(ds:k7):Option k7:=match ds with | [.lst ds]=>some (pi c ds) | _=>none
@[simp] noncomputable def iZp(ds:k7):Option k7:=match ds with | [.lst ds,.lst es]=>some (zipD ds es) | _=>none
variable{H':Hp}
def z1e{W':Addr->Prop}{t:Addr}(r:Reps K H' (Ow G W') ds vs)(D:H' t=none):Rep K (upd H' t (.tup vs)) (Ow G W') (.tup ds) (.ref t):=by
 refine .tup (km ..) (r.mono (λa us e=>by rw[gv (nk e D)];exact e) λa us o h=>⟨o,?_⟩);exact h.keep λo e=>by rw[gv (nk e D)];exact e
def zu2(c:Nat)(ok:Ok X.K G H0 W env σ H)(h:LsOk X.K H (Ow G W) l vs)(r:Reps X.K H (Ow G W) ds vs):z4p X.K G (Ite X.K l c) W H (pi c ds) where
 go:=λW' H' i d st e=>by
  rw[zpc] at e;cases e0:ds[i]? with
  | none=>rw[e0] at e;cases e
  | some d0 =>
    rw[e0] at e;cases e;obtain⟨v,D,I⟩:=(ok.reps st r).get e0;have h':=(ok.lsstep st h).sq;refine⟨⟨vs,v,h',D⟩,λx H'' ⟨t,us,hn,ex,eH,y,eu,hy⟩=>?_⟩;subst ex eH eu;have:=hy vs h';rw[D] at this;cases this;exact⟨yc hn,z1e (.cons (.int _) (.cons I .nil)) hn⟩
 stop:=λW' H' st=>⟨vs,(ok.lsstep st h).sq,by rw[zpd,r.length]⟩
variable{tg:Expr}
def zxm(J:PI X tg e (z4w X.K c (tDA X.K G H0 F))):DJx X G H0 tg e (jw (iEn c) F):=⟨J.imp λσ H R S=>by
 obtain⟨W,env,ds,env',ok,q,k⟩:=S;cases e1:F env with
 | none=>simp[e1] at q
 | some z =>
   obtain⟨as,D⟩:=z;cases e2:iEn c as with
   | none=>rw[jw,e1] at q;simp only[ac,e2] at q;cases q
   | some d' =>
     have q:some (d',D)=some (ds,env'):=by rw[jw,e1] at q;simp only[ac,e2] at q;exact q
     cases q;refine⟨W,env,as,_,ok,e1,λW1 vs H1 U I p1=>?_⟩;unfold iEn at e2;split at e2
     ·rename_i xs
      cases e2;obtain⟨v,rfl,V⟩:=qt p1;obtain⟨l,us,rfl,h,r⟩:=V.lst_;exact⟨l,us,rfl,h.sq,k W1 _ H1 U I (zu2 c I h r)⟩
     ·cases e2⟩
def zxn(I:DAx X G H0 [a] F)(J:Bn X "enumerate":=by walk_at "b")(R:starEach [a] X.env=(false,eval a X.env)::starEach [] X.env:=by rfl)(D:(backTo pos (starEach [a] X.env)).any (·.1)=false:=by rfl) :
  DJx X G H0 (.Tuple es k p1) (.Call (.Name "enumerate" p) [a] [⟨some "start",.Constant (.int 1) j p2,kp⟩] pos) (jw (iEn 1) F):=zxm (zxl J I.out R D)
def zxo{env0:DE0}{z:Int}(h:fVar i env=some (.int z,env0)):env[i]?=some (some (.sh (.int z)))/\env0=env:=by
 unfold fVar at h;split at h
 ·rename_i d D
  cases h;exact⟨D,rfl⟩
 all_goals cases h
variable{op:D->D->k8}{o:Int->Int->Int}
def z6v(U:∀D I d,op D I=some d->∃u v,D=.int u/\I=.int v/\d=.int (o u v)):∀Dn σ H,tDS X G H0 (sSet i (fBin op (fVar i) f)) Dn σ H->tAug i (tD X.K G H0 f) (ipI o) Dn σ H :=
 λDn σ H V=>by
 obtain⟨W,env,fl,env',ok,q,k⟩:=V;unfold sSet fBin at q;cases e0:fVar i env with
 | none=>rw[e0] at q;cases q
 | some r0 =>
   obtain⟨Y,env0⟩:=r0;rw[e0,ac] at q;cases e1:f env0 with
   | none=>rw[e1] at q;cases q
   | some J =>
     obtain⟨D,S⟩:=J;rw[e1,ac] at q;cases e2:op Y D with
     | none=>rw[e2] at q;cases q
     | some I =>
       rw[e2] at q;cases q;obtain⟨u,v,rfl,rfl,rfl⟩:=U _ _ _ e2;obtain⟨Z,rfl⟩:=zxo e0;obtain⟨y,a,b⟩:=ok.slot i _ Z;refine⟨y,a,W,env0,_,_,ok,e1,λW1 v1 H1 c R J=>⟨u,v,Rep.int_ b,J.int_,k W1 _ H1 c (R.set (.int _))⟩⟩
def znh(I:Tos Nn X)(J:DEx X G H0 e f)(D:Nn[i]?=some x:=by rfl) :
  DSx X G H0 (.AugAssign (.Name x p') .Add e pos) (sSet i (fBin i4 (fVar i) f)):=⟨(z25 (I.t D).nd (I.t D).n (I.t D).l J.out zy4 (I.t D).f).imp (z6v λR S d h=>by
 cases R <;> try (cases h;done)
 all_goals cases S <;> first | (cases h;done) | exact⟨_,_,rfl,rfl,(bu h).symm⟩)⟩
def z4x:V->V->Hp->VK->Prop:=λo i H Q=>∃l xs k v,o=.ref l/\i=.int k/\H l=some (.lst xs)/\0<=k/\xs[k.toNat]?=some v/\Q v H
theorem zru:PGet X z4x:=by
 intro pins s σ H o i Y Z Q I ro R h;obtain⟨l,xs,k,v,rfl,rfl,S,U,J,q⟩:=h;cases ro;obtain⟨t,rfl⟩:=R;obtain⟨its,r,pl,a⟩:=I.list (.inl (.inl S));obtain⟨w,V,D⟩:=r.get J;have b:=(ai.mp J).1;have c:=xm;exact wpAny_getItem_list pl.isList U (by lia) (by simpa using V) ⟨v,H,I,D,q⟩
def zxp(i:Nat)(op:D->D->k8)(k:Int)(d v:D)(e:DE0):Option (Fl×DE0):=match e[i]? with
 | some (some (.ow ds))=>if k.toNat<ds.length then(op d v).map λr=>(.nx,e.set i (some (.ow (ds.set k.toNat r)))) else none
 | _=>none
def uj(i:Nat)(op:D->D->k8)(R S:FE):FS:=λe=>match e[i]? with
 | some (some (.ow _))=>(R e).bind λI=>match I.1,I.2[i]? with
   | .int k,some (some (.ow ds))=>if 0<=k then(ds[k.toNat]?).bind λd=>(S I.2).bind λJ=>zxp i op k d J.1 J.2 else none
   | _,_=>none
 | _=>none
theorem zzl(x:∀p r d,op p r=some d->∃u v,p=.int u/\r=.int v/\d=.int (o u v)) :
  ∀Dn σ H,tDS X G H0 (uj i op g f) Dn σ H->z26 (tVar i) (tD X.K G H0 g) (tD X.K G H0 f) z4x (ipI o) z3u Dn σ H:=λDn σ H y=>by
 obtain⟨W,env,fl,env',ok,q,k⟩:=y;unfold uj at q;split at q;case h_2=>cases q
 rename_i z a;obtain⟨v,Y,l,A,rfl,B,C,_⟩:=ok.slot i _ a;cases e1:g env with
 | none=>rw[e1] at q;cases q
 | some Z =>
 obtain⟨dk,I⟩:=Z;rw[e1,ac] at q;dsimp only at q;split at q;case h_2=>cases q
 rename_i kk ds E;split at q;case isFalse=>cases q
 rename_i J;cases e2:ds[kk.toNat]? with
 | none=>rw[e2] at q;cases q
 | some dd =>
 rw[e2,ac] at q;cases e3:f I with
 | none=>rw[e3] at q;cases q
 | some r3 =>
 obtain⟨F,s⟩:=r3;rw[e3,ac] at q;unfold zxp at q;split at q;case h_2=>cases q
 rename_i L R;split at q;case isFalse=>cases q
 cases e4:op dd F with
 | none=>rw[e4] at q;cases q
 | some dr =>
 rw[e4] at q;cases q;obtain⟨u,w,rfl,rfl,rfl⟩:=x _ _ _ e4;refine⟨_,Y,W,env,_,_,ok,e1,λW1 v1 H1 M S Z=>?_⟩;obtain⟨N,D,l',b,O,P,c,e⟩:=S.slot i _ E;rw[Y] at D;cases D;cases O;obtain⟨Q,h,j⟩:=e.get e2;refine⟨l,b,kk,Q,rfl,Z.int_,c,J,h,W1,I,_,_,S,e3,λT v2 H2 s2 U r2=>?_⟩;refine⟨u,w,j.int_,r2.int_,?_⟩;obtain⟨N,D,l',m,e6,aa,n,V⟩:=U.slot i _ R;rw[Y] at D;cases D;cases e6;obtain⟨t1,t2⟩:=U.turn R Y (Reps.set (.int (o u w)) kk.toNat V);have t:=V.length;refine⟨l,m,kk,kk.toNat,rfl,Z.int_,n,?_,k T _ _ ((M.trans s2).trans t2) t1⟩;unfold ixN;rw[if_pos J,if_pos (by lia)]
def zxq(R:DEx X G H0 b g)(S:DEx X G H0 e f)(an:Ats Nn Cn X)(J:Nn[i]?=some x:=by rfl)(U:∀D I new,augStore b D I new=(do holding [new,D,I] (setItem D I new);release [new,D,I] [];pure .next):=by intros;rfl) :
  DSx X G H0 (.AugAssign (.Subscript (.Name x p') b p1) .Add e pos) (uj i i4 g f):=⟨(zty ((an.a J).pe) R.out zru S.out zy4 xz U).imp (zzl λV Y d h=>by
 cases V <;> try (cases h;done)
 all_goals cases Y <;> first | (cases h;done) | exact⟨_,_,rfl,rfl,(bu h).symm⟩)⟩
def zxr(R:DEx X G H0 b g)(S:DEx X G H0 e f)(an:Ats Nn Cn X)(J:Nn[i]?=some x:=by rfl)(U:∀D I new,augStore b D I new=(do holding [new,D,I] (setItem D I new);release [new,D,I] [];pure .next):=by intros;rfl) :
  DSx X G H0 (.AugAssign (.Subscript (.Name x p') b p1) .Sub e pos) (uj i dSub g f):=⟨(zty ((an.a J).pe) R.out zru S.out z27 xz U).imp (zzl λV Y d h=>by
 cases V <;> try (cases h;done)
 all_goals cases Y <;> first | (cases h;done) | exact⟨_,_,rfl,rfl,(bu h).symm⟩)⟩
def z1f(I:k7)(e:DE0)(i:Nat):Option (D×DE0):=match e[i]? with
 | some (some (.ow ds))=>if Few (ds.length+I.length) then some (.non,e.set i (some (.ow (ds++I)))) else none
 | _=>none
def zni(i:Nat)(F:FA):FE:=λe=>match e[i]? with
 | some (some (.ow _))=>(F e).bind λr=>z1f r.1 r.2 i
 | _=>none
def zu3(h:DFx X G H0 a F)(an:Ats Nn Cn X)(V:Nn[i]?=some x:=by rfl)(D:attributeBase (.Name x p') "extend" X.env (eval (.Name x p') X.env)=eval (.Name x p') X.env:=by rfl)(J:((backTo pos (starEach [a] X.env)).all (λx=>!x.1) && (backToKw pos (keywordEach [] X.env)).all (λx=>x.1.isSome)
   && decide ([a].length+([]:List Keyword).length+(if ([]:List Keyword).isEmpty then 0 else 1)<30))=true:=by rfl)(I:(p1.endLine==pos.line)=true:=by rfl)(c:starEach [a] X.env=(false,eval a X.env)::starEach [] X.env:=by rfl) :
  DEx X G H0 (.Call (.Attribute (.Name x p') "extend" p1) [a] [] pos) (zni i F):=⟨(zw1 fz PySem.F.slot_list_extend PySem.F.type_list_extend zub ((an.a V).pe) (mw h.out pk c) D J I c rfl).imp λσ H Q j=>by
 obtain⟨W,env,d,env',ok,q,k⟩:=j;unfold zni at q;split at q;case h_2=>cases q
 rename_i m Y;obtain⟨v,Z,l,o,rfl,p,b,_⟩:=ok.slot i _ Y;cases e1:F env with
 | none=>rw[e1] at q;cases q
 | some r =>
   obtain⟨s,R⟩:=r;rw[e1,ac] at q;unfold z1f at q;split at q;case h_2=>cases q
   rename_i ds e;split at q;case isFalse=>cases q
   rename_i S;cases q;refine⟨_,Z,.inl ⟨rfl,_,.inl (.inl b)⟩,W,env,s,R,ok,e1,λW1 n us H1 t u U C w f=>?_⟩;obtain⟨E,g,l',vs,y,K,z,r⟩:=U.slot i _ e;rw[Z] at g;cases g;cases y;obtain⟨A,B⟩:=U.turn e Z (r.append f);refine⟨l,n,vs,us,rfl,rfl,z,w,?_,k _ _ _ (t.trans B) A .non⟩;rw[<-r.length,<-f.length];exact de S (by rw[sizeLine_eq];decide)⟩
def z1g:D->Bool | .tup _=>false | .lst _=>false | .dct _ _=>false | _=>true
def Rep.atom{I:kf}{O':Addr->Prop}{d:D}(r:Rep K H O d v)(h:z1g d=true):Rep I H' O' d v:=by
 cases r with
 | non=>exact .non
 | bl b=>exact .bl b
 | int i=>exact .int i
 | str s=>exact .str s
 | tup _ _=>cases h
 | lst _ _ _=>cases h
 | klst _ _=>cases h
 | dct _ _=>cases h
 | exc a=>exact .exc a
structure z6w (K:kf) (G:Gd) (J:It) (W:Addr->Prop) (H:Hp) (ds:k7):Prop where
 go:∀H' (i:Nat) d,Same H H'->ds[i]?=some d->J.go i H'/\∀x H'',J.yld i H' x H''->H''=H'/\Rep K H' (Ow G W) d x
 stop:∀H',Same H H'->J.stop ds.length H'
def tDC(K:kf)(G:Gd)(H0:Hp)(f:FI):TI:=λσ H R=>DP K G H0 f (λW env ds env' =>
 ∀W' J H',Step W H W' H'->Ok K G H0 W' env' σ H'->z6w K G J W' H' ds->R J H') σ H
structure DCx (X:Cx) (G:Gd) (H0:Hp) (tg:Expr) (e:Expr) (f:FI):Prop where
 out:PI X tg e (tDC X.K G H0 f)
def fiV(i:Nat):FI:=λe=>match e[i]? with
 | some (some (.ow ds))=>some (ds,e)
 | some (some (.sh (.lst ds)))=>some (ds,e)
 | _=>none
def zzm(an:Ats Nn Cn X)(I:Nn[i]?=some x:=by rfl):DCx X G H0 tg (.Name x p1) (fiV i):=⟨(zt0 ((an.a I).pe)).imp λσ H R Z=>by
 obtain⟨W,env,ds,env',ok,q,k⟩:=Z;unfold fiV at q;split at q
 ·rename_i ds' J
  cases q;obtain⟨v,S,l,vs,rfl,c,U,r⟩:=ok.slot i _ J;refine⟨_,S,l,rfl,⟨vs,.inl (.inl U)⟩,k W _ H Step.refl ok ⟨λH' j d sm e=>?_,λH' sm=>⟨vs,.inl (.inl (sm _ _ U)),by rw[r.length];exact b9 _⟩⟩⟩;obtain⟨w,V,b⟩:=(ok.reps (Step.same sm) r).get e;have D:SqL X.K H' l vs:=.inl (.inl (sm _ _ U));exact⟨⟨vs,w,D,V⟩,λy H'' ⟨e3,z⟩=>⟨e3,by have:=z vs D;rw[V] at this;cases this;exact b⟩⟩
 ·rename_i ds' J
  cases q;obtain⟨v,S,r⟩:=ok.slot i _ J;obtain⟨l,vs,rfl,h,r⟩:=Rep.lst_ r;have Y:=zo7 ok h r;exact⟨_,S,l,rfl,⟨vs,h.sq⟩,k W _ H Step.refl ok ⟨λH' j d sm e=>Y.go W H' j d (Step.same sm) e,λH' sm=>Y.stop W H' (Step.same sm)⟩⟩
 ·cases q⟩
theorem zzn{te:FE}:∀σ H Q,tDF X.K G H0 (iz fi ix tt te) σ H Q->xb (tDC X.K G H0 fi) ix (tDxT X.K tt) (tDx X.K te) σ H Q:=λσ H Q u=>by
 obtain⟨W,env,d,env',ok,q,k⟩:=u;cases e1:fi env with
 | none=>simp[iz,e1] at q
 | some z =>
   obtain⟨ds,V⟩:=z;by_cases c:Few ds.length
   ·simp only[iz,e1,ac,if_pos c] at q
    cases e2:m4 tt te (ix.map λj=>capt (V.getD j none)) ds with
    | none=>rw[e2] at q;cases q
    | some outs =>
      rw[e2] at q;cases q;refine⟨W,env,ds,_,ok,e1,λW1 J H1 A f s=>?_⟩;refine⟨λi m H' ys=>∃rest D,m=ds.length-i/\i<=ds.length/\Same H1 H'/\Reps X.K H' (Ow G W1) D ys/\D.length<=i/\m4 tt te (ix.map λj=>capt (env'.getD j none)) (ds.drop i)=some rest/\d=D++rest,⟨ds.length,d,[],rfl,gz _,Same.refl _,.nil,b9 _,e2,rfl⟩,?_⟩;rintro i m H' ys ⟨rest,D,rfl,hi,sm,rp,hd,ec,rfl⟩;have st:Step W1 H1 W1 H':=Step.same sm;have I:Ok X.K G H0 W1 env' σ H':=f.same sm;by_cases S:i<ds.length
      ·have B:ds.drop i=ds[i]::ds.drop (i+1):=gf S
       rw[B] at ec;obtain⟨C,E⟩:=s.go H' i ds[i] sm (by simp[S]);refine .inr ⟨C,λx g y=>?_⟩;obtain⟨rfl,F⟩:=E x g y;have n:=znb (ix:=ix) I F;unfold m4 at ec;cases e3:tt (some (.sh ds[i])::ix.map λj=>capt (env'.getD j none)) with
       | none=>rw[e3] at ec;cases ec
       | some bb =>
         obtain⟨b,R⟩:=bb;rw[e3,ac] at ec;refine⟨_,_,NoW,_,b,R,n,e3,λL H2 s2 U=>?_⟩;have p:Same H1 H2:=sm.trans U.stay;have r:Reps X.K H2 (Ow G W1) D ys:=I.reps (Step.same U.stay) rp;cases b with
         | false =>
           exact⟨ds.length-(i+1),by lia,rest,D,rfl,S,p,r,by lia,ec,rfl⟩
         | true =>
           cases e4:te R with
           | none=>simp only[e4] at ec;cases ec
           | some vv =>
             obtain⟨t,Y⟩:=vv;simp only[e4,ac] at ec;cases e5:m4 tt te (ix.map λj=>capt (env'.getD j none)) (ds.drop (i+1)) with
             | none=>rw[e5] at ec;cases ec
             | some rest' =>
               rw[e5] at ec;cases ec;refine⟨_,_,L,R,t,Y,U,e4,λW3 v H3 s3 Z r3=>⟨?_,ds.length-(i+1),by lia,rest',D++[t],rfl,S,sm.trans Z.stay,?_,by rw[ao,js];lia,by first | exact e5 | rfl,by simp⟩⟩
               ·have:ys.length<2 ^ 20:=by rw[<-rp.length];have:ds.length<=2 ^ 20:=c;lia
                exact bh this (by rw[sizeLine_eq];decide)
               ·refine(I.reps (Step.same Z.stay) rp).append (.cons (r3.mono (λ_ _ h=>h) λa us o h=>⟨?_,h⟩) .nil)
                rcases o.1 with z | z
                ·exact z
                ·exact⟨I.good a (I.stay.free z),λw=>by obtain⟨_,us,q⟩:=I.wl a w;rw[z] at q;cases q⟩
      ·have e:i=ds.length:=by lia
       subst e;rw[kt] at ec;cases ec;refine .inl ⟨s.stop H' sm,by rw[<-rp.length];exact de hd (de c (by rw[sizeLine_eq];decide)),λl M=>?_⟩;obtain⟨h1,h2,N,O,P,T⟩:=um I rp M;rw[dh] at k;exact k W1 l _ _ ((A.trans st).trans h1) h2 N O P T
   ·simp only[iz,e1,ac,if_neg c] at q;cases q
section
variable {X:Cx} {G:Gd} {H0:Hp} {a b c e:Expr} {es rest:i3} {f g:FE} {F:FA} {u:FS} {pos p' p1 pos1:Pos} {x:Str} {i:Nat}
def zxs{Nn Cn:g7}{ix:ic}{sc:Scope}{px:Pos}{fi:FI}{te:FE}(an:Ats Nn Cn X)(hi:DCx X G H0 (.Name x px) a fi)(I:∀cl C s₂ H₂ fp G H0,Ats (x::(subN Nn ix)) (subN Nn ix) (je X x (subN Nn ix) sc cl C s₂ H₂ fp)->DEx (je X x (subN Nn ix) sc cl C s₂ H₂ fp) G H0 e te)(D:p8 Nn Cn ix x sc=true:=by decide +kernel)(J:X.calm=true:=by rfl)(R:∀v,foldedSetIterable a X.env v=pure v:=by intro _;rfl) :
  DFx X G H0 (.ListComp e [⟨.Name x px,a,[],0⟩] sc pos) (iz fi ix fYes te) :=
 ⟨(zqg (vq an D) (λ_ _ _ _ _ _ _ _ _=>J) hi.out (λcl C s₂ H₂ fp _=>zb (X:=X) rfl) (λcl C s₂ H₂ fp _=>el_x (X:=X) rfl (λG H0=>I cl C s₂ H₂ fp G H0 (tw D))) R).imp zzn⟩
def zxt{Nn Cn:g7}{y:Str}{ix:ic}{sc:Scope}{px py spos:Pos}{fi:FI}{te:FE}(an:Ats Nn Cn X)(R:Tos Nn X)(hi:DCx X G H0 (.Name x px) a fi)(S:∀cl C s₂ H₂ fp G H0,Ats (x::(subN Nn ix)) (subN Nn ix) (je X x (subN Nn ix) sc cl C s₂ H₂ fp)->DEx (je X x (subN Nn ix) sc cl C s₂ H₂ fp) G H0 e te)(J:p8 Nn Cn ix x sc=true:=by decide +kernel)(V:X.calm=true:=by rfl)(I:Nn[i]?=some y:=by rfl)(U:swapsWith (.ListComp e [⟨.Name x px,a,[],0⟩] sc pos) (some (.Name y py)) spos.line X.env=pure true:=by rfl)(Y:∀v,foldedSetIterable a X.env v=pure v:=by intro _;rfl) :
  PS X (.Assign [.Name y py] (.ListComp e [⟨.Name x px,a,[],0⟩] sc pos) spos) (tAsg (tDF X.K G H0 (iz fi ix fYes te)) (m6 i)) :=
 (zm7 (vq an J) (λ_ _ _ _ _ _ _ _ _=>V) (R.t I).nd (R.t I).n (R.t I).l hi.out (λcl C s₂ H₂ fp _=>zb (X:=X) rfl) (λcl C s₂ H₂ fp _=>el_x (X:=X) rfl (λG H0=>S cl C s₂ H₂ fp G H0 (tw J))) U (R.t I).f Y).imp λD σ H h=>zzn σ H _ h
def zxu(i:Nat):FE:=λe=>match e[i]? with
 | some (some (.ow ds))=>(ints? ds).map λD=>(.int D.sum,e)
 | some (some (.sh (.lst ds)))=>(ints? ds).map λD=>(.int D.sum,e)
 | _=>none
def z1h{Nn Cn:g7}{i:Nat}(an:Ats Nn Cn X)(U:X.calm=true:=by rfl)(R:Bn X "sum":=by walk_at "b")(D:Nn[i]?=some x:=by rfl)(S:starEach [.Name x p1] X.env=(false,eval (.Name x p1) X.env)::starEach [] X.env:=by rfl):DEx X G H0 (.Call (.Name "sum" p') [.Name x p1] [] pos) (zxu i) :=
 ⟨(x0 (zo4 U) R.g R.m boot_sum (mw ((an.a D).pe) pk S) (by decide) (by decide) S rfl).imp λσ H Q V=>by
  obtain⟨W,env,d,env',ok,q,k⟩:=V;unfold zxu at q;split at q
  ·rename_i ds I
   cases e2:ints? ds with
   | none=>rw[e2] at q;cases q
   | some ns =>
   rw[e2] at q;cases q;cases zlb e2;obtain⟨v,J,l,vs,rfl,Z,Y,r⟩:=ok.slot i _ I;cases zjz r;exact⟨_,J,l,ns,rfl,.inl (.inl Y),k W _ H Step.refl ok (.int _)⟩
  ·rename_i ds I
   cases e2:ints? ds with
   | none=>rw[e2] at q;cases q
   | some ns =>
   rw[e2] at q;cases q;cases zlb e2;obtain⟨v,J,r⟩:=ok.slot i _ I;obtain⟨l,us,rfl,h,r⟩:=Rep.lst_ r;cases zjz r;exact⟨_,J,l,ns,rfl,h.sq,k W _ H Step.refl ok (.int _)⟩
  ·cases q⟩
def tDL(K:kf)(G:Gd)(H0:Hp)(f:FA):TA:=λσ H Q=>DP K G H0 f (λW env ds env' =>
 ∀W' vs H',Step W H W' H'->Ok K G H0 W' env' σ H'->Reps K H' G ds vs->Q vs H') σ H
structure DLx (X:Cx) (G:Gd) (H0:Hp) (es:i3) (f:FA):Prop where
 out:PA X es (tDL X.K G H0 f)
def z6x(h:DAx X G H0 es F):DLx X G H0 es F:=⟨h.out.imp λσ H Q ⟨W,env,ds,env',ok,q,k⟩ =>
 ⟨W,env,ds,env',ok,q,λW' vs H' st D r=>k W' vs H' st D (r.mono (λ_ _ h=>h) λa us o h=>⟨o.1,h⟩)⟩⟩
def zxv(i:Nat)(F:FA):FA:=λe=>match e[i]? with
 | some (some (.ow _))=>(F e).bind λq=>match q.2[i]? with | some (some (.ow ds))=>some (.lst ds::q.1,q.2) | _=>none
 | _=>none
def z1i{Nn Cn:g7}{i:Nat}(Z:DLx X G H0 es F)(an:Ats Nn Cn X)(I:Nn[i]?=some x:=by rfl)(b:starEach (.Name x p1::es) X.env=(false,eval (.Name x p1) X.env)::starEach es X.env:=by rfl):DLx X G H0 (.Name x p1::es) (zxv i F) :=
 ⟨(mw ((an.a I).pe) Z.out b).imp λσ H Q c=>by
  obtain⟨W,env,ds,env',ok,q,k⟩:=c;unfold zxv at q;split at q;case h_2=>cases q
  rename_i d J;obtain⟨v,U,l,e,rfl,f,g,_⟩:=ok.slot i _ J;cases e1:F env with
  | none=>rw[e1] at q;cases q
  | some r =>
    obtain⟨R,V⟩:=r;rw[e1,ac] at q;split at q;case h_2=>cases q
    rename_i j S;cases q;refine⟨_,U,W,env,R,_,ok,e1,λW1 vs H1 m D n=>?_⟩;obtain⟨y,Y,l',p,s,t,u,w⟩:=D.slot i _ S;rw[U] at Y;cases Y;cases s;exact k W1 _ H1 m D (.cons (.lst (D.good l (D.wl l t).1) (.inl u) (w.mono (λ_ _ h=>h) λa us o h=>⟨o.1,h⟩)) n)⟩
def zh(m:k7->k8)(F:FA):FE:=λe=>(F e).bind λr=>(m r.1).bind λd=>if z1g d=true then some (d,r.2) else none
variable {CX:CXT} {k:Nat} {fa:Addr} {fd:FuncData} {ps:g7} {m:k7->k8} {E:XK}
def z4y:∀σ H Q,tD X.K G H0 (zh m F) σ H Q->zwy (dSp X.K m) [] E (tDL X.K G H0 F) σ H Q:=λσ H Q R=>by
 obtain⟨W,env,d,env',ok,q,k⟩:=R;unfold zh at q;cases e1:F env with
 | none=>rw[e1] at q;cases q
 | some r =>
   obtain⟨ds,J⟩:=r;rw[e1,ac] at q;cases e2:m ds with
   | none=>rw[e2] at q;cases q
   | some d' =>
     rw[e2,ac] at q;split at q;case isFalse=>cases q
     rename_i D;cases q;refine⟨W,env,ds,_,ok,e1,λW1 vs H1 S I p1=>?_⟩;show dSp X.K m (vs++[]) H1 Q E;rw[dh];exact⟨G,ds,_,p1,e2,λv H2 sm U=>k W1 v H2 (S.trans (Step.same sm)) (I.same sm) (U.atom D)⟩
def zxw{jr:Nat}(c:Cal X.prog X.w X.K X.mg X.base CX0 x k (dSp X.K m))(R:Room jr X.A)(S:DLx X G H0 (e::es) F)(D:k<=jr:=by decide)(U:Gl X x:=by walk_at "g")(V:starEach (e::es) X.env=(false,eval e X.env)::starEach es X.env:=by rfl)(I:(backTo pos (starEach es X.env)).any (·.1)=false:=by rfl) :
  DEx X G H0 (.Call (.Name x p') (e::es) [] pos) (zh m F):=let ⟨_,_,_,Y,Z,a,b,J⟩:=c;⟨(zqb Y (R.mono D) U Z a b .nil z0z S.out J V I).imp z4y⟩
end
section
variable {X:Cx} {G:Gd} {H0:Hp} {a b c e:Expr} {es rest:i3} {f g:FE} {F:FA} {pos p' p1 pos1:Pos} {x:Str} {i:Nat}
end
variable{xs:g7}
def gl_p(h:sc.names.lookup x=some .globalImplicit):Gl (z00 X xs N' sc cl C s H fp) x:=zdr h
section
variable (P:Program) (w:World)
end
section
variable {X:Cx}
variable {a b:Expr} {ta tb:TE} {pos:Pos}
variable {tA tB':TT} {rest:i3}
end
section
variable {X:Cx} {st:Stmt} {rest:List Stmt} {t u:TS} {e:Expr} {te:TE} {pos:Pos}
end
section
variable {X:Cx} {CX:CXT} {k:Nat} {f C:Addr} {fd:FuncData} {ps ks:g7} {sp:Sp} {E:XK} {x m:Str} {p pos apos kpos:Pos} {e o:Expr} {es:i3} {kws:List Keyword} {te ta:TE} {t tk:TA} {nm:ka}
variable {g:g8->g8->g8} {gV:k6->k6->k6}
end
section
variable {κ:Type} [DecidableEq κ]
end
structure M1 (X:Cx) (o:Expr) (m:Str) (apos:Pos) (e:Expr) (cpos:Pos):Prop where
 base:attributeBase o m X.env (eval o X.env)=eval o X.env
 few:((backTo cpos (starEach [e] X.env)).all (λx=>!x.1) && (backToKw cpos (keywordEach [] X.env)).all (λx=>x.1.isSome)
  && decide (([e]:i3).length+([]:List Keyword).length+(if ([]:List Keyword).isEmpty then 0 else 1)<30))=true
 line:(apos.endLine==cpos.line)=true
 trees:backTo cpos (starEach [e] X.env)=[(false,eval e X.env)]
structure M2 (X:Cx) (o:Expr) (m:Str) (apos:Pos) (e f:Expr) (cpos:Pos):Prop where
 base:attributeBase o m X.env (eval o X.env)=eval o X.env
 few:((backTo cpos (starEach [e,f] X.env)).all (λx=>!x.1) && (backToKw cpos (keywordEach [] X.env)).all (λx=>x.1.isSome)
  && decide (([e,f]:i3).length+([]:List Keyword).length+(if ([]:List Keyword).isEmpty then 0 else 1)<30))=true
 line:(apos.endLine==cpos.line)=true
 trees:backTo cpos (starEach [e,f] X.env)=[(false,eval e X.env),(false,eval f X.env)]
end L2
namespace Att
open PySem PySem.W PySem.Calls PyProof.Rows
end Att
namespace L2
open PySem PySem.Spec PyProof.Rows
section
variable {κ:Type} [DecidableEq κ]
end
section
variable {X:Cx} {G:Gd} {H0:Hp} {a b c e:Expr} {es rest:i3} {f g:FE} {F:FA} {pos p' p1 pos1:Pos} {x:Str} {i:Nat}
end
section
variable {X:Cx} {G:Gd} {H0:Hp} {a b c e:Expr} {es rest:i3} {f g:FE} {F:FA} {pos p' p1 pos1:Pos} {x:Str} {i:Nat}
end
section
variable {X:Cx} {G:Gd} {H0:Hp} {a b c e:Expr} {es rest:i3} {f g:FE} {F:FA} {pos p' p1 pos1:Pos} {x:Str} {i:Nat}
end
end L2
namespace L2
open PySem
theorem zrv{i:Nat}{g:FS}(P:Nat->DE0->Prop):∀(ds:k7) (e:DE0) (n:Nat),P n e->(∀(k:Nat) (d:D) (e:DE0),ds[k]?=some d->P (n+k) e->∃e',g (e.set i (some (.sh d)))=some (.nx,e')/\P (n+k+1) e') ->
  ∃e',forL i g ds e=some (.nx,e')/\P (n+ds.length) e'
 | [],e,n,h,_=>⟨e,rfl,h⟩
 | d::r,e,n,h,hs=>by
   obtain⟨I,h1,p1⟩:=hs 0 d e rfl h;obtain⟨J,h2,p2⟩:=zrv P r I (n+1) p1 λk d' e' R S=>by
    have:=hs (k+1) d' e' (by simpa using R) (by rw[<-Nat.add_assoc,Nat.add_right_comm];exact S);rw[show n+(k+1)+1=n+1+k+1 by lia] at this;exact this
   refine⟨J,?_,by rw[ak,show n+(r.length+1)=n+1+r.length by lia];exact p2⟩;simp[forL,h1,h2]
variable{i:Int}{g:FS}
def yd{i:Nat}(P:Nat->DE0->Prop)(ds:k7)(e:DE0)(h:P 0 e)(I:∀(k:Nat) (d:D) (e:DE0),ds[k]?=some d->P k e->∃e',g (e.set i (some (.sh d)))=some (.nx,e')/\P (k+1) e') :
  ∃e',forL i g ds e=some (.nx,e')/\P ds.length e':=by
 obtain⟨e',h1,h2⟩:=zrv P ds e 0 h λk d e J R=>by
  obtain⟨e',S,U⟩:=I k d e J (by simpa using R);exact⟨e',S,by simpa using U⟩
 exact⟨e',h1,by simpa using h2⟩
variable{lo:Int}{n:Nat}{d:D}
def z8{k:Nat}(h:(rngD lo n)[k]?=some d):d=.int (lo+k)/\k<n:=by
 unfold rngD at h;rw[cb] at h;by_cases D:k<n
 ·rw[List.getElem?_range D] at h
  exact⟨(bu h).symm,D⟩
 ·rw[cx (by simpa using D)] at h;cases h
def yh:(rngD lo n).length=n:=by simp[rngD]
theorem rj(h:-1000000000000<i/\i<1000000000000):l3 i:=⟨by lia,by lia⟩
variable{α:Type}
theorem z4z{xs:List α}(I:0<=i)(h1:i<xs.length):∃x,atI xs i=some x/\xs[i.toNat]?=some x:=by
 have D:i.toNat<xs.length:=by lia
 exact⟨xs[i.toNat],by unfold atI ixN;rw[if_pos I,if_pos h1];simp[D],by simp[D]⟩
variable{ar:Nat}{ds:k7}
def j3{e':DE0}(h:ds.length=ar)(D:g (jl n ds)=some (.rt d,e')):runD n ar g ds=some d:=by
 unfold runD;rw[if_pos h,D]
def few(h:n<=1000000):Few n:=de h (by decide)
theorem qx(n:Nat)(D:n<=1000000):iR1 [.int n]=some (rngD 0 n):=by
 unfold iR1;dsimp only;rw[if_pos (show Bnd _ _ _ from⟨by lia,by lia⟩),e7]
variable{j:Int}
def zzo(h:l3 j):dMul (.int i) (.int j)=some (.int (i*j)):=by
 unfold dMul;dsimp only;rw[if_pos (.inr h)]
def ui(h:l3 i):dMul (.int i) (.int j)=some (.int (i*j)):=by
 unfold dMul;dsimp only;rw[if_pos (.inl h)]
def z1j(h:0<j):dMod (.int i) (.int j)=some (.int (i % j)):=by
 unfold dMod;dsimp only;rw[if_pos h]
theorem zu4(h:0<j)(h2:j<1073741824):dDiv (.int i) (.int j)=some (.int (i / j)):=by
 unfold dDiv;dsimp only;rw[if_pos (show Bnd _ _ _ from⟨by lia,h2⟩)]
def o7{α:Type}{te:FE}{base:DE0}(φ ψ:α->D):∀(xs:List α),(∀x∈xs,∃e',te (some (.sh (φ x))::base)=some (ψ x,e'))->m4 fYes te base (xs.map φ)=some (xs.map ψ)
 | [],_=>rfl
 | x::xs,h=>by
   obtain⟨e',I⟩:=h x bc;have J:=o7 φ ψ xs λy R=>h y (am _ R);simp[m4,I,J]
def zld{α:Type}{tt:FT}{te:FE}{base:DE0}(φ ψ:α->D)(p:α->Bool):∀(xs:List α),(∀x∈xs,∃I,tt (some (.sh (φ x))::base)=some (p x,I)/\(p x=true->∃e',te I=some (ψ x,e')))->m4 tt te base (xs.map φ)=some ((xs.filter p).map ψ)
 | [],_=>rfl
 | x::xs,h=>by
   obtain⟨I,h1,h2⟩:=h x bc;have J:=zld φ ψ p xs λy R=>h y (am _ R);cases hp:p x with
   | false =>
     simp[m4,h1,J,List.filter_cons,hp]
   | true =>
     obtain⟨e',S⟩:=h2 hp;simp[m4,h1,S,J,List.filter_cons,hp]
def zmq{α:Type}{te:FA}{base:DE0}(φ:α->D)(ψ:α->k7):∀(xs:List α),(∀x∈xs,∃e',te (some (.sh (φ x))::base)=some (ψ x,e'))->zo te base (xs.map φ)=some (xs.map ψ)
 | [],_=>rfl
 | x::xs,h=>by
   obtain⟨e',I⟩:=h x bc;have J:=zmq φ ψ xs λy R=>h y (am _ R);simp[zo,I,J]
def z6y(a b c:D):atI [a,b,c] 0=some a:=rfl
def ze(a b c:D):atI [a,b,c] 1=some b:=rfl
def ww(a b c:D):atI [a,b,c] 2=some c:=rfl
def z6z(a b c d:D):atI [a,b,c,d] 0=some a:=rfl
def z60(a b c d:D):atI [a,b,c,d] 1=some b:=rfl
def z61(a b c d:D):atI [a,b,c,d] 2=some c:=rfl
def z62(a b c d:D):atI [a,b,c,d] 3=some d:=rfl
def zpf{α:Type}{i:Nat}{g:FS}(φ:α->D)(P:List α->DE0->Prop)(all:List α)(I:∀(p:List α) (x:α) (q:List α) (e:DE0),all=p++x::q->P p e->∃e',g (e.set i (some (.sh (φ x))))=some (.nx,e')/\P (p++[x]) e') :
  ∀(xs pre:List α) (e:DE0),all=pre++xs->P pre e->∃e',forL i g (xs.map φ) e=some (.nx,e')/\P all e'
 | [],pre,e,h,hp=>⟨e,rfl,by rw[h,dh];exact hp⟩
 | x::xs,pre,e,h,hp=>by
   obtain⟨J,h1,p1⟩:=I pre x xs e h hp;obtain⟨R,h2,p2⟩:=zpf φ P all I xs (pre++[x]) J (by rw[h];simp) p1;exact⟨R,by simp[forL,h1,h2],p2⟩
def rh{i:Nat}(φ:α->D)(P:List α->DE0->Prop)(all:List α)(e:DE0)(I:P [] e)(J:∀(p:List α) (x:α) (q:List α) (e:DE0),all=p++x::q->P p e->∃e',g (e.set i (some (.sh (φ x))))=some (.nx,e')/\P (p++[x]) e') :
  ∃e',forL i g (all.map φ) e=some (.nx,e')/\P all e':=zpf φ P all J all [] e rfl I
def zxx(h:ds.length=ar)(D:∃e',g (jl n ds)=some (.rt d,e')):runD n ar g ds=some d:=by
 obtain⟨e',D⟩:=D;exact j3 h D
end L2
namespace L2
open PySem PySem.Spec PyProof.Rows PySem.W
abbrev Ag:=AK×k9
abbrev ll:=List Ag
abbrev ln:=Option (D×List Ag)
def slA(x:Ag)(j:Nat):Sl:=.ag x.1 (some j) x.2
def getA(env:DE0):ic->Option ll
 | []=>some []
 | i::r=>match env[i]? with | some (some (.ag k _ ps))=>(getA env r).map λt=>(k,ps)::t | _=>none
def putA(env:DE0):ic->ll->DE0
 | i::r,x::t=>match env[i]? with | some (some (.ag _ l _))=>putA (env.set i (some (.ag x.1 l x.2))) r t | _=>putA env r t
 | _,_=>env
def nr(ags:ll):DE0:=ags.zipIdx.map λp=>some (slA p.1 p.2)
variable{env:DE0}
def vo:∀ {is:ic} {ags:ll} {j i:Nat},getA env is=some ags->is[j]?=some i->∃x l,ags[j]?=some x/\env[i]?=some (some (.ag x.1 l x.2))
 | a::r,ags,j,i,h,e=>by
   unfold getA at h;split at h
   ·rename_i k l ps q
    cases h2:getA env r with
    | none=>rw[h2] at h;cases h
    | some t =>
      rw[h2] at h;cases h;cases j with
      | zero=>simp at e;subst e;exact⟨(k,ps),l,rfl,q⟩
      | succ j=>obtain⟨x,l',D,I⟩:=vo h2 (by simpa using e);exact⟨x,l',by simpa using D,I⟩
   ·cases h
def yb:∀ {is:ic} {ags:ll},getA env is=some ags->ags.length=is.length
 | [],_,h=>by cases h;rfl
 | a::r,ags,h=>by
   unfold getA at h;split at h
   ·cases h2:getA env r with
    | none=>rw[h2] at h;cases h
    | some t=>rw[h2] at h;cases h;rw[ak,ak,yb h2]
   ·cases h
def znj:∀ {is:ic} {ags:ll} {env:DE0},(putA env is ags).length=env.length
 | [],_,_=>by simp[putA]
 | a::r,[],_=>by simp[putA]
 | a::r,x::t,env=>by
   unfold putA;split
   ·rw[znj,dw]
   ·rw[znj]
def znk:∀ {is:ic} {ags:ll} {env:DE0} {i:Nat},i∉is->(putA env is ags)[i]?=env[i]?
 | [],_,_,_,_=>by simp[putA]
 | a::r,[],_,_,_=>by simp[putA]
 | a::r,x::t,env,i,h=>by
   have h1:a≠i:=λz=>h (by simp[z]);have h2:i∉r:=λz=>h (by simp[z]);unfold putA;split
   ·rw[znk h2,dg h1]
   ·rw[znk h2]
def zqm:∀ {is:ic} {ags:ll} {env:DE0} {j i:Nat} {x:Ag} {k:AK} {l:Option Nat} {ps:k9},is.Nodup->is[j]?=some i->ags[j]?=some x->env[i]?=some (some (.ag k l ps))->(putA env is ags)[i]?=some (some (.ag x.1 l x.2))
 | a::r,y::t,env,j,i,x,k,l,ps,nd,e1,e2,e3=>by
   cases j with
   | zero =>
     simp at e1 e2;subst e1;subst e2;unfold putA;rw[e3];rw[znk (bz.mp nd).1,di (ai.mp e3).1]
   | succ j =>
     have hi:a≠i:=λz=>by subst z;exact(bz.mp nd).1 (bg (by simpa using e1))
     unfold putA;split
     ·exact zqm (bz.mp nd).2 (by simpa using e1) (by simpa using e2) (by rw[dg hi];exact e3)
     ·exact zqm (bz.mp nd).2 (by simpa using e1) (by simpa using e2) e3
variable{ags:ll}{j:Nat}{s:Stmt}
def zle{s:Sl}(h:(nr ags)[j]?=some (some s)):∃x,ags[j]?=some x/\s=slA x j:=by
 unfold nr at h;rw[cb,List.getElem?_zipIdx] at h;cases e:ags[j]? with
 | none=>rw[e] at h;cases h
 | some x=>rw[e] at h;cases h;exact⟨x,rfl,by simp⟩
def zpg:(nr ags).length=ags.length:=by simp[nr]
def mask(H:Hp)(W:Addr->Prop):Hp:=λa=>open Classical in if W a then none else H a
variable{a:Addr}{W:Addr->Prop}{H:Hp}
def znl(h:W a):mask H W a=none:=if_pos h
def zrw(h:¬W a):mask H W a=H a:=if_neg h
variable{o:Expr}
def zph{o:HO}(h:mask H W a=some o):¬W a/\H a=some o:=by
 by_cases z:W a
 ·rw[znl z] at h;cases h
 ·rw[zrw z] at h;exact⟨z,h⟩
def zpi(h:mask H W a=none):W a\/H a=none:=by
 by_cases z:W a
 ·exact .inl z
 ·rw[zrw z] at h;exact .inr h
def Lent(H:Hp)(env:DE0)(σ:St)(is:ic):Addr->Prop:=λa=>∃i s v,i∈is/\env[i]?=some (some s)/\σ[i]?=some (some v)/\Owns H s v a
variable{is:ic}{K:kf}{G:Gd}{H0:Hp}{σ:St}
def Ok.lentW(ok:Ok K G H0 W env σ H)(h:Lent H env σ is a):W a:=by
 obtain⟨i,s,v,_,e,I,o⟩:=h;obtain⟨J,D,q⟩:=ok.slot i s e;rw[I] at D;cases D;exact q.owns o
def sx(G:Gd)(W L:Addr->Prop)(r:Nat->ia):Gd:=⟨λa=>G a/\(W a->L a),r⟩
def Ok.lend(ok:Ok K G H0 W env σ H)(nd:is.Nodup)(Y:getA env is=some ags) :
  ∃(r:Nat->ia) (us:k6),us.length=is.length/\(∀(j i:Nat),is[j]?=some i->∃u,us[j]?=some u/\σ[i]?=some (some u)) /\
   (∀(j i:Nat) (k:AK) (l:Option Nat) (ps:k9),is[j]?=some i->env[i]?=some (some (.ag k l ps))->∃p as,us[j]?=some (.ref p)/\Lab k (r j) p as/\∀n,l=some n->Lab k (G.r n) p as) /\
   Ok K (sx G W (Lent H env σ is) r) (mask H (Lent H env σ is)) (Lent H env σ is) (nr ags) (us.map some) H:=by
 have B:∀a,Lent H env σ is a->W a:=λa=>ok.lentW;have ex:∀j:Nat,∃t:ia×V,∀(i:Nat) (x:Ag) (l:Option Nat),is[j]?=some i->ags[j]?=some x->env[i]?=some (some (.ag x.1 l x.2)) ->
   σ[i]?=some (some t.2)/\∃p as us,t.2=.ref p/\Lab x.1 t.1 p as/\W p/\(p::as).Nodup/\(∀n,l=some n->Lab x.1 (G.r n) p as)/\AkOk K H x.1 p us/\PtsOk K G W H x.2 as us:=λj=>by
  cases J:is[j]? with
  | none=>exact⟨([],.non),λi x l e=>by cases e⟩
  | some i =>
    obtain⟨x,l,h1,h2⟩:=vo Y J;obtain⟨v,I,p,as,us,R,X,F,hl,C,E⟩:=ok.slot i _ h2;refine⟨(match x.1 with | .ins true _ _=>[p] | _=>p::as,v),λL M l' z1 z2 z3=>?_⟩;cases z1;rw[h1] at z2;cases z2;rw[h2] at z3;cases z3;refine⟨I,p,as,us,R,?_,X,F,hl,C,E⟩;obtain⟨k,ps⟩:=x;cases k with
    | ls=>rfl
    | ins b c fs=>cases b <;> rfl
 obtain⟨t,U⟩:=Classical.axiomOfChoice ex;have Z:=yb Y;refine⟨λj=>(t j).1,(List.range is.length).map λj=>(t j).2,by simp,λj i e=>?_,λj i k l ps I R=>?_,?_⟩
 ·have J:=(ai.mp e).1
  obtain⟨x,l,h1,h2⟩:=vo Y e;exact⟨_,by simp[J],(U j i x l e h1 h2).1⟩
 ·have J:=(ai.mp I).1
  obtain⟨x,l',h1,h2⟩:=vo Y I;rw[R] at h2;cases h2;obtain⟨q1,p,as,us,f,N,_,_,q4,_⟩:=U j i x l I h1 R;exact⟨p,as,by simp[J,f],N,q4⟩
 ·have own:∀ {j i:Nat} {x:Ag} {l:Option Nat},is[j]?=some i->ags[j]?=some x->env[i]?=some (some (.ag x.1 l x.2))->∀a,Owns H (slA x j) (t j).2 a->Lent H env σ is a:=λ{j i x l} I R g a o =>
   ⟨i,_,_,bg I,g,(U j i x l I R g).1,o⟩
  have cv:∀ {d:D} {v:V},Rep K H (Ow G W) d v->Rep K H (Ow (sx G W (Lent H env σ is) λj=>(t j).1) (Lent H env σ is)) d v:=λr =>
   r.mono (λ_ _ h=>h) λa us o h=>⟨⟨⟨o.1,λz=>absurd z o.2⟩,λz=>o.2 (B a z)⟩,h⟩
  have O:∀ {d:k7} {v:k6},Reps K H (Ow G W) d v->Reps K H (Ow (sx G W (Lent H env σ is) λj=>(t j).1) (Lent H env σ is)) d v:=λr =>
   r.mono (λ_ _ h=>h) λa us o h=>⟨⟨⟨o.1,λz=>absurd z o.2⟩,λz=>o.2 (B a z)⟩,h⟩
  have pos:∀ {j:Nat} {s:Sl},(nr ags)[j]?=some (some s)->∃i x l,is[j]?=some i/\ags[j]?=some x/\env[i]?=some (some (.ag x.1 l x.2))/\s=slA x j/\(((List.range is.length).map λj=>(t j).2).map some)[j]?=some (some (t j).2):=λ{j s} e=>by
   obtain⟨x,h1,rfl⟩:=zle e;have J:j<is.length:=by rw[<-Z];exact(ai.mp h1).1
   obtain⟨M,l,h2,S⟩:=vo Y (show is[j]?=some is[j] by simp[J]);rw[h1] at h2;cases h2;exact⟨is[j],x,l,by simp[J],h1,S,rfl,by simp[J]⟩
  refine⟨λa o e=>(zph e).2,λa e=>?_,λa e=>⟨znl e,(ok.wl a (B a e)).2⟩,λj s e=>?_,λj j' s s' v v' a I R g e4 o1 o2=>?_,by rw[zpg,ah,ah,kh,Z]⟩
  ·rcases zpi e with z | z
   ·exact⟨ok.good a (ok.wl a (B a z)).1,λ_=>z⟩
   ·exact⟨ok.good a (ok.stay.free z),λw=>by obtain⟨_,m,q⟩:=ok.wl a w;rw[z] at q;cases q⟩
  ·obtain⟨i,x,l,h1,h2,S,rfl,P⟩:=pos e
   obtain⟨q1,p,as,us,f,N,X,F,q4,C,E⟩:=U j i x l h1 h2 S;refine⟨_,P,p,as,us,f,own h1 h2 S p (.inl f),F,λn z=>by cases z;exact N,C,E.step (λa vs ha z=>⟨own h1 h2 S a (.inr ⟨p,us,f,C.o,E.parts_iff.mpr ha⟩),z⟩) (λ_ _ r=>cv r) λ_ _ r=>O r⟩
  ·obtain⟨i,x,l,h1,h2,S,rfl,P⟩:=pos I
   obtain⟨L,M,l',y,Q,A,rfl,T⟩:=pos R;rw[P] at g;cases g;rw[T] at e4;cases e4;have:=ok.uniq i L _ _ _ _ a S A (U j i x l h1 h2 S).1 (U j' L M l' y Q A).1 o1 o2;subst this;exact zm8 nd h1 y
variable{us:k6}{W':Addr->Prop}{H':Hp}
theorem Ok.unlend(ok:Ok K G H0 W env σ H){I:ll}{r:Nat->ia}{env':DE0}{T:St}(nd:is.Nodup)(hg:getA env is=some ags)(hu:∀(j i:Nat),is[j]?=some i->∃u,us[j]?=some u/\σ[i]?=some (some u))(X:∀(j i:Nat) (k:AK) (l:Option Nat) (ps:k9),is[j]?=some i->env[i]?=some (some (.ag k l ps))->∃p as,us[j]?=some (.ref p)/\Lab k (r j) p as/\∀n,l=some n->Lab k (G.r n) p as)(hl:I.length=is.length)(an:∀(j:Nat) (x y:Ag),ags[j]?=some x->I[j]?=some y->y.1=x.1)(st:Step (Lent H env σ is) H W' H')(B:Ok K (sx G W (Lent H env σ is) r) (mask H (Lent H env σ is)) W' env' T H')(Y:∀(j:Nat) (x:Ag),I[j]?=some x->env'[j]?=some (some (slA x j))) :
  Ok K G H0 (λa=>W' a\/(W a/\¬Lent H env σ is a)) (putA env is I) σ H'/\Step W H (λa=>W' a\/(W a/\¬Lent H env σ is a)) H' /\
   (∀ {d:D} {v:V},Rep K H' (Ow (sx G W (Lent H env σ is) r) W') d v->Rep K H' (Ow G (λa=>W' a\/(W a/\¬Lent H env σ is a))) d v):=by
 have lW:∀a,Lent H env σ is a->W a:=λa=>ok.lentW;have N:∀a,W' a->Lent H env σ is a\/H a=none:=st.ws;have n':∀a,W' a->W a->Lent H env σ is a:=λa h w=>(N a h).elim id λz=>by obtain⟨_,m,q⟩:=ok.wl a w;rw[z] at q;cases q
 have aa:Step W H (λa=>W' a\/(W a/\¬Lent H env σ is a)) H':=⟨λb o e n=>st.keep b o e λz=>n (lW b z),λa z=>by
  rcases z with z | z
  ·exact(N a z).imp (lW a) id
  ·exact .inl z.1⟩
 have back:∀ {j i:Nat} {y:Ag} {k:AK} {l:Option Nat} {ps:k9},is[j]?=some i->I[j]?=some y->env[i]?=some (some (.ag k l ps)) ->
   ∃u p as vs,σ[i]?=some (some u)/\T[j]?=some (some u)/\u=.ref p/\W' p/\(p::as).Nodup/\(∀n,l=some n->Lab y.1 (G.r n) p as)/\AkOk K H' y.1 p vs/\PtsOk K (sx G W (Lent H env σ is) r) W' H' y.2 as vs:=λ{j i y k l ps} R A C=>by
  obtain⟨x,l',h1,h2⟩:=vo hg R;rw[C] at h2;cases h2;obtain⟨v,M,p,as,vs,rfl,hW,n1,hr,hk,hp⟩:=B.slot j _ (Y j y A);obtain⟨u,F,L⟩:=hu j i R;obtain⟨p0,O,Q,Z,z5⟩:=X j i _ _ _ R C;rw[F] at Q;cases Q;have hy:=an j x y h1 A;have S:Lab y.1 (r j) p as:=hr j rfl;have same:p=p0/\(as=O\/∃c fs,y.1=.ins true c fs):=by
   rw[<-hy] at Z;generalize y.1=kk at S Z;cases kk with
   | ls=>have S:r j=p::as:=S;have Z:r j=p0::O:=Z;rw[S] at Z;cases Z;exact⟨rfl,.inl rfl⟩
   | ins b c fs =>
     cases b with
     | true=>have S:r j=[p]:=S;have Z:r j=[p0]:=Z;rw[S] at Z;cases Z;exact⟨rfl,.inr ⟨c,fs,rfl⟩⟩
     | false=>have S:r j=p::as:=S;have Z:r j=p0::O:=Z;rw[S] at Z;cases Z;exact⟨rfl,.inl rfl⟩
  obtain⟨rfl,hs⟩:=same;refine⟨_,p,as,vs,L,M,rfl,hW,n1,λn hn=>?_,hk,hp⟩;have z6:=z5 n hn;rw[<-hy] at z6;rcases hs with rfl | ⟨c,fs,q⟩
  ·exact z6
  ·rw[q] at z6 ⊢;exact z6
 have up:∀(a:Addr) (us:k6),Ow (sx G W (Lent H env σ is) r) W' a->Rd H' a (.lst us)->Ow G (λa=>W' a\/(W a/\¬Lent H env σ is a)) a/\Rd H' a (.lst us):=λa us o h=>⟨⟨o.1.1,λz=>z.elim o.2 λy=>y.2 (o.1.2 y.1)⟩,h⟩;have cv:∀ {d:D} {v:V},Rep K H' (Ow (sx G W (Lent H env σ is) r) W') d v->Rep K H' (Ow G (λa=>W' a\/(W a/\¬Lent H env σ is a))) d v:=λrp=>rp.mono (λ_ _ h=>h) up;have ap:∀ {d:k7} {v:k6},Reps K H' (Ow (sx G W (Lent H env σ is) r) W') d v->Reps K H' (Ow G (λa=>W' a\/(W a/\¬Lent H env σ is a))) d v:=λrp=>rp.mono (λ_ _ h=>h) up;have f:∀ {i:Nat} {s:Sl} {v:V},i∉is->env[i]?=some (some s)->σ[i]?=some (some v)->∀a,Owns H s v a->W a/\¬Lent H env σ is a:=λ{i s v} hi e R a o=>by
  obtain⟨v',A,q⟩:=ok.slot i s e;rw[R] at A;cases A;refine⟨q.owns o,λz=>?_⟩;obtain⟨i',s',v',g,F,L,Q⟩:=z;exact hi ((ok.uniq i i' s s' _ _ a e F R L o Q) ▸ g)
 have P:∀ {i:Nat} {s:Sl} {v:V},i∉is->env[i]?=some (some s)->σ[i]?=some (some v)->∀a (m:Mo),Owns H s v a->H a=some m.out->(W' a\/(W a/\¬Lent H env σ is a))/\H' a=some m.out:=λ{i s v} hi e R a m o q=>by
  have z:=f hi e R a o;exact⟨.inr z,st.keep a _ q z.2⟩
 have t:∀ {i:Nat} {s:Sl} {v:V} {a:Addr},i∉is->env[i]?=some (some s)->σ[i]?=some (some v)->Owns H' s v a->Owns H s v a:=λ{i s v a} hi e R o=>by
  obtain⟨v',A,q⟩:=ok.slot i s e;rw[R] at A;cases A;refine q.back (λl z w m L=>?_) o;refine st.keep l _ L λy=>?_;obtain⟨i',s',v',g,F,Q,Z⟩:=y;have ol:Owns H s v l:=by
   cases s with
   | sh d=>exact o.elim
   | ow ds=>exact z
   | o2 dss=>exact .inl z
   | ag k r ps=>exact .inl z
   | al _ _=>exact o.elim
   | ro _ _=>exact o.elim
  exact hi ((ok.uniq i i' s s' _ _ l e F R Q ol Z) ▸ g)
 have J:∀ {i:Nat} {s:Sl},(putA env is I)[i]?=some (some s)->(i∉is/\env[i]?=some (some s))\/∃(j:Nat) (y:Ag) (k:AK) (l:Option Nat) (ps:k9),is[j]?=some i/\I[j]?=some y/\env[i]?=some (some (.ag k l ps))/\s=.ag y.1 l y.2:=λ{i s} e=>by
  by_cases hi:i∈is
  ·obtain⟨j,hj,ej⟩:=mq hi
   have R:is[j]?=some i:=by simp[hj,ej]
   obtain⟨x,l,h1,h2⟩:=vo hg R;have h3:I[j]?=some (I[j]'(by lia)):=by simp[hl,hj]
   rw[zqm nd R h3 h2] at e;cases e;exact .inr ⟨j,_,_,l,_,R,h3,h2,rfl⟩
  ·rw[znk hi] at e;exact .inl ⟨hi,e⟩
 refine⟨⟨λb o e=>?_,ok.good,λa z=>?_,λi s e=>?_,λi i' s s' v v' a R A C M o1 o2=>?_,by rw[znj];exact ok.len⟩,aa,cv⟩
 ·exact st.keep b o (ok.stay b o e) λz=>by rw[(ok.wl b (lW b z)).1] at e;cases e
 ·rcases z with z | z
  ·refine⟨?_,(B.wl a z).2⟩
   rcases N a z with y | y
   ·exact(ok.wl a (lW a y)).1
   ·exact ok.stay.free y
  ·obtain⟨q,m,hm⟩:=ok.wl a z.1
   exact⟨q,m,st.keep a _ hm z.2⟩
 ·rcases J e with⟨hi,e⟩ | ⟨j,y,k,l,ps,R,A,C,rfl⟩
  ·obtain⟨v,R,q⟩:=ok.slot i s e
   exact⟨v,R,ok.slstep aa q (P hi e R)⟩
  ·obtain⟨u,p,as,vs,E,_,rfl,hW,n1,ar,hk,hp⟩:=back R A C
   exact⟨_,E,p,as,vs,rfl,.inl hW,n1,ar,hk,hp.step (λa ws ha z=>⟨.inl (hp.own ha).1,z⟩) (λ_ _ r=>cv r) λ_ _ r=>ap r⟩
 ·rcases J R with⟨hi,f1⟩ | ⟨j,y,k,l,ps,f1,f2,f3,rfl⟩ <;> rcases J A with⟨g,U⟩ | ⟨j',y',k',l',ps',U,f2',f3',rfl⟩
  ·exact ok.uniq i i' s s' v v' a f1 U C M (t hi f1 C o1) (t g U M o2)
  ·exfalso
   obtain⟨F,L⟩:=f hi f1 C a (t hi f1 C o1);obtain⟨u,p,as,vs,E,q2,_⟩:=back U f2' f3';rw[M] at E;cases E;obtain⟨v0,w1,w2⟩:=B.slot j' _ (Y j' y' f2');rw[q2] at w1;cases w1;exact L (n' a (w2.owns o2) F)
  ·exfalso
   obtain⟨F,L⟩:=f g U M a (t g U M o2);obtain⟨u,p,as,vs,E,q2,_⟩:=back f1 f2 f3;rw[C] at E;cases E;obtain⟨v0,w1,w2⟩:=B.slot j _ (Y j y f2);rw[q2] at w1;cases w1;exact L (n' a (w2.owns o1) F)
  ·obtain⟨u,p,as,vs,E,q2,_⟩:=back f1 f2 f3
   obtain⟨u',p',a1,vs',ab,a0,_⟩:=back U f2' f3';rw[C] at E;cases E;rw[M] at ab;cases ab;have:=B.uniq j j' _ _ _ _ a (Y j y f2) (Y j' y' f2') q2 a0 o1 o2;subst this;rw[f1] at U;cases U;rfl
def MCal(P:Program)(w:World)(K:kf)(mg:Str->g9)(base:Heap)(cn m:Str)(k:Nat)(sp:Sp):Prop :=
 ∃C fa fd ps,Cls K C/\Meth K C m fa/\FnOk P w K mg base (CXr P w) k fa fd ps sp/\Binds K fd ps []/\Cl K cn C
def Atr(K:kf)(cn m:Str):Prop:=∃C,Cls K C/\NoAttr K C m/\Cl K cn C
def KCal(P:Program)(w:World)(K:kf)(mg:Str->g9)(base:Heap)(x:Str)(k:Nat)(sp:Sp):Prop :=
 ∃C fa fd ps,Mk K C fa/\FnOk P w K mg base (CXr P w) k fa fd ps sp/\mg x=some (.ref C)/\Binds K fd ps []/\Cl K x C/\(x==("__debug__" : Str))=false
def EXs(X:Cx)(σ:St):XK:=λcls _ H'=>∀pins H s C ea s',cls=.ref C->Inv X pins σ H s->Fly X.prog X.w X.stack H s C ea H' s'->X.xe (.ref ea) s'
variable{vs:k6}{X:Cx}{k:Nat}{f:Addr}{fd:FuncData}{ps:g7}{sp:Sp}
theorem zqn{pins:kl}{s:Shared}{Q:VK}{us:g8}(F:FnOk X.prog X.w X.K X.mg X.base (CXr X.prog X.w) k f fd ps sp)(R:Room k X.A)(S:Binds X.K fd ps [])(I:Inv X pins σ H s)(r:Vals vs us)(h:sp vs H Q (EXs X σ)):wpAny (model X.prog X.w) X.A (call (.ref f) us) (EP X pins σ Q) X.xe s:=by
 have U:(us++[]).length=ps.length:=by rw[dh,<-r.length];exact F.len _ _ _ _ h
 have J:=S s us I.kIn U;rw[dh] at J;refine wpAny_call (codeAny_mono (F.run X.A X.stack s H ⟨us,[]⟩ us vs Q (EXs X σ) R I.env0 J r h) λr s' D=>?_);cases r with
 | error e =>
   obtain⟨ea,C,H',rfl,fl,z⟩:=D;exact z pins H s C ea s' rfl I fl
 | ok fl =>
   cases fl with
   | ret u=>exact I.after D
   | next=>exact False.elim D
   | brk=>exact False.elim D
   | cont=>exact False.elim D
def z40(X:Cx)(sp:Sp)(t:TA):TE:=λσ H Q=>t σ H λvs H1=>sp vs H1 Q (EXs X σ)
variable{x:Str}{p pos:Pos}{e:Expr}{es:i3}{t:TA}
def z7(F:FnOk X.prog X.w X.K X.mg X.base (CXr X.prog X.w) k f fd ps sp)(S:Room k X.A)(U:Gl X x)(V:X.mg x=some (.ref f))(Y:PySem.W.keepIn X.K (.ref f)=true)(Z:Binds X.K fd ps [])(a:PA X (e::es) t)(D:(x==("__debug__" : Str))=false:=by decide)(b:starEach (e::es) X.env=(false,eval e X.env)::starEach es X.env:=by rfl)(J:(backTo pos (starEach es X.env)).any (·.1)=false:=by rfl) :
  PE X (.Call (.Name x p) (e::es) [] pos) (z40 X sp t):=by
 intro pins s σ H Q I h;refine wpAny_Call_Name_kw (vt I U V ?_ D);refine jb (h₀:=X.base) I.ok.mod.kin Y (thn (a pos pins s σ H _ I h) λus d c=>?_) b J;obtain⟨vs,H1,R,r,q⟩:=c;refine⟨R.kIn,?_⟩;exact zqn F S Z R r q
def zrx(X:Cx)(C:Addr)(m:Str)(sp:Sp)(ta:TE)(t:TA):TE:=λσ H Q=>ta σ H λx H1=>∃a dx fs,x=.ref a/\H1 a=some (.ins C dx fs)/\fs.lookup m=none/\t σ H1 λvs H2=>sp (x::vs) H2 Q (EXs X σ)
variable{C:Addr}{m:Str}{apos:Pos}{ta:TE}
def znn{pl:Sem Bool}(Y:PE X o ta)(c:Cls X.K C)(S:Meth X.K C m f)(F:FnOk X.prog X.w X.K X.mg X.base (CXr X.prog X.w) k f fd ps sp)(Z:Room k X.A)(b:Binds X.K fd ps [])(d:PA X (e::es) t)(D:starEach (e::es) X.env=(false,eval e X.env)::starEach es X.env:=by rfl)(J:(backTo pos (starEach es X.env)).any (·.1)=false:=by rfl)(g:eval (.Call (.Attribute o m apos) (e::es) [] pos) X.env=(do
   let ov <-eval o X.env
   standAt apos.atName
   let (f,first) <-holding [ov] (getMethod ov m pl)
   callWith pos f first (backTo pos (starEach (e::es) X.env)) (backToKw pos (keywordEach [] X.env))):=by rfl) :
  PE X (.Call (.Attribute o m apos) (e::es) [] pos) (zrx X C m sp ta t):=by
 intro pins s σ H Q I h;refine PySem.W.methodCall_KW (pl:=pl) (thn (Y pins s σ H _ I h) λu i R=>?_) g;obtain⟨x,H1,U,j,a,dx,fs,ex,ea,l,q⟩:=R;subst ex;obtain rfl:u=Value.ref a:=j;refine zml U ea c S l ?_;refine jb (first:=[.ref a]) (h₀:=X.base) I.ok.mod.kin S.kp (thn (d pos pins i σ H1 _ U q) λus s2 R=>?_) D J;obtain⟨vs,H2,V,r,n⟩:=R;refine⟨V.kIn,?_⟩;exact zqn (us:=.ref a::us) (vs:=.ref a::vs) F Z b V (.cons rfl r) n
def zls{pl:Sem Bool}(R:PE X o ta)(c:Cls X.K C)(J:Meth X.K C m f)(F:FnOk X.prog X.w X.K X.mg X.base (CXr X.prog X.w) k f fd ps sp)(S:Room k X.A)(U:Binds X.K fd ps [])(V:eval (.Call (.Attribute o m apos) [] [] pos) X.env=(do
   let ov <-eval o X.env
   standAt apos.atName
   let (f,first) <-holding [ov] (getMethod ov m pl)
   callWith pos f first (backTo pos (starEach [] X.env)) (backToKw pos (keywordEach [] X.env))):=by rfl) :
  PE X (.Call (.Attribute o m apos) [] [] pos) (zrx X C m sp ta tNil):=by
 intro pins s σ H Q I h;refine PySem.W.methodCall_KW (pl:=pl) (thn (R pins s σ H _ I h) λu b Y=>?_) V;obtain⟨x,H1,D,Z,a,dx,fs,ex,ea,l,q⟩:=Y;subst ex;obtain rfl:u=Value.ref a:=Z;refine zml D ea c J l ?_;exact PySem.W.callWith_K0 (first:=[.ref a]) D.kIn J.kp (zqn (us:=[.ref a]) (vs:=[.ref a]) F S U D (.cons rfl .nil) q)
def z41(X:Cx)(C:Addr)(sp:Sp)(t:TA):TE:=λσ H Q=>t σ H λvs H1=>∀x dx,H1 x=none->H1 dx=none->dx≠x ->
 sp (.ref x::vs) (upd (upd H1 dx (.own x)) x (.ins C dx [])) (λv H2=>v=.non/\Q (.ref x) H2) (EXs X σ)
theorem zxy(M:Mk X.K C f)(F:FnOk X.prog X.w X.K X.mg X.base (CXr X.prog X.w) k f fd ps sp)(b:Room (k+1) X.A)(c:Gl X x)(d:X.mg x=some (.ref C))(g:Binds X.K fd ps [])(i:PA X (e::es) t)(R:(x==("__debug__" : Str))=false:=by decide)(j:starEach (e::es) X.env=(false,eval e X.env)::starEach es X.env:=by rfl)(S:(backTo pos (starEach es X.env)).any (·.1)=false:=by rfl) :
  PE X (.Call (.Name x p) (e::es) [] pos) (z41 X C sp t):=by
 intro pins l σ H0 Q U m;refine wpAny_Call_Name_kw (vt U c d ?_ R);refine jb (h₀:=X.base) U.ok.mod.kin M.kp (thn (i pos pins l σ H0 _ U m) λus s n=>?_) j S;obtain⟨vs,H,I,r,h⟩:=n;refine⟨I.kIn,?_⟩;have Y:=h (s.heap.objs.size+1) s.heap.objs.size (I.hok.fresh (qi _)) (I.hok.fresh (b9 _)) (b8 (fj _));have J:=Inv.made (C:=C) I;have Z:Vals (V.ref (s.heap.objs.size+1)::vs) (Value.ref (s.heap.objs.size+1)::us):=.cons rfl r;have o:((Value.ref (s.heap.objs.size+1)::us)++[]).length=ps.length:=by rw[dh,<-Z.length];exact F.len _ _ _ _ Y
 have a:=g ⟨_,s.gens,s.drawn,s.toks,s.os⟩ (Value.ref (s.heap.objs.size+1)::us) J.kIn o;rw[dh] at a;refine wpAny_call (zwx (f:=f) I.kIn M.makes M.init (beq_iff_eq.mp M.fn) (codeAny_mono (F.run _ X.stack _ _ ⟨Value.ref (s.heap.objs.size+1)::us,[]⟩ (Value.ref (s.heap.objs.size+1)::us) _ _ (EXs X σ) (b.make C us [])
  (J.env0.make C us []) a Z Y) λr s' D=>?_))
 cases r with
 | error e =>
   obtain⟨ea,q,H',rfl,fl,z⟩:=D;exact z pins _ _ q ea s' rfl J fl
 | ok fl =>
   cases fl with
   | ret u =>
     obtain⟨v,H',y,B,E,G⟩:=J.after D;subst E;exact⟨B,⟨V.ref (s.heap.objs.size+1),H',y,rfl,G⟩⟩
   | next=>exact False.elim D
   | brk=>exact False.elim D
   | cont=>exact False.elim D
abbrev XF:=DE0->Option (Str×DE0)
def XEnd(X:Cx)(G:Gd)(H0:Hp)(W:Addr->Prop)(H:Hp)(σ:St)(c:Str)(env':DE0):Prop:=∀W' H' C,Cl X.K c C->Step W H W' H'->Ok X.K G H0 W' env' σ H'->∀pins e s',XS X pins σ H' C e s'->X.xe (.ref e) s'
def tDX(X:Cx)(G:Gd)(H0:Hp)(x:XF)(σ:St)(H:Hp):Prop:=DP X.K G H0 x (λW env c env'=> XEnd X G H0 W H σ c env') σ H
structure JX (X:Cx) (G:Gd) (H0:Hp) (e:Expr) (x:XF):Prop where
 out:PE X e (λσ H _=>tDX X G H0 x σ H)
structure JXA (X:Cx) (G:Gd) (H0:Hp) (es:i3) (x:XF):Prop where
 out:PA X es (λσ H _=>tDX X G H0 x σ H)
structure JXS (X:Cx) (G:Gd) (H0:Hp) (s:Stmt) (x:XF):Prop where
 out:PS X s (λ_ σ H=>tDX X G H0 x σ H)
@[simp] noncomputable def sXp(x:XF)(g:FS):FS:=λe=>match x e with | some r=>some (.xc r.1,r.2) | none=>g e
variable{x:XF}{g:FS}
def lq(R:DSx X G H0 s g)(S:JXS X G H0 s x):DSx X G H0 s (sXp x g):=⟨λpins s' σ H D I U=>by
 obtain⟨W,env,fl,env',ok,q,k⟩:=U;unfold sXp at q;cases e1:x env with
 | none=>rw[e1] at q;exact R.out pins s' σ H D I ⟨W,env,fl,env',ok,q,k⟩
 | some r =>
   rw[e1] at q;cases q;exact S.out pins s' σ H D I ⟨W,env,r.1,r.2,ok,e1,λW' H' C V st J=>k W' σ H' C V st J⟩⟩
def nc(h:JX X G H0 e x)(D:swapsWith e none pos.line X.env=pure false:=by rfl):JXS X G H0 (.Expr e pos) x:=⟨(ztv h.out D).imp λ_ _ _ z=>z⟩
def xw(h:JX X G H0 e x):JXS X G H0 (.Return (some e) pos) x:=⟨(zrj h.out).imp λ_ _ _ z=>z⟩
variable{c:Str}
def Cl.inj{D:Addr}(h:Cl K c C)(h':Cl K c D):C=D:=by
 unfold Cl at h h';rw[h] at h';cases h';rfl
def zxz(K:kf)(O:Addr->Prop)(H:Hp)(ags:ll)(us:k6):Prop :=
 us.length=ags.length/\∀(j:Nat) (x:Ag) (u:V),ags[j]?=some x->us[j]?=some u->∃p vs,u=.ref p/\AkOk K H x.1 p vs/\PtsRo K (gd O) NoW H x.2 vs
def qSp(K:kf)(m:ll->k7->k8)(x:ll->k7->ka):Sp:=λvs H Q E =>
 ∃(O:Addr->Prop) (ags:ll) (us:k6) (ds:k7) (ws:k6),vs=us++ws/\zxz K O H ags us/\Reps K H O ds ws /\
  ((∃d,m ags ds=some d/\∀v H',Same H H'->Rep K H' (λa=>O a\/H a=none) d v->Q v H')\/∃c,x ags ds=some c/\∀C H',Cl K c C->Same H H'->E (.ref C) none H')
def kg(n:Nat)(ags:ll)(ds:k7):DE0:=ags.map (λx=>some (Sl.ro x.1 x.2))++jl (n-ags.length) ds
def runQ(n p ar:Nat)(g:FS):ll->k7->k8:=λags ds=>if ags.length=p/\ds.length=ar then(match g (kg n ags ds) with | some (.rt d,_)=>some d | some (.nx,_)=>some .non | _=>none) else none
def xQ(n p ar:Nat)(g:FS):ll->k7->ka:=λags ds=>if ags.length=p/\ds.length=ar then(match g (kg n ags ds) with | some (.xc c,_)=>some c | _=>none) else none
variable{O O':Addr->Prop}
def l4(h:∀a,O a->O' a):(∀(d:D) (v:V),Rep K H O d v->Rep K H O' d v)/\∀(d:k7) (v:k6),Reps K H O d v->Reps K H O' d v :=
 ⟨λd v r=>r.mono (λ_ _ h=>h) λa us o q=>⟨h a o,q⟩,λd v r=>r.mono (λ_ _ h=>h) λa us o q=>⟨h a o,q⟩⟩
variable{ws:k6}{ds:k7}{N:g7}
theorem zzp(I:zxz K O H ags us)(r:Reps K H O ds ws)(b:us.length<=N.length) :
  Ok K (gd λa=>O a\/H a=none) H NoW (kg N.length ags ds) (start N (us++ws)) H:=by
 have R:=ux (N:=N.drop us.length) r;have J:=R.len;have es:start N (us++ws)=us.map some++start (N.drop us.length) ws:=by
  unfold start;rw[db,df,ao,fq,Nat.sub_sub]
 have V:kg N.length ags ds=ags.map (λx=>some (Sl.ro x.1 x.2))++jl (N.drop us.length).length ds:=by unfold kg;rw[fq,I.1]
 rw[es,V];refine⟨Same.refl _,R.good,R.wl,λi s e=>?_,λi j c s2 v1 v2 a D _ f _ o _=>?_,?_⟩
 ·by_cases hi:i<ags.length
  ·rw[az (by simpa using hi),cb] at e
   cases D:ags[i]? with
   | none=>rw[D] at e;cases e
   | some x =>
     rw[D] at e;cases e;have S:us[i]?=some (us[i]'(by rw[I.1];exact hi)):=by simp[I.1,hi]
     obtain⟨p,vs,h1,h2,Y⟩:=I.2 i x _ D S;refine⟨_,by rw[az (by rw[ah,I.1];exact hi),cb,S];rfl,p,vs,h1,λz=>z,h2,Y.step (λa vs n z=>⟨n,z⟩) (λd v q=>(l4 λa z=>⟨.inl z.1,λz=>z⟩).1 d v q) λd v q=>(l4 λa z=>⟨.inl z.1,λz=>z⟩).2 d v q⟩
  ·rw[dn (by simpa using hi),ah] at e
   obtain⟨v,U,Z⟩:=R.slot _ s e;rw[<-I.1] at U;exact⟨v,by rw[dn (by rw[ah,I.1];lia),ah];exact U,Z⟩
 ·by_cases hi:i<ags.length
  ·rw[az (by simpa using hi),cb] at D
   cases q:ags[i]? with
   | none=>rw[q] at D;cases D
   | some x=>rw[q] at D;cases D;exact o.elim
  ·rw[dn (by simpa using hi)] at D
   obtain⟨d,_,rfl⟩:=zi1 D;exact o.elim
 ·rw[ao,ao,ah,ah,J,I.1]
variable{x qual:Str}{st:Stmt}{n ar:Nat}{P:Program}{w:World}{mg:Str->g9}{base:Heap}
theorem z42{p:Nat}(F:Fun K x qual st f fd)(S:qe N ps (gg st))(j:n=N.length)(l:p+ar=ps.length)(R:∀(cdv:Value) (A:Around) (outer:i0) (s:Shared) (H:Hp) (E:XK) (G:Gd) (H0:Hp),Room k (A.deeper (envOfC qual (gg st) s.heap.objs.size f cdv)) ->
   DBx (cxOf (CXr P w) P w K mg base N qual (gg st) f cdv A outer s H E) G H0 (lr st) g):FnOk P w K mg base (CXr P w) (k+1) f fd ps (qSp K (runQ n p ar g) (xQ n p ar g)):=by
 subst j;have m:ps.length<=N.length:=by have:=congrArg List.length S.pre;rw[dz] at this;lia
 have U:∀ {O:Addr->Prop} {H:Hp} {ags:ll} {us:k6} {ds:k7} {ws:k6},zxz K O H ags us->Reps K H O ds ws->(ags.length=p/\ds.length=ar)->(us++ws).length=ps.length:=λJ r h=>by rw[ao,J.1,h.1,<-r.length,h.2,l]
 refine F.okX S (λvs H Q E h=>?_) (λcdv A outer s H vs Q E q h=>?_)
 ·obtain⟨O,ags,us,ds,ws,rfl,J,r,h⟩:=h
  refine U J r ?_;rcases h with⟨d,e,_⟩ | ⟨c,e,_⟩
  ·unfold runQ at e;split at e
   ·assumption
   ·cases e
  ·unfold xQ at e;split at e
   ·assumption
   ·cases e
 ·obtain⟨O,ags,us,ds,ws,rfl,J,r,h⟩:=h
  refine⟨_,(R cdv A outer s H E (gd λa=>O a\/H a=none) H q).out,?_⟩;rcases h with⟨d,e,k⟩ | ⟨c,e,k⟩
  ·unfold runQ at e
   split at e;case isFalse=>cases e
   rename_i i;have b:=zzp (N:=N) J r (by rw[J.1,i.1];lia);split at e
   ·rename_i d' env' Y
    cases e;exact⟨NoW,_,_,env',b,Y,λW' Z v H' st I t=>k v H' I.stay (t.mono (λ_ _ h=>h) λa us o h=>⟨o.1,h⟩)⟩
   ·rename_i env' Y
    cases e;exact⟨NoW,_,_,env',b,Y,λW' Z H' st I=>k .non H' I.stay .non⟩
   ·cases e
  ·unfold xQ at e
   split at e;case isFalse=>cases e
   rename_i i;have b:=zzp (N:=N) J r (by rw[J.1,i.1];lia);split at e
   ·rename_i z env' Y
    cases e;exact⟨NoW,_,_,env',b,Y,λW' Z H' u y st I pins e s' xs=>zke xs (k u H' y I.stay)⟩
   ·cases e
def lSp(K:kf)(m:ll->k7->ln)(x:ll->k7->Option (Str×ll)):Sp:=λvs H Q E =>
 ∃(G:Gd) (W:Addr->Prop) (R:Hp) (ags:ll) (us:k6) (ds:k7) (ws:k6),vs=us++ws/\us.length=ags.length/\Ok K G R W (nr ags) (us.map some) H/\Reps K H (Ow G W) ds ws /\
  ((∃d I, m ags ds = some (d, I) /\ ∀W' env' J v H', Step W H W' H' -> Ok K G R W' env' J H' -> (∀(j : Nat) (x : Ag), I[j]? = some x -> env'[j]? = some (some (slA x j))) -> Rep K H' (Ow G W') d v -> Q v H') \/
   ∃c I,x ags ds=some (c,I)/\∀C W' env' J H',Cl K c C->Step W H W' H'->Ok K G R W' env' J H'->(∀(j:Nat) (x:Ag),I[j]?=some x->env'[j]?=some (some (slA x j)))->E (.ref C) none H')
def j0(n:Nat)(ags:ll)(ds:k7):DE0:=nr ags++jl (n-ags.length) ds
def outA(e:DE0):Nat->ic->Option ll
 | _,[]=>some []
 | j,_::r=>match e[j]? with | some (some (.ag k (some j') ps))=>if j'=j then(outA e (j+1) r).map λt=>(k,ps)::t else none | _=>none
def runL(n p ar:Nat)(g:FS):ll->k7->ln:=λags ds=>if ags.length=p/\ds.length=ar then(match g (j0 n ags ds) with | some (.rt d,e)=>(outA e 0 (List.range p)).map λt=>(d,t) | some (.nx,e)=>(outA e 0 (List.range p)).map λt=>(.non,t) | _=>none) else none
def xL(n p ar:Nat)(g:FS):ll->k7->Option (Str×ll):=λags ds=>if ags.length=p/\ds.length=ar then(match g (j0 n ags ds) with | some (.xc c,e)=>(outA e 0 (List.range p)).map λt=>(c,t) | _=>none) else none
theorem zno{e:DE0}:∀ {l:ic} {i:Nat} {ags:ll},outA e i l=some ags->ags.length=l.length/\∀(j:Nat) (x:Ag),ags[j]?=some x->e[i+j]?=some (some (slA x (i+j)))
 | [],_,_,h=>by cases h;exact⟨rfl,λj x z=>by simp at z⟩
 | _::r,i,ags,h=>by
   unfold outA at h;split at h
   ·rename_i k D ps q
    split at h
    ·rename_i I
     subst I;cases e2:outA e (D+1) r with
     | none=>rw[e2] at h;cases h
     | some t =>
       rw[e2] at h;cases h;obtain⟨h1,h2⟩:=zno e2;refine⟨by rw[ak,ak,h1],λj x z=>?_⟩;cases j with
       | zero=>simp at z;subst z;exact q
       | succ j =>
         have:=h2 j x (by simpa using z);rwa [show D+1+j=D+(j+1) by lia] at this
    ·cases h
   ·cases h
theorem z43{I:Hp}(ok:Ok K G I W (nr ags) (us.map some) H)(J:us.length=ags.length)(r:Reps K H (Ow G W) ds ws) :
  Ok K G I W (j0 N.length ags ds) (start N (us++ws)) H:=by
 have R:(nr ags).length=us.length:=by rw[zpg,J]
 have es:start N (us++ws)=us.map some++start (N.drop us.length) ws:=by
  unfold start;rw[db,df,ao,fq,Nat.sub_sub]
 have b:j0 N.length ags ds=nr ags++jl (N.drop us.length).length ds:=by unfold j0;rw[fq,J]
 have c:=ux (N:=N.drop us.length) (O:=Ow G W) r;rw[es,b];have D:∀ {i:Nat} {s:Sl},(nr ags++jl (N.drop us.length).length ds)[i]?=some (some s)->(i<us.length/\(nr ags)[i]?=some (some s))\/(us.length<=i/\∃d,ds[i-us.length]?=some d/\s=.sh d):=λ{i s} e=>by
  by_cases hi:i<us.length
  ·rw[az (by lia)] at e;exact .inl ⟨hi,e⟩
  ·rw[dn (by lia),R] at e
   obtain⟨d,q,z⟩:=zi1 e;exact .inr ⟨by lia,d,q,z⟩
 refine⟨ok.stay,ok.good,ok.wl,λi s e=>?_,λi j f s2 v1 v2 a g h S U V Y=>?_,?_⟩
 ·rcases D e with⟨hi,e⟩ | ⟨hi,d,q,rfl⟩
  ·obtain⟨v,h1,h2⟩:=ok.slot i s e
   exact⟨v,by rw[az (by simpa using hi)];exact h1,h2⟩
  ·obtain⟨v,h1,h2⟩:=r.get q
   refine⟨v,?_,h2⟩;rw[dn (by simpa using hi),ah];unfold start;rw[az (by simpa using(ai.mp h1).1),cb,h1];rfl
 ·rcases D g with⟨hi,k⟩ | ⟨hi,d,q,rfl⟩
  ·rcases D h with⟨Z,l⟩ | ⟨Z,d,q,rfl⟩
   ·rw[az (by simpa using hi)] at S
    rw[az (by simpa using Z)] at U;exact ok.uniq i j f s2 v1 v2 a k l S U V Y
   ·exact Y.elim
  ·exact V.elim
 ·rw[ao,ao,R,ah,c.len]
theorem z1k{p:Nat}(F:Fun K x qual st f fd)(S:qe N ps (gg st))(Z:n=N.length)(a:p+ar=ps.length)(J:∀(cdv:Value) (A:Around) (outer:i0) (s:Shared) (H:Hp) (E:XK) (G:Gd) (H0:Hp),Room k (A.deeper (envOfC qual (gg st) s.heap.objs.size f cdv)) ->
   DBx (cxOf (CXr P w) P w K mg base N qual (gg st) f cdv A outer s H E) G H0 (lr st) g):FnOk P w K mg base (CXr P w) (k+1) f fd ps (lSp K (runL n p ar g) (xL n p ar g)):=by
 subst Z;refine F.okX S (λvs H Q E h=>?_) (λcdv A outer s H vs Q E b h=>?_)
 ·obtain⟨G,W,Y,ags,us,ds,ws,rfl,U,ok,r,h⟩:=h
  have:ags.length=p/\ds.length=ar:=by
   rcases h with⟨d,t,e,_⟩ | ⟨c,t,e,_⟩
   ·unfold runL at e;split at e
    ·assumption
    ·cases e
   ·unfold xL at e;split at e
    ·assumption
    ·cases e
  rw[ao,U,this.1,<-r.length,this.2,a]
 ·obtain⟨G,W,Y,ags,us,ds,ws,rfl,U,ok,r,h⟩:=h
  refine⟨_,(J cdv A outer s H E G Y b).out,?_⟩;have V:=z43 (N:=N) ok U r;rcases h with⟨d,t,e,k⟩ | ⟨c,t,e,k⟩
  ·unfold runL at e
   split at e;case isFalse=>cases e
   split at e
   ·rename_i d' env' R
    cases e2:outA env' 0 (List.range p) with
    | none=>rw[e2] at e;cases e
    | some t' =>
      rw[e2] at e;cases e;exact⟨W,_,_,env',V,R,λW' D v H' st I i=>k W' env' D v H' st I (λj x z=>by have:=(zno e2).2 j x z;rwa [j1] at this) i⟩
   ·rename_i env' R
    cases e2:outA env' 0 (List.range p) with
    | none=>rw[e2] at e;cases e
    | some t' =>
      rw[e2] at e;cases e;exact⟨W,_,_,env',V,R,λW' D H' st I=>k W' env' D .non H' st I (λj x z=>by have:=(zno e2).2 j x z;rwa [j1] at this) .non⟩
   ·cases e
  ·unfold xL at e
   split at e;case isFalse=>cases e
   split at e
   ·rename_i o env' R
    cases e2:outA env' 0 (List.range p) with
    | none=>rw[e2] at e;cases e
    | some t' =>
      rw[e2] at e;cases e;exact⟨W,_,_,env',V,R,λW' D H' l m st I pins e s' xs=>zke xs (k l W' env' D H' m st I λj x z=>by have:=(zno e2).2 j x z;rwa [j1] at this)⟩
   ·cases e
def getR(env:DE0):ic->Option ll
 | []=>some []
 | i::r=>match env[i]? with
   | some (some (.ag k _ ps))=>(getR env r).map λt=>(k,ps)::t
   | some (some (.ro k ps))=>(getR env r).map λt=>(k,ps)::t
   | _=>none
def aggs(env:DE0)(is:ic):Prop:=∀i∈is,∃s,env[i]?=some (some s)
instance (env:DE0) (is:ic):Decidable (aggs env is):=Classical.propDecidable _
variable{ps:k9}{as:ia}
def PtsOk.ro(h:PtsOk K G W H ps as us):PtsRo K (gd (Ow G W)) NoW H ps us:=by
 induction h with
 | nil=>exact .nil
 | d q _ ih=>exact .d ((l4 λa z=>⟨z,λz=>z⟩).1 _ _ q) ih
 | o hW hl q _ ih=>exact .o (λz=>z) hl ((l4 λa z=>⟨z,λz=>z⟩).2 _ _ q) ih
def PtsRo.ro(h:PtsRo K G W H ps us):PtsRo K (gd (Ow G W)) NoW H ps us :=
 h.step (λa vs _ z=>⟨λz=>z,z⟩) (λd v q=>(l4 λa z=>⟨z,λz=>z⟩).1 d v q) λd v q=>(l4 λa z=>⟨z,λz=>z⟩).2 d v q
def Ok.roAll(ok:Ok K G H0 W env σ H):∀ {is:ic} {ags:ll} {us:k6},getR env is=some ags->us.length=is.length->(∀(j i:Nat),is[j]?=some i->∃u,us[j]?=some u/\σ[i]?=some (some u))->zxz K (Ow G W) H ags us
 | [],_,us,h,hl,_=>by cases h;exact⟨hl,λj x u e=>by simp at e⟩
 | i::r,ags,us,h,hl,hu=>by
   cases us with
   | nil=>simp at hl
   | cons u us =>
     obtain⟨g,Y,Z⟩:=hu 0 i rfl;simp at Y;subst Y;have R:∃k ps t,ags=(k,ps)::t/\getR env r=some t/\∃p vs,u=.ref p/\AkOk K H k p vs/\PtsRo K (gd (Ow G W)) NoW H ps vs:=by
      unfold getR at h;split at h
      ·rename_i k l ps q
       cases h2:getR env r with
       | none=>rw[h2] at h;cases h
       | some t =>
         rw[h2] at h;cases h;obtain⟨v,D,p,as,vs,rfl,_,_,_,I,J⟩:=ok.slot i _ q;rw[Z] at D;cases D;exact⟨k,ps,t,rfl,rfl,p,vs,rfl,I,J.ro⟩
      ·rename_i k ps q
       cases h2:getR env r with
       | none=>rw[h2] at h;cases h
       | some t =>
         rw[h2] at h;cases h;obtain⟨v,D,p,vs,rfl,_,I,J⟩:=ok.slot i _ q;rw[Z] at D;cases D;exact⟨k,ps,t,rfl,rfl,p,vs,rfl,I,J.ro⟩
      ·cases h
     obtain⟨k,ps,t,rfl,h2,p,vs,rfl,I,J⟩:=R;obtain⟨a,b⟩:=ok.roAll (us:=us) h2 (by simpa using hl) λj c e=>by
      obtain⟨u,d,f⟩:=hu (j+1) c (by simpa using e);exact⟨u,by simpa using d,f⟩
     refine⟨by rw[ak,ak,a],λj x v S U=>?_⟩;cases j with
     | zero=>simp at S U;subst S;subst U;exact⟨p,vs,rfl,I,J⟩
     | succ j=>exact b j x v (by simpa using S) (by simpa using U)
variable{v:V}
def Ok.newRep(ok:Ok K G H0 W env σ H){d:D}(r:Rep K H' (λa=>Ow G W a\/H a=none) d v):Rep K H' (Ow G W) d v :=
 r.mono (λ_ _ h=>h) λa us o h=>⟨o.elim id λz=>⟨ok.good a (ok.stay.free z),λw=>by obtain⟨_,m,q⟩:=ok.wl a w;rw[z] at q;cases q⟩,h⟩
def tLA(X:Cx)(G:Gd)(H0:Hp)(is:ic)(F:FA):TA:=λσ H Q=>∃W env ds env',Ok X.K G H0 W env σ H/\aggs env is/\F env=some (ds,env') /\
 ∀W' us ws H',Step W H W' H'->Ok X.K G H0 W' env' σ H'->us.length=is.length->(∀(j i:Nat),is[j]?=some i->∃u,us[j]?=some u/\σ[i]?=some (some u))->Reps X.K H' (Ow G W') ds ws->Q (us++ws) H'
structure JLA (X:Cx) (G:Gd) (H0:Hp) (is:ic) (es:i3) (F:FA):Prop where
 out:PA X es (tLA X G H0 is F)
variable{F:FA}
def ju(h:DAx X G H0 es F):JLA X G H0 [] es F:=⟨h.out.imp λσ H Q ⟨W,env,ds,env',ok,_,q,k⟩=>⟨W,env,ds,env',ok,q,λW' vs H' st D r=>k W' [] vs H' st D rfl (λj i e=>by simp at e) r⟩⟩
variable{Nn Cn:g7}{i:Nat}
def vz(h:JLA X G H0 is es F)(an:Ats Nn Cn X)(D:Nn[i]?=some x:=by rfl)(I:starEach (.Name x pos::es) X.env=(false,eval (.Name x pos) X.env)::starEach es X.env:=by rfl):JLA X G H0 (i::is) (.Name x pos::es) F :=
 ⟨(mw ((an.a D).pe) h.out I).imp λσ H Q V=>by
  obtain⟨W,env,ds,env',ok,S,q,k⟩:=V;obtain⟨s,I⟩:=S i (by simp);obtain⟨v,U,_⟩:=ok.slot i s I;refine⟨v,U,W,env,ds,env',ok,λJ hi=>S J (by simp[hi]),q,λW' us ws H' st R Y Z r=>?_⟩;refine k W' (v::us) ws H' st R (by rw[ak,ak,Y]) (λj J e=>?_) r;cases j with
  | zero=>simp at e;subst e;exact⟨v,rfl,U⟩
  | succ j=>obtain⟨u,b,c⟩:=Z j J (by simpa using e);exact⟨u,by simpa using b,c⟩⟩
def ji(m:ll->k7->k8)(is:ic)(F:FA):FE:=λe=>if aggs e is then(F e).bind λr=>(getR r.2 is).bind λags=>(m ags r.1).map λd=>(d,r.2) else none
def lz(x:ll->k7->ka)(is:ic)(F:FA):XF:=λe=>if aggs e is then(F e).bind λr=>(getR r.2 is).bind λags=>(x ags r.1).map λc=>(c,r.2) else none
variable{m:ll->k7->k8}{xx:ll->k7->ka}
def zqo:∀σ H Q,tD X.K G H0 (ji m is F) σ H Q->tLA X G H0 is F σ H λvs H1=>qSp X.K m xx vs H1 Q (EXs X σ):=λσ H Q J=>by
 obtain⟨W,env,d,env',ok,q,k⟩:=J;unfold ji at q;split at q;case isFalse=>cases q
 rename_i I;cases e1:F env with
 | none=>rw[e1] at q;cases q
 | some r =>
   rw[e1,ac] at q;cases e2:getR r.2 is with
   | none=>rw[e2] at q;cases q
   | some ags =>
     rw[e2,ac] at q;cases e3:m ags r.1 with
     | none=>rw[e3] at q;cases q
     | some d' =>
       rw[e3] at q;cases q;exact⟨W,env,r.1,r.2,ok,I,e1,λW1 us ws H1 R D S U V=>⟨Ow G W1,ags,us,r.1,ws,rfl,D.roAll e2 S U,V,.inl ⟨_,e3,λv H' sm Y=>k W1 v H' (R.trans (Step.same sm)) (D.same sm) (D.newRep Y)⟩⟩⟩
def zx0:∀σ H (Q:VK),tDX X G H0 (lz xx is F) σ H->tLA X G H0 is F σ H λvs H1=>qSp X.K m xx vs H1 Q (EXs X σ):=λσ H Q R=>by
 obtain⟨W,env,c,env',ok,q,k⟩:=R;unfold lz at q;split at q;case isFalse=>cases q
 rename_i J;cases e1:F env with
 | none=>rw[e1] at q;cases q
 | some r =>
   rw[e1,ac] at q;cases e2:getR r.2 is with
   | none=>rw[e2] at q;cases q
   | some ags =>
     rw[e2,ac] at q;cases e3:xx ags r.1 with
     | none=>rw[e3] at q;cases q
     | some c' =>
       rw[e3] at q;cases q;refine⟨W,env,r.1,r.2,ok,J,e1,λW1 us ws H1 S D U V Y=>⟨Ow G W1,ags,us,r.1,ws,rfl,D.roAll e2 U V,Y,.inr ⟨_,e3,λC H' Z sm pins H2 s2 b ea s' a I fl=>?_⟩⟩⟩;cases a;exact k W1 H' C Z (S.trans (Step.same sm)) (D.same sm) pins ea s' (.inl ⟨s2,H2,I,fl⟩)
variable{jr:Nat}{p':Pos}
def ml(c:Cal X.prog X.w X.K X.mg X.base (CXr X.prog X.w) x k (qSp X.K m xx))(R:Room jr X.A)(S:JLA X G H0 is (e::es) F)(D:k<=jr:=by decide)(U:Gl X x:=by walk_at "g")(V:starEach (e::es) X.env=(false,eval e X.env)::starEach es X.env:=by rfl)(I:(backTo pos (starEach es X.env)).any (·.1)=false:=by rfl) :
  DEx X G H0 (.Call (.Name x p') (e::es) [] pos) (ji m is F):=let ⟨_,_,_,Y,Z,a,b,J⟩:=c;⟨(z7 Y (R.mono D) U Z a b S.out J V I).imp zqo⟩
def m9(c:Cal X.prog X.w X.K X.mg X.base (CXr X.prog X.w) x k (qSp X.K m xx))(R:Room jr X.A)(S:JLA X G H0 is (e::es) F)(D:k<=jr:=by decide)(U:Gl X x:=by walk_at "g")(V:starEach (e::es) X.env=(false,eval e X.env)::starEach es X.env:=by rfl)(I:(backTo pos (starEach es X.env)).any (·.1)=false:=by rfl) :
  JX X G H0 (.Call (.Name x p') (e::es) [] pos) (lz xx is F):=let ⟨_,_,_,Y,Z,a,b,J⟩:=c;⟨(z7 Y (R.mono D) U Z a b S.out J V I).imp zx0⟩
instance (a b:List AK):Decidable (a=b):=Classical.propDecidable _
def kv(m:ll->k7->ln)(is:ic)(F:FA):FE:=λe=>if aggs e is then(F e).bind λr=>(getA r.2 is).bind λags=>(m ags r.1).bind λq=>if q.2.map (·.1)=ags.map (·.1) then some (q.1,putA r.2 is q.2) else none else none
def l9(x:ll->k7->Option (Str×ll))(is:ic)(F:FA):XF:=λe=>if aggs e is then(F e).bind λr=>(getA r.2 is).bind λags=>(x ags r.1).bind λq=>if q.2.map (·.1)=ags.map (·.1) then some (q.1,putA r.2 is q.2) else none else none
variable{b:Expr}
def z44{a b:ll}(h:b.map (·.1)=a.map (·.1)):b.length=a.length/\∀(j:Nat) (x y:Ag),a[j]?=some x->b[j]?=some y->y.1=x.1:=by
 refine⟨by simpa using congrArg List.length h,λj x y D I=>?_⟩;have:=congrArg (λl:List AK=>l[j]?) h;simp[cb,D,I,Option.some.injEq] at this;exact this
variable{m:ll->k7->ln}{xx:ll->k7->Option (Str×ll)}
theorem zqp(V:is.Nodup):∀σ H Q,tD X.K G H0 (kv m is F) σ H Q->tLA X G H0 is F σ H λvs H1=>lSp X.K m xx vs H1 Q (EXs X σ):=λσ H Q c=>by
 obtain⟨W,env,d,env',ok,q,k⟩:=c;unfold kv at q;split at q;case isFalse=>cases q
 rename_i J;cases e1:F env with
 | none=>rw[e1] at q;cases q
 | some r =>
   rw[e1,ac] at q;cases e2:getA r.2 is with
   | none=>rw[e2] at q;cases q
   | some ags =>
     rw[e2,ac] at q;cases e3:m ags r.1 with
     | none=>rw[e3] at q;cases q
     | some z =>
       rw[e3,ac] at q;split at q;case isFalse=>cases q
       rename_i R;cases q;obtain⟨e,f⟩:=z44 R;refine⟨W,env,r.1,r.2,ok,J,e1,λW1 us ws H1 g D M i l=>?_⟩;obtain⟨N,I,n,Y,p,S⟩:=D.lend V e2;have s:I=us:=by
        apply em;intro j;by_cases Z:j<is.length
        ·obtain⟨u,t,w⟩:=i j is[j] (by simp[Z])
         obtain⟨O,x,b⟩:=Y j is[j] (by simp[Z]);rw[w] at b;cases b;rw[t,x]
        ·rw[cx (by lia),cx (by lia)]
       subst s;refine⟨_,_,_,ags,I,r.1,ws,rfl,by rw[n,yb e2],S,?_,.inl ⟨_,_,e3,λW' env' y v H' st U A B=>?_⟩⟩
       ·exact l.mono (λ_ _ h=>h) λa us o h=>⟨⟨⟨o.1,λz=>absurd z o.2⟩,λz=>o.2 (D.lentW z)⟩,h⟩
       ·obtain⟨C,E,L⟩:=D.unlend V e2 Y p (by rw[e,yb e2]) f st U A
        exact k _ v H' (g.trans E) C (L B)
theorem znp(Y:is.Nodup):∀σ H (Q:VK),tDX X G H0 (l9 xx is F) σ H->tLA X G H0 is F σ H λvs H1=>lSp X.K m xx vs H1 Q (EXs X σ):=λσ H Q e=>by
 obtain⟨W,env,d,env',ok,q,k⟩:=e;unfold l9 at q;split at q;case isFalse=>cases q
 rename_i R;cases e1:F env with
 | none=>rw[e1] at q;cases q
 | some r =>
   rw[e1,ac] at q;cases e2:getA r.2 is with
   | none=>rw[e2] at q;cases q
   | some ags =>
     rw[e2,ac] at q;cases e3:xx ags r.1 with
     | none=>rw[e3] at q;cases q
     | some z =>
       rw[e3,ac] at q;split at q;case isFalse=>cases q
       rename_i S;cases q;obtain⟨f,g⟩:=z44 S;refine⟨W,env,r.1,r.2,ok,R,e1,λW1 us ws H1 i D N l n=>?_⟩;obtain⟨O,J,p,Z,s,U⟩:=D.lend Y e2;have t:J=us:=by
        apply em;intro j;by_cases b:j<is.length
        ·obtain⟨u,v,w⟩:=l j is[j] (by simp[b])
         obtain⟨P,x,c⟩:=Z j is[j] (by simp[b]);rw[w] at c;cases c;rw[v,x]
        ·rw[cx (by lia),cx (by lia)]
       subst t;refine⟨_,_,_,ags,J,r.1,ws,rfl,by rw[p,yb e2],U,?_,.inr ⟨_,_,e3,λC W' env' y H' A st V B pins H2 s2 T ea s' E I fl=>?_⟩⟩
       ·exact n.mono (λ_ _ h=>h) λa us o h=>⟨⟨⟨o.1,λz=>absurd z o.2⟩,λz=>o.2 (D.lentW z)⟩,h⟩
       ·cases E
        obtain⟨L,M,u3⟩:=D.unlend Y e2 Z s (by rw[f,yb e2]) g st V B;exact k _ H' C A (i.trans M) L pins ea s' (.inl ⟨s2,H2,I,fl⟩)
def zlt(c:Cal X.prog X.w X.K X.mg X.base (CXr X.prog X.w) x k (lSp X.K m xx))(R:Room jr X.A)(S:JLA X G H0 is (e::es) F)(D:k<=jr:=by decide)(U:Gl X x:=by walk_at "g")(V:is.Nodup:=by decide)(Y:starEach (e::es) X.env=(false,eval e X.env)::starEach es X.env:=by rfl)(I:(backTo pos (starEach es X.env)).any (·.1)=false:=by rfl) :
  DEx X G H0 (.Call (.Name x p') (e::es) [] pos) (kv m is F):=let ⟨_,_,_,Z,a,b,d,J⟩:=c;⟨(z7 Z (R.mono D) U a b d S.out J Y I).imp (zqp V)⟩
def zx1(c:Cal X.prog X.w X.K X.mg X.base (CXr X.prog X.w) x k (lSp X.K m xx))(R:Room jr X.A)(S:JLA X G H0 is (e::es) F)(D:k<=jr:=by decide)(U:Gl X x:=by walk_at "g")(V:is.Nodup:=by decide)(Y:starEach (e::es) X.env=(false,eval e X.env)::starEach es X.env:=by rfl)(I:(backTo pos (starEach es X.env)).any (·.1)=false:=by rfl) :
  JX X G H0 (.Call (.Name x p') (e::es) [] pos) (l9 xx is F):=let ⟨_,_,_,Z,a,b,d,J⟩:=c;⟨(z7 Z (R.mono D) U a b d S.out J Y I).imp (znp V)⟩
def isK(κ:AK)(e:DE0)(i:Nat):Prop:=(∃l ps,e[i]?=some (some (.ag κ l ps)))\/∃ps,e[i]?=some (some (.ro κ ps))
instance (κ:AK) (e:DE0) (i:Nat):Decidable (isK κ e i):=Classical.propDecidable _
def fK(κ:AK)(i:Nat)(f:FE):FE:=λe=>if isK κ e i then f e else none
def xK(κ:AK)(i:Nat)(f:XF):XF:=λe=>if isK κ e i then f e else none
def isK.at{K:kf}{W:Addr->Prop}{H:Hp}{env:DE0}{σ:St}{c:Str}{fs:g7}{C:Addr}(ok:Ok K G H0 W env σ H)(h:isK (.ins false c fs) env i)(S:Cl K c C):∃p dx us,σ[i]?=some (some (.ref p))/\H p=some (.ins C dx (fs.zip us))/\fs.length=us.length:=by
 rcases h with⟨l,ps,e⟩ | ⟨ps,e⟩
 ·obtain⟨v,I,p,as,us,rfl,_,_,_,⟨U,dx,J,D,R⟩,_⟩:=ok.slot i _ e
  rw[Cl.inj J S] at D;exact⟨p,dx,us,I,D,R⟩
 ·obtain⟨v,I,p,us,rfl,_,⟨U,dx,J,D,R⟩,_⟩:=ok.slot i _ e
  rw[Cl.inj J S] at D;exact⟨p,dx,us,I,D,R⟩
variable{m:Str}{fs:g7}
def zry(h:m∉fs):(fs.zip us).lookup m=none:=by
 induction fs generalizing us with
 | nil=>rfl
 | cons f r ih =>
   cases us with
   | nil=>rfl
   | cons u us =>
     rw[j4,cw];have:(m==f)=false:=by simp;exact λz=>h (by simp[z])
     rw[this];exact ih λz=>h (by simp[z])
variable{f:FE}
def zrz(S:Cl X.K c C)(U:m∉fs)(h:∀σ H Q,tD X.K G H0 f σ H Q->tLA X G H0 [i] F σ H λvs H1=>sp vs H1 Q (EXs X σ)):∀σ H Q,tD X.K G H0 (fK (.ins false c fs) i f) σ H Q->zrx X C m sp (tVar i) (tDA X.K G H0 F) σ H Q:=λσ H Q V=>by
 obtain⟨W,env,d,env',ok,q,k⟩:=V;unfold fK at q;split at q;case isFalse=>cases q
 rename_i Y;obtain⟨p,dx,us,R,Z,_⟩:=Y.at ok S;obtain⟨a,env0,ds,D,I,_,b,g⟩:=h σ H Q ⟨W,env,d,env',ok,q,k⟩;refine⟨_,R,p,dx,_,rfl,Z,zry U,a,env0,ds,D,I,b,λW' ws H' st J r=>?_⟩;exact g W' [.ref p] ws H' st J rfl (λj l e=>by cases j with | zero=>simp at e;subst e;exact⟨_,rfl,R⟩ | succ j=>simp at e) r
def zu6(S:Cl X.K c C)(U:m∉fs){f:XF}(h:∀σ H (Q:VK),tDX X G H0 f σ H->tLA X G H0 [i] F σ H λvs H1=>sp vs H1 Q (EXs X σ)):∀σ H (Q:VK),tDX X G H0 (xK (.ins false c fs) i f) σ H->zrx X C m sp (tVar i) (tDA X.K G H0 F) σ H Q:=λσ H Q V=>by
 obtain⟨W,env,d,env',ok,q,k⟩:=V;unfold xK at q;split at q;case isFalse=>cases q
 rename_i Y;obtain⟨p,dx,us,R,Z,_⟩:=Y.at ok S;obtain⟨a,env0,ds,D,I,_,b,g⟩:=h σ H Q ⟨W,env,d,env',ok,q,k⟩;refine⟨_,R,p,dx,_,rfl,Z,zry U,a,env0,ds,D,I,b,λW' ws H' st J r=>?_⟩;exact g W' [.ref p] ws H' st J rfl (λj l e=>by cases j with | zero=>simp at e;subst e;exact⟨_,rfl,R⟩ | succ j=>simp at e) r
section
variable {X:Cx} {G:Gd} {H0:Hp} {a b e:Expr} {es:i3} {f:FE} {F:FA} {x m cn:Str} {fs:g7} {is:ic} {pos p' p1 p2 apos:Pos} {i:Nat} {k:Nat} {fa C:Addr} {fd:FuncData} {ps:g7} {pl:Sem Bool}
variable {mm:ll->k7->k8} {xx:ll->k7->ka}
def z45{Nn Cn:g7}{jr:Nat}{i:Nat}(c:MCal X.prog X.w X.K X.mg X.base cn m k (qSp X.K mm xx))(U:Room jr X.A)(V:DAx X G H0 (e::es) F)(an:Ats Nn Cn X)(D:k<=jr:=by decide)(I:Nn[i]?=some x:=by rfl)(Y:m∉fs:=by decide +kernel)(J:starEach (e::es) X.env=(false,eval e X.env)::starEach es X.env:=by rfl)(R:(backTo pos (starEach es X.env)).any (·.1)=false:=by rfl)(Z:eval (.Call (.Attribute (.Name x p') m apos) (e::es) [] pos) X.env=(do
   let ov <-eval (.Name x p') X.env
   standAt apos.atName
   let (f,first) <-holding [ov] (getMethod ov m pl)
   callWith pos f first (backTo pos (starEach (e::es) X.env)) (backToKw pos (keywordEach [] X.env))):=by rfl) :
  DEx X G H0 (.Call (.Attribute (.Name x p') m apos) (e::es) [] pos) (fK (.ins false cn fs) i (ji mm [i] F)):=let ⟨_,_,_,_,c,S,b,d,g⟩:=c;⟨(znn ((an.a I).pe) c S b (U.mono D) d V.out J R Z).imp (zrz g Y zqo)⟩
def n8{Nn Cn:g7}{jr:Nat}{i:Nat}(c:MCal X.prog X.w X.K X.mg X.base cn m k (qSp X.K mm xx))(S:Room jr X.A)(an:Ats Nn Cn X)(D:k<=jr:=by decide)(I:Nn[i]?=some x:=by rfl)(U:m∉fs:=by decide +kernel)(V:eval (.Call (.Attribute (.Name x p') m apos) [] [] pos) X.env=(do
   let ov <-eval (.Name x p') X.env
   standAt apos.atName
   let (f,first) <-holding [ov] (getMethod ov m pl)
   callWith pos f first (backTo pos (starEach [] X.env)) (backToKw pos (keywordEach [] X.env))):=by rfl) :
  DEx X G H0 (.Call (.Attribute (.Name x p') m apos) [] [] pos) (fK (.ins false cn fs) i (ji mm [i] fNil)):=let ⟨_,_,_,_,c,J,Y,Z,b⟩:=c;⟨(zls ((an.a I).pe) c J Y (S.mono D) Z V).imp λσ H Q h=>by
   obtain⟨d,h1,h2⟩:=zrz (F:=fNil) b U (zqo (xx:=xx)) σ H Q h;obtain⟨a,dx,R,e,g,j,W,env,ds,env',ok,q,kk⟩:=h2;cases q;exact⟨d,h1,a,dx,R,e,g,j,kk W [] H Step.refl ok .nil⟩⟩
variable {mm:ll->k7->ln} {xx:ll->k7->Option (Str×ll)}
def wc{Nn Cn:g7}{jr:Nat}{i:Nat}(c:MCal X.prog X.w X.K X.mg X.base cn m k (lSp X.K mm xx))(U:Room jr X.A)(V:DAx X G H0 (e::es) F)(an:Ats Nn Cn X)(D:k<=jr:=by decide)(I:Nn[i]?=some x:=by rfl)(Y:m∉fs:=by decide +kernel)(J:starEach (e::es) X.env=(false,eval e X.env)::starEach es X.env:=by rfl)(R:(backTo pos (starEach es X.env)).any (·.1)=false:=by rfl)(Z:eval (.Call (.Attribute (.Name x p') m apos) (e::es) [] pos) X.env=(do
   let ov <-eval (.Name x p') X.env
   standAt apos.atName
   let (f,first) <-holding [ov] (getMethod ov m pl)
   callWith pos f first (backTo pos (starEach (e::es) X.env)) (backToKw pos (keywordEach [] X.env))):=by rfl) :
  DEx X G H0 (.Call (.Attribute (.Name x p') m apos) (e::es) [] pos) (fK (.ins false cn fs) i (kv mm [i] F)):=let ⟨_,_,_,_,c,S,b,d,g⟩:=c;⟨(znn ((an.a I).pe) c S b (U.mono D) d V.out J R Z).imp (zrz g Y (zqp (by simp)))⟩
def znq{Nn Cn:g7}{jr:Nat}{i:Nat}(c:MCal X.prog X.w X.K X.mg X.base cn m k (lSp X.K mm xx))(U:Room jr X.A)(V:DAx X G H0 (e::es) F)(an:Ats Nn Cn X)(D:k<=jr:=by decide)(I:Nn[i]?=some x:=by rfl)(Y:m∉fs:=by decide +kernel)(J:starEach (e::es) X.env=(false,eval e X.env)::starEach es X.env:=by rfl)(R:(backTo pos (starEach es X.env)).any (·.1)=false:=by rfl)(Z:eval (.Call (.Attribute (.Name x p') m apos) (e::es) [] pos) X.env=(do
   let ov <-eval (.Name x p') X.env
   standAt apos.atName
   let (f,first) <-holding [ov] (getMethod ov m pl)
   callWith pos f first (backTo pos (starEach (e::es) X.env)) (backToKw pos (keywordEach [] X.env))):=by rfl) :
  JX X G H0 (.Call (.Attribute (.Name x p') m apos) (e::es) [] pos) (xK (.ins false cn fs) i (l9 xx [i] F)):=let ⟨_,_,_,_,c,S,b,d,g⟩:=c;⟨(znn ((an.a I).pe) c S b (U.mono D) d V.out J R Z).imp (zu6 g Y (znp (by simp)))⟩
def zmr{Nn Cn:g7}{jr:Nat}{i:Nat}(c:MCal X.prog X.w X.K X.mg X.base cn m k (lSp X.K mm xx))(S:Room jr X.A)(an:Ats Nn Cn X)(D:k<=jr:=by decide)(I:Nn[i]?=some x:=by rfl)(U:m∉fs:=by decide +kernel)(V:eval (.Call (.Attribute (.Name x p') m apos) [] [] pos) X.env=(do
   let ov <-eval (.Name x p') X.env
   standAt apos.atName
   let (f,first) <-holding [ov] (getMethod ov m pl)
   callWith pos f first (backTo pos (starEach [] X.env)) (backToKw pos (keywordEach [] X.env))):=by rfl) :
  DEx X G H0 (.Call (.Attribute (.Name x p') m apos) [] [] pos) (fK (.ins false cn fs) i (kv mm [i] fNil)):=let ⟨_,_,_,_,c,J,Y,Z,b⟩:=c;⟨(zls ((an.a I).pe) c J Y (S.mono D) Z V).imp λσ H Q h=>by
   obtain⟨d,h1,h2⟩:=zrz (F:=fNil) b U (zqp (xx:=xx) (by simp)) σ H Q h;obtain⟨a,dx,R,e,g,j,W,env,ds,env',ok,q,kk⟩:=h2;cases q;exact⟨d,h1,a,dx,R,e,g,j,kk W [] H Step.refl ok .nil⟩⟩
def zpj{Nn Cn:g7}{jr:Nat}{i:Nat}(c:MCal X.prog X.w X.K X.mg X.base cn m k (lSp X.K mm xx))(S:Room jr X.A)(an:Ats Nn Cn X)(D:k<=jr:=by decide)(I:Nn[i]?=some x:=by rfl)(U:m∉fs:=by decide +kernel)(V:eval (.Call (.Attribute (.Name x p') m apos) [] [] pos) X.env=(do
   let ov <-eval (.Name x p') X.env
   standAt apos.atName
   let (f,first) <-holding [ov] (getMethod ov m pl)
   callWith pos f first (backTo pos (starEach [] X.env)) (backToKw pos (keywordEach [] X.env))):=by rfl) :
  JX X G H0 (.Call (.Attribute (.Name x p') m apos) [] [] pos) (xK (.ins false cn fs) i (l9 xx [i] fNil)):=let ⟨_,_,_,_,c,J,Y,Z,b⟩:=c;⟨(zls ((an.a I).pe) c J Y (S.mono D) Z V).imp λσ H Q h=>by
   obtain⟨d,h1,h2⟩:=zu6 (F:=fNil) b U (znp (m:=mm) (by simp)) σ H Q h;obtain⟨a,dx,R,e,g,j,W,env,ds,env',ok,q,kk⟩:=h2;cases q;exact⟨d,h1,a,dx,R,e,g,j,kk W [] H Step.refl ok .nil⟩⟩
def rg{z:Int}(D:∃t,X.mg x=some (.int z t))(I:Gl X x:=by walk_at "g")(J:(x==("__debug__" : Str))=false:=by decide +kernel):DEx X G H0 (.Name x pos) (fC (.int z)):=by
 obtain⟨t,D⟩:=D;exact de_c (ztt I D (v:=.int z) ⟨t,rfl⟩ J) λ_ _=>.int _
abbrev FV:=DE0->Option DE0
def tV(X:Cx)(G:Gd)(H0:Hp)(v:FV):TE:=λσ H Q=>∃W env env',Ok X.K G H0 W env σ H/\v env=some env'/\∀W' z H',Step W H W' H'->Ok X.K G H0 W' env' σ H'->Q (.str z) H'
structure JV (X:Cx) (G:Gd) (H0:Hp) (e:Expr) (v:FV):Prop where
 out:PE X e (tV X G H0 v)
def zr0{z:Str}{j:Nat}:JV X G H0 (.Constant (.str z) j pos) some:=⟨zy3.imp λσ H Q ⟨W,env,env',ok,q,k⟩=>by cases q;exact k W z H Step.refl ok⟩
structure JVP (X:Cx) (G:Gd) (H0:Hp) (e:Expr) (v:FV):Prop where
 out:∀(pins:kl) (s:Shared) (σ:St) (H:Hp) (Q:Nat->Hp->Prop),Inv X pins σ H s->(∃W env env',Ok X.K G H0 W env σ H/\v env=some env'/\∀n W' H',n<=1000->Step W H W' H'->Ok X.K G H0 W' env' σ H'->Q n H') ->
  wpAny (model X.prog X.w) X.A (eval e X.env) (λu s'=>∃z t H',u=.str z t/\Inv X pins σ H' s'/\Q z.length H') X.xe s
def ut{z:Str}{j:Nat}(D:z.length<=1000:=by decide):JVP X G H0 (.Constant (.str z) j pos) some:=⟨λpins s σ H Q I J=>by
 obtain⟨W,env,env',ok,q,k⟩:=J;cases q;exact Calls.Constant_str ⟨z,_,H,rfl,I.tok _,k _ W H D Step.refl ok⟩⟩
def vInt(f:FE):FV:=λe=>(f e).bind λr=>match r.1 with | .int z=>if z.natAbs<1000000 then some r.2 else none | _=>none
theorem xv(h:DEx X G H0 a f):JVP X G H0 (.FormattedValue a (-1) none pos) (vInt f):=⟨λpins s σ H Q I J=>by
 obtain⟨W,env,env',ok,q,k⟩:=J;unfold vInt at q;cases e1:f env with
 | none=>rw[e1] at q;cases q
 | some r =>
   rw[e1,ac] at q;split at q;case h_2=>cases q
   rename_i z Z;split at q;case isFalse=>cases q
   rename_i S;cases q;refine FormattedValue_plain (thn (h.out pins s σ H (λv H1=>v=.int z/\∀n,n<=1000->Q n H1) I ⟨W,env,r.1,r.2,ok,e1,λW1 v H1 U R V=>⟨by rw[Z] at V;exact V.int_,λn b=>k n W1 H1 b U R⟩⟩) λu U J=>?_);obtain⟨v,H1,c,d,e,g⟩:=J;subst e;obtain⟨t,rfl⟩:=d;have D:z.natAbs.log2<1920:=by
    by_cases Y:z.natAbs=0
    ·rw[Y];decide
    ·exact(Nat.log2_lt Y).mpr (bh S (de (by decide:(1000000:Nat)<=2 ^ 20) (Nat.pow_le_pow_right (by decide) (by decide))))
   refine formatField_int_small D ⟨_,_,H1,rfl,(c.tok _).tok _,g _ ?_⟩;have:(toString z).length<=6+1:=int_text_length_le10 (by decide) S;rw[PySem.ofString_length]
   lia⟩
structure JVs (X:Cx) (G:Gd) (H0:Hp) (es:i3) (v:FV):Prop where
 out:∀(acc:Str) (pins:kl) (s:Shared) (σ:St) (H:Hp) (Q:VK),acc.length+1000*es.length<=100000->Inv X pins σ H s->tV X G H0 v σ H Q ->
  wpAny (model X.prog X.w) X.A (joinParts acc (evalEach es X.env)) (EP X pins σ Q) X.xe s
theorem xu  : JVs X G H0 [] some:=⟨λD pins s σ H Q R I J=>by
 obtain⟨W,env,env',ok,q,k⟩:=J;cases q;exact joinParts_nil ⟨.str D,H,I.tok _,⟨_,rfl⟩,k W D H Step.refl ok⟩ (by rw[sizeLine_eq];lia)⟩
theorem n6{v w:FV}(h:JVP X G H0 e v)(t:JVs X G H0 es w)(b:evalEach (e::es) X.env=eval e X.env::evalEach es X.env:=by rfl):JVs X G H0 (e::es) (λz=>(v z).bind w):=⟨λV pins s σ H Q Y I D=>by
 obtain⟨W,env,env',ok,q,k⟩:=D;cases e1:v env with
 | none=>simp only[e1] at q;cases q
 | some env1 =>
   have q:w env1=some env':=by simpa only[e1,ac] using q
   rw[ak] at Y;refine joinParts_cons (thn (h.out pins s σ H (λn H1=>n<=1000/\tV X G H0 w σ H1 Q) I ⟨W,env,env1,ok,e1,λn W1 H1 U J R=>⟨U,W1,env1,env',R,q,λW' z H' s2 S=>k W' z H' (J.trans s2) S⟩⟩) λu J D=>?_);obtain⟨z,tk,H1,Z,a,U,tv⟩:=D;subst Z;exact⟨by rw[strLen_append,sizeLine_eq];lia,t.out _ pins J σ H1 Q (by rw[strLen_append];lia) a tv⟩⟩
theorem xt{e':Expr}{v:FV}(h:JVs X G H0 (e::e'::es) v)(D:1000*(e::e'::es).length<=100000:=by decide):JV X G H0 (.JoinedStr (e::e'::es) pos) v :=
 ⟨λpins s σ H Q I t=>JoinedStr_many (h.out Str.empty pins s σ H Q (by show 0+_<=_;lia) I t)⟩
abbrev VEs:g8:=[.type "ValueError",.type "Exception",.type "BaseException",.type "object"]
def XC(K:kf)(C:Addr):Prop:=PySem.W.excIn K C VEs "ValueError.__new__" = true
def Exc(K:kf)(mg:Str->g9)(c:Str):Prop:=∃C,Cl K c C/\XC K C/\mg c=some (.ref C)/\(c==("__debug__" : Str))=false
def XC.obj{K:kf}{C:Addr}{h:Heap}(I:XC K C)(D:K.In h):∃bm N nm q bs hdct sn sub ab col dd k0 k1 k2 k3 k5 mN,h.get? C=some (excClassObj nm q C N bs bm hdct sn sub ab col dd k0 k1 k2 k3 k5 "ValueError.__new__")/\h.Ns N mN/\mN "__init__" = none/\OwnTail h VEs bm:=by
 unfold XC PySem.W.excIn at I;split at I;case h_2=>cases I
 rename_i dd R sl S;split at I;case h_2=>cases I
 rename_i k bm k0 k1 k2 k3 n k5 U V;simp only[d9,beq_iff_eq,ki] at I;obtain⟨⟨⟨⟨⟨Y,Z⟩,a⟩,b⟩,J⟩,c⟩:=I;subst Y;subst Z;have d:=D _ _ S;obtain⟨nm,bs,e,f,g,i,sn,sub,ab,col,j⟩:=R;obtain⟨l⟩:=sl;subst U;subst a;subst V;exact⟨bm,f,nm,g,bs,i,sn,sub,ab,col,dd,k0,k1,k2,k3,k5,_,d,.of_isNs (isNs_of_in D J),nsMap_none_of_in D J c,tail_of_in D b⟩
def ku(c:Str)(v:FV):FS:=λe=>(v e).map λe'=>(.xc c,e')
def rq{v:FV}{c:Str}{h cpos:Pos}(i:Exc X.K X.mg c)(j:JV X G H0 a v)(l:X.calm=true:=by rfl)(n:Gl X c:=by walk_at "g")(S:starEach [a] X.env=(false,eval a X.env)::starEach [] X.env:=by rfl)(U:(backTo cpos (starEach [a] X.env)).any (·.1)=false:=by rfl) :
  DSx X G H0 (.Raise (some (.Call (.Name c h) [a] [] cpos)) none pos) (ku c v):=let ⟨C,o,p,r,V⟩:=i;⟨λpins s σ H D I Y=>by
 obtain⟨W,env,fl,env',ok,q,k⟩:=Y;unfold ku at q;cases e1:v env with
 | none=>rw[e1] at q;cases q
 | some env1 =>
   rw[e1] at q;cases q;obtain⟨tl,N,nm,q,bs,hdct,sn,sub,ab,col,dd,k0,k1,k2,k3,k5,mN,t,u,w,f⟩:=p.obj I.ok.mod.kin;refine wpAny_Raise_call_subT (C:=C) (nm:=nm) (q:=q) (N:=N) (bs:=bs) (bm:=tl) (hdct:=hdct) (sn:=sn) (sub:=sub) (ab:=ab) (col:=col) (dd:=dd) (k0:=k0) (k1:=k1) (k2:=k2) (k3:=k3) (k5:=k5) va (mN:=mN)
    (f.hasType va.hasBase) (I.ok.hd l) U w (vt I n r ⟨rfl,?_⟩ V)
   rw[S];refine Calls.evalArgs_plain ?_;have g:=(mw j.out pk S) cpos pins s σ H (λvs H1=>vs.length=1/\∃W1,Step W H W1 H1/\Ok X.K G H0 W1 env' σ H1) I ⟨W,env,env',ok,e1,λW1 z H1 Z J=>⟨rfl,W1,Z,J⟩⟩;rw[S] at g;refine thn g λus Z Y=>?_;obtain⟨vs,H1,R,x,y,W1,b,J⟩:=Y;have d:us.length<=sizeLine:=by rw[<-x.length,y];decide
   exact⟨rfl,d,R.bk _ _ t,u.keeps R.bk,f.keeps R.bk,λh' e m=>k W1 σ H1 C o b J pins e _ (.inr ⟨Z,us,R,m,rfl⟩)⟩⟩
end
def agAt(e:DE0)(i:Nat):Option Ag:=match e[i]? with | some (some (.ag k _ ps))=>some (k,ps) | some (some (.ro k ps))=>some (k,ps) | _=>none
def ph:k9->Nat->Nat
 | .o _::r,j+1=>ph r j+1
 | .d _::r,j+1=>ph r j
 | _,_=>0
inductive Acc where
 | at (κ:AK) | al (x:Nat)
def Acc.ok:Acc->DE0->Nat->Nat->Prop
 | .at κ,e,i,_=>isK κ e i
 | .al x,e,i,j=>∃k r ps,e[i]?=some (some (.ag k (some r) ps))/\e[x]?=some (some (.al r (ph ps j)))
instance (A:Acc) (e:DE0) (i j:Nat):Decidable (A.ok e i j):=Classical.propDecidable _
def lf(A:Acc)(i j:Nat)(e:DE0):Option k7:=if A.ok e i j then(agAt e i).bind λx=>match x.2[j]? with | some (.o ds)=>some ds | _=>none else none
def PartAt(K:kf)(H:Hp)(env:DE0)(σ:St)(i j:Nat)(a:Addr):Prop:=∃k ps p us,agAt env i=some (k,ps)/\σ[i]?=some (some (.ref p))/\AkOk K H k p us/\us[j]?=some (.ref a)
def tPt(X:Cx)(G:Gd)(H0:Hp)(A:Acc)(i j:Nat):TE:=λσ H Q=>∃W env ds,Ok X.K G H0 W env σ H/\lf A i j env=some ds /\
 ∀a vs,PartAt X.K H env σ i j a->H a=some (.lst vs)->Reps X.K H (Ow G W) ds vs->Q (.ref a) H
structure JPt (X:Cx) (G:Gd) (H0:Hp) (e:Expr) (A:Acc) (i j:Nat):Prop where
 out:PE X e (tPt X G H0 A i j)
protected def PtsOk.ix(h:PtsOk K G W H ps as us)(e:ps[j]?=some (.o ds)):∃a,us[j]?=some (.ref a)/\as[ph ps j]?=some a:=by
 induction h generalizing j with
 | nil=>simp at e
 | d _ _ ih =>
   cases j with
   | zero=>simp at e
   | succ j=>obtain⟨a,h1,h2⟩:=ih (j:=j) (by simpa using e);exact⟨a,by simpa using h1,h2⟩
 | @o _ a _ _ _ _ _ _ _ _ ih =>
   cases j with
   | zero=>exact⟨a,rfl,rfl⟩
   | succ j=>obtain⟨b,h1,h2⟩:=ih (j:=j) (by simpa using e);exact⟨b,by simpa using h1,by simpa[ph] using h2⟩
variable{k:AK}
def Ok.part(ok:Ok K G H0 W env σ H)(e:agAt env i=some (k,ps))(S:ps[j]?=some (.o ds)):∃p us a vs,σ[i]?=some (some (.ref p))/\AkOk K H k p us/\us[j]?=some (.ref a)/\H a=some (.lst vs)/\Reps K H (Ow G W) ds vs:=by
 unfold agAt at e;split at e
 ·rename_i k' l ps' q
  cases e;obtain⟨v,D,p,as,us,rfl,_,_,_,I,J⟩:=ok.slot i _ q;obtain⟨a,vs,h1,_,_,h2,R⟩:=J.get S;exact⟨p,us,a,vs,D,I,h1,h2,R⟩
 ·rename_i k' ps' q
  cases e;obtain⟨v,D,p,us,rfl,_,I,J⟩:=ok.slot i _ q;obtain⟨a,vs,h1,_,h2,R⟩:=J.get S;exact⟨p,us,a,vs,D,I,h1,h2,R⟩
 ·cases e
variable{A:Acc}
def z0(h:lf A i j env=some ds):A.ok env i j/\∃k ps,agAt env i=some (k,ps)/\ps[j]?=some (.o ds):=by
 unfold lf at h;split at h;case isFalse=>cases h
 rename_i D;cases e:agAt env i with
 | none=>rw[e] at h;cases h
 | some x =>
   rw[e,ac] at h;split at h
   ·rename_i ds' q;cases h;exact⟨D,x.1,x.2,rfl,q⟩
   ·cases h
def PartAt.inj{b:Addr}(h:PartAt K H env σ i j a)(h':PartAt K H env σ i j b):a=b:=by
 obtain⟨k,ps,p,us,h1,h2,S,U⟩:=h;obtain⟨k',ps',p',V,I,J,R,D⟩:=h';rw[h1] at I;cases I;rw[h2] at J;cases J;rw[vk S R.o] at D;rw[U] at D;cases D;rfl
def znr{f:Str}{u:V}(D:fs.Nodup)(h1:fs[j]?=some f)(h2:us[j]?=some u):(fs.zip us).lookup f=some u:=by
 induction fs generalizing us j with
 | nil=>simp at h1
 | cons g r ih =>
   cases us with
   | nil=>simp at h2
   | cons w us =>
     rw[j4,cw];cases j with
     | zero=>simp at h1 h2;subst h1;subst h2;simp
     | succ j =>
       have I:(f==g)=false:=by simp;exact λz=>(bz.mp D).1 (z ▸ bg h1)
       rw[I];exact ih (bz.mp D).2 h1 (by simpa using h2)
variable{cn:Str}
def vy(c:Atr X.K cn m)(an:Ats Nn Cn X)(I:Nn[i]?=some x:=by rfl)(S:fs[j]?=some m:=by rfl)(U:fs.Nodup:=by decide +kernel)(V:attributeBase (.Name x p') m X.env (eval (.Name x p') X.env)=eval (.Name x p') X.env:=by rfl):JPt X G H0 (.Attribute (.Name x p') m pos) (.at (.ins false cn fs)) i j:=let ⟨C,c,Y,Z⟩:=c;⟨(zy7 ((an.a I).pe) V).imp λσ H Q b=>by
  obtain⟨W,env,ds,ok,q,k⟩:=b;obtain⟨d,κ,ps,D,e⟩:=z0 q;obtain⟨p,us,a,vs,h1,h2,J,f,g⟩:=ok.part D e;have h:κ=.ins false cn fs:=by
   rcases d with⟨l,ps',z⟩ | ⟨ps',z⟩ <;> (unfold agAt at D;rw[z] at D;cases D;rfl)
  subst h;obtain⟨o,dx,n,R,r⟩:=id h2;rw[Cl.inj n Z] at R;exact⟨_,h1,p,C,dx,_,_,rfl,R,c,Y,znr U S J,k a vs ⟨_,ps,p,us,D,h1,h2,J⟩ f g⟩⟩
variable{jj:Nat}{p1:Pos}
def z1l(an:Ats Nn Cn X)(I:Nn[i]?=some x:=by rfl)(R:uv (.Constant (.int (j:Int)) jj p1):=by intro _ _;rfl):JPt X G H0 (.Subscript (.Name x p') (.Constant (.int (j:Int)) jj p1) pos) (.at .ls) i j :=
 ⟨(xf zr ((an.a I).pe) xn R).imp λσ H Q S=>by
  obtain⟨W,env,ds,ok,q,k⟩:=S;obtain⟨U,κ,ps,D,V⟩:=z0 q;obtain⟨p,us,a,vs,h1,h2,J,Y,Z⟩:=ok.part D V;have b:κ=.ls:=by
   rcases U with⟨l,ps',z⟩ | ⟨ps',z⟩ <;> (unfold agAt at D;rw[z] at D;cases D;rfl)
  subst b;exact⟨_,h1,p,us,j,_,rfl,rfl,.inl (.inl h2),zqf J,k a vs ⟨_,ps,p,us,D,h1,h2,J⟩ Y Z⟩⟩
def zg{ix:Nat}(an:Ats Nn Cn X)(S:Nn[ix]?=some x:=by rfl):JPt X G H0 (.Name x pos) (.al ix) i j :=
 ⟨((an.a S).pe).imp λσ H Q g=>by
  obtain⟨W,env,ds,ok,q,k⟩:=g;obtain⟨⟨κ',r,ps',U,h⟩,κ,ps,V,Y⟩:=z0 q;have J:agAt env i=some (κ',ps'):=by unfold agAt;rw[U]
  rw[J] at V;cases V;obtain⟨v,l,p,as,us,rfl,_,_,m,n,Z⟩:=ok.slot i _ U;obtain⟨u,o,s,b,d,I,R,rfl⟩:=ok.slot ix _ h;obtain⟨a,vs,h1,_,_,h2,t⟩:=Z.get Y;obtain⟨w,e,f⟩:=Z.ix Y;rw[h1] at e;cases e;have D:=m r rfl;have:d=a:=by
   cases κ' with
   | ls=>have D:G.r r=p::as:=D;rw[D] at I;cases I;rw[f] at R;cases R;rfl
   | ins bb c fs =>
     cases bb with
     | true=>have D:G.r r=[p]:=D;rw[D] at I;cases I;simp at R
     | false=>have D:G.r r=p::as:=D;rw[D] at I;cases I;rw[f] at R;cases R;rfl
  subst this;exact⟨_,o,k d vs ⟨_,ps',p,us,J,l,n,h1⟩ h2 t⟩⟩
def pLen(A:Acc)(i j:Nat):FE:=λe=>(lf A i j e).map λds=>(.int ds.length,e)
def zns(h:JPt X G H0 e A i j)(D:Bn X "len":=by walk_at "b")(I:starEach [e] X.env=(false,eval e X.env)::starEach [] X.env:=by rfl):DEx X G H0 (.Call (.Name "len" p') [e] [] pos) (pLen A i j) :=
 ⟨(x0 zh7 D.g D.m u9 (mw h.out pk I) (by decide) (by decide) I rfl).imp λσ H Q J=>by
  obtain⟨W,env,d,env',ok,q,k⟩:=J;unfold pLen at q;cases e1:lf A i j env with
  | none=>rw[e1] at q;cases q
  | some ds =>
    rw[e1] at q;cases q;exact⟨W,env,ds,ok,e1,λa vs _ R r=>⟨a,vs,rfl,.inl (.inl (.inl R)),by rw[<-r.length];exact k W _ H Step.refl ok (.int _)⟩⟩⟩
structure JK (X:Cx) (e:Expr) (z:Int):Prop where
 out:PE X e (tC (.int z))
variable{z:Int}
def zzq:JK X (.Constant (.int z) jj pos) z:=⟨xn⟩
def zzr(h:JK X e z):JK X (.UnaryOp .USub e pos) (-z):=⟨(z3b zy5 h.out).imp λσ H Q q=>⟨z,rfl,q⟩⟩
def pIx(A:Acc)(i j:Nat)(z:Int):FE:=λe=>(lf A i j e).bind λds=>(atI ds z).map λd=>(d,e)
def zu7(h:JPt X G H0 e A i j)(D:JK X b z)(I:uv b:=by intro _ _;rfl):DEx X G H0 (.Subscript e b pos) (pIx A i j z) :=
 ⟨(xf zr h.out D.out I).imp λσ H Q J=>by
  obtain⟨W,env,d,env',ok,q,k⟩:=J;unfold pIx at q;cases e1:lf A i j env with
  | none=>rw[e1] at q;cases q
  | some ds =>
    rw[e1,ac] at q;cases e2:atI ds z with
    | none=>rw[e2] at q;cases q
    | some d' =>
      rw[e2] at q;cases q;refine⟨W,env,ds,ok,e1,λa vs _ R r=>?_⟩;obtain⟨v,S,U⟩:=xy r e2;exact⟨a,vs,z,v,rfl,rfl,.inl (.inl R),S,k W v H Step.refl ok U⟩⟩
def setP(e:DE0)(i j:Nat)(ds:k7):DE0:=match e[i]? with | some (some (.ag k l ps))=>e.set i (some (.ag k l (ps.set j (.o ds)))) | _=>e
def Ok.setP{K:kf}{W:Addr->Prop}{H:Hp}{env:DE0}{σ:St}{k:AK}{l:Option Nat}{ps:k9}{ds ds':k7}{a:Addr}{vs':k6}(ok:Ok K G H0 W env σ H)(e:env[i]?=some (some (.ag k l ps)))(I:ps[j]?=some (.o ds))(J:PartAt K H env σ i j a)(r:Reps K H (Ow G W) ds' vs') :
  Ok K G H0 W (L2.setP env i j ds') σ (upd H a (.lst vs'))/\Step W H W (upd H a (.lst vs')):=by
 obtain⟨k',ps',p,us,h1,h2,R,S⟩:=J;have:agAt env i=some (k,ps):=by unfold agAt;rw[e]
 rw[this] at h1;cases h1;unfold L2.setP;rw[e];exact ok.turnP e h2 R I S r
def pPop(A:Acc)(i j:Nat):FE:=λe=>match e[i]? with
 | some (some (.ag _ _ _))=>(lf A i j e).bind λds=>(ds[ds.length-1]?).map λd=>(d,setP e i j ds.dropLast)
 | _=>none
def zlf(h:JPt X G H0 e A i j)(D:attributeBase e "pop" X.env (eval e X.env)=eval e X.env:=by rfl)(I:(p1.endLine==pos.line)=true:=by rfl) :
  DEx X G H0 (.Call (.Attribute e "pop" p1) [] [] pos) (pPop A i j):=⟨(zzb fz PySem.F.slot_list_pop PySem.F.type_list_pop zzc h.out D I).imp λσ H Q V=>by
 obtain⟨W,env,d,env',ok,q,k⟩:=V;unfold pPop at q;split at q;case h_2=>cases q
 rename_i kk g pp J;cases e1:lf A i j env with
 | none=>rw[e1] at q;cases q
 | some ds =>
   rw[e1,ac] at q;cases e2:ds[ds.length-1]? with
   | none=>rw[e2] at q;cases q
   | some d' =>
     rw[e2] at q;cases q;obtain⟨_,κ,ps,R,Y⟩:=z0 e1;have:agAt env i=some (kk,pp):=by unfold agAt;rw[J]
     rw[this] at R;cases R;refine⟨W,env,ds,ok,e1,λa vs Z S r=>⟨.inl ⟨rfl,_,.inl (.inl S)⟩,?_⟩⟩;obtain⟨u,b,c⟩:=r.get e2;obtain⟨f,U⟩:=ok.setP J Y Z r.dropLast;exact⟨a,vs,u,rfl,rfl,S,by rw[<-r.length];exact b,k W _ _ U f (ok.rep U c)⟩⟩
def labO(k:AK)(l:Option Nat):Prop:=l.isSome=true/\∀c fs,k≠.ins true c fs
instance (k:AK) (l:Option Nat):Decidable (labO k l):=Classical.propDecidable _
variable{l:Option Nat}
def zx2{W1:Addr->Prop}{H1:Hp}{J:DE0}{R:k9}{Z:k7}(u:labO k l)(ok:Ok K G H0 W env σ H)(d:Ok K G H0 W1 J σ H1)(e:env[i]?=some (some (.ag k l ps)))(w:J[i]?=some (some (.ag k l R)))(x:ps[j]?=some (.o ds))(f:R[j]?=some (.o Z))(y:ph R j=ph ps j)(z:PartAt K H env σ i j a):PartAt K H1 J σ i j a:=by
 obtain⟨r,rfl⟩:=ko.mp u.1;obtain⟨v,g,p,as,us,rfl,_,_,h1,A,B⟩:=ok.slot i _ e;obtain⟨L,V,p',S,h,rfl,_,_,m,n,q⟩:=d.slot i _ w;rw[g] at V;cases V;have U:=h1 r rfl;have I:=m r rfl;obtain⟨b,C,E⟩:=B.ix x;obtain⟨M,s,Y⟩:=q.ix f;have F:PartAt K H env σ i j b:=⟨k,ps,p,us,by unfold agAt;rw[e],g,A,C⟩;have ab:=z.inj F;subst ab;have t:S=as:=by
  cases k with
  | ls=>have U:G.r r=p::as:=U;have I:G.r r=p::S:=I;rw[U] at I;cases I;rfl
  | ins bb c fs =>
    cases bb with
    | true=>exact absurd rfl (u.2 c fs)
    | false=>have U:G.r r=p::as:=U;have I:G.r r=p::S:=I;rw[U] at I;cases I;rfl
 subst t;rw[y,E] at Y;cases Y;exact⟨k,R,p,h,by unfold agAt;rw[w],g,n,s⟩
instance (k k':AK):Decidable (k=k'):=Classical.propDecidable _
def appP(i j:Nat)(k0:AK)(I:Option Nat)(n:Nat)(d:D)(e:DE0):Option (D×DE0):=match e[i]? with
 | some (some (.ag k l ps))=>(match ps[j]? with | some (.o ds)=>if k=k0/\l=I/\ph ps j=n/\Few (ds.length+1) then some (.non,setP e i j (ds++[d])) else none | _=>none)
 | _=>none
def rd(A:Acc)(i j:Nat)(f:FE):FE:=λe=>match e[i]? with
 | some (some (.ag k l ps))=>if labO k l then(lf A i j e).bind λ_=>(f e).bind λr=>appP i j k l (ph ps j) r.1 r.2 else none
 | _=>none
variable{a:Expr}
def zha(h:JPt X G H0 e A i j)(n:DEx X G H0 a f)(I:attributeBase e "append" X.env (eval e X.env)=eval e X.env:=by rfl)(U:((backTo pos (starEach [a] X.env)).all (λx=>!x.1) && (backToKw pos (keywordEach [] X.env)).all (λx=>x.1.isSome)
   && decide ([a].length+([]:List Keyword).length+(if ([]:List Keyword).isEmpty then 0 else 1)<30))=true:=by rfl)(J:(p1.endLine==pos.line)=true:=by rfl)(c:starEach [a] X.env=(false,eval a X.env)::starEach [] X.env:=by rfl) :
  DEx X G H0 (.Call (.Attribute e "append" p1) [a] [] pos) (rd A i j f):=⟨(zw1 fz yz yy zoy h.out (mw n.out pk c) I U J c rfl).imp λσ H Q o=>by
 obtain⟨W,env,d,env',ok,q,k⟩:=o;unfold rd at q;split at q;case h_2=>cases q
 rename_i kk O pp g;split at q;case isFalse=>cases q
 rename_i V;cases e1:lf A i j env with
 | none=>rw[e1] at q;cases q
 | some ds =>
   rw[e1,ac] at q;cases e2:f env with
   | none=>rw[e2] at q;cases q
   | some r =>
     rw[e2,ac] at q;unfold appP at q;split at q;case h_2=>cases q
     rename_i k1 P s D;split at q;case h_2=>cases q
     rename_i t R;split at q;case isFalse=>cases q
     rename_i u;obtain⟨rfl,rfl,v,Z⟩:=u;cases q;obtain⟨_,κ,ps,l,w⟩:=z0 e1;have:agAt env i=some (k1,pp):=by unfold agAt;rw[g]
     rw[this] at l;cases l;refine⟨W,env,ds,ok,e1,λad vs y z T=>⟨.inl ⟨rfl,_,.inl (.inl z)⟩,W,env,r.1,r.2,ok,e2,λW1 v1 H1 B S C=>?_⟩⟩;have Y:=zx2 V ok S g D w R v y;obtain⟨p,us,a1,b,E,F,K,L,m⟩:=S.part (i:=i) (by unfold agAt;rw[D]) R;have:=Y.inj ⟨_,_,p,us,by unfold agAt;rw[D],E,F,K⟩;subst this;obtain⟨M,N⟩:=S.setP D R Y (m.append (.cons C .nil));exact⟨ad,b,v1,rfl,rfl,L,by rw[<-m.length];exact lt20 (og Z),k W1 _ _ (B.trans N) M .non⟩⟩
def fDat(i j:Nat):FE:=λe=>match e[i]? with
 | some (some (.ag .ls _ ps))=>(match ps[j]? with | some (.d d)=>some (d,e) | _=>none)
 | some (some (.ro .ls ps))=>(match ps[j]? with | some (.d d)=>some (d,e) | _=>none)
 | _=>none
def xr(an:Ats Nn Cn X)(D:Nn[i]?=some x:=by rfl)(V:uv (.Constant (.int (j:Int)) jj p1):=by intro _ _;rfl):DEx X G H0 (.Subscript (.Name x p') (.Constant (.int (j:Int)) jj p1) pos) (fDat i j) :=
 ⟨(xf zr ((an.a D).pe) xn V).imp λσ H Q Y=>by
  obtain⟨W,env,d,env',ok,q,k⟩:=Y;unfold fDat at q;split at q
  ·rename_i l ps I
   split at q;case h_2=>cases q
   rename_i d' J;cases q;obtain⟨v,R,p,as,us,rfl,_,_,_,S,U⟩:=ok.slot i _ I;obtain⟨u,h1,h2⟩:=U.getD J;exact⟨_,R,p,us,j,_,rfl,rfl,.inl (.inl S),zqf h1,k W u H Step.refl ok h2⟩
  ·rename_i ps I
   split at q;case h_2=>cases q
   rename_i d' J;cases q;obtain⟨v,R,p,us,rfl,_,S,U⟩:=ok.slot i _ I;obtain⟨u,h1,h2⟩:=U.getD J;exact⟨_,R,p,us,j,_,rfl,rfl,.inl (.inl S),zqf h1,k W u H Step.refl ok h2⟩
  ·cases q⟩
def qp(i j:Nat)(f:FE):FS:=λe=>(f e).bind λr=>match r.2[i]? with
 | some (some (.ag .ls l ps))=>(match ps[j]? with | some (.d _)=>some (.nx,r.2.set i (some (.ag .ls l (ps.set j (.d r.1))))) | _=>none)
 | _=>none
variable{p2:Pos}
theorem zlg(Y:DEx X G H0 e f)(an:Ats Nn Cn X)(J:Nn[i]?=some x:=by rfl)(Z:swapsWithSole [.Subscript (.Name x p') (.Constant (.int (j:Int)) jj p2) p1] e pos.line X.env=pure false:=by rfl)(b:swappedStores [.Subscript (.Name x p') (.Constant (.int (j:Int)) jj p2) p1] e X.env=pure none:=by rfl)(h1:(assignEach [.Subscript (.Name x p') (.Constant (.int (j:Int)) jj p2) p1] X.env).map (·.2)=[assign (.Subscript (.Name x p') (.Constant (.int (j:Int)) jj p2) p1) X.env]:=by rfl)(D:∀v,assign (.Subscript (.Name x p') (.Constant (.int (j:Int)) jj p2) p1) X.env v=(do
   let ov <-holding [v] (eval (.Name x p') X.env);let iv <-holding [v,ov] (eval (.Constant (.int (j:Int)) jj p2) X.env)
   standAt p1
   holding [v,ov,iv] (setItem ov iv v)
   release [v,ov,iv] []):=by intro _;rfl) :
  DSx X G H0 (.Assign [.Subscript (.Name x p') (.Constant (.int (j:Int)) jj p2) p1] e pos) (qp i j f):=⟨(zm Y.out (zrk ((an.a J).pe) xn xz D) Z b h1).imp λDn σ H c=>by
 obtain⟨W,env,fl,env',ok,q,k⟩:=c;unfold qp at q;cases e1:f env with
 | none=>rw[e1] at q;cases q
 | some r =>
   rw[e1,ac] at q;split at q;case h_2=>cases q
   rename_i l ps R;split at q;case h_2=>cases q
   rename_i d' S;cases q;refine⟨W,env,r.1,r.2,ok,e1,λW1 v1 H1 d I g=>?_⟩;obtain⟨v,U,p,as,us,rfl,_,_,_,V,h⟩:=I.slot i _ R;obtain⟨u,h1,h2⟩:=h.getD S;obtain⟨m,n⟩:=I.turnD R U V S g;have o:=(ai.mp h1).1;exact⟨_,U,p,us,j,j,rfl,rfl,V,by unfold ixN;rw[if_pos (by lia),if_pos (by lia)];simp,k W1 _ _ (d.trans n) m⟩⟩
abbrev FG:=DE0->Option (Ag×DE0)
def z46(env:DE0)(σ:St)(H:Hp)(s:Sl)(v:V):Prop:=∀(j:Nat) (s':Sl) (D:V) (a:Addr),env[j]?=some (some s')->σ[j]?=some (some D)->Owns H s v a->¬Owns H s' D a
def tAG(X:Cx)(G:Gd)(H0:Hp)(f:FG):TE:=λσ H Q=>DP X.K G H0 f (λW env x env' =>
 ∀W' p H',Step W H W' H'->Ok X.K G H0 W' env' σ H'->SlOk X.K G W' H' (.ag x.1 none x.2) (.ref p)->z46 env' σ H' (.ag x.1 none x.2) (.ref p)->Q (.ref p) H') σ H
structure JAg (X:Cx) (G:Gd) (H0:Hp) (e:Expr) (f:FG):Prop where
 out:PE X e (tAG X G H0 f)
def zd(i:Nat)(f:FG):FS:=λe=>(f e).map λr=>(.nx,r.2.set i (some (.ag r.1.1 none r.1.2)))
def zx3(f:FG):FS:=λe=>(f e).map λr=>(.ra r.1.1 r.1.2,r.2)
def z7n(i:Nat):FS:=λe=>match e[i]? with | some (some (.ag k _ ps))=>some (.ra k ps,e) | _=>none
variable{G':Gd}
def Ok.newA(ok:Ok K G H0 W env σ H)(sm:Same H H')(S:∀a,W' a->H a=none)(u:∀a,W' a->∃m:Mo,H' a=some m.out)(x:∀a,G' a->Ow G W a\/H a=none){k':AK}{p:Addr}(c:∀us,AkOk K H' k p us->AkOk K H' k' p us)(h:SlOk K G' W' H' (.ag k l ps) (.ref p)) :
  Ok K G H0 (λa=>W a\/W' a) env σ H'/\Step W H (λa=>W a\/W' a) H'/\SlOk K G (λa=>W a\/W' a) H' (.ag k' none ps) (.ref p)/\z46 env σ H' (.ag k' none ps) (.ref p):=by
 have st:Step W H (λa=>W a\/W' a) H':=⟨λb o e _=>sm b o e,λa z=>z.imp id (S a)⟩;have D:=ok.same sm;have U:Ok K G H0 (λa=>W a\/W' a) env σ H':=by
  refine⟨D.stay,ok.good,λa z=>?_,λi s e=>?_,D.uniq,ok.len⟩
  ·rcases z with z | z
   ·exact D.wl a z
   ·exact⟨ok.stay.free (S a z),u a z⟩
  ·obtain⟨v,Y,q⟩:=ok.slot i s e
   exact⟨v,Y,ok.slstep st q λa m o Z=>⟨.inl (q.owns o),sm _ _ Z⟩⟩
 obtain⟨p',as,us,e,f,A,F,I,J⟩:=h;cases e;have g:∀(a:Addr) (us:k6),Ow G' W' a->Rd H' a (.lst us)->Ow G (λa=>W a\/W' a) a/\Rd H' a (.lst us):=λa us o q=>⟨by
  rcases x a o.1 with z | z
  ·exact⟨z.1,λy=>y.elim z.2 o.2⟩
  ·exact⟨ok.good a (ok.stay.free z),λy=>y.elim (λw=>by obtain⟨_,m,q⟩:=ok.wl a w;rw[z] at q;cases q) o.2⟩,q⟩
 refine⟨U,st,⟨p,as,us,rfl,.inr f,A,(λn z=>nomatch z),c us I,J.step (λa vs R z=>⟨.inr (J.own R).1,z⟩) (λd v r=>r.mono (λ_ _ h=>h) g) λd v r=>r.mono (λ_ _ h=>h) g⟩,λj s v a Y Z B C=>?_⟩;have E:W' a:=by
  rcases B with o | ⟨p',us',z,q,R⟩
  ·cases o;exact f
  ·cases z
   rw[vk (c us I) q] at R;exact(J.own (J.parts_iff.mp R)).1
 obtain⟨L,t,q⟩:=D.slot j s Y;rw[Z] at t;cases t;obtain⟨_,m,z⟩:=ok.wl a (q.owns C);rw[S a E] at z;cases z
variable{g:FG}{y:XF}
def zr1{y:Str}(I:Tos Nn X)(h:JAg X G H0 e g)(D:Nn[i]?=some y:=by rfl)(R:swapsWith e (some (.Name y p')) pos.line X.env=pure false:=by rfl) :
  DSx X G H0 (.Assign [.Name y p'] e pos) (zd i g):=⟨(ztx (I.t D).nd (I.t D).n (I.t D).l h.out R (I.t D).f).imp λDn σ H S=>by
 obtain⟨W,env,fl,env',ok,q,k⟩:=S;unfold zd at q;cases e1:g env with
 | none=>rw[e1] at q;cases q
 | some r =>
   rw[e1] at q;cases q;exact⟨W,env,r.1,r.2,ok,e1,λW1 p H1 U J sl V=>k W1 _ H1 U (J.put sl V)⟩⟩
def zx4(h:JAg X G H0 e g):DSx X G H0 (.Return (some e) pos) (zx3 g):=⟨(zrj h.out).imp λDn σ H I=>by
 obtain⟨W,env,fl,env',ok,q,k⟩:=I;unfold zx3 at q;cases e1:g env with
 | none=>rw[e1] at q;cases q
 | some r =>
   rw[e1] at q;cases q;exact⟨W,env,r.1,r.2,ok,e1,λW1 p H1 J D sl R=>k W1 σ p H1 J D sl⟩⟩
def gSp(K:kf)(m:k7->Option Ag)(x:k7->ka):Sp:=λvs H Q E=>∃O ds,Reps K H O ds vs /\
 ((∃y,m ds=some y/\∀(W':Addr->Prop) p H',Same H H'->(∀a,W' a->H a=none)->(∀a,W' a->∃m:Mo,H' a=some m.out)->SlOk K (gd λa=>O a\/H a=none) W' H' (.ag y.1 none y.2) (.ref p)->Q (.ref p) H')\/∃c,x ds=some c/\∀C H',Cl K c C->Same H H'->E (.ref C) none H')
def runG(n ar:Nat)(g:FS):k7->Option Ag:=λds=>if ds.length=ar then(match g (jl n ds) with | some (.ra k ps,_)=>some (k,ps) | _=>none) else none
def xG(n ar:Nat)(g:FS):k7->ka:=λds=>if ds.length=ar then(match g (jl n ds) with | some (.xc c,_)=>some c | _=>none) else none
variable{k:Nat}{ps:g7}{g:FP}
theorem z63{f:Addr}{g:FS}(F:Fun K x qual st f fd)(S:qe N ps (gg st))(U:n=N.length)(V:ar=ps.length)(I:∀(cdv:Value) (A:Around) (outer:i0) (s:Shared) (H:Hp) (E:XK) (G:Gd) (H0:Hp),Room k (A.deeper (envOfC qual (gg st) s.heap.objs.size f cdv)) ->
   DBx (cxOf (CXr P w) P w K mg base N qual (gg st) f cdv A outer s H E) G H0 (lr st) g):FnOk P w K mg base (CXr P w) (k+1) f fd ps (gSp K (runG n ar g) (xG n ar g)):=by
 subst U V;refine F.okX S (λvs H Q E h=>?_) (λcdv A outer s H vs Q E Y h=>?_)
 ·obtain⟨O,ds,r,h⟩:=h
  rw[<-r.length];rcases h with⟨y,e,_⟩ | ⟨c,e,_⟩
  ·unfold runG at e;split at e
   ·assumption
   ·cases e
  ·unfold xG at e;split at e
   ·assumption
   ·cases e
 ·obtain⟨O,ds,r,h⟩:=h
  refine⟨_,(I cdv A outer s H E (gd λa=>O a\/H a=none) H Y).out,?_⟩;rcases h with⟨y,e,k⟩ | ⟨c,e,k⟩
  ·unfold runG at e
   split at e;case isFalse=>cases e
   split at e
   ·rename_i k' ps' env' J
    cases e;exact⟨NoW,_,_,env',ux r,J,λW' R p H' st D sl=>k W' p H' D.stay (λa z=>(st.ws a z).elim (λz=>z.elim) id) (λa z=>(D.wl a z).2) sl⟩
   ·cases e
  ·unfold xG at e
   split at e;case isFalse=>cases e
   split at e
   ·rename_i d env' J
    cases e;exact⟨NoW,_,_,env',ux r,J,λW' R H' Z b st D pins e s' xs=>zke xs (k Z H' b D.stay)⟩
   ·cases e
def zr2(m:k7->Option Ag)(F:FA):FG:=λe=>(F e).bind λr=>(m r.1).map λy=>(y,r.2)
def zx5{m:k7->Option Ag}{xx:k7->ka}(c:Cal X.prog X.w X.K X.mg X.base (CXr X.prog X.w) x k (gSp X.K m xx))(U:Room jr X.A)(V:DAx X G H0 (e::es) F)(I:k<=jr:=by decide)(Y:Gl X x:=by walk_at "g")(Z:starEach (e::es) X.env=(false,eval e X.env)::starEach es X.env:=by rfl)(J:(backTo pos (starEach es X.env)).any (·.1)=false:=by rfl) :
  JAg X G H0 (.Call (.Name x p') (e::es) [] pos) (zr2 m F):=let ⟨_,_,_,b,d,f,g,R⟩:=c;⟨(z7 b (U.mono I) Y d f g V.out R Z J).imp λσ H Q h=>by
 obtain⟨W,env,y,env',ok,q,k⟩:=h;unfold zr2 at q;cases e1:F env with
 | none=>rw[e1] at q;cases q
 | some r =>
   rw[e1,ac] at q;cases e2:m r.1 with
   | none=>rw[e2] at q;cases q
   | some y' =>
     rw[e2] at q;cases q;refine⟨W,env,r.1,r.2,ok,e1,λW1 vs H1 i S j=>⟨Ow G W1,r.1,j,.inl ⟨_,e2,λW' p H' sm l n sl=>?_⟩⟩⟩;obtain⟨o,s,t,u⟩:=S.newA sm l n (λa z=>z) (k':=y.1) (λus z=>z) sl;exact k _ p H' (i.trans s) o t u⟩
def zc(c:Str)(m:ll->k7->ln)(F:FA):FG:=λe=>(F e).bind λr=>(m [(.ins true c [],[])] r.1).bind λq=>match q with
 | (.non,[(.ins true c' fs,ps)])=>some ((.ins false c' fs,ps),r.2)
 | _=>none
def zva{D dx:Addr}(ok:Ok K G H0 W env σ H)(S:Cl K cn C)(h1:H D=none)(h2:H dx=none)(d:dx≠D)(r:Reps K H (Ow G W) ds vs) :
  Same H (upd (upd H dx (.own D)) D (.ins C dx [])) /\
  Ok K ⟨Ow G W,λ_=>[D]⟩ (mask (upd (upd H dx (.own D)) D (.ins C dx [])) (λb=>b=D)) (λb=>b=D) (nr [(.ins true cn [],[])]) [some (.ref D)] (upd (upd H dx (.own D)) D (.ins C dx [])) /\
  Reps K (upd (upd H dx (.own D)) D (.ins C dx [])) (Ow ⟨Ow G W,λ_=>[D]⟩ (λb=>b=D)) ds vs:=by
 have sm:Same H (upd (upd H dx (.own D)) D (.ins C dx [])):=λb o e=>by rw[gv (nk e h1),gv (nk e h2)];exact e
 have J:∀a,H a=none->Ow G W a:=λa z=>⟨ok.good a (ok.stay.free z),λw=>by obtain⟨_,m,q⟩:=ok.wl a w;rw[z] at q;cases q⟩;refine⟨sm,⟨λa o e=>(zph e).2,λa e=>?_,λa e=>⟨znl e,.i C dx [],by rw[show a=D from e,km]⟩,λI s e=>?_,λI U s s' v f b V Y g j k l=>?_,rfl⟩,?_⟩
 ·rcases zpi e with z | z
  ·rw[show a=D from z];exact J D h1
  ·refine J a ?_
   by_cases y:a=D
   ·rw[y];exact h1
   ·rw[gv y] at z
    by_cases R:a=dx
    ·rw[R];exact h2
    ·rwa [gv R] at z
 ·obtain⟨p,q,rfl⟩:=zle e
  cases I with
  | zero =>
    simp at q;subst q;exact⟨.ref D,rfl,D,[],[],rfl,rfl,by simp,λn _=>rfl,⟨C,dx,S,km,rfl⟩,.nil⟩
  | succ n=>simp at q
 ·obtain⟨_,Z,_⟩:=zle V
  obtain⟨_,c,_⟩:=zle Y;cases I with
  | zero=>cases U with
    | zero=>rfl
    | succ n=>simp at c
  | succ n=>simp at Z
 ·refine r.mono (λa u z=>sm _ _ z) λa us o h=>⟨⟨o,λz=>?_⟩,h.keep λo z=>sm _ _ z⟩
  rw[show a=D from z] at h;rcases h with h | ⟨_,h⟩ <;> (have h2:=h1.symm.trans h;cases h2)
def zx6{m:ll->k7->ln}(c:KCal X.prog X.w X.K X.mg X.base x k (lSp X.K m xx))(U:Room jr X.A)(j:DAx X G H0 (e::es) F)(V:k+1<=jr:=by decide)(n:Gl X x:=by walk_at "g")(s:starEach (e::es) X.env=(false,eval e X.env)::starEach es X.env:=by rfl)(Y:(backTo pos (starEach es X.env)).any (·.1)=false:=by rfl) :
  JAg X G H0 (.Call (.Name x p') (e::es) [] pos) (zc x m F):=let ⟨_,_,_,_,M,t,u,B,C,Z⟩:=c;⟨(zxy M t (U.mono V) n u B j.out Z s Y).imp λσ H Q E=>by
 obtain⟨W,env,y,env',ok,q,k⟩:=E;unfold zc at q;cases e1:F env with
 | none=>rw[e1] at q;cases q
 | some r =>
   rw[e1,ac] at q;cases e2:m [(.ins true x [],[])] r.1 with
   | none=>rw[e2] at q;cases q
   | some z =>
     rw[e2,ac] at q;split at q;case h_2=>cases q
     rename_i h J ps';cases q;refine⟨W,env,r.1,r.2,ok,e1,λW1 vs H1 L R N I dx h1 h2 O=>?_⟩;obtain⟨sm,d,U⟩:=zva R C h1 h2 O N;refine⟨_,_,_,_,[.ref I],r.1,vs,rfl,rfl,d,U,.inl ⟨_,_,e2,λW' en P v H' st S T rp=>⟨rp.non_,?_⟩⟩⟩;have hs:=T 0 _ rfl;obtain⟨v',z1,i⟩:=S.slot 0 _ hs;have ev:v'=.ref I:=by
      obtain⟨p,as,us,rfl,_,_,f,_⟩:=i;have f:([I]:ia)=[p]:=f 0 rfl;cases f;rfl
     subst ev;have g:Same H1 H':=λb o z=>st.keep b o (sm b o z) λy=>by rw[show b=I from y,h1] at z;cases z
     have hn:∀a,W' a->H1 a=none:=λa z=>by
      rcases st.ws a z with y | y
      ·rw[show a=I from y];exact h1
      ·cases q:H1 a with
       | none=>rfl
       | some o=>rw[sm a o q] at y;cases y
     obtain⟨w1,w2,w3,w4⟩:=R.newA (G':=⟨Ow G W1,λ_=>[I]⟩) (k:=.ins true h J) (l:=some 0) (ps:=ps') (p:=I) (k':=.ins false h J) g hn (λa z=>(S.wl a z).2) (λa z=>.inl z) (λus z=>z) i;exact k _ I H' (L.trans w2) w1 w3 w4⟩
mutual
def noL:D->Bool
 | .lst _=>false
 | .dct _ _=>false
 | .tup ds=>noLs ds
 | _=>true
def noLs:k7->Bool
 | []=>true
 | d::r=>noL d && noLs r
end
def Rep.noL{d:D}{v:V}:Rep K H O d v->L2.noL d=true->Rep K H O' d v :=
 Rep.rec (motive_1:=λd v _=>L2.noL d=true->Rep K H O' d v) (motive_2:=λds vs _=>L2.noLs ds=true->Reps K H O' ds vs) (λ_=>.non) (λb _=>.bl b) (λb _=>.int b) (λb _=>.str b) (λh _ q e=>.tup h (q (by rw[L2.noL] at e;exact e))) (λ_ _ _ _ e=>by rw[L2.noL] at e;cases e) (λ_ _ _ e=>by rw[L2.noL] at e;cases e) (λ_ _ _ e=>by rw[L2.noL] at e;cases e) (λa _=>.exc a) (λ_=>.nil) λ_ _ p q e=>by rw[L2.noLs,d9] at e;exact .cons (p e.1) (q e.2)
def Reps.noLs{ds:k7}{vs:k6}:Reps K H O ds vs->L2.noLs ds=true->Reps K H O' ds vs :=
 Reps.ind (P:=λds vs=>L2.noLs ds=true->Reps K H O' ds vs) (λ_=>.nil) λr _ q e=>by rw[L2.noLs,d9] at e;exact .cons (r.noL e.1) (q e.2)
def ptD:Pt->D | .d d=>d | .o ds=>.lst ds
def sw(r:Nat):DE0->Option k9
 | []=>none
 | some (.ag .ls (some r') ps)::e=>if r'=r then some ps else sw r e
 | _::e=>sw r e
def uc:k9->Nat->Option k7
 | .o ds::_,0=>some ds
 | .o _::r,j+1=>uc r j
 | .d _::r,j=>uc r j
 | [],_=>none
def zx7(b:Bool)(ps:k9):k9:=if b=true then ps.map λp=>.d (ptD p) else ps
def frz1(b:Bool)(env:DE0):la->la
 | some (.sh d)=>some (.sh d)
 | some (.ow ds)=>some (.sh (.lst ds))
 | some (.o2 dss)=>some (.sh (.lst (dss.map D.lst)))
 | some (.ag .ls _ ps)=>some (.sh (.lst (ps.map ptD)))
 | some (.ag k _ ps)=>some (.ro k (zx7 b ps))
 | some (.ro .ls ps)=>some (.sh (.lst (ps.map ptD)))
 | some (.ro k ps)=>some (.ro k (zx7 b ps))
 | some (.al r j)=>(sw r env).bind λps=>(uc ps j).map λds=>.sh (.lst ds)
 | none=>none
def frz(b:Bool)(env:DE0):DE0:=env.map (frz1 b env)
def AllG(r:Nat->ia):Gd:=⟨λ_=>True,r⟩
def zkk{r:Nat}{ps:k9}:∀ {env:DE0},sw r env=some ps->∃i:Nat,env[i]?=some (some (Sl.ag AK.ls (some r) ps))
 | x::e,h=>by
   unfold sw at h;split at h
   ·rename_i D;cases D
   ·rename_i J ps' e' q
    cases q;split at h
    ·rename_i I;cases h;subst I;exact⟨0,rfl⟩
    ·obtain⟨i,z⟩:=zkk h;exact⟨i+1,by simpa using z⟩
   ·rename_i q
    cases q;obtain⟨i,z⟩:=zkk h;exact⟨i+1,by simpa using z⟩
variable{a:Addr}{ps:k9}
def zx8(h:PtsOk K G W H ps as us)(e:uc ps j=some ds)(ea:as[j]?=some a):∃vs,H a=some (.lst vs)/\Reps K H (Ow G W) ds vs:=by
 induction h generalizing j with
 | nil=>cases e
 | d _ _ ih=>exact ih e ea
 | o hW hl r _ ih =>
   cases j with
   | zero=>cases e;simp at ea;subst ea;exact⟨_,hl,r⟩
   | succ j=>exact ih (j:=j) e (by simpa using ea)
def PtsRo.all(h:PtsRo K G W H ps us)(D:∀a,O a):Reps K H O (ps.map ptD) us:=by
 induction h with
 | nil=>exact .nil
 | d r _ ih=>exact .cons ((l4 λa _=>D a).1 _ _ r) ih
 | o _ hl r _ ih=>exact .cons (.lst (D _) (.inl hl) ((l4 λa _=>D a).2 _ _ r)) ih
def PtsRo.roG(h:PtsRo K G W H ps us)(D:∀a,Ow G W a->Ow G' NoW a):PtsRo K G' NoW H ps us :=
 h.step (λa vs _ z=>⟨λz=>z,z⟩) (λd v q=>(l4 D).1 d v q) λd v q=>(l4 D).2 d v q
def PtsOk.toRo(h:PtsOk K G W H ps as us)(D:∀a,Ow G W a->Ow G' NoW a):PtsRo K G' NoW H ps us :=
 PtsRo.roG (W:=NoW) (G:=gd (Ow G W)) h.ro λa z=>D a z.1
def PtsRo.dat(h:PtsRo K G W H ps us)(D:∀a,Ow G W a):PtsRo K G W H (ps.map λp=>.d (ptD p)) us:=by
 induction h with
 | nil=>exact .nil
 | d r _ ih=>exact .d r ih
 | o _ hl r _ ih=>exact .d (.lst (D _) (.inl hl) r) ih
def PtsRo.roB(b:Bool)(h:PtsRo K G W H ps us)(D:∀a,Ow G W a):PtsRo K G W H (zx7 b ps) us:=by
 unfold zx7;split
 ·exact h.dat D
 ·exact h
def Ok.freeze(b:Bool)(ok:Ok K G H0 W env σ H):Ok K (AllG G.r) H NoW (frz b env) σ H:=by
 have S:∀a,Ow G W a->Ow (AllG G.r) NoW a:=λa _=>⟨trivial,λz=>z⟩;have all:∀a,Ow (AllG G.r) NoW a:=λa=>⟨trivial,λz=>z⟩;have U:∀(i:Nat) (s:Sl),(frz b env)[i]?=some (some s)->∃I,env[i]?=some (some I)/\frz1 b env (some I)=some s:=λi s e=>by
  unfold frz at e;rw[cb] at e;cases q:env[i]? with
  | none=>rw[q] at e;cases e
  | some o =>
    rw[q] at e;cases o with
    | none=>cases e
    | some I=>exact⟨I,rfl,by simpa using e⟩
 refine⟨Same.refl _,λa _=>trivial,λl z=>z.elim,λi s e=>?_,λi j s s' v u a D _ C _ o _=>?_,by unfold frz;rw[ah];exact ok.len⟩
 ·obtain⟨I,t,D⟩:=U i s e
  obtain⟨v,w,h⟩:=ok.slot i I t;refine⟨v,w,?_⟩;cases I with
  | sh d=>cases D;exact(l4 S).1 _ _ h
  | ow ds=>cases D;obtain⟨l,vs,rfl,Z,J,r⟩:=h;exact .lst (all l) (.inl J) ((l4 S).2 _ _ r)
  | o2 dss =>
    cases D;obtain⟨l,ls,rfl,Z,J,x,hi⟩:=h;exact .lst (all l) (.inl J) (zm9 (W':=NoW) (G:=AllG G.r) (W:=W) ⟨hi.1,λj ds a Y f=>let ⟨g,vs,m,A⟩:=hi.2 j ds a Y f;⟨g,vs,m,(l4 λb z=>⟨trivial,z.2⟩).2 _ _ A⟩⟩ (λa _ _=>all a) λds vs r=>(l4 λb _=>all b).2 _ _ r)
  | ag k l ps =>
    obtain⟨p,as,us,rfl,Z,x,J,V,R⟩:=h;cases k with
    | ls=>cases D;exact .lst (all p) (.inl V) ((R.toRo S).all all)
    | ins _ c fs=>cases D;exact⟨p,us,rfl,λz=>z,V,(R.toRo S).roB b all⟩
  | ro k ps =>
    obtain⟨p,us,rfl,Z,V,R⟩:=h;cases k with
    | ls=>cases D;exact .lst (all p) (.inl V) (R.all all)
    | ins _ c fs=>cases D;exact⟨p,us,rfl,λz=>z,V,(R.roG S).roB b all⟩
  | al r j =>
    have D:((sw r env).bind λps=>(uc ps j).map λds=>Sl.sh (.lst ds))=some s:=D;cases q1:sw r env with
    | none=>rw[q1] at D;cases D
    | some ps =>
      rw[q1,ac] at D;cases q2:uc ps j with
      | none=>rw[q2] at D;cases D
      | some ds =>
        rw[q2] at D;cases D;obtain⟨p,as,a,Y,f,rfl⟩:=h;obtain⟨B,y⟩:=zkk q1;obtain⟨u,E,p',n,us,rfl,_,_,J,_,R⟩:=ok.slot B _ y;have J:G.r r=p'::n:=J r rfl;rw[J] at Y;cases Y;obtain⟨vs,g,m⟩:=zx8 R q2 f;exact .lst (all a) (.inl g) ((l4 S).2 _ _ m)
 ·obtain⟨I,t,D⟩:=U i s D
  cases I with
  | sh d=>cases D;exact o.elim
  | ow d=>cases D;exact o.elim
  | o2 d=>cases D;exact o.elim
  | ag k l ps=>cases k <;> (cases D;exact o.elim)
  | ro k ps=>cases k <;> (cases D;exact o.elim)
  | al r j =>
    have D:((sw r env).bind λps=>(uc ps j).map λds=>Sl.sh (.lst ds))=some s:=D;cases q1:sw r env with
    | none=>rw[q1] at D;cases D
    | some ps =>
      rw[q1,ac] at D;cases q2:uc ps j with
      | none=>rw[q2] at D;cases D
      | some ds=>rw[q2] at D;cases D;exact o.elim
def Step.noW(s:Step NoW H W' H'):Same H H':=λb o e=>s.keep b o e λz=>z
def fFrz(b:Bool)(f:FE):FE:=λe=>(f (frz b e)).bind λr=>if noL r.1=true then some (r.1,e) else none
def sv(b:Bool)(f:FA):FA:=λe=>(f (frz b e)).bind λr=>if noLs r.1=true then some (r.1,e) else none
def xFrz(b:Bool)(x:XF):XF:=λe=>(x (frz b e)).map λr=>(r.1,e)
variable{b:Bool}
def ur(h:∀G H0,DEx X G H0 e f):DEx X G H0 e (fFrz b f):=⟨λpins s σ H Q I D=>by
 obtain⟨W,env,d,env',ok,q,k⟩:=D;unfold fFrz at q;cases e1:f (frz b env) with
 | none=>rw[e1] at q;cases q
 | some r =>
   rw[e1,ac] at q;split at q;case isFalse=>cases q
   rename_i J;cases q;refine(h (AllG G.r) H).out pins s σ H Q I ⟨NoW,frz b env,r.1,r.2,ok.freeze b,e1,λW' v H' st R S=>?_⟩;exact k W v H' (Step.same st.noW) (ok.same st.noW) (S.noL J)⟩
def zvb(h:∀G H0,DFx X G H0 e F):DFx X G H0 e (sv b F):=⟨λpins s σ H Q I R=>by
 obtain⟨W,env,d,env',ok,q,k⟩:=R;unfold sv at q;cases e1:F (frz b env) with
 | none=>rw[e1] at q;cases q
 | some r =>
   rw[e1,ac] at q;split at q;case isFalse=>cases q
   rename_i S;cases q;refine(h (AllG G.r) H).out pins s σ H Q I ⟨NoW,frz b env,r.1,r.2,ok.freeze b,e1,λW' l vs H' st U V f J Y=>?_⟩;have D:H l=none:=(st.ws l (.inr rfl)).elim (λz=>z.elim) id;obtain⟨Z,g,a,c⟩:=ok.fresh0 (H':=H') st.noW D J;exact k W l vs H' c (ok.same st.noW) a Z J (Y.noLs S)⟩
def zr3(h:∀G H0,JX X G H0 e y):JX X G H0 e (xFrz b y):=⟨λpins s σ H Q I D=>by
 obtain⟨W,env,c,env',ok,q,k⟩:=D;unfold xFrz at q;cases e1:y (frz b env) with
 | none=>rw[e1] at q;cases q
 | some r =>
   rw[e1] at q;cases q;exact(h (AllG G.r) H).out pins s σ H Q I ⟨NoW,frz b env,r.1,r.2,ok.freeze b,e1,λW' H' C J st R=>k W H' C J (Step.same st.noW) (ok.same st.noW)⟩⟩
def Ok.newW(ok:Ok K G H0 W env σ H)(sm:Same H H')(I:∀a,W' a->H a=none)(J:∀a,W' a->∃m:Mo,H' a=some m.out):Ok K G H0 (λa=>W a\/W' a) env σ H'/\Step W H (λa=>W a\/W' a) H':=by
 have st:Step W H (λa=>W a\/W' a) H':=⟨λb o e _=>sm b o e,λa z=>z.imp id (I a)⟩;have D:=ok.same sm;refine⟨⟨D.stay,ok.good,λa z=>?_,λi s e=>?_,D.uniq,ok.len⟩,st⟩
 ·rcases z with z | z
  ·exact D.wl a z
  ·exact⟨ok.stay.free (I a z),J a z⟩
 ·obtain⟨v,R,q⟩:=ok.slot i s e
  exact⟨v,R,ok.slstep st q λa m o S=>⟨.inl (q.owns o),sm _ _ S⟩⟩
def frs1:la->la
 | some (.sh d)=>some (.sh d)
 | some (.ag k _ ps)=>some (.ro k ps)
 | some (.ro k ps)=>some (.ro k ps)
 | _=>none
def frsE(env:DE0):DE0:=env.map frs1
def OwG(G:Gd)(W:Addr->Prop)(H:Hp):Gd:=⟨λa=>Ow G W a\/H a=none,G.r⟩
def Ok.freezeS(ok:Ok K G H0 W env σ H):Ok K (OwG G W H) H NoW (frsE env) σ H:=by
 have R:∀a,Ow G W a->Ow (OwG G W H) NoW a:=λa z=>⟨.inl z,λz=>z⟩;have J:∀(i:Nat) (s:Sl),(frsE env)[i]?=some (some s)->∃I,env[i]?=some (some I)/\frs1 (some I)=some s:=λi s e=>by
  unfold frsE at e;rw[cb] at e;cases q:env[i]? with
  | none=>rw[q] at e;cases e
  | some o =>
    rw[q] at e;cases o with
    | none=>cases e
    | some I=>exact⟨I,rfl,by simpa using e⟩
 refine⟨Same.refl _,λa z=>.inr z,λl z=>z.elim,λi s e=>?_,λi j s s' v b a D _ c _ o _=>?_,by unfold frsE;rw[ah];exact ok.len⟩
 ·obtain⟨I,V,D⟩:=J i s e
  obtain⟨v,Y,h⟩:=ok.slot i I V;refine⟨v,Y,?_⟩;cases I with
  | sh d=>cases D;exact(l4 R).1 _ _ h
  | ow ds=>cases D
  | o2 dss=>cases D
  | ag k l ps=>cases D;obtain⟨p,as,us,rfl,Z,f,g,S,U⟩:=h;exact⟨p,us,rfl,λz=>z,S,U.toRo R⟩
  | ro k ps=>cases D;obtain⟨p,us,rfl,Z,S,U⟩:=h;exact⟨p,us,rfl,λz=>z,S,U.roG R⟩
  | al r j=>cases D
 ·obtain⟨I,V,D⟩:=J i s D
  cases I <;> cases D <;> exact o.elim
def PtsOk.length(h:PtsOk K G W H ps as us):ps.length=us.length:=by
 induction h with
 | nil=>rfl
 | d _ _ ih=>rw[ak,ak,ih]
 | o _ _ _ _ ih=>rw[ak,ak,ih]
abbrev FP:=DE0->Option k9
def tPs(X:Cx)(G:Gd)(H0:Hp)(f:FP):TA:=λσ H Q=>∃W env ps,Ok X.K G H0 W env σ H/\f env=some ps /\
 ∀as us H',Same H H'->as.Nodup->(∀a∈as,H a=none)->PtsOk X.K (OwG G W H) (λa=>a∈as) H' ps as us->Q us H'
structure JPs (X:Cx) (G:Gd) (H0:Hp) (es:i3) (f:FP):Prop where
 out:PA X es (tPs X G H0 f)
def pNil:FP:=λ_=>some []
def pCd(f:FE)(g:FP):FP:=λe=>(f (frsE e)).bind λr=>(g e).map λt=>.d r.1::t
def pCo(F:FA)(g:FP):FP:=λe=>(F (frsE e)).bind λr=>(g e).map λt=>.o r.1::t
def Rd.some{u:HO}(h:Rd H a u):H a≠none:=λz=>by rcases h with h | ⟨_,h⟩ <;> rw[z] at h <;> cases h
def z1m  : JPs X G H0 [] pNil:=⟨pk.imp λσ H Q D=>by
 obtain⟨W,env,ps,ok,q,k⟩:=D;cases q;exact k [] [] H (Same.refl _) .nil (λa z=>by cases z) .nil⟩
def z47(h:∀G H0,DEx X G H0 e f)(J:JPs X G H0 es g)(R:starEach (e::es) X.env=(false,eval e X.env)::starEach es X.env:=by rfl):JPs X G H0 (e::es) (pCd f g):=⟨λpos pins s σ H Q I S=>by
 obtain⟨W,env,ps,ok,q,k⟩:=S;unfold pCd at q;cases e1:f (frsE env) with
 | none=>rw[e1] at q;cases q
 | some r =>
   rw[e1,ac] at q;cases e2:g env with
   | none=>rw[e2] at q;cases q
   | some t =>
     rw[e2] at q;cases q;refine(mw (h (OwG G W H) H).out J.out R) pos pins s σ H Q I ⟨NoW,frsE env,r.1,r.2,ok.freezeS,e1,λW1 v H1 st U V=>?_⟩;refine⟨W,env,t,ok.same st.noW,e2,λas us H2 sm Y D Z=>?_⟩;refine k as (v::us) H2 (st.noW.trans sm) Y (λa z=>st.noW.free (D a z)) (.d (V.mono (λa u z=>sm _ _ z) λa vs o z=>⟨⟨o.1,λy=>z.some (D a y)⟩,z.keep λo y=>sm _ _ y⟩) (Z.step (λa vs b z=>⟨b,z⟩) (λd v q=>(l4 ?_).1 d v q) λd v q=>(l4 ?_).2 d v q)) <;>
     exact λa z=>⟨z.1.imp id λy=>st.noW.free y,z.2⟩⟩
def z48(h:∀G H0,DFx X G H0 e F)(Y:JPs X G H0 es g)(Z:starEach (e::es) X.env=(false,eval e X.env)::starEach es X.env:=by rfl):JPs X G H0 (e::es) (pCo F g):=⟨λpos pins s σ H Q I b=>by
 obtain⟨W,env,ps,ok,q,k⟩:=b;unfold pCo at q;cases e1:F (frsE env) with
 | none=>rw[e1] at q;cases q
 | some r =>
   rw[e1,ac] at q;cases e2:g env with
   | none=>rw[e2] at q;cases q
   | some t =>
     rw[e2] at q;cases q;refine(mw (h (OwG G W H) H).out Y.out Z) pos pins s σ H Q I ⟨NoW,frsE env,r.1,r.2,ok.freezeS,e1,λW1 l vs H1 st c f A D i=>?_⟩;have U:H l=none:=(st.ws l (.inr rfl)).elim (λz=>z.elim) id;obtain⟨J,_⟩:=ok.newW (W':=λa=>a=l) st.noW (λa z=>by rw[z];exact U) λa z=>⟨.l vs,by rw[z];exact D⟩;refine⟨_,env,t,J,e2,λas us H2 sm j R m=>?_⟩;have S:l∉as:=λz=>by rw[R l z] at D;cases D
     have h1:∀a∈l::as,H a=none:=λa z=>by
      rcases ce.mp z with rfl | z
      ·exact U
      ·exact st.noW.free (R a z)
     have n:Reps X.K H2 (Ow (OwG G W H) λa=>a∈l::as) r.1 vs:=i.mono (λa u z=>sm _ _ z) λa vs o z=>by
      refine⟨⟨o.1,λy=>?_⟩,z.keep λo y=>sm _ _ y⟩;rcases ce.mp y with y | y
      ·exact o.2 (.inr y)
      ·exact z.some (R a y)
     have V:∀a,Ow (OwG G (λa=>W a\/a=l) H1) (λa=>a∈as) a->Ow (OwG G W H) (λa=>a∈l::as) a:=λa o=>by
      have p:a≠l:=λz=>by
       rcases o.1 with y | y
       ·exact y.2 (.inr z)
       ·rw[z,D] at y;cases y
      refine⟨o.1.imp (λy=>⟨y.1,λw=>y.2 (.inl w)⟩) λy=>st.noW.free y,λy=>?_⟩;rcases ce.mp y with y | y
      ·exact p y
      ·exact o.2 y
     exact k (l::as) (.ref l::us) H2 (st.noW.trans sm) (bz.mpr ⟨S,j⟩) h1 (.o bc (sm _ _ D) n (m.step (λa vs x z=>⟨am _ x,z⟩) (λd v q=>(l4 V).1 d v q) λd v q=>(l4 V).2 d v q))⟩
def fAgL(g:FP):FG:=λe=>(g e).bind λps=>if ps.length<=64 then some ((.ls,ps),e) else none
theorem z1n(h:JPs X G H0 es g):JAg X G H0 (.List es pos) (fAgL g):=⟨(zy8 h.out).imp λσ H Q R=>by
 obtain⟨W,env,x,env',ok,q,k⟩:=R;unfold fAgL at q;cases e1:g env with
 | none=>rw[e1] at q;cases q
 | some ps =>
   rw[e1,ac] at q;split at q;case isFalse=>cases q
   cases q;refine⟨W,env,ps,ok,e1,λas us H1 sm S U J=>⟨?_,λp I=>?_⟩⟩
   ·rw[<-J.length,sizeLine_eq];lia
   ·have D:Same H1 (upd H1 p (.lst us)):=yc I
    have V:p∉as:=λz=>by obtain⟨_,vs,y⟩:=J.own z;rw[I] at y;cases y
    have sl:SlOk X.K (OwG G W H) (λa=>a=p\/a∈as) (upd H1 p (.lst us)) (.ag .ls none ps) (.ref p):=by
     refine⟨p,as,us,rfl,.inl rfl,bz.mpr ⟨V,S⟩,(λn z=>nomatch z),km,J.step (λa vs Y z=>⟨.inr Y,D _ _ z⟩) (λd v q=>q.mono (λa u z=>D _ _ z) ?_) λd v q=>q.mono (λa u z=>D _ _ z) ?_⟩ <;>
     exact λa vs o z=>⟨⟨o.1,λy=>y.elim (λy=>z.some (y ▸ I)) o.2⟩,z.keep λo y=>D _ _ y⟩
    have Z:∀a,a=p\/a∈as->H a=none:=λa z=>by
     rcases z with rfl | z
     ·exact sm.free I
     ·exact U a z
    have b:∀a,a=p\/a∈as->∃m:Mo,upd H1 p (.lst us) a=some m.out:=λa z=>by
     rcases z with rfl | z
     ·exact⟨.l us,km⟩
     ·obtain⟨_,vs,y⟩:=J.own z
      exact⟨.l vs,D _ _ y⟩
    obtain⟨c,e,f,i⟩:=ok.newA (k':=.ls) (sm.trans D) Z b (λa z=>z) (λus z=>z) sl;exact k _ p _ e c f i⟩
def oy(κ:AK)(i j:Nat):FE:=λe=>if isK κ e i then(agAt e i).bind λx=>(match x.2[j]? with | some (.d d)=>some (d,e) | _=>none) else none
def tu(c:Atr X.K cn m)(an:Ats Nn Cn X)(J:Nn[i]?=some x:=by rfl)(U:fs[j]?=some m:=by rfl)(V:fs.Nodup:=by decide +kernel)(e:attributeBase (.Name x p') m X.env (eval (.Name x p') X.env)=eval (.Name x p') X.env:=by rfl):DEx X G H0 (.Attribute (.Name x p') m pos) (oy (.ins false cn fs) i j):=let ⟨C,c,Y,Z⟩:=c;⟨(zy7 ((an.a J).pe) e).imp λσ H Q f=>by
  obtain⟨W,env,d,env',ok,q,k⟩:=f;unfold oy at q;split at q;case isFalse=>cases q
  rename_i g;cases D:agAt env i with
  | none=>rw[D] at q;cases q
  | some y =>
    rw[D,ac] at q;split at q;case h_2=>cases q
    rename_i d' b;cases q;rcases g with⟨l,ps',z⟩ | ⟨ps',z⟩
    ·have D:some (AK.ins false cn fs,ps')=some y:=by unfold agAt at D;rw[z] at D;exact D
     cases D;obtain⟨v,D,p,as,us,rfl,_,_,_,⟨h,dx,R,I,n⟩,S⟩:=ok.slot i _ z;rw[Cl.inj R Z] at I;obtain⟨u,h1,h2⟩:=S.getD b;exact⟨_,D,p,C,dx,_,u,rfl,I,c,Y,znr V U h1,k W u H Step.refl ok h2⟩
    ·have D:some (AK.ins false cn fs,ps')=some y:=by unfold agAt at D;rw[z] at D;exact D
     cases D;obtain⟨v,D,p,us,rfl,_,⟨h,dx,R,I,n⟩,S⟩:=ok.slot i _ z;rw[Cl.inj R Z] at I;obtain⟨u,h1,h2⟩:=S.getD b;exact⟨_,D,p,C,dx,_,u,rfl,I,c,Y,znr V U h1,k W u H Step.refl ok h2⟩⟩
variable{l:Addr}
def Ok.chgN(ok:Ok K G H0 W env σ H){s s':Sl}(J:Mo)(e:env[i]?=some (some s))(R:σ[i]?=some (some v))(x:Owns H s v a)(A:SlOk K G W (upd H a J.out) s' v)(y:∀(j:Nat) (s:Sl) (v:V),env[j]?=some (some s)->σ[j]?=some (some v)->¬Owns H s v l)(m:∀b,Owns (upd H a J.out) s' v b->Owns H s v b\/b=l):Ok K G H0 W (env.set i (some s')) σ (upd H a J.out)/\Step W H W (upd H a J.out):=by
 have c:W a:=by obtain⟨B,f,h⟩:=ok.slot i s e;rw[R] at f;cases f;exact h.owns x
 have st:Step W H W (upd H a J.out):=⟨λb o q n=>by rw[gv (λz:b=a=>n (by rw[z];exact c))];exact q,λb z=>.inl z⟩;have t:∀ {j:Nat} {sl:Sl} {u:V} {b:Addr},i≠j->env[j]?=some (some sl)->σ[j]?=some (some u)->Owns H sl u b->b≠a:=λ{j sl u b} hj q S o z=>by
  subst z;exact hj (ok.uniq i j s sl v u b e q R S x o)
 have bk:∀ {j:Nat} {sl:Sl} {u:V} {b:Addr},i≠j->env[j]?=some (some sl)->σ[j]?=some (some u)->Owns (upd H a J.out) sl u b->Owns H sl u b:=λ{j sl u b} hj q S o=>by
  obtain⟨C,Y,h⟩:=ok.slot j sl q;rw[S] at Y;cases Y;cases sl with
  | sh d=>exact o.elim
  | ow ds=>exact o
  | o2 dss=>exact h.back (λl D _ vs I=>by rw[gv (t hj q S (.inl D))];exact I) o
  | ag k p ps=>exact h.back (λl D _ vs I=>by rw[gv (t hj q S (.inl D))];exact I) o
  | al _ _=>exact o.elim
  | ro _ _=>exact o.elim
 refine⟨⟨λb o q=>?_,ok.good,λb z=>?_,λj sl q=>?_,λj k w s2 v1 v2 b S Y D I Z o2=>?_,by rw[dw,ok.len]⟩,st⟩
 ·rw[gv (λz=>by rw[z,(ok.wl a c).1] at q;cases q)];exact ok.stay b o q
 ·obtain⟨q,us,m⟩:=ok.wl b z
  by_cases h:b=a
  ·exact⟨q,J,by rw[h,km]⟩
  ·exact⟨q,us,by rw[gv h];exact m⟩
 ·rcases ni q with⟨rfl,r,_⟩ | ⟨hj,r⟩
  ·cases r
   exact⟨v,R,A⟩
  ·obtain⟨u,f,h⟩:=ok.slot j sl r
   exact⟨u,f,ok.slstep st h λb vs o Y=>⟨h.owns o,by rw[gv (t hj r f o)];exact Y⟩⟩
 ·rcases ni S with⟨a1,b1,_⟩ | ⟨a1,b1⟩ <;> rcases ni Y with⟨g,U,_⟩ | ⟨g,U⟩
  ·rw[<-a1,<-g]
  ·subst a1;cases b1
   rw[R] at D;cases D;have o2:=bk g U I o2;rcases m b Z with z | z
   ·exact ok.uniq i k s s2 v v2 b e U R I z o2
   ·subst z;exact absurd o2 (y k s2 v2 U I)
  ·subst g;cases U
   rw[R] at I;cases I;have Z:=bk a1 b1 D Z;rcases m b o2 with z | z
   ·exact ok.uniq j i w s v1 v b b1 e D R Z z
   ·subst z;exact absurd Z (y j w v1 b1 D)
  ·exact ok.uniq j k w s2 v1 v2 b b1 U D I (bk a1 b1 D Z) (bk g U I o2)
def PtsOk.snoc(h:PtsOk K G W H ps as us)(D:W l)(I:H l=some (.lst vs))(r:Reps K H (Ow G W) ds vs):PtsOk K G W H (ps++[.o ds]) (as++[l]) (us++[.ref l]):=by
 induction h with
 | nil=>exact .o D I r .nil
 | d q _ ih=>exact .d q ih
 | o a b c _ ih=>exact .o a b c ih
def zr4{f:Str}{v:V}:∀ {fs:g7} {us:k6},f∉fs->fs.length=us.length->putF f v (fs.zip us)=(fs++[f]).zip (us++[v])
 | [],[],_,_=>rfl
 | g::fs,u::us,hf,hl=>by
   have:g≠f:=λz=>hf (by simp[z]);rw[j4,ft,ft,j4];show(if g=f then(g,v)::fs.zip us else(g,u)::putF f v (fs.zip us))=_;rw[if_neg this,zr4 (λz=>hf (by simp[z])) (by simpa using hl)]
def y8(i:Nat)(cn f:Str)(F:FA):FS:=λe=>(F e).bind λr=>match r.2[i]? with
 | some (some (.ag (.ins true c fs) l ps))=>if c=cn/\f∉fs/\fs.length<900 then some (.nx,r.2.set i (some (.ag (.ins true c (fs++[f])) l (ps++[.o r.1])))) else none
 | _=>none
variable{value:Expr}
theorem zr5(ca:Atr X.K cn m)(an:Ats Nn Cn X)(he:DFx X G H0 value F)(d:Nn[i]?=some x:=by rfl)(hs:swapsWith value (some (.Attribute (.Name x p') m p1)) pos.line X.env=pure false:=by rfl) :
  DSx X G H0 (.Assign [.Attribute (.Name x p') m p1] value pos) (y8 i cn m F):=let ⟨C,c,hn,e⟩:=ca;⟨(z3n ((an.a d).pe) he.out hs).imp λDn σ H zq=>by
 obtain⟨W,env,fl,env',ok,q,k⟩:=zq;unfold y8 at q;cases e1:F env with
 | none=>rw[e1] at q;cases q
 | some r =>
   rw[e1,ac] at q;split at q;case h_2=>cases q
   rename_i E fs l ps f;split at q;case isFalse=>cases q
   rename_i g;obtain⟨rfl,hf,L⟩:=g;cases q;refine⟨W,env,r.1,r.2,ok,e1,λW1 ad vs H1 s1 R D M N rp=>?_⟩;obtain⟨v,t,p,as,us,rfl,O,U,hr,⟨C',dx,z1,I,Y⟩,J⟩:=D.slot i _ f;rw[Cl.inj z1 e] at I;have P:p≠ad:=λz=>by rw[z,N] at I;cases I
   have na:ad∉as:=λz=>by
    obtain⟨v',Z,h⟩:=R.slot i _ f;rw[t] at Z;cases Z;exact M (h.owns (.inr ⟨p,us,rfl,⟨Y,C,dx,I⟩,J.parts_iff.mpr z⟩))
   refine⟨_,t,p,C,dx,fs.zip us,rfl,I,c,hn,?_,?_⟩
   ·rw[List.length_zip];lia
   ·have st:Step (addW W1 ad) H1 (addW W1 ad) (upd H1 p (.ins C dx ((fs++[m]).zip (us++[.ref ad])))):=⟨λb o q n=>by rw[gv (λz:b=p=>n (by rw[z];exact O))];exact q,λb z=>.inl z⟩
    have u:upd H1 p (.ins C dx ((fs++[m]).zip (us++[.ref ad]))) ad=some (.lst vs):=by rw[gv (Ne.symm P)];exact N
    have A:PtsOk X.K G (addW W1 ad) (upd H1 p (.ins C dx ((fs++[m]).zip (us++[.ref ad])))) ps as us:=J.step (λb ws Q z=>⟨(J.own Q).1,by rw[gv (λy:b=p=>by subst y;exact(bz.mp U).1 Q)];exact z⟩) (λ_ _ r=>D.rep st r) λ_ _ r=>D.reps st r;have S:(fs++[m]).length=(us++[V.ref ad]).length:=by rw[ao,ao,Y];rfl
    obtain⟨w1,w2⟩:=D.chgN (l:=ad) (s':=.ag (.ins true E (fs++[m])) l (ps++[.o r.1])) (.i C dx ((fs++[m]).zip (us++[.ref ad]))) f t (.inl rfl)
     ⟨p,as++[ad],us++[.ref ad],rfl,O,by
      rw[bz] at U ⊢;refine⟨λz=>?_,List.nodup_append.mpr ⟨U.2,by simp,λy hy z g=>?_⟩⟩
      ·rcases cz.mp z with z | z
       ·exact U.1 z
       ·exact P (cy.mp z)
      ·rw[cy.mp g];exact λw=>na (w ▸ hy),hr,⟨C,dx,e,km,S⟩,A.snoc (.inr rfl) u (D.reps st rp)⟩
     (λj s v Z e4=>R.noOwn M j s v Z e4) λb B=>by
       rcases B with B | ⟨p',us',z,y,j,ds,h1,h2⟩
       ·exact .inl (.inl B)
       ·cases z
        have ey:us'=us++[.ref ad]:=vk (K:=X.K) (k:=.ins true E (fs++[m])) (us:=us++[.ref ad]) ⟨C,dx,e,km,S⟩ y;rw[ey] at h2;by_cases T:j<ps.length
        ·rw[az T] at h1
         rw[az (by rw[<-J.length];exact T)] at h2;exact .inl (.inr ⟨p,us,rfl,⟨Y,C,dx,I⟩,j,ds,h1,h2⟩)
        ·rw[dn (by rw[<-J.length];lia),<-J.length] at h2
         cases hjj:j-ps.length with
         | zero=>rw[hjj] at h2;simp at h2;exact .inr h2.symm
         | succ n=>rw[hjj] at h2;simp at h2
    rw[zr4 hf Y];exact k _ σ _ (s1.trans w2) w1⟩
end L2
namespace L2
open PySem
abbrev jd:g7:=["kept", "states"]
end L2
namespace L2
open PySem PySem.Spec PyProof.Rows
def ub(i:Nat)(g:FE)(F:FA):FS:=λe=>(F e).bind λr=>match r.2[i]? with
 | some (some (.o2 dss))=>(g (frsE r.2)).bind λq=>(match q.1 with | .int k=>(ixN dss.length k).map λj=>(.nx,r.2.set i (some (.o2 (dss.set j r.1)))) | _=>none)
 | _=>none
def zr6(i:Nat)(g h f:FE):FS:=λe=>(f e).bind λr=>match r.2[i]? with
 | some (some (.o2 dss))=>(g (frsE r.2)).bind λq=>(h (frsE r.2)).bind λp=>(match q.1,p.1 with
   | .int k,.int m=>(ixN dss.length k).bind λj=>(dss[j]?).bind λds=>(ixN ds.length m).map λn=>(.nx,r.2.set i (some (.o2 (dss.set j (ds.set n r.1)))))
   | _,_=>none)
 | _=>none
variable{G:Gd}{H0 H:Hp}{i:Nat}{K:kf}{W:Addr->Prop}{env:DE0}{σ:St}
theorem Ok.swap2(R:Ok K G H0 W env σ H){l:Addr}{us:k6}{ds:k7}{dss:List k7}{j:Nat}{v:V}(ok:Ok K G H0 (addW W l) env σ H)(p:¬W l)(hl:H l=some (.lst us))(r:Reps K H (Ow G (addW W l)) ds us)(t:env[i]?=some (some (.o2 dss)))(x:σ[i]?=some (some v))(hj:j<dss.length) :
  ∃(L:Addr) (ls:ia),v=.ref L/\H L=some (.lst (ls.map V.ref))/\ls.length=dss.length/\Ok K G H0 (addW W l) (env.set i (some (.o2 (dss.set j ds)))) σ (upd H L (.lst ((ls.set j l).map V.ref)))/\Step (addW W l) H (addW W l) (upd H L (.lst ((ls.set j l).map V.ref))):=by
 obtain⟨v1,Q,L,ls,rfl,T,A,B,hi⟩:=R.slot i _ t;rw[x] at Q;cases Q;have S:addW W l L:=.inl T;have st:Step (addW W l) H (addW W l) (upd H L (.lst ((ls.set j l).map V.ref))):=⟨λb o q n=>by rw[gv (λz:b=L=>n (by rw[z];exact S))];exact q,λb z=>.inl z⟩;have nl:∀(k:Nat) (s:Sl) (u:V),env[k]?=some (some s)->σ[k]?=some (some u)->¬Owns H s u l:=λk s u C g o=>by
  obtain⟨u',X,h⟩:=R.slot k s C;rw[g] at X;cases X;exact p (h.owns o)
 have U:l≠L:=λz=>p (z ▸ T);have I:=hi.1;have J:∀(k:Nat) (c:Addr),(ls.set j l)[k]?=some c->(j=k/\c=l)\/(j≠k/\ls[k]?=some c):=λk c q=>by
  rcases ni q with⟨e,q,_⟩ | q
  ·exact .inl ⟨e,q⟩
  ·exact .inr q
 have E:(L::ls.set j l).Nodup:=by
  refine bz.mpr ⟨λz=>?_,?_⟩
  ·obtain⟨k,Y⟩:=List.mem_iff_getElem?.mp z
   rcases J k L Y with⟨_,e⟩ | ⟨_,e⟩
   ·exact U e.symm
   ·exact(bz.mp B).1 (bg e)
  ·refine List.pairwise_iff_getElem.mpr λk1 k2 F Z aa z=>?_
   obtain⟨c2,hc2⟩:∃c,(ls.set j l)[k2]?=some c:=⟨_,aq Z⟩;have M:(ls.set j l)[k1]?=some c2:=by rw[<-hc2,aq F,aq Z,z]
   have a:∀k c,ls[k]?=some c->c≠l:=λk c q w=>p (w ▸ (hi.2 k (dss[k]'(by rw[<-I];exact(ai.mp q).1)) c (aq _) q).1);rcases J k1 c2 M with⟨a1,b1⟩ | ⟨a1,b1⟩ <;> rcases J k2 c2 hc2 with⟨a2,m⟩ | ⟨a2,m⟩
   ·lia
   ·exact a _ _ m b1
   ·exact a _ _ b1 m
   ·have:=zm8 (bz.mp B).2 b1 m;lia
 refine⟨L,ls,rfl,A,I,?_⟩;refine ok.chgN (.l _) t x (.inl rfl) ⟨L,ls.set j l,rfl,S,km,E,by simp[I],λk es c C g=>?_⟩ nl λb o=>?_
 ·rcases ni C with⟨rfl,z,_⟩ | ⟨Y,q'⟩
  ·cases z
   rcases J j c g with⟨_,rfl⟩ | ⟨y,_⟩
   ·exact⟨.inr rfl,us,by rw[gv U];exact hl,ok.reps st r⟩
   ·exact absurd rfl y
  ·rcases J k c g with⟨y,_⟩ | ⟨_,y⟩
   ·exact absurd y Y
   ·obtain⟨N,vs,hc,rc⟩:=hi.2 k es c q' y
    have ne:c≠L:=λz=>(bz.mp B).1 (z ▸ bg y);refine⟨.inl N,vs,by rw[gv ne];exact hc,?_⟩;obtain⟨v2,e2,L2,ab,e3,_,d,_,O⟩:=ok.slot i _ t;rw[x] at e2;cases e2;cases e3;rw[A] at d;have:=wb (by simpa using d);subst this;obtain⟨_,vs',f,P⟩:=O.2 k es c q' y;rw[hc] at f;cases f;exact ok.reps st P
 ·rcases o with o | ⟨L',ls',z,q,hb⟩
  ·exact .inl (.inl o)
  ·cases z
   rw[km] at q;have:=wb (show(ls.set j l).map V.ref=ls'.map V.ref by simpa using q);subst this;obtain⟨k,Y⟩:=List.mem_iff_getElem?.mp hb;rcases J k b Y with⟨_,e⟩ | ⟨_,e⟩
   ·exact .inr e
   ·exact .inl (.inr ⟨L,ls,rfl,A,bg e⟩)
variable{Nn Cn:g7}{X:Cx}{b e:Expr}{g:FE}{F:FA}{x:Str}{pos p' p1:Pos}
def zr7(h:∀G H0,DEx X G H0 b g)(m:DFx X G H0 e F)(an:Ats Nn Cn X)(Y:Nn[i]?=some x:=by rfl)(n:swapsWithSole [.Subscript (.Name x p') b p1] e pos.line X.env=pure false:=by rfl)(o:swappedStores [.Subscript (.Name x p') b p1] e X.env=pure none:=by rfl)(h1:(assignEach [.Subscript (.Name x p') b p1] X.env).map (·.2)=[assign (.Subscript (.Name x p') b p1) X.env]:=by rfl)(J:∀v,assign (.Subscript (.Name x p') b p1) X.env v=(do
   let ov <-holding [v] (eval (.Name x p') X.env);let iv <-holding [v,ov] (eval b X.env)
   standAt p1
   holding [v,ov,iv] (setItem ov iv v)
   release [v,ov,iv] []):=by intro _;rfl) :
  DSx X G H0 (.Assign [.Subscript (.Name x p') b p1] e pos) (ub i g F):=⟨λpins s σ H Dn I p=>by
 obtain⟨W,env,fl,env',ok,q,k⟩:=p;unfold ub at q;cases e1:F env with
 | none=>rw[e1] at q;cases q
 | some r =>
   rw[e1,ac] at q;split at q;case h_2=>cases q
   rename_i dss c;cases e2:g (frsE r.2) with
   | none=>rw[e2] at q;cases q
   | some r2 =>
     rw[e2,ac] at q;split at q;case h_2=>cases q
     rename_i kk Z;cases e3:ixN dss.length kk with
     | none=>rw[e3] at q;cases q
     | some j =>
       rw[e3] at q;cases q;have t:j<dss.length:=(zqd e3).2.1;refine(zm m.out (zrk ((an.a Y).pe) (el_x (X:=X) rfl h) xz J) n o h1) pins s σ H Dn I ⟨W,env,r.1,r.2,ok,e1,λW1 l us H1 u R D w y z=>?_⟩;obtain⟨v,d,_⟩:=R.slot i _ c;refine⟨_,d,OwG G (addW W1 l) H1,H1,NoW,frsE r.2,r2.1,r2.2,D.freezeS,e2,λC v2 H2 s2 A S=>?_⟩;have sm:=s2.noW;rw[Z] at S;obtain⟨L,ls,rfl,B,U,f,V⟩:=Ok.swap2 (R.same sm) (D.same sm) w (sm _ _ y) ((D.reps (Step.same sm) z)) c d t;exact⟨L,_,kk,j,rfl,S.int_,B,by rw[ah,U];exact e3,by rw[iu] at f V;exact k _ _ _ ((u.trans (Step.same sm)).trans V) f⟩⟩
variable{a:Expr}{f h:FE}{p2:Pos}
theorem zvd(C:∀G H0,DEx X G H0 a g)(E:∀G H0,DEx X G H0 b h)(F:DEx X G H0 e f)(an:Ats Nn Cn X)(Z:Nn[i]?=some x:=by rfl)(d:uv a:=by intro _ _;rfl)(K:swapsWithSole [.Subscript (.Subscript (.Name x p') a p2) b p1] e pos.line X.env=pure false:=by rfl)(M:swappedStores [.Subscript (.Subscript (.Name x p') a p2) b p1] e X.env=pure none:=by rfl)(h1:(assignEach [.Subscript (.Subscript (.Name x p') a p2) b p1] X.env).map (·.2)=[assign (.Subscript (.Subscript (.Name x p') a p2) b p1) X.env]:=by rfl)(U:∀v,assign (.Subscript (.Subscript (.Name x p') a p2) b p1) X.env v=(do
   let ov <-holding [v] (eval (.Subscript (.Name x p') a p2) X.env);let iv <-holding [v,ov] (eval b X.env)
   standAt p1
   holding [v,ov,iv] (setItem ov iv v)
   release [v,ov,iv] []):=by intro _;rfl) :
  DSx X G H0 (.Assign [.Subscript (.Subscript (.Name x p') a p2) b p1] e pos) (zr6 i g h f):=⟨λpins s σ H Dn I N=>by
 obtain⟨W,env,fl,env',ok,q,k⟩:=N;unfold zr6 at q;cases e1:f env with
 | none=>rw[e1] at q;cases q
 | some r =>
   rw[e1,ac] at q;split at q;case h_2=>cases q
   rename_i dss l;cases e2:g (frsE r.2) with
   | none=>rw[e2] at q;cases q
   | some r2 =>
     rw[e2,ac] at q;cases e3:h (frsE r.2) with
     | none=>rw[e3] at q;cases q
     | some r3 =>
       rw[e3,ac] at q;split at q;case h_2=>cases q
       rename_i kk mm m p;cases e4:ixN dss.length kk with
       | none=>rw[e4] at q;cases q
       | some j =>
         rw[e4,ac] at q;cases e5:dss[j]? with
         | none=>rw[e5] at q;cases q
         | some ds =>
           rw[e5,ac] at q;cases e6:ixN ds.length mm with
           | none=>rw[e6] at q;cases q
           | some n =>
             rw[e6] at q;cases q;refine(zm F.out (zrk (xf zr ((an.a Z).pe) (el_x (X:=X) rfl C) d) (el_x (X:=X) rfl E) xz U) K M h1) pins s σ H Dn I ⟨W,env,r.1,r.2,ok,e1,λW1 v1 H1 O J P=>?_⟩;obtain⟨v,t,_⟩:=J.slot i _ l;refine⟨_,t,OwG G W1 H1,H1,NoW,frsE r.2,r2.1,r2.2,J.freezeS,e2,λW2 v2 H2 s2 Q V=>?_⟩;have sm:=s2.noW;rw[m] at V;have R:=J.same sm;obtain⟨L,ls,c,vs,rfl,A,u,w,T,B⟩:=zxg R l t e4 e5;refine⟨L,_,kk,.ref c,rfl,V.int_,.inl (.inl A),w,OwG G W1 H2,H2,NoW,frsE r.2,r3.1,r3.2,R.freezeS,e3,λW3 v3 H3 s3 aa Y=>?_⟩;have D:=s3.noW;rw[p] at Y;have y:=R.same D;have S:Same H1 H3:=λb o z=>D b o (sm b o z);obtain⟨t1,t2⟩:=y.turn2 l t (D _ _ A) e5 u (Reps.set (J.rep (Step.same S) P) n (R.reps (Step.same D) B));exact⟨c,vs,mm,n,rfl,Y.int_,D _ _ T,by rw[<-B.length];exact e6,k _ _ _ ((O.trans (Step.same S)).trans t2) t1⟩⟩
end L2
namespace L2
open PySem PySem.Spec PyProof.Rows PySem.F
variable{prog:Program}{w:World}{A:Around}{E:Value->Shared->Prop}{s:Shared}
theorem zpn{it t:Addr}{D:k4}(U:t≠it):∀(n i:Nat) (s:Shared) (Q:g8->Shared->Prop),s.heap.IsListIter it t i->s.heap.IsList t D->i+n<=D.size ->
  (∀h',h'.IsListIter it t (i+n)->Heap.SameBut it s.heap h'->Q ((D.toList.drop i).take n) { s with heap:=h' })->wpAny (model prog w) A (draw (.ref it) n) Q E s
 | 0,i,s,Q,hit,_,_,hQ=>by
   exact wpAny_pure (by simpa using hQ s.heap hit (Heap.SameBut.refl ..))
 | n+1,i,s,Q,hit,ht,hle,hQ=>by
   have V:i<D.size:=by lia
   refine wpAny_bind (wpAny_pyNext_list_item hit ht (x:=D[i]) (by simp[V]) λh₁ J I=>?_);refine wpAny_bind (wpAny_holding (zpn U n (i+1) _ _ J (ht.extBut I.extBut U) (by lia) λY R S=>wpAny_pure ?_));have Z:D.toList.drop i=D[i]::D.toList.drop (i+1):=by simp[gf,V]
   have:=hQ Y (by rw[show i+(n+1)=i+1+n by lia];exact R) (I.trans S);rw[Z,List.take_succ_cons] at this;exact this
variable{pos:Pos}
theorem zkm{env:Env}{I:i3}{x1}{t:Addr}{D:k4}{Q:Unit->Shared->Prop}(f:A.handled=none)(Y:s.heap.IsList t D)(g:(assignEach I env).length=D.size)(S:(assignEach I env).findIdx? (·.1)=none)(h:∀h',Heap.ExtBut s.heap.objs.size s.heap h'->wpAny (model prog w) A (assignInOrder ((assignEach I env).map (·.2)) D.toList) Q E { s with heap:=h' }):wpAny (model prog w) A (assign (.Tuple I x1 pos) env (.ref t)) Q E s:=by
 refine wpAny_bind (wpAny_standAt ?_);unfold unpack;rw[g,S];refine wpAny_bind (wpAny_holding ?_);have Z:t≠s.heap.objs.size:=by obtain⟨o,i,_⟩:=Y;exact b8 (bi i)
 refine wpAny_bind ?_;refine wpAny_bind (wpAny_specialOf Y.typeIs PySem.slot_list_iter.lookup ?_);refine wpAny_pure ?_;refine wpAny_bind (wpAny_holding (wpAny_pyIter_list Y ?_));refine wpAny_bind (wpAny_holding (zpn Z D.size 0 _ _ ⟨_,ci _ rfl,rfl,rfl⟩ (Y.push _) (by lia) λh₁ R J=>?_));have a:List.take D.size (List.drop 0 D.toList)=D.toList:=by
  rw[List.drop_zero];exact jm (by simp)
 rw[a];rw[if_neg (by simp)];have U:h₁.IsList t D:=(Y.push _).extBut J.extBut Z;refine wpAny_bind (wpAny_holding (wpAny_pyNext_list_end f R U (by simp) λc V=>?_));exact wpAny_pure (h c λb o d e=>V b o d (J.extBut b o d (au _ e)))
def xj(r:Nat):ic->k9->Nat->DE0->Option DE0
 | [],[],_,e=>some e
 | i::ix,.d d::ps,n,e=>xj r ix ps n (e.set i (some (.sh d)))
 | i::ix,.o _::ps,n,e=>xj r ix ps (n+1) (e.set i (some (.al r n)))
 | _,_,_,_=>none
def vf(i:Nat)(ix:ic):FS:=λe=>match e[i]? with
 | some (some (.ag .ls (some r) ps))=>if i∈ix then none else(xj r ix ps 0 e).map λe'=>(.nx,e')
 | _=>none
variable{G:Gd}{H0:Hp}{ix:ic}
theorem zqr{K:kf}{W:Addr->Prop}{H:Hp}{r:Nat}{p:Addr}{D:ia}(J:G.r r=p::D):∀(ix:ic) (ps:k9) (n:Nat) (as:ia) (us:k6) (env env':DE0) (σ:St) (Q:St->Hp->Prop),Ok K G H0 W env σ H->PtsOk K G W H ps as us->(∀(m:Nat) (a:Addr),as[m]?=some a->D[n+m]?=some a) ->
  xj r ix ps n env=some env'->(∀I,Ok K G H0 W env' I H->Q I H)->gIs ix us σ H Q
 | [],[],_,_,_,_,_,σ,Q,ok,.nil,_,e,k=>by cases e;exact⟨rfl,k σ ok⟩
 | i::ix,.d d::ps,n,as,_,env,env',σ,Q,ok,.d (v:=v) (us:=us) q t,ha,e,k =>
   ⟨v,us,rfl,zqr J ix ps n as us _ env' _ Q (ok.put (s:=.sh d) (v:=v) q λ_ _ _ _ _ _ o=>o.elim) t ha e k⟩
 | i::ix,.o ds::ps,n,_,_,env,env',σ,Q,ok,.o (a:=a) (as:=as) (us:=us) hW hl q t,ha,e,k =>
   ⟨.ref a,us,rfl,zqr J ix ps (n+1) as us _ env' _ Q (ok.put (s:=.al r n) (v:=.ref a) ⟨p,D,a,J,by simpa using ha 0 a rfl,rfl⟩ λ_ _ _ _ _ _ o=>o.elim) t (λm b R=>by have:=ha (m+1) b (by simpa using R);rwa [show n+1+m=n+(m+1) by lia]) e k⟩
variable{X:Cx}{es:i3}{x:Str}{p' p1:Pos}{i:Nat}
def zx9{Nn Cn:g7}{k:Nat}(h:PGs X es (gIs ix))(an:Ats Nn Cn X)(R:Nn[i]?=some x:=by rfl)(f:X.calm=true:=by rfl)(g:(assignEach es X.env).length=ix.length:=by rfl)(S:(assignEach es X.env).findIdx? (·.1)=none:=by rfl)(j:swapsWithSole [.Tuple es k p1] (.Name x p') pos.line X.env=pure false:=by rfl)(J:swappedStores [.Tuple es k p1] (.Name x p') X.env=pure none:=by rfl)(h1:(assignEach [.Tuple es k p1] X.env).map (·.2)=[assign (.Tuple es k p1) X.env]:=by rfl):DSx X G H0 (.Assign [.Tuple es k p1] (.Name x p') pos) (vf i ix):=⟨by
 have pg:PG X (.Tuple es k p1) (λv σ H Q=>∃a xs,v=.ref a/\H a=some (.lst xs)/\xs.length=ix.length/\gIs ix xs σ H Q):=by
  intro pins s σ H v u Q I r J;obtain⟨a,xs,D,U,V,J⟩:=J;subst D;cases r;obtain⟨its,c,l,C⟩:=I.list (.inl (.inl U));refine zkm (I.ok.hd f) l.isList (by simp[g,<-V,c.length]) S λh' t=>?_;have w:Inv X pins σ H { s with heap:=h' }:=I.kept (t':=s.toks) λb o e=>t b o (b8 (bi e)) e;exact h pins _ σ H xs _ Q w (by simpa using c) J
 refine(zm ((an.a R).pe) pg j J h1).imp λDn σ H y=>?_;obtain⟨W,env,fl,env',ok,q,kk⟩:=y;unfold vf at q;split at q;case h_2=>cases q
 rename_i r ps U;split at q;case isTrue=>cases q
 cases D:xj r ix ps 0 env with
 | none=>rw[D] at q;cases q
 | some e' =>
   rw[D] at q;cases q;obtain⟨v,z,p,as,us,rfl,E,F,A,B,d⟩:=ok.slot i _ U;have V:∀(ix:ic) (ps:k9) (n:Nat) (env e':DE0),xj r ix ps n env=some e'->ix.length=ps.length:=λix=>by
    induction ix with
    | nil=>intro ps n env e' e;cases ps with | nil=>rfl | cons p _=>cases p <;> cases e
    | cons i ix ih =>
      intro ps n env e' e;cases ps with
      | nil=>cases e
      | cons p ps=>cases p <;> exact congrArg Nat.succ (ih ps _ _ _ e)
   exact⟨_,z,p,us,rfl,B,by rw[<-d.length];exact(V _ _ _ _ _ D).symm,zqr (A r rfl) ix ps 0 as us env _ σ _ ok d (λm a K=>by rwa [j1]) D λY Z=>kk W Y H Step.refl Z⟩⟩
end L2
namespace L2
open PySem PySem.Spec PyProof.Rows
def dPow:D->D->k8 | .int i,.int j=>if i=10/\0<=j/\j<=30 then some (.int (i ^ j.toNat)) else none | _,_=>none
variable{X:Cx}{G:Gd}{H0:Hp}
theorem z49:OpD X G H0 (rI CPow λi j=>.int (i ^ j.toNat)) dPow:=od_I λI J d h=>by
 unfold dPow at h;split at h
 ·rename_i i j
  split at h;case isFalse=>cases h
  rename_i D;cases h;obtain⟨rfl,R,h1⟩:=D;exact⟨10,j,rfl,rfl,by unfold CPow;lia,rfl⟩
 ·cases h
variable{f:Addr}{g:FS}{pos:Pos}
def zf{a b:Expr}{f g:FE}(D:DEx X G H0 a f)(I:DEx X G H0 b g):DEx X G H0 (.BinOp a .Pow b pos) (fBin dPow f g):=xl z3g z49 D I
def celN(N:g7)(sc:Scope):g7:=N.filter λu=>sc.names.lookup u==some .cell
def scB(N ps:g7)(sc:Scope):Bool:=decide (sc.kind=.function) && !sc.isCoroutine && !sc.isGenerator && decide N.Nodup && decide (N.take ps.length=ps) && decide (∀y∈sc.names,y.2≠.free) && N.all λx=>okN x && (sc.names.lookup x==some .local || sc.names.lookup x==some .cell)
variable{N ps:g7}{sc:Scope}
def oq(h:scB N ps sc=true):qe N ps sc/\∀x∈N,Loc sc x/\(x==("__debug__" : Str))=false/\(x==("__classdict__" : Str))=false:=by
 unfold scB at h;simp only[d9,decide_eq_true_eq,ki,gq] at h;obtain⟨⟨⟨⟨⟨⟨h1,h2⟩,R⟩,S⟩,I⟩,U⟩,V⟩:=h;have J:∀x∈N,Loc sc x/\(x==("__debug__" : Str))=false/\(x==("__classdict__" : Str))=false:=λx D=>by
  obtain⟨a,b⟩:=V x D;have a:=tf a;rcases Bool.or_eq_true _ _ ▸ b with b | b
  ·exact⟨.inl (uh b),a⟩
  ·exact⟨.inr (uh b),a⟩
 exact⟨⟨h1,h2,R,S,I,λx D=>(J x (by rw[<-I] at D;exact List.mem_of_mem_take D)).1,U⟩,J⟩
variable{P:Program}{w:World}{K:kf}{mg:Str->g9}{base:Heap}{CX:CXT}{qual:Str}{cdv:Value}{A:Around}{outer:i0}{s:Shared}{H:Hp}{E:XK}
def qw(h:scB N ps sc=true):Ats N (celN N sc) (cxOf CX P w K mg base N qual sc f cdv A outer s H E) :=
 ⟨rfl,λi x e=>let z:=(oq h).2 x (bg e);⟨e,z.1.elim .inl λq=>.inr (.inl q),z.2.1,z.2.2⟩,λu D=>by
  obtain⟨_,h2⟩:=f6.mp D;exact .inl (uh h2)⟩
def qv(h:scB N ps sc=true):Tos N (cxOf CX P w K mg base N qual sc f cdv A outer s H E) :=
 ⟨λi x e=>⟨(oq h).1.nd,e,((oq h).2 x (bg e)).1,.inl rfl⟩⟩
variable{i:Nat}{x:Str}
def Tos.pg(t:Tos N X)(h:N[i]?=some x:=by rfl):PG X (.Name x pos) (m6 i):=ztw (t.t h).nd (t.t h).n (t.t h).l (t.t h).f
variable{e:Expr}{p':Pos}{F:FA}
def Tos.psF(t:Tos N X)(D:DFx X G H0 e F)(h:N[i]?=some x:=by rfl)(I:swapsWith e (some (.Name x p')) pos.line X.env=pure false:=by rfl):PS X (.Assign [.Name x p'] e pos) (tAsg (tDF X.K G H0 F) (m6 i)):=ztx (t.t h).nd (t.t h).n (t.t h).l D.out I (t.t h).f
variable{P:g8->Prop}
def us0(h:P [])(us:g8)(e:us.length=0):P us:=ib e ▸ h
variable{n:Nat}
def usn(h:∀a,∀us:g8,us.length=n->P (a::us))(us:g8)(e:us.length=n+1):P us:=by
 cases us with
 | nil=>cases e
 | cons a us=>exact h a us (Nat.succ.inj e)
def us1(h:∀a,P [a]):∀us,us.length=1->P us:=usn λa=>us0 (h a)
def us2(h:∀a b,P [a,b]):∀us,us.length=2->P us:=usn λa=>us1 (P:=λus=>P (a::us)) (h a)
def us3(h:∀a b c,P [a,b,c]):∀us,us.length=3->P us:=usn λa=>us2 (P:=λus=>P (a::us)) (h a)
def us4(h:∀a b c d,P [a,b,c,d]):∀us,us.length=4->P us:=usn λa=>us3 (P:=λus=>P (a::us)) (h a)
def us5(h:∀a b c d e,P [a,b,c,d,e]):∀us,us.length=5->P us:=usn λa=>us4 (P:=λus=>P (a::us)) (h a)
def Def(K:kf)(mg:Str->g9)(st:Stmt)(x:Str)(ps:g7):Prop:=∃f fd,Fun K x x st f fd/\Binds K fd ps []/\mg x=some (.ref f)
def Mef(K:kf)(C:Addr)(st:Stmt)(x qual:Str)(ps:g7):Prop:=∃f fd,Fun K x qual st f fd/\Binds K fd ps []/\Meth K C x f
variable{P:Program}{st:Stmt}{k ar:Nat}
theorem jk(T:Def K mg st x ps)(N:g7)(D:∀ {f:Addr} {cdv:Value} {A:Around} {outer:i0} {s:Shared} {H:Hp} {E:XK} {G:Gd} {H0:Hp},Room k (A.deeper (envOfC x (gg st) s.heap.objs.size f cdv)) ->
   Ats N (celN N (gg st)) (cxOf CX0 P w K mg base N x (gg st) f cdv A outer s H E).nox->Tos N (cxOf CX0 P w K mg base N x (gg st) f cdv A outer s H E).nox->DBx (cxOf CX0 P w K mg base N x (gg st) f cdv A outer s H E).nox G H0 (lr st) g)(h:scB N ps (gg st)=true:=by decide +kernel)(I:okN x=true:=by decide +kernel)(J:n=N.length:=by rfl)(R:ar=ps.length:=by rfl):Cal P w K mg base CX0 x (k+1) (dSp K (runD n ar g)):=by
 obtain⟨f,fd,F,b,m⟩:=T;exact⟨f,fd,ps,fn_D F (oq h).1 J R λcdv A outer s H E G H0 S=>D S (qw h).nox (qv h).nox,m,F.kp,b,(tf I).1⟩
theorem z64(T:Def K mg st x ps)(N:g7)(D:∀ {f:Addr} {cdv:Value} {A:Around} {outer:i0} {s:Shared} {H:Hp} {E:XK} {G:Gd} {H0:Hp},Room k (A.deeper (envOfC x (gg st) s.heap.objs.size f cdv)) ->
   Ats N (celN N (gg st)) (cxOf CX0 P w K mg base N x (gg st) f cdv A outer s H E).nox->Tos N (cxOf CX0 P w K mg base N x (gg st) f cdv A outer s H E).nox->DBx (cxOf CX0 P w K mg base N x (gg st) f cdv A outer s H E).nox G H0 (lr st) g)(h:scB N ps (gg st)=true:=by decide +kernel)(I:okN x=true:=by decide +kernel)(J:n=N.length:=by rfl)(R:ar=ps.length:=by rfl):Cal P w K mg base CX0 x (k+1) (fSp K (runF n ar g)):=by
 obtain⟨f,fd,F,b,m⟩:=T;exact⟨f,fd,ps,fn_F F (oq h).1 J R λcdv A outer s H E G H0 S=>D S (qw h).nox (qv h).nox,m,F.kp,b,(tf I).1⟩
abbrev Bd(P:Program)(w:World)(K:kf)(mg:Str->g9)(base:Heap)(N:g7)(qual:Str)(st:Stmt)(k:Nat)(g:FS):Prop:=∀ {f:Addr} {cdv:Value} {A:Around} {outer:i0} {s:Shared} {H:Hp} {E:XK} {G:Gd} {H0:Hp},Room k (A.deeper (envOfC qual (gg st) s.heap.objs.size f cdv)) ->
   Ats N (celN N (gg st)) (cxOf (CXr P w) P w K mg base N qual (gg st) f cdv A outer s H E)->Tos N (cxOf (CXr P w) P w K mg base N qual (gg st) f cdv A outer s H E)->DBx (cxOf (CXr P w) P w K mg base N qual (gg st) f cdv A outer s H E) G H0 (lr st) g
theorem Def.cal{sp:Sp}(T:Def K mg st x ps)(D:okN x=true)(h:∀f fd,Fun K x x st f fd->FnOk P w K mg base CX k f fd ps sp):Cal P w K mg base CX x k sp:=by
 obtain⟨f,fd,F,b,m⟩:=T;exact⟨f,fd,ps,h f fd F,m,F.kp,b,(tf D).1⟩
variable{p:Nat}
def qo(T:Def K mg st x ps)(N:g7)(D:Bd P w K mg base N x st k g)(h:scB N ps (gg st)=true:=by decide +kernel)(I:okN x=true:=by decide +kernel)(J:n=N.length:=by rfl)(R:p+ar=ps.length:=by rfl):Cal P w K mg base (CXr P w) x (k+1) (qSp K (runQ n p ar g) (xQ n p ar g)) :=
 T.cal I λf fd F=>z42 F (oq h).1 J R λcdv A outer s H E G H0 S=>D S (qw h) (qv h)
def z1o(T:Def K mg st x ps)(N:g7)(D:Bd P w K mg base N x st k g)(h:scB N ps (gg st)=true:=by decide +kernel)(I:okN x=true:=by decide +kernel)(J:n=N.length:=by rfl)(R:p+ar=ps.length:=by rfl):Cal P w K mg base (CXr P w) x (k+1) (lSp K (runL n p ar g) (xL n p ar g)) :=
 T.cal I λf fd F=>z1k F (oq h).1 J R λcdv A outer s H E G H0 S=>D S (qw h) (qv h)
def z65(T:Def K mg st x ps)(N:g7)(D:Bd P w K mg base N x st k g)(h:scB N ps (gg st)=true:=by decide +kernel)(I:okN x=true:=by decide +kernel)(J:n=N.length:=by rfl)(R:ar=ps.length:=by rfl):Cal P w K mg base (CXr P w) x (k+1) (gSp K (runG n ar g) (xG n ar g)) :=
 T.cal I λf fd F=>z63 F (oq h).1 J R λcdv A outer s H E G H0 S=>D S (qw h) (qv h)
variable{C:Addr}{cn:Str}
def y7(D:Cl K cn C)(c:Cls K C)(T:Mef K C st x qual ps)(N:g7)(I:Bd P w K mg base N qual st k g)(h:scB N ps (gg st)=true:=by decide +kernel)(J:n=N.length:=by rfl)(R:p+ar=ps.length:=by rfl):MCal P w K mg base cn x (k+1) (qSp K (runQ n p ar g) (xQ n p ar g)):=by
 obtain⟨f,fd,F,b,m⟩:=T;exact⟨C,f,fd,ps,c,m,z42 F (oq h).1 J R λcdv A outer s H E G H0 S=>I S (qw h) (qv h),b,D⟩
def wv(D:Cl K cn C)(c:Cls K C)(T:Mef K C st x qual ps)(N:g7)(I:Bd P w K mg base N qual st k g)(h:scB N ps (gg st)=true:=by decide +kernel)(J:n=N.length:=by rfl)(R:p+ar=ps.length:=by rfl):MCal P w K mg base cn x (k+1) (lSp K (runL n p ar g) (xL n p ar g)):=by
 obtain⟨f,fd,F,b,m⟩:=T;exact⟨C,f,fd,ps,c,m,z1k F (oq h).1 J R λcdv A outer s H E G H0 S=>I S (qw h) (qv h),b,D⟩
def z66(D:Cl K cn C)(I:mg cn=some (.ref C))(J:PySem.W.makesIn K C=true)(kp:PySem.W.keepIn K (.ref C)=true)(T:Mef K C st "__init__" qual ps)(N:g7)(R:Bd P w K mg base N qual st k g)(h:scB N ps (gg st)=true:=by decide +kernel)(S:okN cn=true:=by decide +kernel)(U:n=N.length:=by rfl)(V:p+ar=ps.length:=by rfl) :
  KCal P w K mg base cn (k+1) (lSp K (runL n p ar g) (xL n p ar g)):=by
 obtain⟨f,fd,F,b,m⟩:=T;exact⟨C,f,fd,ps,⟨J,m.at_,m.fn,kp⟩,z1k F (oq h).1 U V λcdv A outer s H E G H0 Y=>R Y (qw h) (qv h),I,b,D,(tf S).1⟩
def z67(N:g7)(D:∀ {f:Addr} {cdv:Value} {A:Around} {outer:i0} {s:Shared} {H:Hp} {E:XK} {G:Gd} {H0:Hp},Room k (A.deeper (envOfC x (gg st) s.heap.objs.size f cdv)) ->
   Ats N (celN N (gg st)) (cxOf CX0 P w K mg base N x (gg st) f cdv A outer s H E).nox->Tos N (cxOf CX0 P w K mg base N x (gg st) f cdv A outer s H E).nox->DBx (cxOf CX0 P w K mg base N x (gg st) f cdv A outer s H E).nox G H0 (lr st) g)(h:scB N ps (gg st)=true:=by decide +kernel)(I:n=N.length:=by rfl)(J:ar=ps.length:=by rfl):∀f fd,Fun K x x st f fd->FnOk P w K mg base CX0 (k+1) f fd ps (dSp K (runD n ar g)) :=
 λf fd F=>fn_D F (oq h).1 I J λcdv A outer s H E G H0 R=>D R (qw h).nox (qv h).nox
variable{h:Heap}{oc:Value}{od an:Option Addr}{osl:Array g9}
def law_mk{fa:Addr}{s:Str}{m:k7->k8}{kV I R cdv ct:Value}(X:K.In h)(G:h.Ns mainGlobals mg)(J:mg x=some (.ref fa))(a:PySem.W.nsIn K mainGlobals x=some (some (.ref f)))(l:K.lookup f=some ⟨oc,od,.func (PySem.W.fnOf x x (tq st) (lr st) (gg st) .none kV I R an cdv ct),osl⟩)(c:PySem.W.codeIn K cdv x=true)(k':PySem.W.keepIn K (.ref f)=true)(U:∀v:Value,bindArgs (PySem.W.fnOf x x (tq st) (lr st) (gg st) .none kV I R an cdv ct) ⟨[v],[]⟩=pure [(s,v)])(F:∀base f fd,Fun K x x st f fd->FnOk P w K mg base CX0 k f fd [s] (dSp K m))(good:∀S:ik,S.length<=63->m [.lst (S.map D.int)]=some (.bl true)) :
  ∃fd:FuncData,(∀(t:Shared) (v:Value),BindsTo t fd ⟨[v],[]⟩ [(s,v)])/\∀base:Heap,K.In base->base.Ns mainGlobals mg->FnOk P w K mg base CX0 k fa fd [s] (zrs K):=by
 have e:=J.symm.trans (kn X G a);cases e;exact⟨_,λt v=>.of_eq (U v),λbase _ _=>z6t (F base _ _ (zue l c k')) good⟩
def walkD{l:PySem.W.OpenLaw}{q:Program}{D:g7}{R:(Str->g9)->Heap->Prop}{J:World->Heap->Prop}{d:DefRec}{K:Params->kf}{s:Str}(S:Room k callerA)(U:l.most=some 63)(I:d.params.defaults=[])(V:∀(w:World) (h:Heap),J w h->(K w.params).In h)(F:∀(w:World) (mg:Str->g9) (fa:Addr) (h:Heap),(K w.params).In h->h.Ns mainGlobals mg->mg d.name=some (.ref fa) ->
   ∃fd:FuncData,(∀(t:Shared) (u:Value),BindsTo t fd ⟨[u],[]⟩ [(s,u)])/\∀base:Heap,(K w.params).In base->base.Ns mainGlobals mg->FnOk l.prog w (K w.params) mg base CX0 k fa fd [s] (zrs (K w.params))) :
  PySem.W.WalkO q D R J l.row.toRowW d [] (λf vs=>PySem.call f vs) :=
 z0y (n:=63) (k:=k) (x:=s) (CX:=λ_=>CX0) (sp:=λw=>zrs (K w.params)) U (by decide) I S V F (λ_ _ a Y Z _ b=>⟨a,Y,rfl,b,Z,λ_=>rfl⟩) λ_ _ _ _ _ z=>z
def def_mk{kV D I cdv ct:Value}(X:K.In h)(G:h.Ns mainGlobals mg)(a:PySem.W.nsIn K mainGlobals x=some (some (.ref f)))(l:K.lookup f=some ⟨oc,od,.func (PySem.W.fnOf x x (tq st) (lr st) (gg st) .none kV D I an cdv ct),osl⟩)(c:PySem.W.codeIn K cdv x=true)(k:PySem.W.keepIn K (.ref f)=true)(J:∀us:g8,us.length=ps.length->bindArgs (PySem.W.fnOf x x (tq st) (lr st) (gg st) .none kV D I an cdv ct) ⟨us,[]⟩=pure (ps.zip us)):Def K mg st x ps :=
 ⟨f,_,zue l c k,.all J,kn X G a⟩
def exc_mk{c:Str}(X:K.In h)(G:h.Ns mainGlobals mg)(a:PySem.W.nsIn K mainGlobals c=some (some (.ref C)))(b:PySem.W.excIn K C VEs "ValueError.__new__" = true)(d:okN c=true):Exc K mg c:=⟨C,a,b,kn X G a,(tf d).1⟩
def con_mk{z:Int}{t:Tok}(X:K.In h)(G:h.Ns mainGlobals mg)(a:PySem.W.nsIn K mainGlobals x=some (some (.int z t))):∃t,mg x=some (.int z t):=⟨t,kn X G a⟩
def mef_mk{kV D I cdv ct:Value}(a:PySem.W.findIn K (.ref C) x=some (some (.ref f)))(l:K.lookup f=some ⟨oc,od,.func (PySem.W.fnOf x qual (tq st) (lr st) (gg st) .none kV D I an cdv ct),osl⟩)(c:PySem.W.codeIn K cdv qual=true)(k:PySem.W.keepIn K (.ref f)=true)(i:PySem.W.isFn K (.ref f)=true)(J:∀us:g8,us.length=ps.length->bindArgs (PySem.W.fnOf x qual (tq st) (lr st) (gg st) .none kV D I an cdv ct) ⟨us,[]⟩=pure (ps.zip us)):Mef K C st x qual ps :=
 ⟨f,_,zue l c k,.all J,a,i,k⟩
def ExcO(o:Obj)(C:Addr):Prop:=∃vs,o.cls=.ref C/\o.data=.fields vs/\vs[2]?=some .none
def znv:entryFor table "proto.unchain" = some Builtin.«proto.unchain»:=entryFor_of_fast (by kernel_rfl)
variable{E:Value->Shared->Prop}{oc:Obj}{prog:Program}
def ztg{α:Type}{x c:Addr}{ox:Obj}{D:k4}{Q:α->Shared->Prop}(J:A.handled=some (.ref c))(R:s.heap.get? c=some oc)(S:ExcO oc C)(I:s.heap.get? x=some ox)(U:ox.data=.fields D)(h2:2<D.size)(V:c≠x)(h:E (.ref x) { s with heap:=s.heap.update x (Obj.mapFields (·.setIfInBounds 2 (.ref c))) }):wpAny (model prog w) A (raiseNew (.ref x):Sem α) Q E s:=by
 refine wpAny_bind (wpAny_handled ?_);rw[J];dsimp only;rw[if_pos (by simp[V])];obtain⟨a,b,Y,Z⟩:=S;refine wpAny_bind (wpAny_holding (wpAny_runValue (codeAny_builtin znv ?_)));refine wpAny_bind (wpAny_field R Y Z ?_);refine wpAny_bind (wpAny_pure (wpAny_pure ?_));refine wpAny_bind ?_;refine wpAny_bind (wpAny_load I ?_);rw[U];dsimp only;rw[if_pos h2];exact wpAny_update I (wpAny_throw h)
theorem zqs{it:Addr}{x left step:Int}{c:Addr}{Q:g9->Shared->Prop}(R:A.handled=some (.ref c))(J:s.heap.get? c=some oc)(S:ExcO oc C)(D:IsRangeIter s.heap it x left step)(I:left<=0)(U:∀h',Heap.ExtBut it s.heap h'->Q none { s with heap:=h' }):wpAny (model prog w) A (pyNext (.ref it)) Q E s:=by
 have hT:s.TypeIs (.ref it) "range_iterator":=⟨_,D,rfl⟩;refine wpAny_bind (wpAny_attempt (wpAny_callSpecial?_slot (name:=Str.ofString "__next__") hT F.slot_range_iterator_next
  (wpAny_call_entry F.slot_range_iterator_next hT F.entry_range_iterator_next ?_ (F.args_range_iterator_next_1 _))))
 show wpAny _ _ (field (.ref it) 0 >>= _) _ _ s;refine wpAny_bind (wpAny_field D rfl (x:=rawInt x) rfl ?_);show wpAny _ _ (field (.ref it) 1 >>= _) _ _ s;refine wpAny_bind (wpAny_field D rfl (x:=rawInt left) rfl ?_);refine wpAny_bind (wpAny_field D rfl (x:=rawInt step) rfl ?_);show wpAny _ _ (if left<=0 then _ else _) _ _ s;rw[if_pos I];refine wpAny_bind (wpAny_rule ?_);refine wpAny_bind ?_;refine wpAny_bind ?_;refine wpAny_bind (m:=firstArgMember _ _) (wpAny_of_eq (a:=Value.none) (by first | rfl | (simp only[firstArgMember];rfl)) ?_);refine wpAny_newObj_type ?_ (by size_fits);refine ztg (show A.in1.handled=some (.ref c) from R) (au _ (au _ J)) S (ci _ rfl) rfl (by simp;lia) (b8 (by rw[i8];exact gk (bi J))) ?_;refine wpAny_bind (wpAny_isInstance (T:="StopIteration") (b:=true) ⟨_,fy _ (ci _ rfl) (by rfl),rfl⟩ isSubtype_stop ?_);refine wpAny_pure (U _ λb o V e=>?_);rw[cj _ _ (λz=>absurd (z ▸ bi e) (by rw[i8];exact Nat.not_lt.mpr (qi _)))];exact au _ (au _ e)
end L2
namespace L2
open PySem PySem.Spec PyProof.Rows PySem.W
structure ECls (K:kf) (C:Addr):Prop where
 ga:PySem.W.findIn K (.ref C) "__getattribute__" = some (some (.builtin "BaseException.__getattribute__"))
 hk:PySem.W.findIn K (.ref C) "__getattr__" = some none
 fd:PySem.W.findObj K C none "__class__" = some (.bind (.builtin "getset_descriptor.__get__") (.builtin "object.__class__"))
 ob:PySem.W.mroIn K C (.type "object")=some true
 be:PySem.W.mroIn K C (.type "BaseException")=some true
variable{K:kf}{w:World}{A:Around}{E:Value->Shared->Prop}{s:Shared}{x:Str}{C:Addr}{Q:Unit->Shared->Prop}
theorem zvf{prog:Program}{x:Addr}{ox:Obj}{Q:g9->Shared->Prop}(c:ECls K C)(X:K.In s.heap)(I:PySem.W.InstAt s.heap x ox C none)(h:Q (some (.ref C)) { s with toks:=s.toks+1 }):wpAny (model prog w) A (getAttr? (.ref x) "__class__") Q E s:=by
 obtain⟨D,g,d,t,os⟩:=s;have J:=I.type (M:=model prog w);have R:=looks_findIn (M:=model prog w) X c.ga;have S:=looks_findIn (M:=model prog w) X c.hk;have U:=looks_find (M:=model prog w) X I c.fd;have V:=looks_mroIn (M:=model prog w) X c.be;refine wpAny_bind (wpAny_mkText (wpAny_bind (wpAny_attempt (wpAny_holding (wpAny_bind (J.at (wpAny_bind (R.at ?_))))))));refine wpAny_bind (m:=hookBefore _) (S.at ?_);refine wpAny_bind (wpAny_attempt (wpAny_holding ?_));refine wpAny_bind (wpAny_pure (wpAny_call ?_));refine codeAny_call_builtin F.excAttr_ValueError.ga.plain F.entry_bexc_ga ?_;have Y:Looks (model prog w) D (isInstance (.ref x) (.type "BaseException")) true:=J.andThen V;refine wpAny_bind (Y.at ?_);repeat (first | wp_step | assumption)
 refine wpAny_loadPart_at I.at_ ?_;rw[I.cls];refine wpAny_pure (wpAny_bind (U.at ?_));refine wpAny_bind (wpAny_holding (wpAny_call (class_get (s:=⟨D,g,d,t+1,os⟩) (ox:=ox) (od:=none) X I c.ob ?_)));exact wpAny_pure (handed_on rfl (wpAny_pure h))
def Exo(o:Obj)(C:Addr):Prop:=ExcO o C/\o.dict=none
variable{h:Heap}{ea:Addr}{o:Obj}
def Exo.inst(e:h.get? ea=some o)(x:Exo o C):PySem.W.InstAt h ea o C none:=by
 obtain⟨⟨vs,h1,h2,_⟩,D⟩:=x;exact⟨e,h1,by unfold notCls;rw[h2],by rw[D];trivial⟩
def zya(c:ECls K C):KitX K (.ref ea) (.ref C) (λh=>∃ox,PySem.W.InstAt h ea ox C none):=by
 obtain⟨Y,D,_⟩:=dq.mp c.fd;unfold clsIn at D;split at D;case h_2=>cases D
 rename_i Z d' S U R;exact⟨λ_ _ _ ⟨_,I⟩=>I.type,λ_ _ X _ a b d s' k q=>by
   exact wpAny_bind (wpAny_loadPart (k _ _ (X _ _ R)) (wpAny_pure q)),
  λh V dd its n sl X J=>Bool.eq_false_iff.mpr λq=>by
   have e:C=V:=Value.ref.inj (beq_iff_eq.mp q);subst e;have z:=(X _ _ R).symm.trans J
   (injection z with z;injection z with _ _ z;cases z),
  λX ⟨_,I⟩ k=>zvf c X I k⟩
structure Hd (ea C:Addr) (X:Cx):Prop where
 hh:X.A.handled=some (.ref ea)
 ob:∃o,X.s₀.heap.get? ea=some o/\Exo o C
 h0:X.H₀ ea=none
 nf:ea∉X.fs
 nx:ea∉X.ex
variable{X:Cx}{pins:kl}{σ:St}{H:Hp}
def Hd.at(h:Hd ea C X)(I:Inv X pins σ H s):∃o,s.heap.get? ea=some o/\Exo o C/\H ea=none :=
 let ⟨o,e,c⟩:=h.ob;⟨o,I.base.keep ea o e h.h0 h.nf h.nx,c,I.base.free ea o e h.h0 h.nx⟩
def Hd.comp{N':g7}{sc:Scope}{cl:List (Str×Addr)}{D:Addr}{fp:ia}(h:Hd ea C X)(I:Inv X pins σ H s)(J:∀b∈fp,FpOk X pins H b):Hd ea C (je X x N' sc cl D s H fp):=by
 obtain⟨S,R,_⟩:=h.ob;obtain⟨o,e,c,n⟩:=h.at I;have lt:=bi R;refine⟨h.hh,⟨o,e,c⟩,n,λz=>?_,λz=>?_⟩
 ·rcases ce.mp (I.stkSub ea z) with q | q
  ·exact absurd (bh lt (q ▸ I.ok.above)) (fu _)
  ·exact h.nf q
 ·rcases(J ea z).2.2.2.1 with q | q
  ·exact h.nx q
  ·exact absurd (bh lt q) (fu _)
variable{P:Program}
theorem zqt{tg:Expr}(it:Addr)(lo:Int)(n:Nat):vi (Hd ea C) P w K tg (Itr lo n) [it] it (λi h=>IsRangeIter h it (lo+(i:Nat)*1) ((n:Int)-(i:Nat)) 1) where
 mem:=by simp
 obj:=(ziw (P:=P) (w:=w) (K:=K) (tg:=tg) it lo n).obj
 keep:=(ziw (P:=P) (w:=w) (K:=K) (tg:=tg) it lo n).keep
 item:=by
  intro X hP j k V i pins s σ H E I S st U;obtain⟨Y,Z,l,a,d,f⟩:=S it (by simp);have U:i<n:=U;refine wpAny_pyNext_range_item st (by lia) λh' D g=>?_;have m:Inv X pins σ H { s with heap:=h',toks:=s.toks+1 }:=I.turned (λb o J e=>g.extBut b o J e) Y Z a d f;have p:lo+((i+1:Nat):Int)*1=lo+(i:Int)*1+1:=by lia
  have q:(n:Int)-((i+1:Nat):Int)=(n:Int)-(i:Int)-1:=by lia
  have R:IsRangeIter h' it (lo+((i+1:Nat):Int)*1) ((n:Int)-((i+1:Nat):Int)) 1:=by rw[p,q];exact D
  refine⟨_,rfl,zwu (s:={ s with heap:=h',toks:=s.toks+1 }) (n:="range_iterator") R rfl rfl (by decide) ⟨.int (lo+i),H,m,⟨s.toks,?_⟩,⟨rfl,rfl⟩,R,λb J=>(S b J).1⟩⟩;rw[Int.mul_one]
 done:=by
  intro X hP j k V i pins s σ H E I S st U;obtain⟨Y,Z,l,a,d,f⟩:=S it (by simp);obtain⟨o,e,⟨c,_⟩,_⟩:=V.at I;exact zqs V.hh e c st (by have:n<=i:=U;lia) λh' r=>⟨rfl,I.turned (t':=s.toks) (λb o J e=>r b o J e) Y Z a d f⟩
 self:=(ziw (P:=P) (w:=w) (K:=K) (tg:=tg) it lo n).self
variable{a e:Expr}
def fIsx(ea:Addr)(i:Nat)(b:Bool):FE:=λe=>match e[i]? with | some (some (.sh (.exc a)))=>if a=ea then some (.bl b,e) else none | _=>none
variable{b:Expr}
def zyb(J:Hd ea C X)(R:ECls X.K C):oz X (.builtin "isinstance") (λxs H Q=>∃v u b,xs=[.ref ea,v]/\RelV v u/\(∀D,RelV v D->D=u)/\PySem.W.kitOne X.K (.ref C) u=some b/\Q (.bl b) H):=by
 intro pins s σ H xs us Q I r h;obtain⟨v,u,b,rfl,_,S,e,q⟩:=h;obtain⟨U,D,rfl,V,rt⟩:=z0m r;cases (show U=Value.ref ea from V);cases S D rt;obtain⟨o,Y,Z,_⟩:=J.at I;exact d8 (zya R) I.kIn ⟨o,Z.inst Y⟩ e (λz=>nomatch z) λtk=>⟨.bl b,H,I.tok tk,rfl,q⟩
variable{b:Bool}{Nn Cn:g7}{i:Nat}{cn:Str}{G:Gd}{H0:Hp}{pos p' p1 p2:Pos}
def zzs{v:V}{u:Value}(Z:Hd ea C X)(c:ECls X.K C)(e:PE X (.Name cn p2) (tC v))(f:RelV v u)(h:∀S,RelV v S->S=u)(j:PySem.W.kitOne X.K (.ref C) u=some b)(an:Ats Nn Cn X)(U:Bn X "isinstance":=by walk_at "b")(D:Nn[i]?=some x:=by rfl)(Y:starEach [.Name x p1,.Name cn p2] X.env=(false,eval (.Name x p1) X.env)::starEach [.Name cn p2] X.env:=by rfl)(I:starEach [.Name cn p2] X.env=(false,eval (.Name cn p2) X.env)::starEach [] X.env:=by rfl)(J:(backTo pos (starEach [.Name cn p2] X.env)).any (·.1)=false:=by rfl) :
  DEx X G H0 (.Call (.Name "isinstance" p') [.Name x p1,.Name cn p2] [] pos) (fIsx ea i b) :=
 ⟨(x0 (zyb Z c) U.g U.m zrp (mw ((an.a D).pe) (mw e pk I) Y) (by decide) (by decide) Y J).imp λσ H Q l=>by
  obtain⟨W,env,d,env',ok,q,k⟩:=l;unfold fIsx at q;split at q
  ·rename_i p n
   split at q;case isFalse=>cases q
   rename_i R;subst R;cases q;obtain⟨s,o,r⟩:=ok.slot i _ n;obtain rfl:=Rep.exc_ r;exact⟨_,o,v,u,b,rfl,f,h,j,k W _ H Step.refl ok (.bl b)⟩
  ·cases q⟩
variable{g:FE}
def z5a{R:Addr}(U:Hd ea C X)(V:ECls X.K C)(Y:X.mg cn=some (.ref R))(Z:PySem.W.kitOne X.K (.ref C) (.ref R)=some b)(an:Ats Nn Cn X)(a:Gl X cn:=by walk_at "g")(D:(cn==("__debug__" : Str))=false:=by decide)(c:Bn X "isinstance":=by walk_at "b")(I:Nn[i]?=some x:=by rfl)(d:starEach [.Name x p1,.Name cn p2] X.env=(false,eval (.Name x p1) X.env)::starEach [.Name cn p2] X.env:=by rfl)(J:starEach [.Name cn p2] X.env=(false,eval (.Name cn p2) X.env)::starEach [] X.env:=by rfl)(S:(backTo pos (starEach [.Name cn p2] X.env)).any (·.1)=false:=by rfl) :
  DEx X G H0 (.Call (.Name "isinstance" p') [.Name x p1,.Name cn p2] [] pos) (fIsx ea i b):=zzs U V (ztt (v:=.ref R) a Y rfl D) rfl (λ_ z=>z) Z an c I d J S
def z1p:bootBuiltins "ValueError" = some (.type "ValueError"):=by decide +kernel
def z1q(S:Hd ea C X)(U:ECls X.K C)(V:PySem.W.kitOne X.K (.ref C) (.type "ValueError")=some b)(an:Ats Nn Cn X)(R:Bn X "ValueError":=by walk_at "b")(Y:Bn X "isinstance":=by walk_at "b")(D:Nn[i]?=some x:=by rfl)(Z:starEach [.Name x p1,.Name "ValueError" p2] X.env=(false,eval (.Name x p1) X.env)::starEach [.Name "ValueError" p2] X.env:=by rfl)(I:starEach [.Name "ValueError" p2] X.env=(false,eval (.Name "ValueError" p2) X.env)::starEach [] X.env:=by rfl)(J:(backTo pos (starEach [.Name "ValueError" p2] X.env)).any (·.1)=false:=by rfl) :
  DEx X G H0 (.Call (.Name "isinstance" p') [.Name x p1,.Name "ValueError" p2] [] pos) (fIsx ea i b):=zzs S U (ztu (v:=.ty "ValueError") R.g R.m z1p rfl) rfl (λ_ z=>z) V an Y D Z I J
def bTup:k7->k8 | [.lst ds]=>some (.tup ds) | _=>none
def zyc:bootBuiltins "tuple" = some (.type "tuple"):=by decide +kernel
def z5b:ug X G H0 (λxs H Q=>∃p ys,xs=[.ref p]/\((SqL X.K H p ys/\∀l,H l=none->Q (.ref l) (upd H l (.tup ys)))\/(SqT X.K H p ys/\Q (.ref p) H))) bTup:=by
 intro W env σ H vs ds d Q ok r e k;unfold bTup at e;split at e
 ·cases e
  obtain⟨v,rfl,D⟩:=qt r;obtain⟨a,us,rfl,h,r⟩:=D.lst_;refine⟨a,us,rfl,.inl ⟨h.sq,λl I=>?_⟩⟩;have sm:Same H (upd H l (.tup us)):=yc I;exact k _ _ (Step.same sm) (ok.same sm) (.tup km (ok.reps (Step.same sm) r))
 ·cases e
variable{b:Expr}{F:FA}
def z1r(I:DAx X G H0 [e] F)(D:Bn X "tuple":=by walk_at "b")(J:starEach [e] X.env=(false,eval e X.env)::starEach [] X.env:=by rfl):DEx X G H0 (.Call (.Name "tuple" p') [e] [] pos) (d5 bTup F):=zro zm6 z5b D.g D.m zyc I (by decide) (by decide) J rfl
abbrev Cx.hush(X:Cx)(A:Around)(p:kl):Cx:={ X with A:=A,calm:=false,pn:=p++X.pn }
variable{p:kl}
def Inv.hush(I:Inv X pins σ H s)(hA:A.frames=X.A.frames)(D:∀q∈p,s.heap.get? q.1=some q.2/\H q.1=none/\q.1≠X.env.locals/\q.1∉X.fs/\∀v,q.2.data≠.cell v):Inv (X.hush A p) pins σ H s :=
 ⟨⟨I.ok.mod,I.ok.kind,I.ok.glob,I.ok.blt,I.ok.above,I.ok.inj,I.ok.has,I.ok.cab,(λz=>nomatch z),hA.trans I.ok.frames,I.ok.stk,I.ok.exf,I.ok.bs,I.ok.bsz,I.ok.noex,I.ok.exfs,I.ok.funs,I.ok.frf⟩,I.os,I.bare,I.base,I.loc,I.cell,I.free,I.freeC,λq hq=>by
  rw[df] at hq;rcases cz.mp hq with hq | hq
  ·exact D q hq
  ·exact I.pin q hq,I.hok,I.len⟩
def Inv.unhush(ok:X.Ok)(J:Inv (X.hush A p) pins σ H s):Inv X pins σ H s :=
 ⟨ok,J.os,J.bare,J.base,J.loc,J.cell,J.free,J.freeC,λq D=>J.pin q (by rw[df];exact b7 _ D),J.hok,J.len⟩
structure KOk (P:Program) (w:World) (K:kf) (mg:Str->g9) (base:Heap) (k:Nat) (f:Addr) (fd:FuncData) (ps:g7) (kd:Str->k8):Prop where
 len:ps.length=1
 run:∀(A:Around) (outer:i0) (s:Shared) (H:Hp) (ea C:Addr) (c:Str) (o:Obj) (d:D) (O:Addr->Prop) (Q:VK) (args:Args),Room k { A with handled:=none }->A.handled=some (.ref ea)->Env0 P w K mg base A outer s H->BindsTo s fd args (ps.zip [.ref ea]) ->
  s.heap.get? ea=some o->Exo o C->Cl K c C->H ea=none->ea∉frs outer->kd c=some d->(∀v H',Same H H'->Rep K H' (λa=>O a\/H a=none) d v->Q v H')->codeAny (model P w) A (.call (.ref f) args) (CR CX0 outer P w H s Q E0) s
abbrev cxH(P:Program)(w:World)(K:kf)(mg:Str->g9)(base:Heap)(N:g7)(qual:Str)(scope:Scope)(f:Addr)(cdv:Value)(A:Around)(outer:i0)(s:Shared)(H:Hp):Cx :=
 ((cxOf CX0 P w K mg base N qual scope f cdv { A with handled:=none } outer s H E0).nox).hush (A.deeper (envOfC qual scope s.heap.objs.size f cdv)) []
def runK(n:Nat)(g:Addr->Str->FS)(c:Str)(d:D):Prop:=∀ea,∃e',g ea c (jl n [.exc ea])=some (.rt d,e')
variable{g:Addr->Str->FS}{st:Stmt}{N ps:g7}{k:Nat}{kd:Str->k8}{mg:Str->g9}{base:Heap}
theorem fn_K{qual:Str}{f:Addr}{fd:FuncData}{n:Nat}(F:Fun K x qual st f fd)(S:qe N ps (gg st))(T:n=N.length)(E:ps.length=1)(j:∀c d,kd c=some d->runK n g c d)(U:∀(cdv:Value) (A:Around) (outer:i0) (s:Shared) (H:Hp) (ea C:Addr) (c:Str) (G:Gd) (H0:Hp),(kd c).isSome=true->Cl K c C->Hd ea C (cxH P w K mg base N qual (gg st) f cdv A outer s H)->DBx (cxH P w K mg base N qual (gg st) f cdv A outer s H) G H0 (lr st) (g ea c)) :
  KOk P w K mg base (k+1) f fd ps kd:=by
 subst T;refine⟨E,λA outer s H ea C c o d O Q args X hh D hb ho hx hc hH l L hQ=>?_⟩;obtain⟨oc,od,kV,aa,pm,an,cdv,ct,osl,rfl,lk,m⟩:=F.ex;have hl:[V.ref ea].length=ps.length:=E.symm;have M:K.In s.heap:=D.mod.kin.keeps λb o e=>(D.bs b o e).1;have p:s.heap.NoLimit:=D.mod.nolimit.keeps λb o e=>(D.bs b o e).1;have Y:∀y∈ps.zip [Value.ref ea],(gg st).names.lookup y.1=some .local\/((gg st).names.lookup y.1=some .cell/\((cellsFrom (s.heap.objs.size+1) (gg st).names []).lookup y.1).isSome=true):=λ⟨n,v⟩ hy=>by
  rcases S.par n (jy hy).1 with q | q
  ·exact .inl q
  ·exact .inr ⟨q,lg _ _ _ (.inl q)⟩
 refine codeAny_call_function (A:=A) X.depth (M _ _ lk) rfl S.co S.gen rfl (PySem.W.codeRec_of M m) (hb _ _ _ _ ?_);refine wpAny_newFunctionEnv_cells S.kind Y λenv he r x=>?_;subst he;refine⟨p.keeps x.toInCall.keep,codeAny_func ?_⟩;have e1:Env0 P w K mg base { A with handled:=none } outer s H:=⟨D.frames,D.mod,D.bs,D.bsz,D.funs,D.frf,D.hok,D.bare⟩;have I0:Inv (cxOf CX0 P w K mg base N qual (gg st) f cdv { A with handled:=none } outer s H E0) [] (start N [.ref ea]) H r:=zot S rfl e1 hl (.cons rfl .nil) x;have I:Inv (cxH P w K mg base N qual (gg st) f cdv A outer s H) [] (start N [.ref ea]) H r:=(I0.wish _).hush rfl λq hq=>absurd hq (by simp);have hD:Hd ea C (cxH P w K mg base N qual (gg st) f cdv A outer s H):=⟨hh,⟨o,ho,hx⟩,hH,l,by simp[cxOf]⟩;obtain⟨e',hg⟩:=j c d L ea;have t:=(U cdv A outer s H ea C c (gd λa=>O a\/H a=none) H (by rw[L];rfl) hc hD).out [] r (start N [.ref ea]) H { nx:=λ_ H'=>Q .non H',rt:=Q } I
  ⟨NoW,_,_,e',ux (K:=K) (O:=O) (.cons (.exc ea) .nil),hg,λW' R v H' st z rp=>hQ v H' z.stay (rp.mono (λ_ _ h=>h) λa us o h=>⟨o.1,h⟩)⟩
 refine wpAny_mono t (λfl s' Z=>?_) λe s' Z=>False.elim Z;have i:∀ {R:St} {H':Hp} {v:V} {u:Value},Inv (cxH P w K mg base N qual (gg st) f cdv A outer s H) [] R H' s'->RelV v u->Q v H'->CE outer P w H s Q u s' :=
  λ{R H' v u} J B q=>⟨v,H',J.os,J.bare,J.base,J.hok,B,q⟩
 cases fl with
 | ret u =>
   obtain⟨v,R,H',J,B,q⟩:=Z;exact i J B q
 | next =>
   obtain⟨R,H',J,q⟩:=Z;exact i (v:=V.non) (u:=Value.none) J rfl q
 | brk =>
   obtain⟨_,_,_,q⟩:=Z;exact False.elim q
 | cont =>
   obtain⟨_,_,_,q⟩:=Z;exact False.elim q
def KCl(P:Program)(w:World)(K:kf)(mg:Str->g9)(base:Heap)(x:Str)(k:Nat)(kd:Str->k8):Prop :=
 ∃f fd ps,KOk P w K mg base k f fd ps kd/\mg x=some (.ref f)/\PySem.W.keepIn K (.ref f)=true/\Binds K fd ps []/\(x==("__debug__" : Str))=false
def fKd(ea:Addr)(c:Str)(kd:Str->k8)(i:Nat):FE:=λe=>match e[i]? with | some (some (.sh (.exc a)))=>if a=ea then(kd c).map λd=>(d,e) else none | _=>none
variable{c:Str}
theorem z1s{y:Str}{p:Pos}(g:X.A.handled=some (.ref ea))(j:(ea,o)∈X.pn)(l:Exo o C)(m:Cl X.K c C)(n:KCl X.prog X.w X.K X.mg X.base x k kd)(t:Room k { X.A with handled:=none })(an:Ats Nn Cn X)(B:Gl X x)(R:Nn[i]?=some y)(Z:starEach [.Name y p1] X.env=(false,eval (.Name y p1) X.env)::starEach [] X.env)(S:(backTo pos (starEach [] X.env)).any (·.1)=false):DEx X G H0 (.Call (.Name x p) [.Name y p1] [] pos) (fKd ea c kd i):=⟨λpins s σ H Q I U=>by
 obtain⟨W,env,d,env',ok,q,k⟩:=U;obtain⟨f,fd,ps,F,E,L,M,Y⟩:=n;unfold fKd at q;split at q;case h_2=>cases q
 rename_i a N;split at q;case isFalse=>cases q
 rename_i O;subst O;cases e2:kd c with
 | none=>rw[e2] at q;cases q
 | some d' =>
   rw[e2] at q;cases q;obtain⟨v',P,T⟩:=ok.slot i _ N;obtain rfl:=Rep.exc_ T;refine wpAny_Call_Name_kw (vt I B E ?_ Y);refine jb (h₀:=X.base) I.ok.mod.kin L (thn ((mw (an.a R).pe pk Z) pos pins s σ H (λvs H1=>vs=[V.ref a]/\H1=H) I ⟨_,P,rfl,rfl⟩) λus b U=>?_) Z S;obtain⟨vs,H1,D,r,q1,q2⟩:=U;refine⟨D.kIn,?_⟩;subst q1 q2;obtain⟨u,rfl,hu⟩:=vh r;cases (show u=Value.ref a from hu);obtain⟨g1,g2,g3,g4,_⟩:=D.pin (a,o) (d6 _ j);have hl:([Value.ref a]++[]).length=ps.length:=by rw[F.len];rfl
   have hz:=M b [Value.ref a] D.kIn hl;refine wpAny_call (codeAny_mono (F.run X.A X.stack b H1 a C c o _ (Ow G W) Q ⟨[.ref a],[]⟩ t g D.env0 hz g1 l m g2 (λz=>?_) e2 λv H2 sm r2=>?_) λr s' J=>?_)
   ·rcases ce.mp (D.stkSub a z) with z | z
    ·exact g3 z
    ·exact g4 z
   ·refine k W v H2 (Step.same sm) (ok.same sm) (r2.mono (λ_ _ h=>h) λa us o h=>⟨?_,h⟩)
    rcases o with o | o
    ·exact o
    ·exact⟨ok.good a (ok.stay.free o),λz=>by obtain⟨_,us,q⟩:=ok.wl a z;rw[o] at q;cases q⟩
   ·cases r with
    | error e=>exact False.elim J
    | ok fl =>
      cases fl with
      | ret u=>exact D.after J
      | next=>exact False.elim J
      | brk=>exact False.elim J
      | cont=>exact False.elim J⟩
variable{M:Model}
def zvg(I:Inv X pins σ H s)(l:X.N.Nodup)(hi:X.N[i]?=some x)(r:X.env.kindOf x=some .local)(h:∀s',Inv X pins (σ.set i none) H s'->Q () s'):wpAny M A (do bindName X.env x .none;unbindBehindTheSuite X.env x pos) Q E s:=by
 obtain⟨m,t,u⟩:=id I.loc;have R:(X.env.scope.kind==.class || (X.env.scope.kind==.module && X.env.locals != X.env.globals))=false:=by rw[I.ok.kind];rfl
 have S:i<σ.length:=by rw[I.len];exact(ai.mp hi).1
 refine wpAny_nameGoes_keeps r t R λh' v Y D=>?_;refine h _ ⟨I.ok,I.os,I.bare,⟨λb o e n Z U=>?_,λb o e n Z U=>?_,I.base.free,λb o e U=>?_,I.base.tups,I.base.frzs,I.base.tbls⟩,⟨_,Y,λj y w J V B=>?_⟩,λy c e=>?_,I.free,I.freeC,λp C=>?_,λb F e=>?_,by simpa using I.len⟩
 ·exact(D.2 b (b8 (bh (bi e) I.ok.above))).trans (I.base.keep b o e n Z U)
 ·obtain⟨sl,J⟩:=I.base.slot b o e n Z U
  exact⟨sl,(D.2 b (b8 (bh (bi e) I.ok.above))).trans J⟩
 ·obtain⟨o',J⟩:=I.base.there b o e U
  exact⟨o',(D.2 b (b8 (bh (bi e) I.ok.above))).trans J⟩
 ·by_cases a:j=i
  ·subst a
   rw[di S] at V;cases V
  ·rw[dg (Ne.symm a)] at V
   obtain⟨G,K,q⟩:=u j y w J V B;refine⟨G,K,?_⟩;rcases q with⟨k,e⟩ | ⟨k,c,e,z⟩
   ·refine .inl ⟨k,?_⟩
    have:y≠x:=λe=>a (zm3 l J (e ▸ hi));simp[this,e]
   ·exact .inr ⟨k,c,e,z.sameBut D (I.cne y c e)⟩
 ·obtain⟨f,z⟩:=I.cell y c e
  exact⟨f,z.sameBut D (I.cne y c e)⟩
 ·obtain⟨e,n,g,L,d⟩:=I.pin p C
  exact⟨(D.2 p.1 g).trans e,n,g,L,d⟩
 ·refine(I.hok b F e).stay (λc f hc q=>(D.2 c ?_).trans q) (λ_ q=>q) λ_ _ q=>q
  rintro rfl;rcases hc with hc | hc
  ·rw[<-hc,I.free] at e;cases e
  ·rw[I.free] at hc;cases hc
def ObjOk.here{a:Addr}{o:HO}(x:ObjOk P w H h a o):∃u,h.get? a=some u:=by
 induction o with
 | lst xs=>obtain⟨_,_,_,_,e⟩:=x;exact⟨_,e⟩
 | tup xs=>obtain⟨_,_,_,o,e,_⟩:=x;exact⟨_,e⟩
 | dK kvs=>obtain⟨_,_,_,_,o,_,_,e,_⟩:=x;exact⟨_,e⟩
 | dT kvs=>obtain⟨_,_,_,_,o,_,_,e,_⟩:=x;exact⟨_,e⟩
 | set S n=>obtain⟨o,_,_,_,e,_⟩:=x;exact⟨_,e⟩
 | ins C dx fs=>exact⟨_,x.2.2.2.1⟩
 | own _=>exact x
 | xd fs=>obtain⟨_,⟨_,_,_,e,_⟩,_⟩:=x;exact⟨_,e⟩
 | met f y=>exact⟨_,x⟩
 | rng lo hi=>obtain⟨_,_,_,e⟩:=x;exact⟨_,e⟩
 | frz o u _=>exact⟨_,x.1⟩
 | tbl ps=>exact⟨_,x⟩
 | ext φ=>exact x.2.1
variable{W:Addr->Prop}{env:DE0}
def Ok.unset(ok:Ok K G H0 W env σ H)(i:Nat):Ok K G H0 W (env.set i none) (σ.set i none) H:=by
 have gt:∀ {α:Type} {l:List (Option α)} {j:Nat} {a:α},(l.set i none)[j]?=some (some a)->i≠j/\l[j]?=some (some a):=λ{α l j a} e=>by
  by_cases h:i=j
  ·subst h
   rw[gl] at e;simp at e
  ·rw[dg h] at e
   exact⟨h,e⟩
 refine⟨ok.stay,ok.good,ok.wl,λj s e=>?_,λj I s s' v J a D R S U=>ok.uniq j I s s' v J a (gt D).2 (gt R).2 (gt S).2 (gt U).2,by rw[dw,dw];exact ok.len⟩;obtain⟨h,e⟩:=gt e;obtain⟨v,D,h1⟩:=ok.slot j s e;exact⟨v,by rw[dg h];exact D,h1⟩
abbrev Cx.tr(X:Cx)(E:Value->Shared->Prop)(pp:kl):Cx:={ X with xe:=E,pn:=pp++X.pn }
def Inv.tr(I:Inv X pins σ H s):Inv (X.tr E pins) [] σ H s :=
 ⟨⟨I.ok.mod,I.ok.kind,I.ok.glob,I.ok.blt,I.ok.above,I.ok.inj,I.ok.has,I.ok.cab,I.ok.hd,I.ok.frames,I.ok.stk,I.ok.exf,I.ok.bs,I.ok.bsz,I.ok.noex,I.ok.exfs,I.ok.funs,I.ok.frf⟩,I.os,I.bare,I.base,I.loc,I.cell,I.free,I.freeC,λq D=>I.pin q (by
  rw[dh] at D;exact cz.mpr (cz.mp D).symm),I.hok,I.len⟩
variable{pp:kl}
def Inv.untr(ok:X.Ok)(I:Inv (X.tr E pins) pp σ H s):Inv X pins σ H s :=
 ⟨ok,I.os,I.bare,I.base,I.loc,I.cell,I.free,I.freeC,λq D=>I.pin q (d6 _ (cz.mpr (cz.mp D).symm)),I.hok,I.len⟩
variable{cs:g7}
def Ats.tr(h:Ats N cs X):Ats N cs (X.tr E pp):=⟨h.n,λi x e=>let z:=h.get i x e;⟨z.n,z.v,z.d,z.c⟩,h.ck⟩
def Tos.tr(h:Tos N X):Tos N (X.tr E pp):=⟨λi x e=>let z:=h.to i x e;⟨z.nd,z.n,z.l,z.f⟩⟩
def Ats.hush(h:Ats N cs X):Ats N cs (X.hush A pp):=⟨h.n,λi x e=>let z:=h.get i x e;⟨z.n,z.v,z.d,z.c⟩,h.ck⟩
def Tos.hush(h:Tos N X):Tos N (X.hush A pp):=⟨λi x e=>let z:=h.to i x e;⟨z.nd,z.n,z.l,z.f⟩⟩
def sTry(u:FS)(i j:Nat)(kd:Str->k8):FS:=λe=>(u e).bind λr=>match r.1 with | .xc c=>(kd c).map λd=>(.nx,((r.2.set i none).set j (some (.sh d))).set i none) | _=>some r
def set3{α:Type}(l:List (Option α))(i j:Nat)(a b:Option α):((l.set i a).set j b).set i none=((l.set i none).set j b).set i none:=by
 by_cases h:i=j
 ·subst h;simp[om]
 ·rw[List.set_comm _ _ h,om,List.set_comm _ _ h,om]
variable{e:Addr}{H':Hp}{s':Shared}
def Fly.obj(R:X.stack=X.env::X.outer)(S:X.env.frame=some X.env.locals)(f:Fly X.prog X.w X.stack H s C e H' s'):∃o,s'.heap.get? e=some o/\Exo o C/\H' e=none/\e≠X.env.locals/\e∉X.fs/\∀v,o.data≠.cell v:=by
 obtain⟨B,x,a,U,un,os,b⟩:=f;obtain⟨V,vs,T,c,ts,J,Y,gd,I,d,Z,_⟩:=x.tr;have D:e∉frs X.stack:=λz=>by
  obtain⟨_,g,y,n⟩:=x.fr.mem z;rw[J] at y;cases y;exact n vs I
 rw[R] at D;have D:e∉X.env.locals::X.fs:=by unfold frs at D;rw[jz,S] at D;exact D
 refine⟨V,J,⟨⟨vs,Y,I,Z⟩,gd⟩,?_,λz=>D (z ▸ bc),λz=>D (am _ z),λv z=>by rw[I] at z;cases z⟩;cases q:H' e with
 | none=>rfl
 | some o =>
   obtain⟨u,z⟩:=(U e o q).here;rw[x.new] at z;cases z
def Fly.flight(I:Inv X pins σ H s)(f:Fly X.prog X.w X.stack H s C e H' s')(h:∀h2,Fly X.prog X.w X.stack H s C e H' { s' with heap:=h2 }->Q () { s' with heap:=h2 }):wpAny M A (setFlight (.ref e) none) Q E s':=by
 obtain⟨B,x,S,V,un,os,Y⟩:=f;refine zqj x λh2 U Z a=>h h2 ⟨B,U,S,V,⟨λb o q n D _=>U.stay b o (S b o q n D),λb o q n D J=>?_,un.free,λb o q J=>?_,un.tups,un.frzs,un.tbls⟩,os,Y⟩
 ·obtain⟨sl,z⟩:=un.slot b o q n D J
  obtain⟨_,g,y,c⟩:=I.stack.mem D;rw[q] at y;cases y;obtain⟨R,d⟩:=Z b _ z c;exact⟨R,d⟩
 ·obtain⟨o',z⟩:=un.there b o q J
  exact a b o' z
def z1t{body:List Stmt}{u:FS}{j jr:Nat}{R y z:Str}{RA:Addr}{T h O p6 p7:Pos}(hR:X.mg R=some (.ref RA))(m:∀c C,(kd c).isSome=true->Cl X.K c C->PySem.W.exmOne X.K (.ref C) (.ref RA)=some true)(kc:KCl X.prog X.w X.K X.mg X.base x k kd)(rm:Room jr X.A)(an:Ats Nn Cn X)(U:Tos Nn X)(hb:∀E pp,Ats Nn Cn (X.tr E pp)->Tos Nn (X.tr E pp)->DBx (X.tr E pp) G H0 body u)(B:k<=jr:=by decide)(aa:Gl X R:=by walk_at "g")(ab:Gl X x:=by walk_at "g")(hi:Nn[i]?=some y:=by rfl)(hj:Nn[j]?=some z:=by rfl)(hl:X.env.kindOf y=some .local:=by kernel_rfl)(hX:X.stack=X.env::X.outer:=by rfl)(hf:X.env.frame=some X.env.locals:=by rfl)(ag:(R==("__debug__" : Str))=false:=by decide)(he:starEach [.Name y h] X.env=(false,eval (.Name y h) X.env)::starEach [] X.env:=by rfl)(al:(backTo O (starEach [] X.env)).any (·.1)=false:=by rfl)(ap:swapsWith (.Call (.Name x T) [.Name y h] [] O) (some (.Name z p2)) p6.line X.env=pure false:=by rfl) :
  DSx X G H0 (.Try body [.ExceptHandler (some (.Name R p1)) (some y) [.Assign [.Name z p2] (.Call (.Name x T) [.Name y h] [] O) p6] p7] [] [] pos) (sTry u i j kd):=⟨λpins s σ H Dn I zq=>by
 obtain⟨W,env,fl,env',ok,q,k⟩:=zq;unfold sTry at q;cases e1:u env with
 | none=>rw[e1] at q;cases q
 | some r =>
   obtain⟨F,S⟩:=r;rw[e1,ac] at q;refine wpAny_Try_except ?_;refine wpAny_mono ((hb _ pins an.tr U.tr).out [] s σ H Dn I.tr ⟨W,env,F,S,ok,e1,?_⟩) (λf s1 h1=>?_) (λe s1 h1=>h1)
   ·cases F with
    | xc c=>?_
    | nx=>cases q;exact k
    | bk=>cases q;exact k
    | ct=>cases q;exact k
    | rt d=>cases q;exact k
    | rf d=>cases q;exact k
    | r2 d=>cases q;exact k
    | ra d d'=>cases q;exact k
    cases e2:kd c with
    | none=>simp only[e2,li] at q;cases q
    | some d =>
      simp only[e2,aj] at q;cases q;intro W' D H' C hc st L ar e s' xs;refine xs.come hX hf λh2 s1 H1 I1 f=>?_;have J:Inv X pins D H' { s' with heap:=h2 }:=(f.inv I1).untr I.ok;obtain⟨o,P,g2,_⟩:=Fly.obj (X:=X) hX hf f;refine wpAny_handleBy_cons (codeAny_handlers_test ?_) (λz=>nomatch z);refine vt (J.hush (A:=X.A.mark (some (.ref e))) (p:=[]) rfl (by simp)) aa hR ?_ ag;refine(exm_one (M:=model X.prog X.w) J.kIn (g2.inst P).type (m c C (by rw[e2];rfl) hc)).here ?_;refine codeAny_handlers_suite_as ?_;refine f.flight I1 λh3 f3=>?_;have J3:Inv X pins D H' { s' with heap:=h3 }:=(f3.inv I1).untr I.ok;obtain⟨N,P,g2,g3,g4,g5,g6⟩:=Fly.obj (X:=X) hX hf f3;have a0:i<S.length:=by
       rw[L.len,J3.len];exact(ai.mp (U.t hi).n).1
      refine zlj (X:=X.hush (X.A.mark (some (.ref e))) []) (J3.hush rfl (by simp)) (U.t hi).nd (U.t hi).n (U.t hi).l (v:=.ref e) rfl (λs4 I4 zq=>?_) (U.t hi).f;obtain⟨a,sb,ha⟩:=zq;have ge:s4.heap.get? e=some N:=(sb.2 e λz=>by
       rcases ha with ha | ha
       ·exact g4 (z.trans ha)
       ·obtain⟨v,oc,h1,h2⟩:=J3.cell _ _ ha
        rw[<-z] at h1;cases P.symm.trans h1;exact g6 v h2).trans P
      have I5:Inv ((X.hush (X.A.mark (some (.ref e))) [(e,N)]).nox) pins (D.set i (some (.ref e))) H' s4:=((I4.unhush I.ok).hush (A:=X.A.mark (some (.ref e))) (p:=[(e,N)]) rfl (λq hq=>by cases cy.mp hq;exact⟨ge,g3,g4,g5,g6⟩)).wish _;have hs:=(dy (fx (X:=(X.hush (X.A.mark (some (.ref e))) [(e,N)]).nox) (G:=G) (H0:=H0) (pos:=p6) (p':=p2) U.hush.nox (z1s (C:=C) (c:=c) (o:=N) (p:=T) (p1:=h) (pos:=O) rfl (d6 _ bc) g2 hc kc ⟨rfl,(rm.mono B).dp,(rm.mono B).un⟩ an.hush.nox ab hi he al) hj ap)).out pins s4 _ H' { nx:=λV Q=>∃b,Step W' H' b Q/\Ok X.K G H0 b ((S.set i (some (.sh (.exc e)))).set j (some (.sh d))) V Q,rt:=λ_ _=>False } I5 ⟨W',S.set i (some (.sh (.exc e))),.nx,_,L.set (.exc e),by
       unfold sSet fKd;rw[di a0];dsimp only;rw[if_pos rfl,e2];rfl,λb V Q Y Z=>⟨b,Y,Z⟩⟩
      refine wpAny_mono hs (λf5 s5 g=>?_) (λx s5 g=>False.elim g);cases f5 with
      | next =>
        obtain⟨V,Q,J5,b,Y,Z⟩:=g;refine zvg (J5.unwish.unhush I.ok) (U.t hi).nd (U.t hi).n hl λs6 J7=>⟨_,_,J7,k b _ _ (st.trans Y) ?_⟩;rw[<-set3];exact Z.unset i
      | brk=>obtain⟨_,_,_,z⟩:=g;exact z.elim
      | cont=>obtain⟨_,_,_,z⟩:=g;exact z.elim
      | ret u=>obtain⟨_,_,_,_,_,z⟩:=g;exact z.elim
   ·cases f with
    | next =>
      obtain⟨D,H',J,q⟩:=h1;exact wpAny_execs_nil ⟨D,H',J.untr I.ok,q⟩
    | brk=>obtain⟨D,H',J,q⟩:=h1;exact⟨D,H',J.untr I.ok,q⟩
    | cont=>obtain⟨D,H',J,q⟩:=h1;exact⟨D,H',J.untr I.ok,q⟩
    | ret u=>obtain⟨v,D,H',J,r,q⟩:=h1;exact⟨v,D,H',J.untr I.ok,r,q⟩⟩
def lc:g7:=["UnknownStack", "EmptyStack", "UnknownPlace", "BadHours", "BadLoss", "BadCount", "HouseFull", "DeedsFull", "NothingWaits", "NothingDone", "ShortOrder", "TooManyOrders", "NotGone"]
def pf:g7:=["unknown stack", "empty stack", "unknown place", "bad hours", "bad loss", "bad count", "house full", "deeds full", "nothing waits", "nothing done", "short order", "too many orders", "not gone"]
def xi(c:Str):ka:=(lc.zip pf).lookup c
def kdT(c:Str):k8:=(xi c).map λw=>.tup [.str "refused",.str w]
def z1u(K:kf)(C:Addr):Bool:=findIn K (.ref C) "__getattribute__"==some (some (.builtin "BaseException.__getattribute__")) && findIn K (.ref C) "__getattr__"==some none && (match findObj K C none "__class__" with | some (.bind (.builtin g) (.builtin a))=>g=="getset_descriptor.__get__" && a=="object.__class__" | _=>false) && mroIn K C (.type "object")==some true && mroIn K C (.type "BaseException")==some true
def refB(K:kf)(n:Str)(p:Addr->Bool):Bool:=match nsIn K mainGlobals n with | some (some (.ref R))=>p R | _=>false
def z5c(K:kf):Bool:=lc.all λc=>refB K c λC=>z1u K C && kitOne K (.ref C) (.type "ValueError")==some true && refB K "RotError" (λR=>exmOne K (.ref C) (.ref R)==some true) && lc.all λn=>refB K n λR=>kitOne K (.ref C) (.ref R)==some (c==n)
def znw{n:Str}{p:Addr->Bool}(h:refB K n p=true):∃R,nsIn K mainGlobals n=some (some (.ref R))/\p R=true:=by
 unfold refB at h;split at h
 ·exact⟨_,by assumption,h⟩
 ·cases h
def zyd(h:z1u K C=true):ECls K C:=by
 unfold z1u at h;simp only[d9,beq_iff_eq] at h;obtain⟨⟨⟨⟨h1,h2⟩,D⟩,I⟩,J⟩:=h;refine⟨h1,h2,?_,I,J⟩;split at D
 ·rename_i g a e
  rw[d9,beq_iff_eq,beq_iff_eq] at D;rw[e,D.1,D.2]
 ·cases D
def zmu(h:(kdT c).isSome=true):c∈lc:=by
 unfold kdT at h;rw[Option.isSome_map] at h;obtain⟨w,e⟩:=ko.mp h;exact(jy (eg e)).1
structure KFacts (K:kf) (mg:Str->g9):Prop where
 b:z5c K=true
 m:∀n∈("RotError" : Str)::lc,∀R,nsIn K mainGlobals n=some (some (.ref R))->mg n=some (.ref R)
def kf_mk(X:K.In h)(G:h.Ns mainGlobals mg)(b:z5c K=true):KFacts K mg:=⟨b,λ_ _ _ e=>mg_of X G e⟩
def KFacts.all(k:KFacts K mg)(S:(kdT c).isSome=true)(cl:Cl K c C):ECls K C/\kitOne K (.ref C) (.type "ValueError")=some true/\(∃R,mg "RotError" = some (.ref R)/\exmOne K (.ref C) (.ref R)=some true)/\∀n∈lc,∃R,mg n=some (.ref R)/\kitOne K (.ref C) (.ref R)=some (c==n):=by
 have h:=gq.mp k.b c (zmu S);obtain⟨Y,e,h⟩:=znw h;cases e.symm.trans cl;simp only[d9,beq_iff_eq] at h;obtain⟨⟨⟨h1,h2⟩,D⟩,I⟩:=h;obtain⟨R,U,D⟩:=znw D;refine⟨zyd h1,h2,⟨R,k.m _ bc R U,beq_iff_eq.mp D⟩,λn J=>?_⟩;obtain⟨R,V,I⟩:=znw (gq.mp I n J);exact⟨R,k.m _ (am _ J) R V,beq_iff_eq.mp I⟩
def KFacts.rot(k:KFacts K mg):∃R,mg "RotError" = some (.ref R)/\∀c C,(kdT c).isSome=true->Cl K c C->exmOne K (.ref C) (.ref R)=some true:=by
 have h:=gq.mp k.b "UnknownStack" (by decide);obtain⟨S,e,_⟩:=znw h;obtain⟨_,_,⟨R,D,_⟩,_⟩:=k.all (c:="UnknownStack") (by decide) e;refine⟨R,D,λc C I cl=>?_⟩;obtain⟨_,_,⟨U,J,z⟩,_⟩:=k.all I cl;cases D.symm.trans J;exact z
def o5(U:KFacts X.K X.mg)(V:(kdT c).isSome=true)(cl:Cl X.K c C)(Y:Hd ea C X)(an:Ats Nn Cn X)(Z:cn∈lc:=by decide)(a:Gl X cn:=by walk_at "g")(D:(cn==("__debug__" : Str))=false:=by decide)(b:Bn X "isinstance":=by walk_at "b")(I:Nn[i]?=some x:=by rfl)(d:starEach [.Name x p1,.Name cn p2] X.env=(false,eval (.Name x p1) X.env)::starEach [.Name cn p2] X.env:=by rfl)(J:starEach [.Name cn p2] X.env=(false,eval (.Name cn p2) X.env)::starEach [] X.env:=by rfl)(S:(backTo pos (starEach [.Name cn p2] X.env)).any (·.1)=false:=by rfl) :
  DEx X G H0 (.Call (.Name "isinstance" p') [.Name x p1,.Name cn p2] [] pos) (fIsx ea i (c==cn)):=by
 obtain⟨e,_,_,h⟩:=U.all V cl;obtain⟨R,f,g⟩:=h cn Z;exact z5a Y e f g an a D b I d J S
def z5d(R:KFacts X.K X.mg)(S:(kdT c).isSome=true)(cl:Cl X.K c C)(U:Hd ea C X)(an:Ats Nn Cn X)(V:Bn X "ValueError":=by walk_at "b")(Y:Bn X "isinstance":=by walk_at "b")(D:Nn[i]?=some x:=by rfl)(Z:starEach [.Name x p1,.Name "ValueError" p2] X.env=(false,eval (.Name x p1) X.env)::starEach [.Name "ValueError" p2] X.env:=by rfl)(I:starEach [.Name "ValueError" p2] X.env=(false,eval (.Name "ValueError" p2) X.env)::starEach [] X.env:=by rfl)(J:(backTo pos (starEach [.Name "ValueError" p2] X.env)).any (·.1)=false:=by rfl) :
  DEx X G H0 (.Call (.Name "isinstance" p') [.Name x p1,.Name "ValueError" p2] [] pos) (fIsx ea i true):=z1q U (R.all S cl).1 (R.all S cl).2.1 an V Y D Z I J
theorem z68(T:Def K mg st x ps)(N:g7)(D:∀c d,kd c=some d->runK N.length g c d)(I:∀ {f:Addr} {cdv:Value} {A:Around} {outer:i0} {s:Shared} {H:Hp} {ea C:Addr} {c:Str} {G:Gd} {H0:Hp},(kd c).isSome=true->Cl K c C->Hd ea C (cxH P w K mg base N x (gg st) f cdv A outer s H)->Ats N (celN N (gg st)) (cxH P w K mg base N x (gg st) f cdv A outer s H)->Tos N (cxH P w K mg base N x (gg st) f cdv A outer s H) ->
   DBx (cxH P w K mg base N x (gg st) f cdv A outer s H) G H0 (lr st) (g ea c))(h:scB N ps (gg st)=true:=by decide +kernel)(J:okN x=true:=by decide +kernel)(R:ps.length=1:=by rfl):KCl P w K mg base x (k+1) kd:=by
 obtain⟨f,fd,F,b,m⟩:=T;exact⟨f,fd,ps,fn_K F (oq h).1 rfl R D λcdv A outer s H ea C c G H0 S U V=>I S U V (qw h).nox.hush (qv h).nox.hush,m,F.kp,b,(tf J).1⟩
def z1v(ea:Addr)(c:Str):FS:=sSeq (sSet 1 (fLst (f8 (aw (fIsx ea 0 (c=="UnknownStack")) (aw (fIsx ea 0 (c=="EmptyStack")) fNil))))) (sSeq (sSet 1 (fLst (fCat (fVar 1) (fLst (f8 (aw (fIsx ea 0 (c=="UnknownPlace")) (aw (fIsx ea 0 (c=="BadHours")) fNil))))))) (sSeq (sSet 1 (fLst (fCat (fVar 1) (fLst (f8 (aw (fIsx ea 0 (c=="BadLoss")) (aw (fIsx ea 0 (c=="BadCount")) fNil))))))) (sSeq (sSet 1 (fLst (fCat (fVar 1) (fLst (f8 (aw (fIsx ea 0 (c=="HouseFull")) (aw (fIsx ea 0 (c=="DeedsFull")) fNil))))))) (sSeq (sSet 1 (fLst (fCat (fVar 1) (fLst (f8 (aw (fIsx ea 0 (c=="NothingWaits")) (aw (fIsx ea 0 (c=="NothingDone")) fNil))))))) (sSeq (sSet 1 (fLst (fCat (fVar 1) (fLst (f8 (aw (fIsx ea 0 (c=="ShortOrder")) (aw (fIsx ea 0 (c=="TooManyOrders")) fNil))))))) (sSeq (sSet 1 (fLst (fCat (fVar 1) (fLst (f8 (aw (fIsx ea 0 (c=="NotGone")) fNil)))))) (sSeq (sSet 2 (fLst (f8 (aw (fC (.str "unknown stack")) (aw (fC (.str "empty stack")) (aw (fC (.str "unknown place")) (aw (fC (.str "bad hours")) (aw (fC (.str "bad loss")) (aw (fC (.str "bad count")) fNil))))))))) (sSeq (sSet 2 (fLst (fCat (fVar 2) (fLst (f8 (aw (fC (.str "house full")) (aw (fC (.str "deeds full")) (aw (fC (.str "nothing waits")) (aw (fC (.str "nothing done")) (aw (fC (.str "short order")) fNil)))))))))) (sSeq (sSet 2 (fLst (fCat (fVar 2) (fLst (f8 (aw (fC (.str "too many orders")) (aw (fC (.str "not gone")) fNil))))))) (sSeq (sSet 3 (fLst (iz (jw iR1 (aw (fC (.int 13)) fNil)) [2,1,0] (fAnd (fTst (fIxV 2 (fVar 0))) (fTst (fIsx ea 3 true))) (fIxV 1 (fVar 0))))) (sRet (d5 bTup (aw (fLst (fCat (fLst (f8 (aw (fC (.str "refused")) fNil))) (fVar 3))) fNil)))))))))))))
end L2
namespace LB
open PySem L2
def zlu:FS:=sRet (fBin dSub (fBin dMul (fIxV 0 (fC (.int 1))) (fIxV 1 (fC (.int 0)))) (fBin dMul (fIxV 1 (fC (.int 1))) (fIxV 0 (fC (.int 0)))))
def zhb:k7->k8:=runD 2 2 zlu
def zgi:FS:=sSeq (sSet 2 (d5 zhb (aw (fVar 0) (aw (fVar 1) (fNil))))) (sSeq (sIf (fTst (fBin dGt (fVar 2) (fC (.int 0)))) (sRet (fC (.int 1))) (sNil)) (sSeq (sIf (fTst (fBin dLt (fVar 2) (fC (.int 0)))) (sRet (fUn dNeg (fC (.int 1)))) (sNil)) (sRet (fC (.int 0)))))
def t4:k7->k8:=runD 3 2 zgi
def zk0:FS:=sRet (wz (fIsi "int" (fVar 0)) (z01 (fIsi "bool" (fVar 0))))
def u5:k7->k8:=runD 1 1 zk0
def zlv:FS:=sSeq (sIf (fTst (fBin dLt (fVar 1) (i9 0))) (sRet (fIxV 0 (fVar 1))) (sNil)) (sRet (fC (.int 0)))
def zid:k7->k8:=runD 2 2 zlv
def zex:FS:=sSeq (sSet 5 (d5 zid (aw (fVar 0) (aw (fVar 4) (fNil))))) (sSeq (sIf (fTst (fBin dEq (fBin dMod (i9 0) (fC (.int 2))) (fC (.int 1)))) (sSeq (sSet 3 (fBin dMod (fBin i4 (fBin i4 (fBin i4 (fBin dMul (fVar 3) (fC (.int 48271))) (fVar 5)) (fVar 4)) (fC (.int 1))) (fC (.int 2147483647)))) (sSet 5 (fBin dMod (fBin dMul (fBin i4 (fVar 3) (fVar 4)) (fC (.int 69621))) (fC (.int 2147483647))))) (sNil)) (i7 (nj 2 (fVar 5))))
def zk1:FS:=sSeq (sOwn 2 (f8 (fNil))) (sSeq (sSet 3 (fC (.int 7))) (sSeq (sFor 4 (jw iR1 (aw (fVar 1) (fNil))) (zex)) (sRet (fVar 2))))
def zfi:k7->k8:=runD 6 2 zk1
def zpp:FS:=sRet (fIxV 0 (fC (.int 1)))
def u4:k7->k8:=runD 1 1 zpp
def zqu:FS:=sRet (fIxV 0 (fC (.int 2)))
def wf:k7->k8:=runD 1 1 zqu
def zl9:FS:=sRet (fTup (aw (fC (.int 1)) (aw (d5 u4 (aw (fVar 0) (fNil))) (aw (d5 wf (aw (fVar 0) (fNil))) (fNil)))))
def zey:k7->k8:=runD 1 1 zl9
def zjc:FS:=sRet (fTup (aw (fBin i4 (fIxV 0 (fC (.int 0))) (fIxV 1 (fC (.int 0)))) (aw (fBin i4 (fIxV 0 (fC (.int 1))) (fIxV 1 (fC (.int 1)))) (aw (fBin i4 (fIxV 0 (fC (.int 2))) (fIxV 1 (fC (.int 2)))) (fNil)))))
def zez:k7->k8:=runD 2 2 zjc
def zj6:FS:=sRet (fTup (aw (fIxV 0 (fC (.int 1))) (aw (fIxV 0 (fC (.int 2))) (fNil))))
def zd2:k7->k8:=runD 1 1 zj6
def zcj:FS:=sRet (fBin dGt (d5 t4 (aw (d5 zd2 (aw (fVar 0) (fNil))) (aw (d5 zd2 (aw (fVar 1) (fNil))) (fNil)))) (fC (.int 0)))
def t5:k7->k8:=runD 2 2 zcj
def zdn:FS:=sSet 3 (d5 zez (aw (fPop 1) (aw (fVar 3) (fNil))))
def zdo:FS:=sSeq (sSet 3 (d5 zey (aw (fVar 2) (fNil)))) (sSeq (mf (fAnd (fTst (fBin dGt (i9 1) (fC (.int 0)))) (fNot (fTst (d5 t5 (aw (fIxV 1 (fUn dNeg (fC (.int 1)))) (aw (fVar 3) (fNil))))))) (zdn) 10000) (i7 (nj 1 (fVar 3))))
def zgq:FS:=sSeq (sOwn 1 (f8 (fNil))) (sSeq (sFor 2 (fiS (fVar 0)) (zdo)) (sRet (fVar 1)))
def zgr:k7->k8:=runD 4 1 zgq
def zc5:FS:=sSeq (sIf (fAnd (fTst (fIsi "str" (fIxV 1 (fVar 2)))) (fNot (fTst (fIsi "str" (fIxV 0 (fVar 2)))))) (sRet (fC (.bl false))) (sNil)) (sSeq (sIf (fAnd (fNot (fTst (fIsi "str" (fIxV 1 (fVar 2))))) (fNot (fTst (d5 u5 (aw (fIxV 0 (fVar 2)) (fNil)))))) (sRet (fC (.bl false))) (sNil)) (sIf (fTst (fBin dNe (fIxV 0 (fVar 2)) (fIxV 1 (fVar 2)))) (sRet (fC (.bl false))) (sNil)))
def zf5:FS:=sSeq (sIf (fOr (fNot (fTst (fIsi "tuple" (fVar 0)))) (fTst (fBin dNe (i9 0) (i9 1)))) (sRet (fC (.bl false))) (sNil)) (sSeq (sFor 2 (jw iR1 (aw (i9 1) (fNil))) (zc5)) (sRet (fC (.bl true))))
def zc1:k7->k8:=runD 3 2 zf5
def zk2:FS:=sRet (fTup (aw (fIxV 0 (fC (.int 2))) (aw (fIxV 0 (fC (.int 3))) (fNil))))
def wn:k7->k8:=runD 1 1 zk2
def zcc:FS:=sSet 2 (fBin i4 (fVar 2) (fC (.int 1)))
def zf6:FS:=sSeq (sSet 2 (fC (.int 0))) (sSeq (mf (fAnd (fTst (fBin dLt (fVar 2) (i9 0))) (fTst (fBin dGe (d5 t4 (aw (d5 wn (aw (fIxV 0 (fVar 2)) (fNil))) (aw (d5 wn (aw (fVar 1) (fNil))) (fNil)))) (fC (.int 0))))) (zcc) 10000) (sRet (fVar 2)))
def zf7:k7->k8:=runD 3 2 zf6
def zc3:FS:=sSeq (sSet 7 (fTup (aw (fVar 2) (aw (fVar 4) (aw (fVar 5) (aw (fVar 6) (fNil))))))) (i7 (zng 1 (zh zf7 (zxv 1 (aw (fVar 7) (fNil)))) (fVar 7)))
def zd3:FS:=qr [4,5,6] (fiS (d5 zgr (aw (fVar 3) (fNil)))) (zc3)
def zhc:FS:=sSeq (sOwn 1 (f8 (fNil))) (sSeq (qr [2,3] (jw (iEn 1) (aw (fVar 0) (fNil))) (zd3)) (sRet (fVar 1)))
def yw:k7->k8:=runD 8 1 zhc
def ze0:FS:=i7 (zni 1 (fRep (f8 (aw (fVar 2) (fNil))) (fVar 3)))
def zie:FS:=sSeq (sOwn 1 (f8 (fNil))) (sSeq (qr [2,3,4,5] (fiS (d5 yw (aw (fVar 0) (fNil)))) (ze0)) (zxe 1))
def wm:k7->Option k7:=runF 6 1 zie
def zd4:FS:=sSeq (sSet 2 (fBin i4 (fVar 2) (fBin dIx (fIxV 0 (fVar 4)) (fC (.int 1))))) (sSeq (sSet 3 (fBin i4 (fVar 3) (fBin dIx (fIxV 0 (fVar 4)) (fC (.int 2))))) (sIf (fTst (fBin dGe (fBin dMul (fVar 3) (fIxV 1 (fC (.int 1)))) (fBin dMul (fIxV 1 (fC (.int 2))) (fVar 2)))) (sSet 1 (fLst (f8 (aw (fBin i4 (fVar 4) (fC (.int 1))) (aw (fVar 2) (aw (fVar 3) (fNil))))))) (sNil)))
def zhd:FS:=sSeq (sSet 1 (fLst (f8 (aw (fC (.int 0)) (aw (fC (.int 1)) (aw (fUn dNeg (fC (.int 1))) (fNil))))))) (sSeq (sSet 2 (fC (.int 0))) (sSeq (sSet 3 (fC (.int 0))) (sSeq (sFor 4 (jw iR1 (aw (i9 0) (fNil))) (zd4)) (sRet (fVar 1)))))
def zf8:k7->k8:=runD 5 1 zhd
def yu:FS:=sIf (fTst (fBin dGt (fBin dMul (fBin dIx (fIxV 3 (fVar 5)) (fC (.int 2))) (fBin dIx (fIxV 3 (fVar 4)) (fC (.int 1)))) (fBin dMul (fBin dIx (fIxV 3 (fVar 4)) (fC (.int 2))) (fBin dIx (fIxV 3 (fVar 5)) (fC (.int 1)))))) (sSet 4 (fVar 5)) (sNil)
def ze1:FS:=sSeq (sSet 3 (fLst (iz (fiV 1) [] fYes (d5 zf8 (aw (fVar 0) (fNil)))))) (sSeq (sSet 4 (fC (.int 0))) (sSeq (sFor 5 (jw iR1 (aw (i9 3) (fNil))) (yu)) (sSeq (i7 (nj 2 (fTup (aw (fBin i4 (fVar 4) (fC (.int 1))) (aw (fBin dIx (fIxV 3 (fVar 4)) (fC (.int 0))) (aw (fBin dIx (fIxV 3 (fVar 4)) (fC (.int 1))) (aw (fBin dIx (fIxV 3 (fVar 4)) (fC (.int 2))) (fNil)))))))) (uk 1 (fVar 4) (fLst (fSl (fIxV 1 (fVar 4)) (fO1 (fBin dIx (fIxV 3 (fVar 4)) (fC (.int 0)))) (fO0)))))))
def zif:FS:=sSeq (sOwn 1 (iz (fiS (fVar 0)) [] fYes (fLst (jw uf (aw (fVar 0) (fNil)))))) (sSeq (sOwn 2 (f8 (fNil))) (sSeq (mf (fTst (fBin dGt (d5 bSum (aw (fLst (iz (fiV 1) [] fYes (i9 0))) (fNil))) (fC (.int 0)))) (ze1) 10000) (sRet (fVar 2))))
def zfj:k7->k8:=runD 6 1 zif
def zhe:FS:=sOwn 1 (fCat (fVar 1) (fLst (fRep (f8 (aw (fIxV 2 (fC (.int 0))) (fNil))) (fIxV 2 (fC (.int 1))))))
def zjl:FS:=sSeq (sOwn 1 (f8 (fNil))) (sSeq (sFor 2 (fiS (d5 zfj (aw (fVar 0) (fNil)))) (zhe)) (zxe 1))
def zqv:k7->Option k7:=runF 3 1 zjl
def znx:FS:=sRet (fIxV 0 (fC (.int 0)))
def zfs:k7->k8:=runD 1 1 znx
def zhf:FS:=sIf (fOr (fTst (fBin dLt (fVar 1) (fC (.int 1)))) (fTst (fBin dGt (fVar 1) (i9 0)))) (zrr) (sNil)
def zhg:k7->k8:=runD 2 2 zhf
def zd5:FS:=sSeq (sIf (fTst (fBin dEq (fIxV 2 (fBin dSub (fVar 3) (fC (.int 1)))) (fC (.int 0)))) (zrr) (sNil)) (uj 2 dSub (fBin dSub (fVar 3) (fC (.int 1))) (fC (.int 1)))
def zhh:FS:=sSeq (sOwn 2 (iz (fiS (fVar 0)) [] fYes (i9 0))) (sSeq (sFor 3 (fiS (fVar 1)) (zd5)) (sIf (fTst (fBin dGt (zxu 2) (fC (.int 0)))) (zrr) (sNil)))
def zhi:k7->k8:=runD 4 2 zhh
def zd6:FS:=i7 (d5 zhg (aw (fVar 0) (aw (fVar 2) (fNil))))
def zhj:FS:=sSeq (sFor 2 (fiS (fVar 1)) (zd6)) (i7 (d5 zhi (aw (fVar 0) (aw (fVar 1) (fNil)))))
def zhk:k7->k8:=runD 3 2 zhj
def zd7:FS:=sSeq (i7 (nj 3 (fBin dIx (fIxV 0 (fBin dSub (fVar 4) (fC (.int 1)))) (fIxV 2 (fBin dSub (fVar 4) (fC (.int 1))))))) (uj 2 i4 (fBin dSub (fVar 4) (fC (.int 1))) (fC (.int 1)))
def zhl:FS:=sSeq (i7 (d5 zhk (aw (fVar 0) (aw (fVar 1) (fNil))))) (sSeq (sOwn 2 (iz (fiS (fVar 0)) [] fYes (fC (.int 0)))) (sSeq (sOwn 3 (f8 (fNil))) (sSeq (sFor 4 (fiS (fVar 1)) (zd7)) (sRet (fVar 3)))))
def zft:k7->k8:=runD 5 2 zhl
def zgs:FS:=sSeq (sSet 6 (fBin i4 (fVar 3) (d5 u4 (aw (fVar 5) (fNil))))) (sSeq (i7 (nj 2 (fTup (aw (d5 zfs (aw (fVar 5) (fNil))) (aw (fVar 4) (aw (fVar 3) (aw (fVar 6) (fNil)))))))) (sSet 3 (fVar 6)))
def zig:FS:=sSeq (sOwn 2 (f8 (fNil))) (sSeq (sSet 3 (fC (.int 0))) (sSeq (qr [4,5] (jw iZp (aw (fVar 1) (aw (d5 zft (aw (fVar 0) (aw (fVar 1) (fNil)))) (fNil)))) (zgs)) (sRet (fVar 2))))
def zpq:k7->k8:=runD 7 2 zig
def zgt:FS:=sSeq (sSet 3 (fBin i4 (fVar 3) (d5 u4 (aw (fVar 4) (fNil))))) (sSet 2 (fBin i4 (fVar 2) (fBin dMul (d5 wf (aw (fVar 4) (fNil))) (fVar 3))))
def zih:FS:=sSeq (sSet 2 (fC (.int 0))) (sSeq (sSet 3 (fC (.int 0))) (sSeq (sFor 4 (fiS (d5 zft (aw (fVar 0) (aw (fVar 1) (fNil))))) (zgt)) (sRet (fVar 2))))
def zii:k7->k8:=runD 5 2 zih
def ze2:FS:=sSeq (i7 (nj 3 (fBin dIx (fIxV 0 (fBin dSub (fVar 4) (fC (.int 1)))) (fIxV 2 (fBin dSub (fVar 4) (fC (.int 1))))))) (uk 2 (fBin dSub (fVar 4) (fC (.int 1))) (fBin i4 (fIxV 2 (fBin dSub (fVar 4) (fC (.int 1)))) (fC (.int 1))))
def zij:FS:=sSeq (sOwn 2 (iz (fiS (fVar 0)) [] fYes (fC (.int 0)))) (sSeq (sOwn 3 (f8 (fNil))) (sSeq (sFor 4 (fiS (fVar 1)) (ze2)) (sRet (fVar 3))))
def zik:k7->k8:=runD 5 2 zij
def zil:FS:=sRet (d5 zii (aw (fVar 0) (aw (fLst (jw wm (aw (fVar 0) (fNil)))) (fNil))))
def zgj:k7->k8:=runD 1 1 zil
def zhm:FS:=sSeq (sSet 1 (fBin i4 (fVar 1) (fIxV 3 (fC (.int 1))))) (sSet 2 (fBin i4 (fVar 2) (fBin dMul (fIxV 3 (fC (.int 2))) (fVar 1))))
def zjm:FS:=sSeq (sSet 1 (fC (.int 0))) (sSeq (sSet 2 (fC (.int 0))) (sSeq (sFor 3 (fiS (fVar 0)) (zhm)) (sRet (fVar 2))))
def zjn:k7->k8:=runD 4 1 zjm
def zc7:FS:=sSeq (sIf (fOr (fNot (fTst (d5 u5 (aw (fVar 3) (fNil))))) (fOr (fTst (fBin dLt (fVar 3) (fC (.int 1)))) (fTst (fBin dGt (fVar 3) (i9 1))))) (sRet (fC (.bl false))) (sNil)) (uk 2 (fBin dSub (fVar 3) (fC (.int 1))) (fBin i4 (fIxV 2 (fBin dSub (fVar 3) (fC (.int 1)))) (fC (.int 1))))
def zeq:FS:=sIf (fTst (fBin dNe (fIxV 2 (fVar 4)) (d5 bLen (aw (fIxV 1 (fVar 4)) (fNil))))) (sRet (fC (.bl false))) (sNil)
def zf9:FS:=sSeq (sIf (fNot (fTst (fIsi "list" (fVar 0)))) (sRet (fC (.bl false))) (sNil)) (sSeq (sOwn 2 (iz (fiS (fVar 1)) [] fYes (fC (.int 0)))) (sSeq (sFor 3 (fiS (fVar 0)) (zc7)) (sSeq (sFor 4 (jw iR1 (aw (i9 1) (fNil))) (zeq)) (sRet (fC (.bl true))))))
def zga:k7->k8:=runD 5 2 zf9
def zgu:FS:=sRet (d5 bSum (aw (fLst (iz (fiS (fVar 0)) [] fYes (i9 0))) (fNil)))
def ze3:k7->k8:=runD 1 1 zgu
def zd8:FS:=sSet 1 (fBin i4 (fVar 1) (d5 bSum (aw (fLst (iz (fiS (fVar 2)) [] fYes (d5 wf (aw (fVar 0) (fNil))))) (fNil))))
def zhn:FS:=sSeq (sSet 1 (fC (.int 0))) (sSeq (sFor 2 (fiS (fVar 0)) (zd8)) (sRet (fVar 1)))
def zho:k7->k8:=runD 3 1 zhn
def zko:FS:=sRet (fBin dIx (fIxV 0 (fBin dSub (fVar 1) (fC (.int 1)))) (fC (.int 0)))
def zi3:k7->k8:=runD 2 2 zko
def zim:FS:=sRet (fLst (fCat (fLst (fCat (fLst (fSl (fVar 0) (fO0) (fO1 (fBin dSub (fVar 1) (fC (.int 1)))))) (fLst (f8 (aw (fVar 2) (fNil)))))) (fLst (fSl (fVar 0) (fO1 (fVar 1)) (fO0)))))
def yl:k7->k8:=runD 3 3 zim
def zhp:FS:=sRet (d5 yl (aw (fVar 0) (aw (fVar 1) (aw (fLst (fSl (fIxV 0 (fBin dSub (fVar 1) (fC (.int 1)))) (fO1 (fC (.int 1))) (fO0))) (fNil)))))
def zfu:k7->k8:=runD 2 2 zhp
theorem z69(I:ik)(k:Nat):∃c,zid [.lst (I.map D.int),.int k]=some (.int c):=by
 by_cases h:(k:Int)<I.length
 ·obtain⟨x,h1,h2⟩:=z4z (xs:=I.map D.int) (i:=(k:Int)) (by lia) (by simpa using h)
  rw[cb] at h2;cases q:I[(k:Int).toNat]? with
  | none=>rw[q] at h2;cases h2
  | some c =>
    rw[q] at h2;cases h2;simp[zid,runD,zlv,jl,h,h1]
 ·refine⟨0,?_⟩
  simp[zid,runD,zlv,jl,h]
theorem zye(I:ik)(n:Nat)(f:n<=1000):∃cs:ik,cs.length=n/\zfi [.lst (I.map D.int),.int n]=some (.lst (cs.map D.int)):=by
 have loop:=yd (i:=4) (g:=zex)
  (λk e=>∃(cs:ik) (st:Int) (S U:la),cs.length=k/\e=[some (.sh (.lst (I.map D.int))),some (.sh (.int n)),some (.ow (cs.map D.int)),some (.sh (.int st)),S,U])
  (rngD 0 n) [some (.sh (.lst (I.map D.int))),some (.sh (.int n)),some (.ow []),some (.sh (.int 7)),none,none] ⟨[],7,none,none,rfl,rfl⟩ ?_
 ·obtain⟨e',h1,cs,st,S,U,R,rfl⟩:=loop
  refine⟨cs,by rw[R,yh],?_⟩;have Z:=qx n (by lia);simp[zfi,runD,zk1,jl,Z,h1]
 ·rintro k d e a ⟨cs,st,S,U,R,rfl⟩
  obtain⟨rfl,h⟩:=z8 a;obtain⟨c,V⟩:=z69 I k;have J:Few (cs.length+1):=few (by lia);by_cases Y:(I.length:Int) % 2=1
  ·refine⟨_,?_,cs++[((st*48271+c+k+1) % 2147483647+k)*69621 % 2147483647],(st*48271+c+k+1) % 2147483647,some (.sh (.int (0+k))),some (.sh (.int (((st*48271+c+k+1) % 2147483647+k)*69621 % 2147483647))),by simp[R],rfl⟩
   have b:l3 48271:=rj (by decide);have s2:l3 69621:=rj (by decide);simp[zex,V,Y,dMod,dMul,b,s2,J]
  ·refine⟨_,?_,cs++[c],st,some (.sh (.int (0+k))),some (.sh (.int c)),by simp[R],rfl⟩
   simp[zex,V,Y,dMod,J]
def z5e(a b c d:Int)(D:l3 b)(I:l3 d) :
  zhb [.tup [.int a,.int b],.tup [.int c,.int d]]=some (.int (b*c-d*a)):=by
 simp[zhb,runD,zlu,jl,dMul,D,I,atI,ixN]
theorem zr8(a b c d:Int)(R:l3 b)(S:l3 d) :
  t4 [.tup [.int a,.int b],.tup [.int c,.int d]]=some (.int (if d*a<b*c then 1 else if b*c<d*a then -1 else 0)):=by
 have I:=z5e a b c d R S;by_cases h1:d*a<b*c
 ·have D:0<b*c-d*a:=by lia
  simp[t4,runD,zgi,jl,I,h1,D]
 ·have D:¬0<b*c-d*a:=by lia
  by_cases h2:b*c<d*a
  ·have J:b*c-d*a<0:=by lia
   simp[t4,runD,zgi,jl,I,h1,h2,D,J]
  ·have J:¬b*c-d*a<0:=by lia
   simp[t4,runD,zgi,jl,I,h1,h2,D,J]
def zny(i:Int):u5 [.int i]=some (.bl true):=by
 simp[u5,runD,zk0,jl]
abbrev Sk:=Int×Int×Int
abbrev lu:=List Sk
abbrev lx:=List (List Sk)
def sD(s:Sk):D:=.tup [.int s.1,.int s.2.1,.int s.2.2]
def gn(s:Sk):Prop:=1<=s.1/\s.1<=60/\1<=s.2.1/\s.2.1<=60/\0<=s.2.2/\s.2.2<=100
def b3:Bnd 1 1073741824 3:=⟨by decide,by decide⟩
def b12:Bnd 1 1073741824 12:=⟨by decide,by decide⟩
variable{n i:Nat}
def uq{i:Int}(D:0<=i)(h1:i<n):ixN n i=some i.toNat:=by unfold ixN;rw[if_pos D,if_pos h1]
noncomputable def hl:FS:=sSeq (sSet 10 (fBin i4 (fC (.int 1)) (fBin dMod (fVar 9) (fC (.int 60))))) (sSeq (sSet 11 (fBin dMod (fBin dDiv (fVar 9) (fC (.int 60))) (fC (.int 101)))) (sSeq (sIf (fTst (fBin dEq (fVar 4) (fC (.int 1)))) (sSeq (sSet 10 (fBin i4 (fC (.int 1)) (fBin dMod (fVar 9) (fBin dSub (fC (.int 4)) (fBin dMul (fC (.int 2)) (fVar 5)))))) (sSet 11 (fBin dMod (fBin dDiv (fVar 9) (fC (.int 60))) (fBin dSub (fC (.int 4)) (fBin dMul (fC (.int 2)) (fVar 5)))))) (sNil)) (sSeq (sIf (fTst (fBin dEq (fVar 4) (fC (.int 2)))) (sSeq (sSet 10 (fBin dIx (fLst (f8 (aw (fC (.int 1)) (aw (fC (.int 60)) (aw (fC (.int 2)) (aw (fC (.int 59)) (fNil))))))) (fBin dMod (fVar 9) (fC (.int 4))))) (sSet 11 (fBin dIx (fLst (f8 (aw (fC (.int 0)) (aw (fC (.int 100)) (aw (fC (.int 1)) (aw (fC (.int 99)) (fNil))))))) (fBin dMod (fBin dDiv (fVar 9) (fC (.int 60))) (fC (.int 4)))))) (sNil)) (sIf (fTst (fBin dEq (fVar 4) (fC (.int 3)))) (sSeq (sSet 10 (fBin dIx (fLst (f8 (aw (fVar 10) (aw (fBin i4 (fC (.int 58)) (fBin dMod (fVar 9) (fC (.int 3)))) (fNil))))) (fVar 5))) (sSet 11 (fVar 10))) (sNil)))))
noncomputable def pl:FS:=sSeq (sSet 12 (fBin dMod (fBin dIx (fLst (f8 (aw (fBin dDiv (fVar 9) (fC (.int 6060))) (aw (fVar 8) (fNil))))) (fBin dMul (fBin dDiv (fVar 4) (fC (.int 3))) (fVar 5))) (fVar 2))) (sSeq (sSet 13 (z4r 7 (fBin dMod (fBin dDiv (fVar 9) (fC (.int 30300))) (i9 7)))) (i7 (zxh 6 (fVar 12) (fTup (aw (fVar 13) (aw (fVar 10) (aw (fVar 11) (fNil))))))))
def z7q(s:lu):lu:=match s.getLast? with
 | none=>[]
 | some x=>s.dropLast++[(x.1,x.2.1,x.2.2+1)]
structure SInv (menu:Int) (many k:Nat) (sss:lx) (pool:ik):Prop where
 len:sss.length=many
 tot:sss.flatten.length=k
 good:∀x∈sss.flatten,gn x/\(menu=3->x.2.2<=60)
 perm:(pool++sss.flatten.map (·.1)).Perm (rngL 1 61)
structure Stk (most:Nat) (ss:lx):Prop where
 many:ss.length<=5
 tot:ss.flatten.length<=most
 good:∀x∈ss.flatten,gn x
 nd:(ss.flatten.map (·.1)).Nodup
def iT(xs:ik):D:=.tup (xs.map D.int)
variable{α:Type}{k:Nat}
theorem ly(f:α->D){xs:List α}{x:α}(h:xs[k]?=some x):atI (xs.map f) (k:Int)=some (f x):=by
 have I:=(ai.mp h).1;unfold atI;rw[uq (by lia) (by rw[ah];lia)];simp[h]
abbrev Bk:=Int×Int×Int
def hrs(r:lu):Int:=(r.map (·.2.1)).sum
def lss(r:lu):Int:=(r.map (·.2.2)).sum
def blk(r:lu):Bk:=(r.length,hrs r,lss r)
def jn(u b:Bk):Bk:=(u.1+b.1,u.2.1+b.2.1,u.2.2+b.2.2)
def gt(u b:Bk):Prop:=b.2.2*u.2.1<u.2.2*b.2.1
instance (u b:Bk):Decidable (gt u b):=inferInstanceAs (Decidable (_<_))
def SmB(b:Bk):Prop:=l3 b.2.1/\l3 b.2.2
def zvh(s:Sk):zey [sD s]=some (sD (1,s.2.1,s.2.2)):=by
 rfl
def zvi(u b:Bk):zez [sD u,sD b]=some (sD (jn u b)):=by
 simp[zez,runD,zjc,jl,sD,z6y,ze,ww,jn]
def zth(u b:Bk)(U:SmB u)(V:SmB b):t5 [sD u,sD b]=some (.bl (decide (gt u b))):=by
 obtain⟨Y,I,J⟩:=u;obtain⟨Z,R,b3⟩:=b;have S:∀x y z:Int,zd2 [sD (x,y,z)]=some (.tup [.int y,.int z]):=λx y z=>by simp[zd2,runD,zj6,jl,sD,ze,ww]
 have D:=zr8 I J R b3 U.2 V.2;by_cases h1:b3*I<J*R
 ·rw[if_pos h1] at D
  simp[t5,runD,zcj,jl,S,D,gt,h1]
 ·rw[if_neg h1] at D
  by_cases h2:J*R<b3*I
  ·rw[if_pos h2] at D
   simp[t5,runD,zcj,jl,S,D,gt,h1]
  ·rw[if_neg h2] at D
   simp[t5,runD,zcj,jl,S,D,gt,h1]
def zvj(bs:k7)(x:D):atI (bs++[x]) (-1)=some x:=zw0 bs x
def nz(a b:lu):hrs (a++b)=hrs a+hrs b:=by simp[hrs]
def ny(a b:lu):lss (a++b)=lss a+lss b:=by simp[lss]
def z5f(a b:lu):jn (blk a) (blk b)=blk (a++b):=by
 simp only[jn,blk,nz,ny,ao];simp
theorem xh(r:lu)(h:∀x∈r,gn x):(r.length:Int)<=hrs r/\hrs r<=60*r.length/\0<=lss r/\lss r<=100*r.length:=by
 induction r with
 | nil=>simp[hrs,lss]
 | cons x r ih =>
   obtain⟨h1,h2,D,I⟩:=ih λy J=>h y (am _ J);obtain⟨_,_,R,S,U,V⟩:=h x bc;simp[hrs,lss,gm] at h1 h2 D I ⊢
   lia
theorem smB(r:lu)(h:∀x∈r,gn x)(D:r.length<=1000):SmB (blk r):=by
 obtain⟨h1,h2,I,J⟩:=xh r h;exact⟨rj (by show -1000000000000<hrs r/\hrs r<1000000000000;lia),rj (by show -1000000000000<lss r/\lss r<1000000000000;lia)⟩
def lp:lx->lu->lx×lu
 | [],b=>([],b)
 | u::r,b=>if gt (blk u) (blk b) then(u::r,b) else lp r (u++b)
def bD(r:lu):D:=sD (blk r)
def zqw(v0 v2:la)(bs:k7)(u b:lu):zdn [v0,some (.ow (bs++[bD u])),v2,some (.sh (bD b))]=some (.nx,[v0,some (.ow bs),v2,some (.sh (bD (u++b)))]):=by
 have e:=zvi (blk u) (blk b);rw[z5f] at e;simp[zdn,bD,e]
theorem zr9(v0 v2:la):∀(n:Nat) (D:lx) (b:lu),D.length<n->(∀r∈D,∀x∈r,gn x)->(∀x∈b,gn x)->(D.flatten.length+b.length<=1000) ->
  mf (fAnd (fTst (fBin dGt (i9 1) (fC (.int 0)))) (fNot (fTst (d5 t5 (aw (fIxV 1 (fUn dNeg (fC (.int 1)))) (aw (fVar 3) (fNil))))))) zdn n
   [v0,some (.ow (D.reverse.map bD)),v2,some (.sh (bD b))]=some (.nx,[v0,some (.ow ((lp D b).1.reverse.map bD)),v2,some (.sh (bD (lp D b).2))])
 | n+1,[],b,_,_,_,_=>by simp[mf,lp]
 | n+1,u::r,b,h,hs,hb,hl=>by
   rw[cr,ao] at hl;have J:t5 [bD u,bD b]=some (.bl (decide (gt (blk u) (blk b)))):=zth (blk u) (blk b) (smB u (hs u (by simp)) (by lia)) (smB b hb (by lia));have R:(0:Int)<(r.length:Int)+1:=by lia
   have I:=zqw v0 v2 (r.reverse.map bD) u b;unfold mf;rw[List.reverse_cons,db,bn,du];by_cases h1:gt (blk u) (blk b)
   ·simp[lp,h1,J,R,zvj]
   ·have S:=zr9 v0 v2 n r (u++b) (by simpa using h) (λt U=>hs t (by simp[U])) (λx hx=>by
     rcases cz.mp hx with hx | hx
     ·exact hs u (by simp) x hx
     ·exact hb x hx) (by rw[ao];lia)
    have V:lp (u::r) b=lp r (u++b):=by simp[lp,h1]
    rw[V];have Y:(fAnd (fTst (fBin dGt (i9 1) (fC (.int 0)))) (fNot (fTst (d5 t5 (aw (fIxV 1 (fUn dNeg (fC (.int 1)))) (aw (fVar 3) (fNil)))))))
      [v0,some (.ow (r.reverse.map bD++[bD u])),v2,some (.sh (bD b))]=some (true,[v0,some (.ow (r.reverse.map bD++[bD u])),v2,some (.sh (bD b))]):=by
     simp[h1,J,R,zvj]
    rw[Y,ac];rw[if_pos rfl,I,ac];exact S
structure Good (r:lu):Prop where
 ne:r≠[]
 beg:∀p,p <+: r->lss p*hrs r<=lss r*hrs p
theorem zvk(r:lu)(h:∀x∈r,gn x):0<=hrs r:=by have:=xh r h;lia
theorem pq(r:lu)(h:∀x∈r,gn x)(D:r≠[]):0<hrs r:=by
 have h1:=xh r h;have:0<r.length:=i5.mpr D
 lia
def znz{α:Type}:∀ {u b p:List α},p <+: u++b->p <+: u\/∃t,p=u++t/\t <+: b
 | [],b,p,h=>.inr ⟨p,rfl,h⟩
 | a::u,b,[],h=>.inl List.nil_prefix
 | a::u,b,c::p,h=>by
   rw[ft,List.cons_prefix_cons] at h;obtain⟨rfl,h⟩:=h;rcases znz h with h | ⟨t,rfl,ht⟩
   ·exact .inl (by rw[List.cons_prefix_cons];exact⟨rfl,h⟩)
   ·exact .inr ⟨t,rfl,ht⟩
variable{b:Bk}
theorem Good.join{u b:lu}(I:Good u)(R:Good b)(S:∀x∈u,gn x)(U:∀x∈b,gn x)(h:¬gt (blk u) (blk b)):Good (u++b):=by
 have h':lss u*hrs b<=lss b*hrs u:=vb.mp h;have c:=pq u S I.ne;have V:=pq b U R.ne;refine⟨by simp[I.ne],λp D=>?_⟩;rw[nz,ny];rcases znz D with D | ⟨t,rfl,ht⟩
 ·-- within u
  have h1:=I.beg p D;have pp:0<=hrs p:=zvk p λx J=>S x (D.subset J);have k:lss p*hrs u*(hrs u+hrs b)<=lss u*hrs p*(hrs u+hrs b):=d4 h1 (by lia);have l:hrs p*(lss u*hrs b)<=hrs p*(lss b*hrs u):=qj h' pp;have d:lss p*(hrs u+hrs b)*hrs u<=(lss u+lss b)*hrs p*hrs u:=by
   have Y:lss p*(hrs u+hrs b)*hrs u=lss p*hrs u*(hrs u+hrs b):=by rw[ip,io (hrs u+hrs b),<-ip]
   have Z:lss u*hrs p*(hrs u+hrs b)=lss u*hrs p*hrs u+hrs p*(lss u*hrs b):=by rw[f9,io (lss u) (hrs p),ip (hrs p) (lss u) (hrs b)]
   have e:(lss u+lss b)*hrs p*hrs u=lss u*hrs p*hrs u+hrs p*(lss b*hrs u):=by rw[ig,ig,io (lss b) (hrs p),ip (hrs p) (lss b) (hrs u)]
   lia
  exact j7 d c
 ·-- u and a beginning of b
  rw[nz,ny];have h1:=R.beg t ht;obtain⟨q,rfl⟩:=ht;rw[nz,ny] at h1 h' ⊢;rw[nz] at V;have f:0<=hrs q:=zvk q λx J=>U x (b7 _ J);have g:lss t*hrs q<=lss q*hrs t:=by
   have Y:lss t*(hrs t+hrs q)=lss t*hrs t+lss t*hrs q:=f9 _ _ _;have Z:(lss t+lss q)*hrs t=lss t*hrs t+lss q*hrs t:=ig _ _ _
   lia
  have m:lss u*(hrs t+hrs q)*hrs q<=(lss t+lss q)*hrs u*hrs q:=d4 h' f;have i:0<=hrs u:=by lia
  have b3:hrs u*(lss t*hrs q)<=hrs u*(lss q*hrs t):=qj g i;have j:lss u*hrs q*(hrs t+hrs q)<=lss q*hrs u*(hrs t+hrs q):=by
   have Y:lss u*hrs q*(hrs t+hrs q)=lss u*(hrs t+hrs q)*hrs q:=by rw[ip,io (hrs q),<-ip]
   have Z:(lss t+lss q)*hrs u*hrs q=hrs u*(lss t*hrs q)+lss q*hrs u*hrs q:=by rw[ig,ig,io (lss t) (hrs u),ip (hrs u) (lss t) (hrs q)]
   have e:lss q*hrs u*(hrs t+hrs q)=hrs u*(lss q*hrs t)+lss q*hrs u*hrs q:=by rw[f9,io (lss q) (hrs u),ip (hrs u) (lss q) (hrs t)]
   lia
  have n:lss u*hrs q<=lss q*hrs u:=j7 j V;simp only[f9,ig]
  lia
def Desc:lx->Prop
 | []=>True
 | [_]=>True
 | b::u::r=>gt (blk u) (blk b)/\Desc (u::r)
structure Runs (rs:lx) (s:lu):Prop where
 flat:rs.reverse.flatten=s
 good:∀r∈rs,Good r
 desc:Desc rs
def zsa:∀(R:lx) (b:lu) (s:lu),Runs R s->Good b->(∀x∈s++b,gn x)->Runs ((lp R b).2::(lp R b).1) (s++b)
 | [],b,s,h,gb,_=>by
   have:s=[]:=by have:=h.flat;simpa using this.symm
   subst this;exact⟨by simp[lp],λr I=>by simp[lp] at I;rw[I];exact gb,trivial⟩
 | u::r,b,s,h,gb,hx=>by
   have J:s=r.reverse.flatten++u:=by rw[<-h.flat];simp
   by_cases h1:gt (blk u) (blk b)
   ·have e:lp (u::r) b=(u::r,b):=by simp[lp,h1]
    rw[e];refine⟨by simp[J],λt ht=>?_,h1,h.desc⟩;rcases ce.mp ht with rfl | ht
    ·exact gb
    ·exact h.good t ht
   ·have e:lp (u::r) b=lp r (u++b):=by simp[lp,h1]
    rw[e];have I:Runs r r.reverse.flatten:=⟨rfl,λt ht=>h.good t (am _ ht),by
     have:=h.desc;cases r with
     | nil=>trivial
     | cons v r=>exact this.2⟩
    have S:Good (u++b):=(h.good u (by simp)).join gb (λx D=>hx x (by rw[J];simp[D])) (λx D=>hx x (by simp[D])) h1;have:=zsa r (u++b) r.reverse.flatten I S (λx D=>hx x (by rw[J];simpa[or_assoc] using D));rw[J,df];exact this
def zyf(x:Sk)(h:gn x):Good [x]:=⟨by simp,λp I=>by
 have:p=[]\/p=[x]:=by
  obtain⟨t,D⟩:=I;cases p with
  | nil=>exact .inl rfl
  | cons y q=>simp at D;simp[D]
 rcases this with rfl | rfl
 ·simp[lss,hrs]
 ·exact ie _⟩
def zvl(x:Sk):zey [sD x]=some (bD [x]):=by
 rw[zvh];simp[bD,blk,hrs,lss]
theorem zqx(S:D)(I:lx)(s:lu)(x:Sk)(v2 f:la)(h:Runs I s)(Y:∀y∈s++[x],gn y)(n:s.length<900) :
  ∃R b,Runs R (s++[x])/\zdo [some (.sh S),some (.ow (I.reverse.map bD)),some (.sh (sD x)),f]=some (.nx,[some (.sh S),some (.ow (R.reverse.map bD)),some (.sh (sD x)),b]):=by
 have U:I.flatten.length=s.length:=by
  rw[<-h.flat,i6,i6,List.map_reverse,List.sum_reverse]
 have g:I.length<=s.length:=by
  rw[<-U];have:∀(l:lx),(∀r∈l,r≠[])->l.length<=l.flatten.length:=λl=>by
   induction l with
   | nil=>intro _;simp
   | cons a l ih =>
     intro V;have:=ih λr J=>V r (am _ J);have i:0<a.length:=i5.mpr (V a bc);rw[ak,cr,ao]
     lia
  exact this I λr J=>(h.good r J).ne
 have j:=zr9 (some (.sh S)) (some (.sh (sD x))) 10000 I [x] (by lia) (λr J y Z=>Y y (by
  rw[<-h.flat];exact d6 _ (fm.mpr ⟨r,by simpa using J,Z⟩))) (λy Z=>Y y (by simp at Z;simp[Z])) (by rw[U];simp;lia)
 have J:=zsa I [x] s h (zyf x (Y x (by simp))) Y;refine⟨_,some (.sh (bD (lp I [x]).2)),J,?_⟩;have d:(lp I [x]).1.length<=s.length:=by
  have e:=J.flat;have:∀(l:lx),(∀r∈l,r≠[])->l.length<=l.flatten.length:=λl=>by
   induction l with
   | nil=>intro _;simp
   | cons a l ih =>
     intro V;have:=ih λr J=>V r (am _ J);have i:0<a.length:=i5.mpr (V a bc);rw[ak,cr,ao]
     lia
  have h2:=this _ λr c=>(J.good r c).ne;have k:(((lp I [x]).2::(lp I [x]).1).flatten).length=(s++[x]).length:=by
   rw[<-e,i6,i6,List.map_reverse,List.sum_reverse]
  rw[k] at h2;simp at h2;exact h2
 have m:Few ((lp I [x]).1.length+1):=few (by lia);unfold zdo;simp only[sSeq,sSet,d5,aw,fVar,fNil,ae,af,ac,aj,zvl,ax,ay,j,i7,nj,wx,ah,List.length_reverse,m,if_true];simp
theorem zio(s:lu)(V:∀y∈s,gn y)(a:s.length<=14):∃D,Runs D s/\zgr [.lst (s.map sD)]=some (.lst (D.reverse.map bD)):=by
 obtain⟨e',h1,D,v2,I,J,rfl⟩:=rh (i:=2) (g:=zdo) sD (λp e=>∃D v2 I,Runs D p/\e=[some (.sh (.lst (s.map sD))),some (.ow (D.reverse.map bD)),v2,I]) s
  [some (.sh (.lst (s.map sD))),some (.ow []),none,none] ⟨[],none,none,⟨rfl,λr J=>by simp at J,trivial⟩,rfl⟩ (by
   rintro p x q e R ⟨D,v2,I,J,rfl⟩;obtain⟨S,Y,U,Z⟩:=zqx (.lst (s.map sD)) D p x v2 I J (λy hy=>V y (by
    rw[R];rcases cz.mp hy with hy | hy
    ·simp[hy]
    ·simp at hy;simp[hy])) (by
    have:s.length=p.length+(q.length+1):=by rw[R];simp
    lia)
   exact⟨_,Z,S,_,_,U,rfl⟩)
 refine⟨D,J,?_⟩;refine j3 (e':=[some (.sh (.lst (s.map sD))),some (.sh (.lst (D.reverse.map bD))),v2,I]) rfl ?_;show zgq [some (.sh (.lst (s.map sD))),none,none,none]=_;simp[zgq,h1]
def xg(f:α->Int)(r:List α):bSum [.lst (r.map λx=>.int (f x))]=some (.int (r.map f).sum):=by
 have:(r.map λx=>D.int (f x))=(r.map f).map D.int:=by rw[iw];rfl
 rw[this];show(ints? ((r.map f).map D.int)).map _=_;rw[zul];rfl
def zpr{α:Type}{ix:ic}{g:FS}(I:α->k7)(P:List α->DE0->Prop)(all:List α)(J:∀x∈all,(I x).length=ix.length)(R:∀(p:List α) (x:α) (q:List α) (e:DE0),all=p++x::q->P p e->∃e',g (tj ix (I x) e)=some (.nx,e')/\P (p++[x]) e') :
  ∀(xs pre:List α) (e:DE0),all=pre++xs->P pre e->∃e',forU ix g (xs.map λx=>D.tup (I x)) e=some (.nx,e')/\P all e'
 | [],pre,e,h,hp=>⟨e,rfl,by rw[h,dh];exact hp⟩
 | x::xs,pre,e,h,hp=>by
   obtain⟨S,h1,p1⟩:=R pre x xs e h hp;obtain⟨U,h2,p2⟩:=zpr I P all J R xs (pre++[x]) S (by rw[h];simp) p1;have V:=J x (by rw[h];simp);exact⟨U,by simp[forU,unp,V,h1,h2],p2⟩
variable{g:FS}
def zz{ix:ic}(I:α->k7)(P:List α->DE0->Prop)(all:List α)(e:DE0)(J:P [] e)(R:∀x∈all,(I x).length=ix.length)(S:∀(p:List α) (x:α) (q:List α) (e:DE0),all=p++x::q->P p e->∃e',g (tj ix (I x) e)=some (.nx,e')/\P (p++[x]) e') :
  ∃e',forU ix g (all.map λx=>D.tup (I x)) e=some (.nx,e')/\P all e':=zpr I P all R S all [] e rfl J
def zps{α:Type}(f:α->D):∀(xs:List α) (c:Nat),pi c (xs.map f)=(xs.zipIdx c).map λp=>D.tup [.int (p.2:Nat),f p.1]
 | [],c=>rfl
 | x::xs,c=>by simp[pi,List.zipIdx_cons,zps f xs (c+1)]
def zsb{α β:Type}(f:α->D)(g:β->D):∀(xs:List α) (ys:List β),zipD (xs.map f) (ys.map g)=(xs.zip ys).map λp=>D.tup [f p.1,g p.2]
 | [],ys=>by simp[zipD]
 | x::xs,[]=>by simp[zipD]
 | x::xs,y::ys=>by simp[zipD,zsb f g xs ys]
theorem uo{u:Bk}(h:gt u b):¬gt b u:=λz=>by
 unfold gt at h z
 lia
variable{c:Bk}
theorem zyg{n:Bk}(J:0<n.2.1)(R:0<c.2.1)(D:0<b.2.1)(h1:gt n c)(h2:¬gt b c):gt n b:=by
 have h2:b.2.2*c.2.1<=c.2.2*b.2.1:=vb.mp h2;have S:b.2.2*c.2.1*n.2.1<=c.2.2*b.2.1*n.2.1:=d4 h2 (by lia);have U:c.2.2*n.2.1*b.2.1<n.2.2*c.2.1*b.2.1:=t9 h1 D;have I:b.2.2*n.2.1*c.2.1<n.2.2*b.2.1*c.2.1:=by
  have V:b.2.2*n.2.1*c.2.1=b.2.2*c.2.1*n.2.1:=im ..;have Y:n.2.2*b.2.1*c.2.1=n.2.2*c.2.1*b.2.1:=im ..;have Z:c.2.2*b.2.1*n.2.1=c.2.2*n.2.1*b.2.1:=im ..
  lia
 exact vd I (by lia)
theorem z7a{n:Bk}(D:0<n.2.1)(J:0<c.2.1)(R:0<b.2.1)(h1:¬gt c n)(h2:gt c b):gt n b:=by
 have h1:c.2.2*n.2.1<=n.2.2*c.2.1:=vb.mp h1;have S:c.2.2*n.2.1*b.2.1<=n.2.2*c.2.1*b.2.1:=d4 h1 (by lia);have U:b.2.2*c.2.1*n.2.1<c.2.2*b.2.1*n.2.1:=t9 h2 D;have I:b.2.2*n.2.1*c.2.1<n.2.2*b.2.1*c.2.1:=by
  have V:b.2.2*n.2.1*c.2.1=b.2.2*c.2.1*n.2.1:=im ..;have Y:n.2.2*b.2.1*c.2.1=n.2.2*c.2.1*b.2.1:=im ..;have Z:c.2.2*b.2.1*n.2.1=c.2.2*n.2.1*b.2.1:=im ..
  lia
 exact vd I (by lia)
def z5g{n:Bk}(D:0<n.2.1)(I:0<c.2.1)(J:0<b.2.1)(h1:¬gt c n)(h2:¬gt b c):¬gt b n:=λz=>by
 have:=zyg (n:=b) (c:=n) (b:=c) J D I z h1;exact h2 this
abbrev Tn:=Nat×lu
abbrev l0:=List Tn
def tnD(t:Tn):D:=.tup [.int (t.1:Int),.int (t.2.length:Int),.int (hrs t.2),.int (lss t.2)]
def zvm(t:Tn):wn [tnD t]=some (.tup [.int (hrs t.2),.int (lss t.2)]):=by
 simp[wn,runD,zk2,jl,tnD,z61,z62]
def geT(a b:Tn):Bool:=!decide (gt (blk b.2) (blk a.2))
variable{b:Int}{a:Nat}
def z1w{a b:Tn}:geT a b=true↔¬gt (blk b.2) (blk a.2):=by simp[geT]
theorem z1x(t n:Tn)(D:SmB (blk t.2))(I:SmB (blk n.2)):∃z:Int,t4 [.tup [.int (hrs t.2),.int (lss t.2)],.tup [.int (hrs n.2),.int (lss n.2)]]=some (.int z)/\decide (0<=z)=geT t n:=by
 refine⟨_,zr8 _ _ _ _ D.2 I.2,?_⟩;show decide ((0:Int)<=if lss n.2*hrs t.2<lss t.2*hrs n.2 then 1 else if lss t.2*hrs n.2<lss n.2*hrs t.2 then -1 else 0)=!decide (lss t.2*hrs n.2<lss n.2*hrs t.2);by_cases h1:lss n.2*hrs t.2<lss t.2*hrs n.2
 ·rw[if_pos h1]
  have h2:¬lss t.2*hrs n.2<lss n.2*hrs t.2:=by lia
  simp[h2]
 ·rw[if_neg h1]
  by_cases h2:lss t.2*hrs n.2<lss n.2*hrs t.2
  ·simp[h2]
  ·simp[h2]
def plc(ts:l0)(n:Tn):Nat:=(ts.takeWhile λt=>geT t n).length
noncomputable def zmx:FT:=fAnd (fTst (fBin dLt (fVar 2) (i9 0))) (fTst (fBin dGe (d5 t4 (aw (d5 wn (aw (fIxV 0 (fVar 2)) (fNil))) (aw (d5 wn (aw (fVar 1) (fNil))) (fNil)))) (fC (.int 0))))
theorem zlw(n:Tn)(U:SmB (blk n.2)):∀(D pre:l0) (I:Nat),D.length<I->(∀t∈D,SmB (blk t.2)) ->
  mf zmx zcc I [some (.sh (.lst ((pre++D).map tnD))),some (.sh (tnD n)),some (.sh (.int (pre.length:Int)))]=some (.nx,[some (.sh (.lst ((pre++D).map tnD))),some (.sh (tnD n)),some (.sh (.int ((pre.length+plc D n:Nat):Int)))])
 | [],pre,f+1,h,_=>by
   unfold mf zmx;simp[plc]
 | t::r,pre,f+1,h,hs=>by
   obtain⟨z,Y,Z⟩:=z1x t n (hs t (by simp)) U;have J:atI ((pre++t::r).map tnD) (pre.length:Int)=some (tnD t):=ly tnD (by simp);have R:(pre.length:Int)<((pre++t::r).map tnD).length:=by simp;lia
   have a:zmx [some (.sh (.lst ((pre++t::r).map tnD))),some (.sh (tnD n)),some (.sh (.int (pre.length:Int)))]=some (geT t n,[some (.sh (.lst ((pre++t::r).map tnD))),some (.sh (tnD n)),some (.sh (.int (pre.length:Int)))]):=by
    unfold zmx;generalize (pre++t::r).map tnD=L at J R;simp[R,J,zvm,Y,Z]
   unfold mf;rw[a,ac];cases hg:geT t n with
   | false =>
     simp[plc,hg]
   | true =>
     rw[if_pos rfl];have b:zcc [some (.sh (.lst ((pre++t::r).map tnD))),some (.sh (tnD n)),some (.sh (.int (pre.length:Int)))]=some (.nx,[some (.sh (.lst ((pre++t::r).map tnD))),some (.sh (tnD n)),some (.sh (.int ((pre++[t]).length:Int)))]):=by
      simp[zcc]
     rw[b,ac];have V:=zlw n U r (pre++[t]) f (by simpa using h) λt' S=>hs t' (by simp[S]);rw[df,gc] at V;rw[V];have:(pre++[t]).length+plc r n=pre.length+plc (t::r) n:=by simp[plc,hg];lia
     rw[this]
theorem zyh(ts:l0)(n:Tn)(D:SmB (blk n.2))(I:∀t∈ts,SmB (blk t.2))(J:ts.length<9000):zf7 [.lst (ts.map tnD),tnD n]=some (.int (plc ts n:Int)):=by
 have h:=zlw n D ts [] 10000 (by lia) I;refine j3 (e':=[some (.sh (.lst (ts.map tnD))),some (.sh (tnD n)),some (.sh (.int (plc ts n:Int)))]) rfl ?_;show zf6 [some (.sh (.lst (ts.map tnD))),some (.sh (tnD n)),none]=_;have h':mf zmx zcc 10000 [some (.sh (.lst (ts.map tnD))),some (.sh (tnD n)),some (.sh (.int 0))]=_:=h;unfold zmx at h';simp[zf6,h']
def ins(ts:l0)(n:Tn):l0:=(ts.takeWhile λt=>geT t n)++n::ts.dropWhile λt=>geT t n
def z5h(ts:l0)(n:Tn):(ts.map tnD).take (plc ts n)++tnD n::(ts.map tnD).drop (plc ts n)=(ins ts n).map tnD:=by
 have e:=jp (p:=λt=>geT t n) (l:=ts);have D:plc ts n=(ts.takeWhile λt=>geT t n).length:=rfl;have h1:ts.take (plc ts n)=ts.takeWhile λt=>geT t n:=by
  rw[D];generalize (ts.takeWhile λt=>geT t n)=A at e;rw[<-e];exact jo
 have h2:ts.drop (plc ts n)=ts.dropWhile λt=>geT t n:=by
  rw[D];generalize (ts.takeWhile λt=>geT t n)=A at e
  conv=>lhs;rw[<-e]
  exact List.drop_left
 rw[<-List.map_take,<-List.map_drop,h1,h2];simp[ins]
def z5i(ts:l0)(n:Tn):plc ts n<=ts.length:=(List.takeWhile_sublist _).length_le
theorem zti(v0 J U:la)(ts:l0)(I:Nat)(r:lu)(V:SmB (blk r))(Y:∀t∈ts,SmB (blk t.2))(Z:ts.length<9000) :
  zc3 [v0,some (.ow (ts.map tnD)),some (.sh (.int (I:Int))),J,some (.sh (.int (r.length:Int))),some (.sh (.int (hrs r))),some (.sh (.int (lss r))),U] =
   some (.nx,[v0,some (.ow ((ins ts (I,r)).map tnD)),some (.sh (.int (I:Int))),J,some (.sh (.int (r.length:Int))),some (.sh (.int (hrs r))),some (.sh (.int (lss r))),some (.sh (tnD (I,r)))]):=by
 have R:=zyh ts (I,r) V Y Z;have S:=z5h ts (I,r);have h1:(plc ts (I,r):Int)<=((ts.map tnD).length:Nat):=by rw[ah];have:=z5i ts (I,r);lia
 have h2:Few ((ts.map tnD).length+1):=few (by rw[ah];lia);have a:D.tup [.int (I:Int),.int (r.length:Int),.int (hrs r),.int (lss r)]=tnD (I,r):=rfl;have b:(0:Int)<=(plc ts (I,r):Int):=by lia
 generalize ts.map tnD=L at R S h1 h2;simp[zc3,zng,zh,zxv,a,R,z1g,z1d,b,h1,h2,e7,S]
def bef(a b:Tn):Prop:=gt (blk a.2) (blk b.2)\/(¬gt (blk b.2) (blk a.2)/\a.1<b.1)
def ofS(ts:l0)(j:Nat):lx:=(ts.filter λt=>t.1==j+1).map (·.2)
structure TurnsOk (ss:lx) (ts:l0):Prop where
 lo:∀t∈ts,1<=t.1/\t.1<=ss.length
 good:∀t∈ts,Good t.2
 part:∀(j:Nat) (s:lu),ss[j]?=some s->(ofS ts j).flatten=s
 srt:ts.Pairwise bef
 perm:(ts.map (·.2)).flatten.Perm ss.flatten
variable{ss:lx}{ts:l0}
def TurnsOk.sk(h:TurnsOk ss ts)(D:∀x∈ss.flatten,gn x):∀t∈ts,∀x∈t.2,gn x:=λt I x J =>
 D x (h.perm.mem_iff.mp (fm.mpr ⟨t.2,d7.mpr ⟨t,I,rfl⟩,J⟩))
def TurnsOk.len1(h:TurnsOk ss ts):∀t∈ts,t.2.length<=ss.flatten.length:=λt D=>by
 rw[<-h.perm.length_eq];exact(ek (d7.mpr ⟨t,D,rfl⟩)).length_le
theorem zvn{α:Type}:∀(l:List (List α)),(∀r∈l,r≠[])->l.length<=l.flatten.length
 | [],_=>by simp
 | a::l,h=>by
   have:=zvn l λr D=>h r (am _ D);have I:0<a.length:=i5.mpr (h a bc);rw[ak,cr,ao]
   lia
def TurnsOk.len(h:TurnsOk ss ts):ts.length<=ss.flatten.length:=by
 have:=zvn (ts.map (·.2)) λr D=>by
  obtain⟨t,I,rfl⟩:=d7.mp D;exact(h.good t I).ne
 rw[ah,h.perm.length_eq] at this;exact this
protected def TurnsOk.pos(h:TurnsOk ss ts)(I:∀x∈ss.flatten,gn x):∀t∈ts,0<hrs t.2:=λt D=>pq t.2 (h.sk I t D) (h.good t D).ne
def TurnsOk.sm(h:TurnsOk ss ts)(I:∀x∈ss.flatten,gn x)(J:ss.flatten.length<=1000):∀t∈ts,SmB (blk t.2):=λt D=>smB t.2 (h.sk I t D) (de (h.len1 t D) J)
theorem TurnsOk.more(h:TurnsOk ss ts):TurnsOk (ss++[[]]) ts/\ofS ts ss.length=[]:=by
 have e:ofS ts ss.length=[]:=by
  unfold ofS;rw[il.mpr λt I=>by have:=(h.lo t I).2;simp;lia];rfl
 refine⟨⟨λt I=>⟨(h.lo t I).1,by have:=(h.lo t I).2;simp;lia⟩,h.good,λj s D=>?_,h.srt,by simpa using h.perm⟩,e⟩;by_cases J:j<ss.length
 ·rw[az J] at D
  exact h.part j s D
 ·have:j=ss.length:=by
   have:=(ai.mp D).1;simp at this
   lia
  subst this;simp at D;subst D;rw[e];rfl
def z1y{ts:l0}{n t:Tn}:t∈ins ts n↔t∈ts\/t=n:=by
 unfold ins;have e:=jp (p:=λt=>geT t n) (l:=ts);have D:t∈ts↔t∈(ts.takeWhile λt=>geT t n)\/t∈ts.dropWhile λt=>geT t n:=by
  conv=>lhs;rw[<-e]
  exact cz
 rw[D];simp[cz];constructor
 ·rintro(h | h | h)
  ·exact .inl (.inl h)
  ·exact .inr h
  ·exact .inl (.inr h)
 ·rintro((h | h) | h)
  ·exact .inl h
  ·exact .inr (.inr h)
  ·exact .inr (.inl h)
theorem TurnsOk.ins{ss:lx}{ts:l0}{pre r:lu}{p:lx}(h:TurnsOk (ss++[pre]) ts)(U:ofS ts ss.length=p)(k:Good r)(f:∀x∈r,gn x)(q:∀x∈(ss++[pre]).flatten,gn x)(v:∀u∈p,gt (blk u) (blk r)):TurnsOk (ss++[pre++r]) (LB.ins ts (ss.length+1,r))/\ofS (LB.ins ts (ss.length+1,r)) ss.length=p++[r]:=by
 have e:=jp (p:=λt=>geT t (ss.length+1,r)) (l:=ts);have hA:∀t∈(ts.takeWhile λt=>geT t (ss.length+1,r)),geT t (ss.length+1,r)=true:=λt J=>by
  have:=List.all_takeWhile (p:=λt=>geT t (ss.length+1,r)) (l:=ts);exact gq.mp this t J
 have w:0<hrs r:=pq r f k.ne;have D:=@z1y ts (ss.length+1,r);have g:∀R Z,ts.dropWhile (λt=>geT t (ss.length+1,r))=R::Z->gt (blk r) (blk R.2):=λR Z hb=>by
  have:geT R (ss.length+1,r)=false:=by
   have:=List.head?_dropWhile_not (p:=λt=>geT t (ss.length+1,r)) ts;rw[hb] at this;simpa using this
  unfold geT at this;simpa using this
 unfold LB.ins at D ⊢;have srt:=h.srt;have pos:=h.pos q;have S:∀t∈ts,t.1=ss.length+1->gt (blk t.2) (blk r):=λt J V=>v t.2 (by
  rw[<-U];exact d7.mpr ⟨t,f6.mpr ⟨J,by simp[V]⟩,rfl⟩)
 have lo:=h.lo;have part:=h.part;have I:=h.perm;rw[<-e] at srt pos S lo part I U;generalize (ts.takeWhile λt=>geT t (ss.length+1,r))=A at *;generalize (ts.dropWhile λt=>geT t (ss.length+1,r))=B at *;have m:∀b∈B,gt (blk r) (blk b.2):=λb hb=>by
  cases B with
  | nil=>simp at hb
  | cons R Z =>
    have n:=g R Z rfl;rcases ce.mp hb with rfl | hb'
    ·exact n
    ·have y:=(iq.mp srt).2.1
     have:=(fb.mp y).1 b hb';have C:¬gt (blk b.2) (blk R.2):=by
      rcases this with z | z
      ·exact uo z
      ·exact z.1
     exact zyg w (pos R (by simp)) (pos b (by simp[hb'])) n C
 have o:(B.filter λt=>t.1==ss.length+1)=[]:=il.mpr λt J=>by
  intro z;exact uo (m t J) (S t (by simp[J]) (by simpa using z))
 have of:ofS (A++(ss.length+1,r)::B) ss.length=p++[r]:=by
  unfold ofS at U ⊢;rw[jc,o,dh] at U;rw[jc,jf (by simp),o,db,U];rfl
 refine⟨⟨λt J=>?_,λt J=>?_,λj s c=>?_,?_,?_⟩,of⟩
 ·rcases(D.mp J) with z | z
  ·have:=h.lo t z;simp at this ⊢;lia
  ·subst z;simp
 ·rcases(D.mp J) with z | z
  ·exact h.good t z
  ·subst z;exact k
 ·by_cases Y:j<ss.length
  ·rw[az Y] at c
   have:=part j s (by rw[az Y];exact c);rw[<-this];unfold ofS;rw[jc,jc,jg (by simp;lia)]
  ·have:j=ss.length:=by
    have:=(ai.mp c).1;simp at this
    lia
   subst this;have E:pre++r=s:=by simpa using c
   rw[of,<-E];have:=part ss.length pre (by simp);rw[show ofS (A++B) ss.length=p from U] at this;simp[this]
 ·have i:=iq.mp srt
  refine iq.mpr ⟨i.1,fb.mpr ⟨λb hb=>.inl (m b hb),i.2.1⟩,λa d b hb=>?_⟩;rcases ce.mp hb with rfl | hb
  ·have F:=hA a d
   by_cases V:a.1=ss.length+1
   ·exact .inl (S a (by simp[d]) V)
   ·have:=(lo a (by simp[d])).2
    exact .inr ⟨z1w.mp F,by simp at this ⊢;lia⟩
  ·exact i.2.2 a d b hb
 ·have V:((A++(ss.length+1,r)::B).map (·.2)).flatten=(A.map (·.2)).flatten++(r++(B.map (·.2)).flatten):=by simp
  have G:(ss++[pre++r]).flatten=(ss++[pre]).flatten++r:=by simp
  rw[V,G];have H:((A++B).map (·.2)).flatten=(A.map (·.2)).flatten++(B.map (·.2)).flatten:=by simp
  rw[H] at I;refine List.Perm.trans ?_ (I.append_right r);rw[df];exact List.Perm.append_left _ List.perm_append_comm
def zqy:∀(D:lx),Desc D->(∀r∈D,0<hrs r)->D.Pairwise (λb u=>gt (blk u) (blk b))
 | [],_,_=>.nil
 | [b],_,_=>by simp
 | b::u::r,h,hp=>by
   have J:=zqy (u::r) h.2 λx I=>hp x (am _ I);refine fb.mpr ⟨λx I=>?_,J⟩;rcases ce.mp I with rfl | hx'
   ·exact h.1
   ·have:=(fb.mp J).1 x hx'
    exact zyg (hp x (by simp[hx'])) (hp u (by simp)) (hp b (by simp)) this (uo h.1)
theorem zqz(S:D)(ss:lx)(s:lu)(ts:l0)(k l m n:la)(h:TurnsOk ss ts)(A:∀x∈(ss++[s]).flatten,gn x)(t:(ss++[s]).flatten.length<=14) :
  ∃ts' d f i Y,TurnsOk (ss++[s]) ts'/\zd3 [some (.sh S),some (.ow (ts.map tnD)),some (.sh (.int ((ss.length+1:Nat):Int))),some (.sh (.lst (s.map sD))),k,l,m,n] =
   some (.nx,[some (.sh S),some (.ow (ts'.map tnD)),some (.sh (.int ((ss.length+1:Nat):Int))),some (.sh (.lst (s.map sD))),d,f,i,Y]):=by
 have Z:∀x∈s,gn x:=λx hx=>A x (by simp[hx]);have v:s.length<=14:=by simp at t;lia
 obtain⟨U,o,C⟩:=zio s Z v;have I:=o.flat;have a:∀r∈U.reverse,Good r:=λr h=>o.good r (List.mem_reverse.mp h);have c:∀r∈U.reverse,∀x∈r,gn x:=λr h x hx=>Z x (by rw[<-I];exact fm.mpr ⟨r,h,hx⟩);have j:U.reverse.Pairwise (λu b=>gt (blk u) (blk b)):=by
  rw[List.pairwise_reverse];exact zqy U o.desc λr h=>pq r (c r (List.mem_reverse.mpr h)) (o.good r h).ne
 have B:=h.more;obtain⟨e',h1,ts',d,f,i,Y,w,E,rfl⟩:=zz (ix:=[4,5,6]) (g:=zc3) (λr:lu=>[D.int (r.length:Int),.int (hrs r),.int (lss r)])
  (λp e=>∃ts' d f i Y,TurnsOk (ss++[p.flatten]) ts'/\ofS ts' ss.length=p/\e=[some (.sh S),some (.ow (ts'.map tnD)),some (.sh (.int ((ss.length+1:Nat):Int))),some (.sh (.lst (s.map sD))),d,f,i,Y]) U.reverse
  [some (.sh S),some (.ow (ts.map tnD)),some (.sh (.int ((ss.length+1:Nat):Int))),some (.sh (.lst (s.map sD))),k,l,m,n] ⟨ts,k,l,m,n,B.1,B.2,rfl⟩ (λ_ _=>rfl) (by
   rintro p r q e J ⟨ts',d,f,i,Y,ok,of,rfl⟩;have R:r∈U.reverse:=by rw[J];simp
   have V:∀x∈(ss++[p.flatten]).flatten,gn x:=λx hx=>by
    rw[ff,cz] at hx;rcases hx with hx | hx
    ·exact A x (by rw[ff];exact d6 _ hx)
    ·refine Z x ?_
     rw[<-I,J,ff];exact d6 _ (by simpa using hx)
   have F:(ss++[p.flatten]).flatten.length<=14:=by
    have:p.flatten.length<=s.length:=by rw[<-I,J,ff,ao];lia
    rw[ff,ao] at t ⊢;simp only[cr,kr,dh] at t ⊢
    lia
   have y:∀u∈p,gt (blk u) (blk r):=λu G=>by
    rw[J] at j;exact(iq.mp j).2.2 u G r (by simp)
   obtain⟨H,K⟩:=ok.ins of (a r R) (c r R) V y;have L:r.length<=14:=by
    have:r.length<=U.reverse.flatten.length:=(ek R).length_le;rw[I] at this;lia
   have body:=zti (some (.sh S)) (some (.sh (.lst (s.map sD)))) Y ts' (ss.length+1) r (smB r (c r R) (by lia)) (ok.sm V (by lia)) (by have:=ok.len;lia);exact⟨_,body,_,_,_,_,_,by simpa using H,K,rfl⟩)
 refine⟨ts',d,f,i,Y,by rw[<-I];exact w,?_⟩;have z:forU [4,5,6] zc3 (U.reverse.map bD) [some (.sh S),some (.ow (ts.map tnD)),some (.sh (.int ((ss.length+1:Nat):Int))),some (.sh (.lst (s.map sD))),k,l,m,n]=_:=h1;simp only[zd3,qr,fiS,d5,aw,fVar,fNil,ae,af,ac,aj,C,z]
def ssL(ss:lx):D:=.lst (ss.map λs=>D.lst (s.map sD))
theorem ze4(ss:lx)(d:∀x∈ss.flatten,gn x)(f:ss.flatten.length<=14):∃ts,TurnsOk ss ts/\yw [ssL ss]=some (.lst (ts.map tnD)):=by
 obtain⟨e',h1,ts,v2,Y,I,J,R,S,ok,rfl⟩:=zz (ix:=[2,3]) (g:=zd3) (λp:lu×Nat=>[D.int (p.2:Int),D.lst (p.1.map sD)])
  (λp e=>∃ts v2 Y I J R S,TurnsOk (p.map (·.1)) ts/\e=[some (.sh (ssL ss)),some (.ow (ts.map tnD)),v2,Y,I,J,R,S]) (ss.zipIdx 1)
  [some (.sh (ssL ss)),some (.ow []),none,none,none,none,none,none] ⟨[],none,none,none,none,none,none,⟨by simp,by simp,by simp,.nil,by simp⟩,rfl⟩ (λ_ _=>rfl) (by
   rintro p x q e U ⟨ts,v2,Y,I,J,R,S,ok,rfl⟩;have a:ss=p.map (·.1)++x.1::q.map (·.1):=by
    have:=congrArg (List.map (·.1)) U;simpa using this
   have b:x.2=(p.map (·.1)).length+1:=by
    have:(ss.zipIdx 1)[p.length]?=some x:=by rw[U];simp
    rw[List.getElem?_zipIdx] at this;cases hs:ss[p.length]? with
    | none=>rw[hs] at this;cases this
    | some s =>
      rw[hs] at this;cases this;simp;lia
   have V:ss.flatten=(p.map (·.1)++[x.1]).flatten++(q.map (·.1)).flatten:=by rw[a];simp
   obtain⟨ts',i,j,k,l,c,Z⟩:=zqz (ssL ss) (p.map (·.1)) x.1 ts I J R S ok (λy h=>d y (by rw[V];exact d6 _ h)) (by rw[V,ao] at f;lia);rw[<-b] at Z;exact⟨_,Z,ts',_,_,_,_,_,_,by simpa using c,rfl⟩)
 refine⟨ts,by simpa using ok,?_⟩;refine j3 (e':=[some (.sh (ssL ss)),some (.sh (.lst (ts.map tnD))),v2,Y,I,J,R,S]) rfl ?_;show zhc [some (.sh (ssL ss)),none,none,none,none,none,none,none]=_;have Z:iEn 1 [ssL ss]=some ((ss.zipIdx 1).map λp=>D.tup [D.int (p.2:Int),D.lst (p.1.map sD)]):=by
  show some (pi 1 (ss.map λs=>D.lst (s.map sD)))=_;rw[zps]
 simp only[zhc,sSeq,sOwn,f8,fNil,ac,aj,b6,gz,if_true,ax,ay,qr,jw,aw,fVar,ae,af,Z,h1,sRet]
def ir(n:Nat)(ts:l0):lx:=(List.range n).map λj=>(ofS ts j).flatten
def md(n:Nat)(ts:l0):(ir n ts).length=n:=by simp[ir]
variable{j:Nat}
def o9(h:j<n):(ir n ts)[j]?=some ((ofS ts j).flatten):=by simp[ir,h]
protected theorem TurnsOk.left(h:TurnsOk ss ts):ir ss.length ts=ss:=by
 apply em;intro j;by_cases D:j<ss.length
 ·rw[o9 D,h.part j ss[j] (by simp[D])]
  simp[D]
 ·rw[cx (by rw[md];lia),cx (by lia)]
def zgb(t:Tn)(ts:l0)(j:Nat)(h:t.1=j+1):ofS (t::ts) j=t.2::ofS ts j:=by
 unfold ofS;rw[jf (by simp[h])];rfl
def zhq(t:Tn)(ts:l0)(j:Nat)(h:t.1≠j+1):ofS (t::ts) j=ofS ts j:=by
 unfold ofS;rw[jg (by simp[h])]
variable{t:Tn}
theorem zmy(h1:1<=t.1)(h2:t.1<=n):(ir n (t::ts))[t.1-1]?=some (t.2++(ofS ts (t.1-1)).flatten):=by
 rw[o9 (by lia),zgb t ts (t.1-1) (by lia)];simp
theorem zq0(h1:1<=t.1)(h2:t.1<=n):ir n ts=(ir n (t::ts)).set (t.1-1) ((ofS ts (t.1-1)).flatten):=by
 apply em;intro j;by_cases D:j<n
 ·rw[gl,o9 D,o9 D,md]
  by_cases e:t.1-1=j
  ·subst e
   simp[D]
  ·rw[if_neg e,zhq t ts j (by lia)]
 ·rw[cx (by rw[md];lia),cx (by rw[dw,md];lia)]
theorem zpt(h1:1<=t.1)(h2:t.1<=n):ir n (t::ts)=(ir n ts).set (t.1-1) (t.2++(ofS ts (t.1-1)).flatten):=by
 apply em;intro j;by_cases D:j<n
 ·rw[gl,o9 D,o9 D,md]
  by_cases e:t.1-1=j
  ·subst e
   rw[zgb t ts (t.1-1) (by lia)];simp[D]
  ·rw[if_neg e,zhq t ts j (by lia)]
 ·rw[cx (by rw[md];lia),cx (by rw[dw,md];lia)]
def zlx{α:Type}:∀ {l:List (List α)} {j:Nat} {s x:List α},l[j]?=some s->(l.set j (x++s)).flatten.Perm (x++l.flatten)
 | a::l,0,s,x,h=>by
   simp at h;subst h;simp
 | a::l,j+1,s,x,h=>by
   have D:=zlx (l:=l) (j:=j) (s:=s) (x:=x) (by simpa using h);simp;refine(D.append_left a).trans ?_;rw[<-df,<-df];exact List.perm_append_comm.append_right _
theorem zjo{n:Nat}:∀ {ts:l0},(∀t∈ts,1<=t.1/\t.1<=n)->(ts.map (·.2)).flatten.Perm (ir n ts).flatten
 | [],_=>by
   have:(ir n []).flatten=[]:=by simp[ir,ofS]
   rw[this];exact .nil
 | t::ts,h=>by
   have D:=zjo (n:=n) (ts:=ts) λt' I=>h t' (am _ I);obtain⟨h1,h2⟩:=h t bc;rw[zpt h1 h2,bn,cr];exact(D.append_left t.2).trans (zlx (o9 (by lia))).symm
def TurnsOk.tail(h:TurnsOk (ir n (t::ts)) (t::ts)):TurnsOk (ir n ts) ts:=by
 have lo:∀t'∈ts,1<=t'.1/\t'.1<=n:=λt' D=>by
  have:=h.lo t' (am _ D);rw[md] at this;exact this
 refine⟨λt' D=>by rw[md];exact lo t' D,λt' D=>h.good t' (am _ D),λj s I=>?_,(fb.mp h.srt).2,zjo lo⟩;have J:=(ai.mp I).1;rw[md] at J;rw[o9 J] at I;exact bu I
def z1z(a b:k7):cutD (a++b) none (some (a.length:Int))=a:=by
 unfold cutD;rw[HT.sIx_none,HT.sIx_nat];simp
def zvo(a b:k7):cutD (a++b) (some (a.length:Int)) none=b:=by
 unfold cutD;rw[HT.sIx_none,HT.sIx_nat];simp
variable{ar:Nat}{ds:k7}{e':DE0}
def zvp{I:k7}(h:ds.length=ar)(J:g (jl n ds)=some (.rf I,e')):runF n ar g ds=some I:=by
 unfold runF;rw[if_pos h,J]
def hT:lx->Bk
 | []=>(0,1,-1)
 | r::_=>blk r
def kD(b:Bk):D:=.lst [.int b.1,.int b.2.1,.int b.2.2]
variable{r:lu}{q:ic}
theorem z5j{b q:lu}(h1:gt (blk r) (blk b))(h2:gt (blk r) (blk q)):gt (blk r) (blk (b++q)):=by
 have h1:lss b*hrs r<lss r*hrs b:=h1;have h2:lss q*hrs r<lss r*hrs q:=h2;show lss (b++q)*hrs r<lss r*hrs (b++q);rw[ny,nz,ig,f9]
 lia
theorem zzt{r:lu}(I:0<hrs r):∀(rest:lx) (q:lu),(∀b∈rest,gt (blk r) (blk b))->(∀b∈rest,Good b)->(∀b∈rest,∀x∈b,gn x)->q <+: rest.flatten->q≠[]->gt (blk r) (blk q)
 | [],q,_,_,_,hq,ne=>by simp at hq;exact absurd hq ne
 | b::rest,q,hd,hg,hs,hq,ne=>by
   have J:=hg b (by simp);have R:=hs b (by simp);rcases znz hq with hq | ⟨q',rfl,hq'⟩
   ·have sq:∀x∈q,gn x:=λx U=>R x (hq.subset U)
    refine zyg I (pq b R J.ne) (pq q sq ne) (hd b (by simp)) ?_;have:=J.beg q hq;show ¬(lss b*hrs q<lss q*hrs b)
    lia
   ·by_cases S:q'=[]
    ·subst S
     rw[dh];exact hd b (by simp)
    ·exact z5j (hd b (by simp)) (zzt I rest q' (λc D=>hd c (by simp[D])) (λc D=>hg c (by simp[D])) (λc D=>hs c (by simp[D])) hq' S)
variable{s:lu}
def zn0(D:k<s.length):hrs (s.take (k+1))=hrs (s.take k)+s[k].2.1/\lss (s.take (k+1))=lss (s.take k)+s[k].2.2:=by
 rw[List.take_succ_eq_append_getElem D,nz,ny];simp[hrs,lss]
theorem z10(D:∀x∈s,gn x)(J:s.length<=14)(k:Nat):0<=hrs (s.take k)/\hrs (s.take k)<=840/\0<=lss (s.take k)/\lss (s.take k)<=1400:=by
 have:=xh (s.take k) λx I=>D x (List.mem_of_mem_take I);have h2:(s.take k).length<=14:=by rw[dz];lia
 lia
theorem z11(J:lx)(O:J.Pairwise λu b=>gt (blk u) (blk b))(G:∀r∈J,Good r)(c:∀x∈J.flatten,gn x)(H:J.flatten.length<=14):zf8 [.lst (J.flatten.map sD)]=some (kD (hT J)):=by
 cases J with
 | nil=>simp[zf8,runD,zhd,jl,hT,kD,qx 0 (by lia),rngD,forL,show iR1 [.int 0]=some (rngD 0 0) from qx 0 (by lia)]
 | cons r rest =>
   have n:(r::rest).flatten=r++rest.flatten:=cr ..;rw[n] at c H ⊢;have o:=G r (by simp);have K:∀x∈r,gn x:=λx p=>c x (by simp[p]);have P:=pq r K o.ne;have W:=xh r K;have t:=(fb.mp O).1;generalize Y:r++rest.flatten=s at *;have v:r.length<=s.length:=by rw[<-Y];simp
   have tk:∀k,k<=r.length->s.take k <+: r:=λk f=>by
    rw[<-Y,h9 f];exact List.take_prefix _ _
   obtain⟨e',h1,X,j,rfl,R,S⟩:=yd (i:=4) (g:=zd4) (λk e=>∃(b:Bk) (j:la),e=[some (.sh (.lst (s.map sD))),some (.sh (kD b)),some (.sh (.int (hrs (s.take k)))),some (.sh (.int (lss (s.take k)))),j] /\
     (k<r.length->b=(0,1,-1)\/∃q,q <+: r/\b=blk q)/\(r.length<=k->b=blk r)) (rngD 0 s.length)
    [some (.sh (.lst (s.map sD))),some (.sh (kD (0,1,-1))),some (.sh (.int 0)),some (.sh (.int 0)),none] ⟨(0,1,-1),none,by simp[hrs,lss],λ_=>.inl rfl,λh=>absurd (List.length_eq_zero_iff.mp (Nat.le_zero.mp h)) o.ne⟩ (by
     rintro k d e w ⟨b,j,rfl,R,S⟩;obtain⟨rfl,f⟩:=z8 w;obtain⟨l,m⟩:=zn0 f;have bd:=z10 c H (k+1);have L:atI (s.map sD) (0+(k:Int))=some (sD s[k]):=by rw[iy];exact ly sD (by simp[f])
     have D:l3 (hrs (s.take (k+1))):=rj (by lia);have I:l3 (lss (s.take (k+1))):=rj (by lia);have M:dIx (sD s[k]) (.int 1)=some (.int s[k].2.1):=rfl;have N:dIx (sD s[k]) (.int 2)=some (.int s[k].2.2):=rfl;have y:zd4 [some (.sh (.lst (s.map sD))),some (.sh (kD b)),some (.sh (.int (hrs (s.take k)))),some (.sh (.int (lss (s.take k)))),some (.sh (.int (0+(k:Int))))] =
       some (.nx,[some (.sh (.lst (s.map sD))),some (.sh (kD (if b.2.2*hrs (s.take (k+1))<=lss (s.take (k+1))*b.2.1 then blk (s.take (k+1)) else b))),some (.sh (.int (hrs (s.take (k+1))))),some (.sh (.int (lss (s.take (k+1))))),some (.sh (.int (0+(k:Int))))]):=by
      have a:((s.take (k+1)).length:Int)=0+(k:Int)+1:=by rw[dz];lia
      by_cases Z:b.2.2*hrs (s.take (k+1))<=lss (s.take (k+1))*b.2.1
      ·rw[if_pos Z,show blk (s.take (k+1))=(0+(k:Int)+1,hrs (s.take (k+1)),lss (s.take (k+1))) by unfold blk;rw[a]]
       rw[l] at D;rw[m] at I;rw[l,m] at Z ⊢;simp only[zd4,kD,sSeq,sSet,sIf,sNil,fBin,fVar,fIxV,ixSl,fC,fTst,fLst,f8,aw,fNil,ae,af,ac,aj,ax,ay,L,M,N,i4,ze,ww,ui I,zzo D,dGe,decide_eq_true Z,if_true,ak,b6,show(0+1+1+1<=64)=True by simp]
      ·rw[if_neg Z]
       rw[l] at D;rw[m] at I;rw[l,m] at Z ⊢;simp only[zd4,kD,sSeq,sSet,sIf,sNil,fBin,fVar,fIxV,ixSl,fC,fTst,fLst,f8,aw,fNil,ae,af,ac,aj,ax,ay,L,M,N,i4,ze,ww,ui I,zzo D,dGe,decide_eq_false Z,bw,if_false]
     refine⟨_,y,_,_,rfl,λU=>?_,λQ=>?_⟩
     ·split
      ·exact .inr ⟨_,tk (k+1) (by lia),rfl⟩
      ·exact R (by lia)
     ·by_cases A:r.length<=k
      ·have V:=S A
       subst V;rw[if_neg];have B:s.take (k+1)=r++rest.flatten.take (k+1-r.length):=by
        rw[<-Y,List.take_append,jm (by lia)]
       have C:(rest.flatten.take (k+1-r.length))≠[]:=by
        intro z;have:=congrArg List.length z;rw[dz] at this;have T:s.length=r.length+rest.flatten.length:=by rw[<-Y,ao]
        simp only[b6] at this
        lia
       have U:=zzt P rest _ t (λb V=>G b (by simp[V])) (λb V x p=>c x (by rw[<-Y];exact b7 _ (fm.mpr ⟨b,V,p⟩))) (List.take_prefix (k+1-r.length) rest.flatten) C;rw[B,nz,ny];have U:lss (rest.flatten.take (k+1-r.length))*hrs r<lss r*hrs (rest.flatten.take (k+1-r.length)):=U;show ¬(lss r*(hrs r+hrs _)<=(lss r+lss _)*hrs r);rw[f9,ig]
       lia
      ·have E:k+1=r.length:=by lia
       have B:s.take (k+1)=r:=by rw[E,<-Y];exact jo
       rw[B,if_pos];rcases R (by lia) with rfl | ⟨q,C,rfl⟩
       ·show -1*hrs r<=lss r*1
        lia
       ·exact o.beg q C)
   rw[yh,List.take_length] at h1;have V:=S (by rw[yh];exact v);subst V;have hi:iR1 [.int (s.length:Int)]=some (rngD 0 s.length):=qx s.length (by lia);refine j3 (e':=[some (.sh (.lst (s.map sD))),some (.sh (kD (blk r))),some (.sh (.int (hrs s))),some (.sh (.int (lss s))),j]) rfl ?_;show zhd [some (.sh (.lst (s.map sD))),none,none,none,none]=_;have F:kD (0,1,-1)=.lst [.int 0,.int 1,.int (-1)]:=rfl;rw[F] at h1;simp[zhd,hi,h1];rfl
def zq1(h:r∈ofS ts j):(j+1,r)∈ts:=by
 obtain⟨t,D,rfl⟩:=d7.mp h;obtain⟨h1,h2⟩:=f6.mp D;have:t.1=j+1:=by simpa using h2
 rw[<-this];exact h1
theorem z5k(h:ts.Pairwise bef):(ofS ts j).Pairwise λu b=>gt (blk u) (blk b):=by
 unfold ofS;rw[List.pairwise_map,List.pairwise_filter];refine h.imp λ{a b} hab ha hb=>?_;rcases hab with z | z
 ·exact z
 ·have h1:a.1=j+1:=by simpa using ha
  have h2:b.1=j+1:=by simpa using hb
  lia
def nv(n:Nat)(ts:l0):List Bk:=(List.range n).map λj=>hT (ofS ts j)
def zly(h:j<n):(nv n ts)[j]?=some (hT (ofS ts j)):=by simp[nv,h]
theorem zlh(ok:TurnsOk (ir n (t::ts)) (t::ts)):hT (ofS (t::ts) (t.1-1))=blk t.2:=by
 have h1:=(ok.lo t (by simp)).1;rw[zgb t ts (t.1-1) (by lia)];rfl
theorem zzu(ok:TurnsOk (ir n (t::ts)) (t::ts))(D:∀x∈(ir n (t::ts)).flatten,gn x)(j:Nat) :
  ¬gt (hT (ofS (t::ts) j)) (blk t.2)/\(j<t.1-1->gt (blk t.2) (hT (ofS (t::ts) j))):=by
 have pt:=ok.pos D t (by simp);have st:=xh t.2 (ok.sk D t (by simp));cases h:ofS (t::ts) j with
 | nil =>
   have g:gt (blk t.2) (0,1,-1):=by
    show -1*hrs t.2<lss t.2*1
    lia
   exact⟨uo g,λ_=>g⟩
 | cons r rest =>
   have hm:(j+1,r)∈t::ts:=zq1 (by rw[h];simp);rcases ce.mp hm with e | hm
   ·subst e
    exact⟨λz=>uo z z,λz=>by simp at z⟩
   ·have I:=(fb.mp ok.srt).1 _ hm
    rcases I with z | ⟨z,z'⟩
    ·exact⟨uo z,λ_=>z⟩
    ·exact⟨z,λw=>by simp at z';lia⟩
def ztj(n:Nat)(ts:l0):(ir n ts).map (λs=>D.lst (s.map sD))=(List.range n).map λj=>D.lst ((ofS ts j).flatten.map sD):=by
 unfold ir;rw[iw];rfl
def ztk(h:j<n):∀x∈(ofS ts j).flatten,x∈(ir n ts).flatten:=λx D =>
 fm.mpr ⟨_,bg (o9 (ts:=ts) h),D⟩
def zvq(h:j<n):(ofS ts j).flatten.length<=(ir n ts).flatten.length :=
 (ek (bg (o9 (ts:=ts) h))).length_le
theorem z5l(ok:TurnsOk (ir n ts) ts)(D:∀x∈(ir n ts).flatten,gn x)(I:(ir n ts).flatten.length<=14)(j:Nat):SmB (hT (ofS ts j)):=by
 cases h:ofS ts j with
 | nil=>exact⟨rj (by decide),rj (by decide)⟩
 | cons r rest=>exact ok.sm D (by lia) (j+1,r) (zq1 (by rw[h];simp))
def zvr(H:List Bk)(v0 v1 v2:la)(k p:Nat)(bk D:Bk)(Y:H[k]?=some bk)(Z:H[p]?=some D)(sk:SmB bk)(sp:SmB D) :
  yu [v0,v1,v2,some (.sh (.lst (H.map kD))),some (.sh (.int (p:Int))),some (.sh (.int (0+(k:Int))))] =
   some (.nx,[v0,v1,v2,some (.sh (.lst (H.map kD))),some (.sh (.int ((if gt bk D then k else p:Nat):Int))),some (.sh (.int (0+(k:Int))))]):=by
 rw[iy];have R:atI (H.map kD) (k:Int)=some (kD bk):=ly kD Y;have S:atI (H.map kD) (p:Int)=some (kD D):=ly kD Z;have U:∀b:Bk,dIx (kD b) (.int 1)=some (.int b.2.1):=λ_=>rfl;have V:∀b:Bk,dIx (kD b) (.int 2)=some (.int b.2.2):=λ_=>rfl;by_cases J:gt bk D
 ·have I:D.2.2*bk.2.1<bk.2.2*D.2.1:=J
  rw[if_pos J];simp only[yu,sIf,sSet,sNil,fTst,fBin,fIxV,ixSl,fVar,fC,ae,af,ac,aj,ax,ay,R,S,U,V,ui sk.2,ui sp.2,dGt,decide_eq_true I,if_true]
 ·have I:¬D.2.2*bk.2.1<bk.2.2*D.2.1:=J
  rw[if_neg J];simp only[yu,sIf,sSet,sNil,fTst,fBin,fIxV,ixSl,fVar,fC,ae,af,ac,aj,ax,ay,R,S,U,V,ui sk.2,ui sp.2,dGt,decide_eq_false I,bw,if_false]
theorem z12(ok:TurnsOk (ir n (t::ts)) (t::ts))(S:∀x∈(ir n (t::ts)).flatten,gn x)(b:(ir n (t::ts)).flatten.length<=14)(v0 v1 v2 R:la) :
  ∃I,forL 5 yu (rngD 0 n) [v0,v1,v2,some (.sh (.lst ((nv n (t::ts)).map kD))),some (.sh (.int 0)),R] =
   some (.nx,[v0,v1,v2,some (.sh (.lst ((nv n (t::ts)).map kD))),some (.sh (.int ((t.1-1:Nat):Int))),I]):=by
 have lo:=ok.lo t (by simp);rw[md] at lo;have U:t.1-1<n:=by lia
 obtain⟨e',h1,p,I,rfl,_,J,D⟩:=yd (i:=5) (g:=yu) (λk e=>∃(p:Nat) (R:la),e=[v0,v1,v2,some (.sh (.lst ((nv n (t::ts)).map kD))),some (.sh (.int (p:Int))),R]/\p<n/\(k<=t.1-1->p<=t.1-1/\(p<k\/p=0))/\(t.1-1<k->p=t.1-1))
  (rngD 0 n) [v0,v1,v2,some (.sh (.lst ((nv n (t::ts)).map kD))),some (.sh (.int 0)),R] ⟨0,R,rfl,by lia,λ_=>⟨gz _,.inr rfl⟩,λh=>absurd h (Nat.not_lt_zero _)⟩ (by
    rintro k d e V ⟨p,R,rfl,hpn,J,D⟩;obtain⟨rfl,c⟩:=z8 V;have body:=zvr (nv n (t::ts)) v0 v1 v2 k p _ _ (zly c) (zly hpn) (z5l ok S b k) (z5l ok S b p);refine⟨_,body,_,_,rfl,?_,λf=>?_,λY=>?_⟩
    ·split <;> lia
    ·have:=J (by lia)
     split
     ·exact⟨by lia,.inl (by lia)⟩
     ·exact⟨this.1,by lia⟩
    ·rcases Nat.lt_or_eq_of_le (Nat.le_of_lt_succ Y) with hlt' | heq
     ·have Z:=D hlt'
      subst Z;rw[zlh ok,if_neg (zzu ok S k).1]
     ·have:=J (by lia)
      subst heq;rw[zlh ok];by_cases a:p=t.1-1
      ·subst a
       rw[zlh ok,if_neg (λz=>uo z z)]
      ·rw[if_pos ((zzu ok S p).2 (by lia))])
 rw[yh] at D;have Z:=D U;subst Z;exact⟨I,h1⟩
noncomputable def zsc:FT:=fTst (fBin dGt (d5 bSum (aw (fLst (iz (fiV 1) [] fYes (i9 0))) (fNil))) (fC (.int 0)))
theorem ztl(ok:TurnsOk (ir n (t::ts)) (t::ts))(e:∀x∈(ir n (t::ts)).flatten,gn x)(f:(ir n (t::ts)).flatten.length<=14)(C:n<=1000)(v0 h i g:la)(M:k7)(E:M.length<=1000) :
  ∃k l V,ze1 [v0,some (.ow ((ir n (t::ts)).map λs=>D.lst (s.map sD))),some (.ow M),h,i,g]=some (.nx,[v0,some (.ow ((ir n ts).map λs=>D.lst (s.map sD))),some (.ow (M++[tnD t])),k,l,V]):=by
 have lo:=ok.lo t (by simp);rw[md] at lo;have c:=o7 (te:=d5 zf8 (aw (fVar 0) (fNil))) (base:=[]) (λj:Nat=>D.lst ((ofS (t::ts) j).flatten.map sD)) (λj:Nat=>kD (hT (ofS (t::ts) j))) (List.range n) (λj U=>by
  have U:j<n:=j5.mp U;have m:=z11 (ofS (t::ts) j) (z5k ok.srt) (λr o=>ok.good _ (zq1 o)) (λx p=>e x (ztk U x p)) (de (zvq U) f);refine⟨[some (.sh (.lst ((ofS (t::ts) j).flatten.map sD)))],?_⟩;simp only[d5,aw,fVar,fNil,ae,ac,m,aj])
 have q:(List.range n).map (λj:Nat=>kD (hT (ofS (t::ts) j)))=(nv n (t::ts)).map kD:=by unfold nv;rw[iw];rfl
 rw[q,<-ztj] at c;obtain⟨V,u⟩:=z12 ok e f v0 (some (.ow ((ir n (t::ts)).map λs=>D.lst (s.map sD)))) (some (.ow M)) g;have Y:atI ((nv n (t::ts)).map kD) ((t.1-1:Nat):Int)=some (kD (blk t.2)):=by
  rw[<-zlh ok];exact ly kD (zly (by lia))
 have R:=zmy (ts:=ts) lo.1 lo.2;have S:=zq0 (ts:=ts) lo.1 lo.2;have Z:atI ((ir n (t::ts)).map λs=>D.lst (s.map sD)) ((t.1-1:Nat):Int)=some (.lst ((t.2++(ofS ts (t.1-1)).flatten).map sD)):=ly (λs:lu=>D.lst (s.map sD)) R;have I:=zvo (t.2.map sD) ((ofS ts (t.1-1)).flatten.map sD);rw[<-db,ah] at I;have a:ixN ((ir n (t::ts)).map λs=>D.lst (s.map sD)).length ((t.1-1:Nat):Int)=some (t.1-1):=by
  rw[uq (by lia) (by rw[ah,md];lia)];congr 1
 have J:((ir n (t::ts)).map λs=>D.lst (s.map sD)).set (t.1-1) (.lst ((ofS ts (t.1-1)).flatten.map sD))=(ir n ts).map λs=>D.lst (s.map sD):=by
  rw[S,iu]
 have v:Few ((ir n (t::ts)).map λs=>D.lst (s.map sD)).length:=few (by rw[ah,md];lia);have b:Few (M.length+1):=few (by lia);have hi:iR1 [.int (((nv n (t::ts)).map kD).length:Int)]=some (rngD 0 n):=by
  rw[ah,show(nv n (t::ts)).length=n by simp[nv]];exact qx n (by lia)
 have w:((t.1-1:Nat):Int)+1=(t.1:Int):=by lia
 generalize ((nv n (t::ts)).map kD)=HL at *;generalize y:((t.1-1:Nat):Int)=pp at *;have z:dIx (kD (blk t.2)) (.int 0)=some (.int (t.2.length:Int)):=rfl;have A:dIx (kD (blk t.2)) (.int 1)=some (.int (hrs t.2)):=rfl;have B:dIx (kD (blk t.2)) (.int 2)=some (.int (lss t.2)):=rfl;have d:D.tup [.int (t.1:Int),.int (t.2.length:Int),.int (hrs t.2),.int (lss t.2)]=tnD t:=rfl;refine⟨some (.sh (.lst HL)),some (.sh (.int pp)),V,?_⟩;simp only[ze1,sSeq,sSet,sFor,i7,uk,za,fLst,iz,fiV,jw,aw,fNil,i9,fC,nj,wx,fTup,fBin,i4,fIxV,ixSl,fVar,fSl,fO0,fO1,ae,af,ac,aj,ax,ay,du,v,b,if_true,c,hi,u,Y,z,A,B,w,d,Z,I,a,J,ak,b6,show(0+1+1+1+1<=64)=True by simp]
theorem zlz{n:Nat}(q:n<=1000)(v0:la):∀(ts:l0) (I:Nat) (S U V:la) (M:k7),ts.length<I->M.length+ts.length<=1000->TurnsOk (ir n ts) ts->(∀x∈(ir n ts).flatten,gn x)->(ir n ts).flatten.length<=14 ->
  ∃Z b d g,mf zsc ze1 I [v0,some (.ow ((ir n ts).map λs=>D.lst (s.map sD))),some (.ow M),S,U,V]=some (.nx,[v0,Z,some (.ow (M++ts.map tnD)),b,d,g])
 | _,0,_,_,_,_,h,_,_,_,_=>by lia
 | ts,f+1,S,U,V,M,h,hM,ok,hg,hl=>by
   have c:=o7 (te:=i9 0) (base:=[]) (λs:lu=>D.lst (s.map sD)) (λs:lu=>D.int (s.length:Int)) (ir n ts) λs _=>⟨_,by simp;rfl⟩;have r:=xg (λs:lu=>(s.length:Int)) (ir n ts);have v:Few ((ir n ts).map λs=>D.lst (s.map sD)).length:=few (by rw[ah,md];lia);have Y:((ir n ts).map λs:lu=>(s.length:Int)).sum=((ts.map (·.2)).flatten.length:Int):=by
    have e:∀l:lx,(l.map λs:lu=>(s.length:Int)).sum=(l.flatten.length:Int):=λl=>by
     induction l with
     | nil=>rfl
     | cons a l i=>rw[bn,gm,i,cr,ao];lia
    rw[e,ok.perm.length_eq]
   rw[Y] at r;have w:zsc [v0,some (.ow ((ir n ts).map λs=>D.lst (s.map sD))),some (.ow M),S,U,V]=some (decide (0<((ts.map (·.2)).flatten.length:Int)),[v0,some (.ow ((ir n ts).map λs=>D.lst (s.map sD))),some (.ow M),S,U,V]):=by
    unfold zsc;generalize ((ir n ts).map λs=>D.lst (s.map sD))=L at *;simp[iz,fiV,v,c,r]
   unfold mf;rw[w,ac];dsimp only;cases ts with
   | nil =>
     rw[if_neg (by simp)];exact⟨some (.ow ((ir n []).map λs=>D.lst (s.map sD))),S,U,V,by rw[du,dh]⟩
   | cons t ts =>
     have u:0<t.2.length:=i5.mpr (ok.good t (by simp)).ne;rw[if_pos (by simp[decide_eq_true_eq];lia)];obtain⟨b,d,g,R⟩:=ztl ok hg hl q v0 S U V M (by simp at hM;lia);rw[R,ac];dsimp only;have j:=ok.tail;have lo:=ok.lo t (by simp);rw[md] at lo;have J:(t.2++(ir n ts).flatten).Perm (ir n (t::ts)).flatten:=by
      rw[zpt lo.1 lo.2];exact(zlx (o9 (by lia))).symm
     have k:=J.length_eq;rw[ao] at k;obtain⟨Z,m,o,p,i⟩:=zlz q v0 ts f b d g (M++[tnD t]) (by simp at h;lia) (by simp at hM ⊢;lia) j (λx y=>hg x (J.mem_iff.mp (b7 _ y))) (by lia);exact⟨Z,m,o,p,by rw[i];simp⟩
theorem zy(ok:TurnsOk ss ts)(J:∀x∈ss.flatten,gn x)(R:ss.flatten.length<=14)(b:ss.length<=900):zfj [ssL ss]=some (.lst (ts.map tnD)):=by
 have S:=ok.len;have I:=ok.left;have c:=o7 (te:=fLst (jw uf (aw (fVar 0) (fNil)))) (base:=[]) (λs:lu=>D.lst (s.map sD)) (λs:lu=>D.lst (s.map sD)) ss λs _=>⟨_,by simp;rfl⟩;have U:Few (ss.map λs=>D.lst (s.map sD)).length:=few (by rw[ah];lia);obtain⟨V,Y,Z,a,h⟩:=zlz (n:=ss.length) (by lia) (some (.sh (ssL ss))) ts 10000 none none none [] (by lia) (by simp;lia) (by rw[I];exact ok) (by rw[I];exact J) (by rw[I];exact R);rw[I,lj] at h;refine j3 (e':=[some (.sh (ssL ss)),V,some (.sh (.lst (ts.map tnD))),Y,Z,a]) rfl ?_;show zif [some (.sh (.lst (ss.map λs=>D.lst (s.map sD)))),none,none,none,none,none]=_;unfold zsc ssL at h;unfold ssL;generalize (ss.map λs=>D.lst (s.map sD))=L at *;simp[zif,iz,U,c,h]
def jq(ts:l0):ic:=(ts.map λt=>List.replicate t.2.length t.1).flatten
def iD(I:ic):k7:=I.map λn:Nat=>D.int (n:Int)
def rn(a b:l0):jq (a++b)=jq a++jq b:=by simp[jq]
def vw(t:Tn):jq [t]=List.replicate t.2.length t.1:=by simp[jq]
def zpu(ts:l0):(jq ts).length=(ts.map (·.2)).flatten.length:=by
 induction ts with
 | nil=>rfl
 | cons t ts ih =>
   rw[show t::ts=[t]++ts from rfl,rn,vw,ao,fg,ih];simp
def zq2(d:D)(k:Nat):(List.replicate k [d]).flatten=List.replicate k d:=by simp_all
def zzv(a b:ic):iD (a++b)=iD a++iD b:=by simp[iD]
def zzw(k a:Nat):iD (List.replicate k a)=List.replicate k (.int (a:Int)):=by simp[iD]
def zzx(a:ic):(iD a).length=a.length:=by simp[iD]
theorem bndN(k:Nat)(h:k<=1000000):Bnd (-(2 ^ 62)) (2 ^ 62) (k:Int):=⟨by lia,by lia⟩
theorem z13(ok:TurnsOk ss ts)(S:∀x∈ss.flatten,gn x)(R:ss.flatten.length<=14)(U:ss.length<=900):zqv [ssL ss]=some (iD (jq ts)):=by
 have V:=zy ok S R U;have I:(jq ts).length<=14:=by rw[zpu,ok.perm.length_eq];exact R
 obtain⟨e',h1,v2,rfl⟩:=rh (i:=2) (g:=zhe) tnD (λp e=>∃v2,e=[some (.sh (ssL ss)),some (.ow (iD (jq p))),v2]) ts
  [some (.sh (ssL ss)),some (.ow []),none] ⟨none,rfl⟩ (by
   rintro p t q e J ⟨v2,rfl⟩;have Y:(jq p).length+t.2.length<=14:=by
    rw[J,rn,show t::q=[t]++q from rfl,rn,vw] at I;simp at I
    lia
   have Z:Few (1*t.2.length):=few (by lia);have a:Few ((iD (jq p)).length+(List.replicate t.2.length (D.int (t.1:Int))).length):=few (by rw[zzx,fg];lia);have b:=bndN t.2.length (by lia);have c:iD (jq p)++List.replicate t.2.length (D.int (t.1:Int))=iD (jq (p++[t])):=by rw[rn,vw,zzv,zzw]
   refine⟨[some (.sh (ssL ss)),some (.ow (iD (jq (p++[t])))),some (.sh (tnD t))],?_,_,rfl⟩;rw[<-c];unfold tnD;simp only[zhe,sOwn,fCat,fVar,fLst,fRep,f8,aw,fIxV,ixSl,fC,fNil,ae,af,ac,aj,ax,ay,z6z,z60,ak,b6,show(0+1<=64)=True by simp,if_true,e7,j1,Z,b,and_self,zq2,a])
 refine zvp (e':=[some (.sh (ssL ss)),some (.ow (iD (jq ts))),v2]) rfl ?_;show zjl [some (.sh (ssL ss)),none,none]=_;simp[zjl,V,h1]
theorem zhr(ok:TurnsOk ss ts)(U:yw [ssL ss]=some (.lst (ts.map tnD)))(Z:ss.flatten.length<=14):wm [ssL ss]=some (iD (jq ts)):=by
 have I:(jq ts).length<=14:=by rw[zpu,ok.perm.length_eq];exact Z
 obtain⟨e',h1,v2,J,R,S,rfl⟩:=zz (ix:=[2,3,4,5]) (g:=ze0) (λt:Tn=>[D.int (t.1:Int),.int (t.2.length:Int),.int (hrs t.2),.int (lss t.2)]) (λp e=>∃v2 J R S,e=[some (.sh (ssL ss)),some (.ow (iD (jq p))),v2,J,R,S]) ts
  [some (.sh (ssL ss)),some (.ow []),none,none,none,none] ⟨none,none,none,none,rfl⟩ (λ_ _=>rfl) (by
   rintro p t q e V ⟨v2,J,R,S,rfl⟩;have a:(jq p).length+t.2.length<=14:=by
    rw[V,rn,show t::q=[t]++q from rfl,rn,vw] at I;simp at I
    lia
   have b:Few (1*t.2.length):=few (by lia);have c:Few ((iD (jq p)).length+(List.replicate t.2.length (D.int (t.1:Int))).length):=few (by rw[zzx,fg];lia);have d:=bndN t.2.length (by lia);have f:iD (jq p)++List.replicate t.2.length (D.int (t.1:Int))=iD (jq (p++[t])):=by rw[rn,vw,zzv,zzw]
   refine⟨[some (.sh (ssL ss)),some (.ow (iD (jq (p++[t])))),some (.sh (.int (t.1:Int))),some (.sh (.int (t.2.length:Int))),some (.sh (.int (hrs t.2))),some (.sh (.int (lss t.2)))],?_,_,_,_,_,rfl⟩;rw[<-f];simp only[tj,ze0,i7,zni,z1f,fRep,f8,aw,fVar,fNil,ae,af,ac,aj,ax,ay,ak,b6,show(0+1<=64)=True by simp,if_true,e7,j1,b,d,and_self,zq2,c])
 refine zvp (e':=[some (.sh (ssL ss)),some (.ow (iD (jq ts))),v2,J,R,S]) rfl ?_;show zie [some (.sh (ssL ss)),none,none,none,none,none]=_;have Y:forU [2,3,4,5] ze0 (ts.map tnD) [some (.sh (ssL ss)),some (.ow []),none,none,none,none]=_:=h1;simp[zie,U,Y]
structure Whole (ss:lx) (os:ic):Prop where
 lo:∀a∈os,1<=a/\a<=ss.length
 cnt:∀(j:Nat) (s:lu),ss[j]?=some s->os.count (j+1)=s.length
theorem zvs(m:Nat):∀n:Nat,((List.range n).map λj=>if j=m then 1 else 0).sum=if m<n then 1 else 0
 | 0=>by simp
 | n+1=>by
   rw[sj,db,List.sum_append,zvs m n];simp only[bn,du,gm,List.sum_nil];by_cases h1:m<n
   ·rw[if_pos h1,if_neg (by lia),if_pos (by lia)];rfl
   ·rw[if_neg h1]
    by_cases h2:n=m
    ·rw[if_pos h2,if_pos (by lia)];rfl
    ·rw[if_neg h2,if_neg (by lia)];rfl
theorem zvt{α:Type}(f g:α->Nat):∀l:List α,(l.map λx=>f x+g x).sum=(l.map f).sum+(l.map g).sum
 | []=>rfl
 | x::l=>by
   simp[gm,zvt f g l]
   lia
theorem zvu(n:Nat):∀(p:ic),(∀a∈p,1<=a/\a<=n)->((List.range n).map λj=>p.count (j+1)).sum=p.length
 | [],_=>by
   have:∀l:ic,(l.map λj=>([]:ic).count (j+1)).sum=0:=λl=>by
    induction l with
    | nil=>rfl
    | cons a l D=>rw[bn,gm,D];rfl
   rw[this];rfl
 | a::p,h=>by
   have D:=zvu n p λb J=>h b (am _ J);have R:=h a bc;have e:(λj=>(a::p).count (j+1))=λj=>p.count (j+1)+if j=a-1 then 1 else 0:=by
    funext j;rw[List.count_cons];by_cases I:j=a-1
    ·rw[if_pos I,if_pos (by simp;lia)]
    ·rw[if_neg I,if_neg (by simp;lia)]
   rw[e,zvt,D,zvs,if_pos (by lia),ak]
def zyi(ss:lx):((List.range ss.length).map λj=>(ss.getD j []).length).sum=ss.flatten.length:=by
 have:(List.range ss.length).map (λj=>(ss.getD j []).length)=ss.map List.length:=by
  apply em;intro i;by_cases h:i<ss.length
  ·simp[h]
  ·simp[h]
 rw[this,i6]
variable{os:ic}
def Whole.len(h:Whole ss os):os.length=ss.flatten.length:=by
 rw[<-zvu ss.length os h.lo,<-zyi];congr 1;apply List.map_congr_left;intro j D;have D:j<ss.length:=j5.mp D;rw[h.cnt j ss[j] (by simp[D])];simp[D]
def zq3{P:List α->Prop}(D:P [])(I:∀p a,P p->P (p++[a]))(p:List α):P p:=by
 have:∀l:List α,P l.reverse:=λl=>by
  induction l with
  | nil=>exact D
  | cons a l ih=>rw[List.reverse_cons];exact I _ _ ih
 rw[<-List.reverse_reverse p];exact this _
def qu(ss:lx)(a c:Nat):Sk:=(ss.getD (a-1) []).getD c (0,0,0)
def tk(ss:lx)(os:ic):lu:=(List.range os.length).map λi=>qu ss (os.getD i 0) ((os.take i).count (os.getD i 0))
theorem zu(ss:lx)(p:ic)(a:Nat):tk ss (p++[a])=tk ss p++[qu ss a (p.count a)]:=by
 unfold tk;rw[ao,js,sj,db];congr 1
 ·apply List.map_congr_left
  intro i hi;have hi:i<p.length:=j5.mp hi;have D:(p++[a]).getD i 0=p.getD i 0:=by
   rw[av,av,az hi]
  rw[D,h9 (by lia)]
 ·have D:(p++[a]).getD p.length 0=a:=by simp
  simp only[bn,du];rw[D,jo]
def zzy(ss:lx)(os:ic):(tk ss os).length=os.length:=by simp[tk]
theorem Whole.at{ss:lx}{p q:ic}{a:Nat}(h:Whole ss (p++a::q)):∃s,ss[a-1]?=some s/\p.count a<s.length/\s[p.count a]?=some (qu ss a (p.count a))/\1<=a/\a<=ss.length:=by
 obtain⟨h1,h2⟩:=h.lo a (by simp);have D:a-1<ss.length:=by lia
 have J:=h.cnt (a-1) ss[a-1] (by simp[D]);rw[show a-1+1=a by lia,List.count_append,List.count_cons_self] at J;have I:p.count a<ss[a-1].length:=by lia
 refine⟨ss[a-1],by simp[D],I,?_,h1,h2⟩;unfold qu;simp[D,I]
def Whole.mem(h:Whole ss os):∀(p:ic),∀(q:ic),os=p++q->∀x∈tk ss p,x∈ss.flatten:=by
 apply zq3
 ·intro q _ x hx
  simp[tk] at hx
 ·intro p a J q I x hx
  rw[zu] at hx;rcases cz.mp hx with hx | hx
  ·exact J (a::q) (by rw[I];simp) x hx
  ·rw[I,df,gc] at h
   obtain⟨s,R,S,D,_⟩:=h.at;have e:x=qu ss a (p.count a):=by simpa using hx
   subst e;exact fm.mpr ⟨s,bg R,bg D⟩
def Whole.sk(h:Whole ss os):∀x∈tk ss os,x∈ss.flatten:=h.mem os [] (by simp)
theorem zsd(ts:l0)(j:Nat):(jq ts).count (j+1)=(ofS ts j).flatten.length:=by
 induction ts with
 | nil=>simp[jq,ofS]
 | cons t ts ih =>
   rw[show t::ts=[t]++ts from rfl,rn,vw,List.count_append,ih];by_cases e:t.1=j+1
   ·rw[gc,zgb t ts j e,cr,ao,e,List.count_replicate_self]
   ·rw[gc,zhq t ts j e,List.count_replicate,if_neg (by simpa using e)]
    lia
def TurnsOk.whole(ok:TurnsOk ss ts):Whole ss (jq ts):=by
 refine⟨λa I=>?_,λj s J=>?_⟩
 ·obtain⟨l,R,D⟩:=fm.mp I
  obtain⟨t,S,rfl⟩:=d7.mp R;rw[List.eq_of_mem_replicate D];exact ok.lo t S
 ·rw[zsd,ok.part j s J]
def cntD(n:Nat)(f:Nat->Int):k7:=(List.range n).map λj=>D.int (f j)
def zn1(n:Nat)(f:Nat->Int):(cntD n f).length=n:=by simp[cntD]
def zq4(n:Nat)(f:Nat->Int)(j:Nat)(h:j<n):atI (cntD n f) (j:Int)=some (.int (f j)):=ly (λj:Nat=>D.int (f j)) (by simp[h])
def zse(n:Nat)(f g:Nat->Int)(j:Nat)(h:∀i,i<n->i≠j->g i=f i):(cntD n f).set j (.int (g j))=cntD n g:=by
 apply em;intro i;unfold cntD;rw[gl];by_cases hi:i<n
 ·by_cases e:j=i
  ·subst e;simp[hi]
  ·rw[if_neg e]
   simp[hi,h i hi (Ne.symm e)]
 ·by_cases e:j=i
  ·subst e;simp[hi]
  ·rw[if_neg e];simp[hi]
def zsf(n:Nat)(f:Nat->Int)(j:Nat)(h:j<n):(cntD n f)[j]?=some (.int (f j)):=by simp[cntD,h]
def zq5(h:ds.length=ar)(D:g (jl n ds)=some (.nx,e')):runD n ar g ds=some .non:=by
 unfold runD;rw[if_pos h,D]
theorem zma(R:1<=a)(S:a<=ss.length):zhg [ssL ss,.int (a:Int)]=some .non:=by
 have I:decide ((a:Int)<1)=false:=by simp;lia
 have J:decide (((ss.map λs=>D.lst (s.map sD)).length:Int)<(a:Int))=false:=by rw[ah];simp;lia
 refine zq5 (e':=[some (.sh (ssL ss)),some (.sh (.int (a:Int)))]) rfl ?_;show zhf [some (.sh (ssL ss)),some (.sh (.int (a:Int)))]=_;unfold ssL;generalize (ss.map λs=>D.lst (s.map sD))=L at *;simp only[zhf,sIf,sNil,fOr,fTst,fBin,fVar,fC,i9,dLt,dGt,ae,af,ac,aj,ax,ay,I,J,bw,if_false]
def lenF(ss:lx)(p:ic)(j:Nat):Int:=((ss.getD j []).length:Int)-(p.count (j+1):Int)
def zyj(ss:lx):(ss.map λs=>D.int (s.length:Int))=cntD ss.length (lenF ss []):=by
 apply em;intro i;unfold cntD lenF;by_cases h:i<ss.length
 ·simp[h]
 ·simp[h]
def zvv(ss:lx):m4 fYes (i9 0) [] (ss.map λs=>D.lst (s.map sD))=some (cntD ss.length (lenF ss [])):=by
 rw[<-zyj];exact o7 (te:=i9 0) (base:=[]) (λs:lu=>D.lst (s.map sD)) (λs:lu=>D.int (s.length:Int)) ss λs _=>⟨_,by simp;rfl⟩
def zg3(p:ic)(a b:Nat):(p++[a]).count b=p.count b+if a=b then 1 else 0:=by
 by_cases h:a=b
 ·simp[h]
 ·simp[h]
theorem zvw(ss:lx)(p:ic)(a:Nat)(h1:1<=a):lenF ss (p++[a]) (a-1)=lenF ss p (a-1)-1/\∀i,i≠a-1->lenF ss (p++[a]) i=lenF ss p i:=by
 unfold lenF;refine⟨?_,λi hi=>?_⟩
 ·rw[zg3,if_pos (by lia)];lia
 ·rw[zg3,if_neg (by lia)];lia
def ztm(h:Whole ss os)(j:Nat)(D:j<ss.length):lenF ss os j=0:=by
 unfold lenF;rw[h.cnt j ss[j] (by simp[D])];simp[D]
variable{p:ic}
theorem zyk(h:Whole ss (p++a::q)):0<lenF ss p (a-1):=by
 obtain⟨s,D,I,_,h1,h2⟩:=h.at;unfold lenF;rw[show a-1+1=a by lia,av,D];simp
 lia
def zvx(n:Nat)(f:Nat->Int):ints? (cntD n f)=some ((List.range n).map f):=by
 have:cntD n f=((List.range n).map f).map D.int:=by unfold cntD;rw[iw];rfl
 rw[this,zul]
theorem zsg(f:Nat->Int):∀n:Nat,(∀j,j<n->f j=0)->((List.range n).map f).sum=0
 | 0,_=>rfl
 | n+1,h=>by
   rw[sj,db,List.sum_append,zsg f n λj D=>h j (by lia)];simp[h n (by lia)]
theorem zmb(h:Whole ss os)(t:ss.length<=1000):zhi [ssL ss,.lst (iD os)]=some .non:=by
 obtain⟨e',h1,U,rfl⟩:=rh (i:=3) (g:=zd5) (λa:Nat=>D.int (a:Int)) (λp e=>∃U,e=[some (.sh (ssL ss)),some (.sh (.lst (iD os))),some (.ow (cntD ss.length (lenF ss p))),U]) os
  [some (.sh (ssL ss)),some (.sh (.lst (iD os))),some (.ow (cntD ss.length (lenF ss []))),none] ⟨none,rfl⟩ (by
   rintro p a q e V ⟨U,rfl⟩;have c:Whole ss (p++a::q):=by rw[<-V];exact h
   obtain⟨s,u,d,_,f,v⟩:=c.at;have w:=zyk c;obtain⟨k,l⟩:=zvw ss p a f;have Y:(a:Int)-1=((a-1:Nat):Int):=by lia
   have Z:=zq4 ss.length (lenF ss p) (a-1) (by lia);have R:=zsf ss.length (lenF ss p) (a-1) (by lia);have I:=zse ss.length (lenF ss p) (lenF ss (p++[a])) (a-1) (λi _ hi=>l i hi);rw[k] at I;have m:decide (lenF ss p (a-1)=0)=false:=by simp;lia
   have b:a-1<(cntD ss.length (lenF ss p)).length:=by rw[zn1];lia
   have n:(0:Int)<=((a-1:Nat):Int):=by lia
   refine⟨[some (.sh (ssL ss)),some (.sh (.lst (iD os))),some (.ow (cntD ss.length (lenF ss (p++[a])))),some (.sh (.int (a:Int)))],?_,_,rfl⟩;rw[<-I];generalize cntD ss.length (lenF ss p)=L at *;simp only[zd5,sSeq,sIf,sNil,uj,zxp,fTst,fBin,fIxV,ixSl,fVar,fC,dSub,dEq,ae,af,ac,aj,ax,ay,Y,Z,m,bw,if_false,n,if_true,e7,R,b])
 have Y:((List.range ss.length).map (lenF ss os)).sum=0:=zsg _ _ λj o=>ztm h j o;have J:=zvx ss.length (lenF ss os);have d:=zvv ss;have r:Few (ss.map λs=>D.lst (s.map sD)).length:=few (by rw[ah];lia);refine zq5 (e':=[some (.sh (ssL ss)),some (.sh (.lst (iD os))),some (.ow (cntD ss.length (lenF ss os))),U]) rfl ?_;show zhh [some (.sh (ssL ss)),some (.sh (.lst (iD os))),none,none]=_;have S:forL 3 zd5 (iD os) [some (.sh (ssL ss)),some (.sh (.lst (iD os))),some (.ow (cntD ss.length (lenF ss []))),none]=_:=h1;unfold ssL at S ⊢;generalize iD os=O at *;generalize (ss.map λs=>D.lst (s.map sD))=L at *;simp[zhh,iz,zxu,r,d,S,J,Y,Int.lt_irrefl]
def zmc(h:Whole ss os)(R:ss.length<=1000):zhk [ssL ss,.lst (iD os)]=some .non:=by
 obtain⟨e',h1,v2,rfl⟩:=rh (i:=2) (g:=zd6) (λa:Nat=>D.int (a:Int)) (λp e=>∃v2,e=[some (.sh (ssL ss)),some (.sh (.lst (iD os))),v2]) os
  [some (.sh (ssL ss)),some (.sh (.lst (iD os))),none] ⟨none,rfl⟩ (by
   rintro p a q e I ⟨v2,rfl⟩;obtain⟨S,U⟩:=h.lo a (by rw[I];simp);have V:=zma (ss:=ss) S U;simp[zd6,V])
 have h2:=zmb h R;refine zq5 (e':=[some (.sh (ssL ss)),some (.sh (.lst (iD os))),v2]) rfl ?_;show zhj [some (.sh (ssL ss)),some (.sh (.lst (iD os))),none]=_;have J:forL 2 zd6 (iD os) [some (.sh (ssL ss)),some (.sh (.lst (iD os))),none]=_:=h1;generalize iD os=O at *;simp[zhj,J,h2]
def cntF(p:ic)(j:Nat):Int:=(p.count (j+1):Int)
theorem zvy(p:ic)(a:Nat)(h1:1<=a):cntF (p++[a]) (a-1)=cntF p (a-1)+1/\∀i,i≠a-1->cntF (p++[a]) i=cntF p i:=by
 unfold cntF;refine⟨?_,λi hi=>?_⟩
 ·rw[zg3,if_pos (by lia)];lia
 ·rw[zg3,if_neg (by lia)];lia
def zkp(ss:lx):m4 fYes (fC (.int 0)) [] (ss.map λs=>D.lst (s.map sD))=some (cntD ss.length (cntF [])):=by
 rw[o7 (te:=fC (.int 0)) (base:=[]) (λs:lu=>D.lst (s.map sD)) (λs:lu=>D.int 0) ss λs _=>⟨_,by simp;rfl⟩];congr 1;apply em;intro i;unfold cntD cntF;by_cases h:i<ss.length
 ·simp[h]
 ·simp[h]
theorem zvz(R:Whole ss (p++a::q)) :
  (a:Int)-1=((a-1:Nat):Int)/\atI (cntD ss.length (cntF p)) ((a-1:Nat):Int)=some (.int (p.count a:Int))/\(cntD ss.length (cntF p))[a-1]?=some (.int (p.count a:Int)) /\
    (cntD ss.length (cntF p)).set (a-1) (.int ((p.count a:Int)+1))=cntD ss.length (cntF (p++[a]))/\a-1<(cntD ss.length (cntF p)).length/\ixN (cntD ss.length (cntF p)).length ((a-1:Nat):Int)=some (a-1) /\
    ∃s:lu,atI (ss.map λs=>D.lst (s.map sD)) ((a-1:Nat):Int)=some (.lst (s.map sD))/\atI (s.map sD) (p.count a:Int)=some (sD (qu ss a (p.count a))):=by
 obtain⟨s,S,b,U,V,c⟩:=R.at;obtain⟨Y,Z⟩:=zvy p a V;have J:cntF p (a-1)=(p.count a:Int):=by unfold cntF;rw[show a-1+1=a by lia]
 have I:=zse ss.length (cntF p) (cntF (p++[a])) (a-1) (λi _ hi=>Z i hi);rw[Y,J] at I;refine⟨by lia,?_,?_,I,by rw[zn1];lia,?_,s,ly (λs:lu=>D.lst (s.map sD)) S,ly sD U⟩
 ·rw[zq4 _ _ _ (by lia),J]
 ·rw[zsf _ _ _ (by lia),J]
 ·rw[uq (by lia) (by rw[zn1];lia)]
  congr 1
theorem zje(h:Whole ss os)(k:ss.length<=1000)(j:os.length<=1000):zft [ssL ss,.lst (iD os)]=some (.lst ((tk ss os).map sD)):=by
 obtain⟨e',h1,Y,rfl⟩:=rh (i:=4) (g:=zd7) (λa:Nat=>D.int (a:Int)) (λp e=>∃Y,e=[some (.sh (ssL ss)),some (.sh (.lst (iD os))),some (.ow (cntD ss.length (cntF p))),some (.ow ((tk ss p).map sD)),Y]) os
  [some (.sh (ssL ss)),some (.sh (.lst (iD os))),some (.ow (cntD ss.length (cntF []))),some (.ow []),none] ⟨none,rfl⟩ (by
   rintro p a q e I ⟨Y,rfl⟩;have l:Whole ss (p++a::q):=by rw[<-I];exact h
   obtain⟨m,Z,J,R,b,n,s,c,d⟩:=zvz l;have f:Few (((tk ss p).map sD).length+1):=few (by rw[ah,zzy];rw[I] at j;simp at j;lia);have o:(0:Int)<=((a-1:Nat):Int):=by lia
   have r:dIx (.lst (s.map sD)) (.int (p.count a:Int))=some (sD (qu ss a (p.count a))):=d;refine⟨[some (.sh (ssL ss)),some (.sh (.lst (iD os))),some (.ow (cntD ss.length (cntF (p++[a])))),some (.ow ((tk ss (p++[a])).map sD)),some (.sh (.int (a:Int)))],?_,_,rfl⟩;rw[<-R,zu,db,bn,du];unfold ssL;generalize (tk ss p).map sD=M at *;generalize s.map sD=S at *;simp only[zd7,sSeq,i7,uj,zxp,nj,wx,fBin,fIxV,ixSl,fVar,fC,dSub,i4,ae,af,ac,aj,ax,ay,m,Z,c,r,f,o,if_true,e7,J,b])
 have U:=zmc h k;have t:=zkp ss;have f:Few (ss.map λs=>D.lst (s.map sD)).length:=few (by rw[ah];lia);refine j3 (e':=[some (.sh (ssL ss)),some (.sh (.lst (iD os))),some (.ow (cntD ss.length (cntF os))),some (.sh (.lst ((tk ss os).map sD))),Y]) rfl ?_;show zhl [some (.sh (ssL ss)),some (.sh (.lst (iD os))),none,none,none]=_;have V:forL 4 zd7 (iD os) [some (.sh (ssL ss)),some (.sh (.lst (iD os))),some (.ow (cntD ss.length (cntF []))),some (.ow []),none]=_:=h1;unfold ssL at V U ⊢;generalize (ss.map λs=>D.lst (s.map sD))=L at *;simp[zhl,iz,U,f,t,V]
theorem zpv(h:Whole ss os)(n:ss.length<=1000)(c:os.length<=1000):zik [ssL ss,.lst (iD os)]=some (.lst ((tk ss os).map sD)):=by
 obtain⟨e',h1,S,rfl⟩:=rh (i:=4) (g:=ze2) (λa:Nat=>D.int (a:Int)) (λp e=>∃S,e=[some (.sh (ssL ss)),some (.sh (.lst (iD os))),some (.ow (cntD ss.length (cntF p))),some (.ow ((tk ss p).map sD)),S]) os
  [some (.sh (ssL ss)),some (.sh (.lst (iD os))),some (.ow (cntD ss.length (cntF []))),some (.ow []),none] ⟨none,rfl⟩ (by
   rintro p a q e I ⟨S,rfl⟩;have f:Whole ss (p++a::q):=by rw[<-I];exact h
   obtain⟨j,U,d,J,k,V,s,Y,Z⟩:=zvz f;have b:Few (((tk ss p).map sD).length+1):=few (by rw[ah,zzy];rw[I] at c;simp at c;lia);have l:dIx (.lst (s.map sD)) (.int (p.count a:Int))=some (sD (qu ss a (p.count a))):=Z;refine⟨[some (.sh (ssL ss)),some (.sh (.lst (iD os))),some (.ow (cntD ss.length (cntF (p++[a])))),some (.ow ((tk ss (p++[a])).map sD)),some (.sh (.int (a:Int)))],?_,_,rfl⟩;rw[<-J,zu,db,bn,du];unfold ssL;generalize (ss.map λs=>D.lst (s.map sD))=L at *;generalize (tk ss p).map sD=M at *;simp only[ze2,sSeq,i7,uk,za,nj,wx,fBin,fIxV,ixSl,fVar,fC,dSub,i4,ae,af,ac,aj,ax,ay,j,U,Y,l,b,if_true,V])
 have m:=zkp ss;have b:Few (ss.map λs=>D.lst (s.map sD)).length:=few (by rw[ah];lia);refine j3 (e':=[some (.sh (ssL ss)),some (.sh (.lst (iD os))),some (.ow (cntD ss.length (cntF os))),some (.sh (.lst ((tk ss os).map sD))),S]) rfl ?_;show zij [some (.sh (ssL ss)),some (.sh (.lst (iD os))),none,none,none]=_;have R:forL 4 ze2 (iD os) [some (.sh (ssL ss)),some (.sh (.lst (iD os))),some (.ow (cntD ss.length (cntF []))),some (.ow []),none]=_:=h1;unfold ssL at R ⊢;generalize (ss.map λs=>D.lst (s.map sD))=L at *;simp[zij,iz,b,m,R]
def oo(h:Int):List (Nat×Sk)->List ik
 | []=>[]
 | x::r=>[x.2.1,(x.1:Int),h,h+x.2.2.1]::oo (h+x.2.2.1) r
def o8(x:Sk)(r:lu):hrs (x::r)=x.2.1+hrs r:=rfl
def qf(x:Sk)(r:lu):lss (x::r)=x.2.2+lss r:=rfl
def zmz(x:Nat×Sk):∀(p:List (Nat×Sk)) (h:Int),oo h (p++[x])=oo h p++[[x.2.1,(x.1:Int),h+hrs (p.map (·.2)),h+hrs (p.map (·.2))+x.2.2.1]]
 | [],h=>by simp[oo,hrs]
 | y::p,h=>by
   rw[ft,oo,oo,zmz x p,bn,o8];rw[<-mz];rfl
def fc(h:Int):lu->Int
 | []=>0
 | x::r=>x.2.2*(h+x.2.1)+fc (h+x.2.1) r
theorem zkr(x:Sk):∀(p:lu) (h:Int),fc h (p++[x])=fc h p+x.2.2*(h+hrs p+x.2.1)
 | [],h=>by simp[fc,hrs]
 | y::p,h=>by
   rw[ft,fc,fc,zkr x p,o8,<-mz h]
   lia
def zn2(x:Sk):u4 [sD x]=some (.int x.2.1):=rfl
def zq6(x:Sk):wf [sD x]=some (.int x.2.2):=rfl
def zv0(x:Sk):zfs [sD x]=some (.int x.1):=rfl
def zpw:∀(p:List (Nat×Sk)) (h:Int),(oo h p).length=p.length
 | [],_=>rfl
 | x::p,h=>by rw[oo,ak,ak,zpw p]
theorem zyl(h:Whole ss os)(V:ss.length<=1000)(d:os.length<=900):zpq [ssL ss,.lst (iD os)]=some (.lst ((oo 0 (os.zip (tk ss os))).map iT)):=by
 have Y:=zje h V (by lia);obtain⟨e',h1,I,J,R,S,rfl,rfl⟩:=zz (ix:=[4,5]) (g:=zgs) (λx:Nat×Sk=>[D.int (x.1:Int),sD x.2])
  (λp e=>∃I J R S,e=[some (.sh (ssL ss)),some (.sh (.lst (iD os))),some (.ow ((oo 0 p).map iT)),I,J,R,S]/\I=some (.sh (.int (hrs (p.map (·.2)))))) (os.zip (tk ss os))
  [some (.sh (ssL ss)),some (.sh (.lst (iD os))),some (.ow []),some (.sh (.int 0)),none,none,none] ⟨_,none,none,none,rfl,rfl⟩ (λ_ _=>rfl) (by
   rintro p x q e U ⟨I,J,R,S,rfl,rfl⟩;have Z:Few (((oo 0 p).map iT).length+1):=few (by
    rw[ah,zpw];have:=congrArg List.length U;simp[List.length_zip] at this
    lia)
   have a:iT [x.2.1,(x.1:Int),0+hrs (p.map (·.2)),0+hrs (p.map (·.2))+x.2.2.1]=.tup [.int x.2.1,.int (x.1:Int),.int (hrs (p.map (·.2))),.int (hrs (p.map (·.2))+x.2.2.1)]:=by simp[iT]
   have b:hrs ((p++[x]).map (·.2))=hrs (p.map (·.2))+x.2.2.1:=by rw[db,nz];simp[hrs]
   rw[zmz,db,bn,du,a,b];generalize (oo 0 p).map iT=M at *;simp[tj,zgs,zn2,zv0,Z])
 refine j3 (e':=[some (.sh (ssL ss)),some (.sh (.lst (iD os))),some (.sh (.lst ((oo 0 (os.zip (tk ss os))).map iT))),some (.sh (.int (hrs ((os.zip (tk ss os)).map (·.2))))),J,R,S]) rfl ?_;show zig [some (.sh (ssL ss)),some (.sh (.lst (iD os))),none,none,none,none,none]=_;have c:iZp [.lst (iD os),.lst ((tk ss os).map sD)]=some ((os.zip (tk ss os)).map λx=>D.tup [D.int (x.1:Int),sD x.2]):=by
  show some (zipD (iD os) ((tk ss os).map sD))=_;unfold iD;rw[zsb]
 simp only[zig,sSeq,sOwn,sSet,qr,sRet,f8,fNil,fC,jw,d5,aw,fVar,ae,af,ac,aj,ax,ay,b6,gz,if_true,Y,c,h1]
theorem zn3(h:Whole ss os)(J:∀x∈ss.flatten,gn x)(R:ss.length<=1000)(Y:os.length<=900):zii [ssL ss,.lst (iD os)]=some (.int (fc 0 (tk ss os))):=by
 have S:=zje h R (by lia);obtain⟨e',h1,D,rfl⟩:=rh (i:=4) (g:=zgt) sD (λp e=>∃D,e=[some (.sh (ssL ss)),some (.sh (.lst (iD os))),some (.sh (.int (fc 0 p))),some (.sh (.int (hrs p))),D]) (tk ss os)
  [some (.sh (ssL ss)),some (.sh (.lst (iD os))),some (.sh (.int 0)),some (.sh (.int 0)),none] ⟨none,rfl⟩ (by
   rintro p x q e I ⟨D,rfl⟩;obtain⟨_,_,_,_,Z,a⟩:=J x (h.sk x (by rw[I];simp));have sm:l3 x.2.2:=rj (by lia);have U:hrs (p++[x])=hrs p+x.2.1:=by rw[nz];simp[hrs]
   have V:fc 0 (p++[x])=fc 0 p+x.2.2*(hrs p+x.2.1):=by rw[zkr,iy]
   rw[U,V];simp[zgt,zn2,zq6,ui sm])
 refine j3 (e':=[some (.sh (ssL ss)),some (.sh (.lst (iD os))),some (.sh (.int (fc 0 (tk ss os)))),some (.sh (.int (hrs (tk ss os)))),D]) rfl ?_;show zih [some (.sh (ssL ss)),some (.sh (.lst (iD os))),none,none,none]=_;simp[zih,S,h1]
theorem zq7(T:lu)(J:∀x∈T,gn x):zjn [.lst (T.map sD)]=some (.int (fc 0 T)):=by
 obtain⟨e',h1,D,rfl⟩:=rh (i:=3) (g:=zhm) sD (λp e=>∃D,e=[some (.sh (.lst (T.map sD))),some (.sh (.int (hrs p))),some (.sh (.int (fc 0 p))),D]) T
  [some (.sh (.lst (T.map sD))),some (.sh (.int 0)),some (.sh (.int 0)),none] ⟨none,rfl⟩ (by
   rintro p x q e I ⟨D,rfl⟩;obtain⟨_,_,_,_,U,V⟩:=J x (by rw[I];simp);have sm:l3 x.2.2:=rj (by lia);have R:hrs (p++[x])=hrs p+x.2.1:=by rw[nz];simp[hrs]
   have S:fc 0 (p++[x])=fc 0 p+x.2.2*(hrs p+x.2.1):=by rw[zkr,iy]
   rw[R,S];generalize T.map sD=TT at *;unfold sD;simp[zhm,ze,ww,ui sm])
 refine j3 (e':=[some (.sh (.lst (T.map sD))),some (.sh (.int (hrs T))),some (.sh (.int (fc 0 T))),D]) rfl ?_;show zjm [some (.sh (.lst (T.map sD))),none,none,none]=_;simp[zjm,h1]
theorem zn4(ok:TurnsOk ss ts)(I:yw [ssL ss]=some (.lst (ts.map tnD)))(S:∀x∈ss.flatten,gn x)(U:ss.length<=1000)(V:ss.flatten.length<=14):zgj [ssL ss]=some (.int (fc 0 (tk ss (jq ts)))):=by
 have D:=zhr ok I V;have R:=ok.whole;have J:=zn3 R S U (by rw[R.len];lia);refine j3 (e':=[some (.sh (ssL ss))]) rfl ?_;show zil [some (.sh (ssL ss))]=_;simp[zil,D,J]
def zv1(p q:l0)(j:Nat):ofS (p++q) j=ofS p j++ofS q j:=by unfold ofS;rw[jc,db]
theorem zv2(f:α->Int){l l':List α}(p:l.Perm l'):(l.map f).sum=(l'.map f).sum:=by
 induction p with
 | nil=>rfl
 | cons x _ ih=>simp[gm,ih]
 | swap x y l=>simp[gm];lia
 | trans _ _ h1 h2=>rw[h1,h2]
def r3(r:ik):Int:=r.getD 2 0
def srt(r:ik):ik:=[if r.getD 0 0<=r.getD 1 0 then r.getD 0 0 else r.getD 1 0,if r.getD 0 0<=r.getD 1 0 then r.getD 1 0 else r.getD 0 0]
def zym(l:k7):isiT (tyD (D.lst l)) "list" = true:=rfl
theorem zq8(h:Whole ss os)(y:ss.length<=1000):zga [.lst (iD os),ssL ss]=some (.bl true):=by
 obtain⟨e',h1,R,rfl⟩:=rh (i:=3) (g:=zc7) (λa:Nat=>D.int (a:Int)) (λp e=>∃R,e=[some (.sh (.lst (iD os))),some (.sh (ssL ss)),some (.ow (cntD ss.length (cntF p))),R,none]) os
  [some (.sh (.lst (iD os))),some (.sh (ssL ss)),some (.ow (cntD ss.length (cntF []))),none,none] ⟨none,rfl⟩ (by
   rintro p a q e Y ⟨R,rfl⟩;have f:Whole ss (p++a::q):=by rw[<-Y];exact h
   obtain⟨l,I,j,S,m,Z,s,J,n⟩:=zvz f;obtain⟨_,_,_,_,z,A⟩:=f.at;have o:=zny (a:Int);have r:decide ((a:Int)<1)=false:=decide_eq_false (by lia);have t:decide ((a:Int) > ((ss.map λs=>D.lst (s.map sD)).length:Int))=false:=decide_eq_false (by rw[ah];lia);refine⟨[some (.sh (.lst (iD os))),some (.sh (ssL ss)),some (.ow (cntD ss.length (cntF (p++[a])))),some (.sh (.int (a:Int))),none],?_,_,rfl⟩;rw[<-S];unfold ssL;simp only[zc7,sSeq,sIf,sNil,uk,za,fOr,fNot,fTst,d5,aw,fNil,fBin,fIxV,ixSl,i9,fVar,fC,dSub,i4,dLt,dGt,ae,af,ac,aj,ax,ay,o,r,t,l,I,J,if_true,Z,Bool.not_true,bw,if_false])
 obtain⟨B,h2,V,rfl⟩:=yd (i:=4) (g:=zeq) (λk e=>∃V,e=[some (.sh (.lst (iD os))),some (.sh (ssL ss)),some (.ow (cntD ss.length (cntF os))),R,V]) (rngD 0 ss.length)
  [some (.sh (.lst (iD os))),some (.sh (ssL ss)),some (.ow (cntD ss.length (cntF os))),R,none] ⟨none,rfl⟩ (by
   rintro k d e u ⟨V,rfl⟩;obtain⟨rfl,b⟩:=z8 u;have I:=zq4 ss.length (cntF os) k b;have J:atI (ss.map λs=>D.lst (s.map sD)) (k:Int)=some (.lst (ss[k].map sD)):=ly (λs:lu=>D.lst (s.map sD)) (aq b);have c:cntF os k=(ss[k].length:Int):=by unfold cntF;rw[h.cnt k ss[k] (aq b)]
   have v:bLen [.lst (ss[k].map sD)]=some (.int (ss[k].length:Int)):=by show some (D.int ((ss[k].map sD).length:Nat))=_;rw[ah]
   rw[c] at I;unfold ssL;simp[zeq,I,J,v])
 have c:=zkp ss;have w:Few (ss.map λs=>D.lst (s.map sD)).length:=few (by rw[ah];lia);have x:iR1 [.int ((ss.map λs=>D.lst (s.map sD)).length:Int)]=some (rngD 0 ss.length):=by rw[ah];exact qx _ (by lia)
 refine j3 (e':=[some (.sh (.lst (iD os))),some (.sh (ssL ss)),some (.ow (cntD ss.length (cntF os))),R,V]) rfl ?_;show zf9 [some (.sh (.lst (iD os))),some (.sh (ssL ss)),none,none,none]=_;have U:forL 3 zc7 (iD os) [some (.sh (.lst (iD os))),some (.sh (ssL ss)),some (.ow (cntD ss.length (cntF []))),none,none]=_:=h1;unfold ssL at U h2 ⊢;generalize (ss.map λs=>D.lst (s.map sD))=L at *;simp[zf9,iz,w,c,U,h2,x,zym]
def cmp(h:Int):lu->Int->Int
 | [],_=>0
 | x::r,k=>if x.1=k then h+x.2.1 else cmp (h+x.2.1) r k
def PS(w C:Sk->Int)(P:Int):lu->Int
 | x::y::r=>-(P+w x)*(C y-C x-y.2.1)+PS w C (P+w x) (y::r)
 | _=>0
def z5m(S:Whole ss os)(U:ss[j]?=some s):s.Sublist (tk ss os):=by
 have J:∀p:ic,∀q,os=p++q->(s.take (p.count (j+1))).Sublist (tk ss p):=by
  apply zq3
  ·intro q _;simp
  ·intro p a I q R
   rw[df,gc] at R;have I:=I (a::q) R;rw[zu,zg3];by_cases e:a=j+1
   ·subst e
    rw[if_pos rfl];obtain⟨s',D,Y,V,_,_⟩:=(R ▸ S).at;rw[Nat.add_sub_cancel,U] at D;cases D;have:s.take (p.count (j+1)+1)=s.take (p.count (j+1))++[qu ss (j+1) (p.count (j+1))]:=by
     rw[List.take_succ,V];rfl
    rw[this];exact List.Sublist.append I (List.Sublist.refl _)
   ·rw[if_neg e,Nat.add_zero]
    exact I.trans (List.sublist_append_left _ _)
 have:=J os [] (by simp);rw[S.cnt j s U,List.take_length] at this;exact this
theorem z7b(ok:TurnsOk ss ts)(J:Whole ss os)(D:t∈ts):t.2.Sublist (tk ss os):=by
 obtain⟨h1,h2⟩:=ok.lo t D;have I:ss[t.1-1]?=some ss[t.1-1]:=aq (by lia);refine List.Sublist.trans ?_ (z5m J I);rw[<-ok.part _ _ I];apply ek;refine d7.mpr ⟨t,f6.mpr ⟨D,?_⟩,rfl⟩;simp
 lia
theorem zzz{ss:lx}{a:Nat}{s:lu}(I:ss[a-1]?=some s)(p:ic):∀k:Nat,p.count a+k<=s.length->tk ss (p++List.replicate k a)=tk ss p++(s.drop (p.count a)).take k
 | 0,_=>by simp
 | k+1,h=>by
   rw[List.replicate_succ',<-df,zu,zzz I p k (by lia),df];have D:p.count a+k<s.length:=by lia
   rw[List.take_succ];unfold qu;rw[av,av,I];simp[D]
theorem zv3(ok:TurnsOk ss ts):tk ss (jq ts)=(ts.map (·.2)).flatten:=by
 have I:∀p:l0,∀q,ts=p++q->tk ss (jq p)=(p.map (·.2)).flatten:=by
  apply zq3
  ·intro q _;rfl
  ·intro p t J q D
   rw[df,gc] at D;have J:=J (t::q) D;obtain⟨h1,h2⟩:=ok.lo t (by rw[D];simp);have U:ss[t.1-1]?=some ss[t.1-1]:=aq (by lia);have R:=ok.part _ _ U;rw[D,zv1,zgb t q (t.1-1) (by lia),ff,cr] at R;have S:=zsd p (t.1-1);rw[show t.1-1+1=t.1 by lia] at S;rw[rn,vw,zzz U _ _ (by rw[S,<-R];simp),J,S,<-R];simp
 exact I ts [] (by simp)
theorem zv4(l:lx):(l.map λs:lu=>(s.length:Int)).sum=(l.flatten.length:Int):=by
 induction l with
 | nil=>rfl
 | cons a l ih=>rw[bn,gm,ih,cr,ao];lia
theorem zpx(ss:lx)(R:ss.length<=1000):ze3 [ssL ss]=some (.int (ss.flatten.length:Int)):=by
 have c:=o7 (te:=i9 0) (base:=[]) (λs:lu=>D.lst (s.map sD)) (λs:lu=>D.int (s.length:Int)) ss λs _=>⟨_,by simp;rfl⟩;have I:=xg (λs:lu=>(s.length:Int)) ss;have J:Few (ss.map λs=>D.lst (s.map sD)).length:=few (by rw[ah];lia);rw[zv4] at I;refine j3 (e':=[some (.sh (ssL ss))]) rfl ?_;show zgu [some (.sh (ssL ss))]=_;unfold ssL;generalize (ss.map λs=>D.lst (s.map sD))=L at *;simp[zgu,iz,J,c,I]
theorem zq9(ss:lx)(R:∀s∈ss,s.length<=1000):zho [ssL ss]=some (.int (lss ss.flatten)):=by
 obtain⟨e',h1,v2,rfl⟩:=rh (i:=2) (g:=zd8) (λs:lu=>D.lst (s.map sD)) (λp e=>∃v2,e=[some (.sh (ssL ss)),some (.sh (.int (lss p.flatten))),v2]) ss
  [some (.sh (ssL ss)),some (.sh (.int 0)),none] ⟨none,rfl⟩ (by
   rintro p s q e I ⟨v2,rfl⟩;have c:=o7 (te:=d5 wf (aw (fVar 0) fNil)) (base:=[]) sD (λx:Sk=>D.int x.2.2) s λx _=>⟨_,by simp[zq6];rfl⟩;have S:=xg (λx:Sk=>x.2.2) s;have U:Few (s.map sD).length:=few (by rw[ah];have:=R s (by rw[I];simp);lia);have V:lss (p++[s]).flatten=lss p.flatten+(s.map λx:Sk=>x.2.2).sum:=by rw[ff,ny];simp[lss]
   rw[V];generalize s.map sD=L at *;simp[zd8,iz,U,c,S])
 refine j3 (e':=[some (.sh (ssL ss)),some (.sh (.int (lss ss.flatten))),v2]) rfl ?_;show zhn [some (.sh (ssL ss)),none,none]=_;have J:forL 2 zd8 (ss.map λs=>D.lst (s.map sD)) [some (.sh (ssL ss)),some (.sh (.int 0)),none]=_:=h1;unfold ssL at *;simp[zhn,J]
theorem qm(h:ss[a-1]?=some s)(I:1<=a):atI (ss.map λs=>D.lst (s.map sD)) ((a:Int)-1)=some (.lst (s.map sD)):=by
 rw[show((a:Int)-1)=((a-1:Nat):Int) by lia];exact ly _ h
variable{x:Sk}
def zz0(h:ss[a-1]?=some (x::r))(D:1<=a):zi3 [ssL ss,.int (a:Int)]=some (sD x):=by
 have h1:=qm h D;have h2:atI ((x::r).map sD) (0:Int)=some (sD x):=ly sD (k:=0) rfl;refine j3 (e':=[some (.sh (ssL ss)),some (.sh (.int (a:Int)))]) rfl ?_;show zko [some (.sh (ssL ss)),some (.sh (.int (a:Int)))]=_;unfold ssL;generalize (x::r).map sD=M at *;simp[zko,h1,h2]
def zv5(l:List α)(k:Nat)(x:α)(h:k<l.length):l.take k++[x]++l.drop (k+1)=l.set k x:=by
 rw[List.set_eq_take_append_cons_drop,if_pos h];simp
def zsh(l:k7)(k:Nat)(h:k<=l.length):cutD l none (some (k:Int))=l.take k:=by
 have:=z1z (l.take k) (l.drop k);rwa [List.take_append_drop,dz,Nat.min_eq_left h] at this
def zli(l:k7)(k:Nat)(h:k<=l.length):cutD l (some (k:Int)) none=l.drop k:=by
 have:=zvo (l.take k) (l.drop k);rwa [List.take_append_drop,dz,Nat.min_eq_left h] at this
theorem zhs(s:lu)(Z:1<=a)(b:a<=ss.length)(c:ss.length<=1000):yl [ssL ss,.int (a:Int),.lst (s.map sD)]=some (ssL (ss.set (a-1) s)):=by
 have d:(ss.map λs=>D.lst (s.map sD)).length=ss.length:=ah ..;have J:=zsh (ss.map λs=>D.lst (s.map sD)) (a-1) (by lia);have R:=zli (ss.map λs=>D.lst (s.map sD)) a (by lia);have S:((a:Int)-1)=((a-1:Nat):Int):=by lia
 have I:=zv5 (ss.map λs=>D.lst (s.map sD)) (a-1) (D.lst (s.map sD)) (by lia);rw[show a-1+1=a by lia] at I;have U:Few ((((ss.map λs=>D.lst (s.map sD)).take (a-1)).length)+(0+1)):=few (by simp only[dz];lia);have V:Few (((ss.map λs=>D.lst (s.map sD)).take (a-1)++[D.lst (s.map sD)]).length+((ss.map λs=>D.lst (s.map sD)).drop a).length):=few (by simp[dz,fq];lia);have Y:ssL (ss.set (a-1) s)=.lst ((ss.map λs=>D.lst (s.map sD)).set (a-1) (D.lst (s.map sD))):=by unfold ssL;rw[iu]
 refine j3 (e':=[some (.sh (ssL ss)),some (.sh (.int (a:Int))),some (.sh (.lst (s.map sD)))]) rfl ?_;show zim [some (.sh (ssL ss)),some (.sh (.int (a:Int))),some (.sh (.lst (s.map sD)))]=_;rw[Y,<-I];unfold ssL;generalize s.map sD=M at *;simp only[zim,sRet,fLst,fCat,fSl,fO0,fO1,f8,aw,fNil,fVar,fBin,fC,dSub,S,ae,af,ac,aj,J,R,U,V,if_true,ak,b6,show(0+1<=64)=True by simp]
theorem zm0(h:ss[a-1]?=some (x::r))(D:1<=a)(I:ss.length<=1000):zfu [ssL ss,.int (a:Int)]=some (ssL (ss.set (a-1) r)):=by
 have h1:=qm h D;have R:=(ai.mp h).1;have c:cutD ((x::r).map sD) (some ((1:Nat):Int)) none=((x::r).map sD).drop 1:=zli _ 1 (by simp);have J:=zhs (ss:=ss) r D (by lia) I;refine j3 (e':=[some (.sh (ssL ss)),some (.sh (.int (a:Int)))]) rfl ?_;show zhp [some (.sh (ssL ss)),some (.sh (.int (a:Int)))]=_;have c:cutD ((x::r).map sD) (some (1:Int)) none=r.map sD:=c;unfold ssL at *;generalize (x::r).map sD=M at *;simp[zhp,h1,c,J]
variable{p:List Hs}
theorem z5n{p b:lu}{B:lu}(h:B=p++b)(g:Good B):¬gt (blk B) (blk b):=by
 have h1:=g.beg p ⟨b,h.symm⟩;have D:hrs B=hrs p+hrs b:=by rw[h,nz]
 have I:lss B=lss p+lss b:=by rw[h,ny]
 show ¬lss b*hrs B<lss B*hrs b;rw[D,I] at h1 ⊢;simp only[ig,f9] at h1 ⊢
 lia
def zyn(a:Nat)(D:lx)(j:Nat):ofS (D.map λb=>(a,b)) j=if a=j+1 then D else[]:=by
 unfold ofS;induction D with
 | nil=>simp
 | cons b r ih =>
   rw[bn];by_cases h:a=j+1
   ·rw[jf (by simp[h]),bn,ih,if_pos h,if_pos h]
   ·rw[jg (by simp[h]),ih,if_neg h,if_neg h]
def ztn(a:Nat)(D:lx):jq (D.map λb=>(a,b))=List.replicate D.flatten.length a:=by
 unfold jq;induction D with
 | nil=>simp
 | cons b r ih =>
   rw[bn,bn,cr,ih,cr,ao,List.replicate_append_replicate]
theorem zpy(ok:TurnsOk ss ((a,x::r)::ts))(q:∀y∈ss.flatten,gn y)(f:ss.flatten.length<=14) :
  ∃tl ts',ss[a-1]?=some (x::tl)/\1<=a/\a<=ss.length/\TurnsOk (ss.set (a-1) tl) ts'/\jq ts'=List.replicate r.length a++jq ts/\(ts'.map (·.2)).flatten=r++(ts.map (·.2)).flatten:=by
 have lo:=ok.lo (a,x::r) (by simp);have E:=ok.good (a,x::r) (by simp);have U:=ok.sk q (a,x::r) (by simp);have g:=ok.len1 (a,x::r) (by simp);have i:=ok.left;have J:=zmy (n:=ss.length) (t:=(a,x::r)) (ts:=ts) lo.1 lo.2;rw[i] at J;obtain⟨I,R,_⟩:=zio r (λy k=>U y (by simp[k])) (by rw[ak] at g;lia);have pos:∀b∈I,0<hrs b:=λb D=>pq b (λy k=>U y (am _ (by rw[<-R.flat];exact fm.mpr ⟨b,by simpa using D,k⟩))) (R.good b D).ne;have l:0<hrs (x::r):=pq _ U (by simp);have v:=zqy I R.desc pos;have w:∀b∈I,¬gt (blk (x::r)) (blk b):=by
  cases I with
  | nil=>intro b D;cases D
  | cons bl rs' =>
    have m:x::r=(x::rs'.reverse.flatten)++bl:=by rw[<-R.flat];simp
    have A:=z5n m E;intro b D;rcases ce.mp D with rfl | hb'
    ·exact A
    ·exact z5g (pos b D) (pos bl (by simp)) l (λz=>uo ((fb.mp v).1 b hb') z) A
 have Z:=ok.srt;obtain⟨o,p⟩:=fb.mp Z;have d:∀t∈I.reverse.map (λb=>(a,b))++ts,1<=t.1/\t.1<=ss.length:=λt V=>by
  rcases cz.mp V with h | h
  ·obtain⟨b,_,rfl⟩:=d7.mp h;exact lo
  ·exact ok.lo t (by simp[h])
 have Y:ir ss.length (I.reverse.map (λb=>(a,b))++ts)=ss.set (a-1) (r++(ofS ts (a-1)).flatten):=by
  apply em;intro j;by_cases S:j<ss.length
  ·rw[o9 S,gl,zv1,zyn]
   by_cases e:a-1=j
   ·subst e
    rw[if_pos (by lia),if_pos rfl,if_pos S,ff,R.flat]
   ·rw[if_neg (by lia),if_neg e]
    have:=ok.part j ss[j] (by simp[S]);rw[zhq _ _ _ (by simp;lia)] at this;simp[this,S]
  ·rw[cx (by rw[md];lia),cx (by rw[dw];lia)]
 refine⟨r++(ofS ts (a-1)).flatten,I.reverse.map (λb=>(a,b))++ts,J,lo.1,lo.2,?_,?_,?_⟩
 ·rw[<-Y]
  refine⟨λt V=>by rw[md];exact d t V,λt V=>?_,λj s S=>?_,?_,zjo d⟩
  ·rcases cz.mp V with h | h
   ·obtain⟨b,D,rfl⟩:=d7.mp h;exact R.good b (by simpa using D)
   ·exact ok.good t (by simp[h])
  ·have f:=(ai.mp S).1
   rw[md] at f;rw[o9 f] at S;exact bu S
  ·rw[iq]
   refine⟨?_,p,λt V u B=>?_⟩
   ·rw[List.pairwise_map,List.pairwise_reverse]
    exact v.imp λh=>.inl h
   ·obtain⟨b,D,rfl⟩:=d7.mp V
    have D:b∈I:=by simpa using D
    have C:0<hrs u.2:=ok.pos q u (by simp[B]);rcases o u B with z | ⟨z1,z2⟩
    ·exact .inl (z7a (n:=blk b) (c:=blk (x::r)) (b:=blk u.2) (pos b D) l C (w b D) z)
    ·exact .inr ⟨z5g (n:=blk b) (c:=blk (x::r)) (b:=blk u.2) (pos b D) l C (w b D) z1,z2⟩
 ·rw[rn,ztn,R.flat]
 ·rw[db,ff,iw]
  show((I.reverse.map λb=>b).flatten)++_=_;rw[List.map_id',R.flat]
def zdk:FS:=sIf (fOr (fTst (fBin dLt (fVar 1) (fC (.int 1)))) (fTst (fBin dGt (fVar 1) (i9 0)))) (ku "UnknownStack" (some)) (sNil)
def yt:ll->k7->k8:=runQ 2 0 2 zdk
def u8:ll->k7->ka:=xQ 2 0 2 zdk
def zir:FS:=sSeq (sIf (fTst (fBin dEq (i9 0) (fC (.int 0)))) (sRet (fC (.int 0))) (sNil)) (sRet (fBin dIx (fIxV 0 (fUn dNeg (fC (.int 1)))) (fC (.int 1))))
def zgk:k7->k8:=runD 1 1 zir
def zgv:FS:=sIf (fOr (fTst (fBin dLt (fVar 0) (fC (.int 0)))) (fTst (fBin dGt (fVar 0) (fC (.int 5))))) (ku "BadCount" ((λz=>(some z).bind ((λz=>((vInt (fC (.int 5))) z).bind ((λz=>(some z).bind (some)))))))) (sNil)
def ze5:ll->k7->k8:=runQ 1 0 1 zgv
def ze6:ll->k7->ka:=xQ 1 0 1 zgv
def zdl:FS:=sIf (fOr (fTst (fBin dLt (fVar 0) (fC (.int 1)))) (fTst (fBin dGt (fVar 0) (fC (.int 60))))) (ku "BadHours" ((λz=>(some z).bind ((λz=>((vInt (fC (.int 60))) z).bind ((λz=>(some z).bind (some)))))))) (sNil)
def ze7:ll->k7->k8:=runQ 1 0 1 zdl
def yr:ll->k7->ka:=xQ 1 0 1 zdl
def zed:FS:=sIf (fOr (fTst (fBin dLt (fVar 0) (fC (.int 0)))) (fTst (fBin dGt (fVar 0) (fC (.int 100))))) (ku "BadLoss" ((λz=>(some z).bind ((λz=>((vInt (fC (.int 100))) z).bind (some)))))) (sNil)
def zee:ll->k7->k8:=runQ 1 0 1 zed
def wj:ll->k7->ka:=xQ 1 0 1 zed
def zfv:FS:=sIf (fTst (fBin dGe (d5 ze3 (aw (fVar 0) (fNil))) (fC (.int 14)))) (ku "HouseFull" ((λz=>((vInt (fC (.int 14))) z).bind ((λz=>(some z).bind (some)))))) (sNil)
def zfw:ll->k7->k8:=runQ 1 0 1 zfv
def yv:ll->k7->ka:=xQ 1 0 1 zfv
def ze8:FS:=sIf (fTst (fBin dGe (i9 0) (fC (.int 60)))) (ku "DeedsFull" ((λz=>((vInt (fC (.int 60))) z).bind ((λz=>(some z).bind (some)))))) (sNil)
def wp:ll->k7->k8:=runQ 1 0 1 ze8
def t0:ll->k7->ka:=xQ 1 0 1 ze8
def zj9:FS:=sRet (fBin i4 (fC (.int 1)) (d5 bLen (aw (fLst (iz (fiS (fVar 0)) [] (fTst (fBin dEq (fIxV 0 (fC (.int 0))) (fC (.str "put")))) (fVar 0))) (fNil))))
def zfx:k7->k8:=runD 1 1 zj9
def zda:FS:=sSeq (sXp (lz ze6 [] (aw (fVar 1) (fNil))) (i7 (ji ze5 [] (aw (fVar 1) (fNil))))) (sSeq (y8 0 "House" "kept" (f8 (fNil))) (y8 0 "House" "states" (f8 (aw (fTup (aw (fLst (iz (jw iR1 (aw (fVar 1) (fNil))) [] fYes (fLst (f8 (fNil))))) (aw (fLst (f8 (fNil))) (fNil)))) (fNil)))))
def zce:ll->k7->ln:=runL 2 1 1 zda
def zer:ll->k7->Option (Str×ll):=xL 2 1 1 zda
def zgw:FS:=sRet (fBin dIx (pIx (.at (.ins false "House" jd)) 0 1 (-1)) (fC (.int 0)))
def qh:ll->k7->k8:=runQ 1 1 0 zgw
def zme:ll->k7->ka:=xQ 1 1 0 zgw
def zgx:FS:=sRet (fBin dIx (pIx (.at (.ins false "House" jd)) 0 1 (-1)) (fC (.int 1)))
def se:ll->k7->k8:=runQ 1 1 0 zgx
def zmf:ll->k7->ka:=xQ 1 1 0 zgx
def zht:FS:=sSeq (i7 (rd (.at (.ins false "House" jd)) 0 0 (fVar 1))) (i7 (rd (.at (.ins false "House" jd)) 0 1 (fTup (aw (fVar 2) (aw (fVar 3) (fNil))))))
def qg:ll->k7->ln:=runL 4 1 3 zht
def zn5:ll->k7->Option (Str×ll):=xL 4 1 3 zht
def t3:FS:=sSeq (sSet 4 (fK (.ins false "House" jd) 0 (ji qh [0] (fNil)))) (sSeq (sXp (lz u8 [] (aw (fVar 4) (aw (fVar 1) (fNil)))) (i7 (ji yt [] (aw (fVar 4) (aw (fVar 1) (fNil)))))) (sSeq (sXp (lz yr [] (aw (fVar 2) (fNil))) (i7 (ji ze7 [] (aw (fVar 2) (fNil))))) (sSeq (sXp (lz wj [] (aw (fVar 3) (fNil))) (i7 (ji zee [] (aw (fVar 3) (fNil))))) (sSeq (sXp (lz yv [] (aw (fVar 4) (fNil))) (i7 (ji zfw [] (aw (fVar 4) (fNil))))) (sSeq (sXp (xFrz true (lz t0 [] (aw (oy (.ins false "House" jd) 0 0) (fNil)))) (i7 (fFrz true (ji wp [] (aw (oy (.ins false "House" jd) 0 0) (fNil)))))) (sSeq (sSet 5 (fFrz true (d5 zfx (aw (oy (.ins false "House" jd) 0 0) (fNil))))) (sSeq (sSet 6 (fLst (fCat (fLst (f8 (aw (fTup (aw (fVar 5) (aw (fVar 2) (aw (fVar 3) (fNil))))) (fNil)))) (fIxV 4 (fBin dSub (fVar 1) (fC (.int 1))))))) (sSeq (i7 (fK (.ins false "House" jd) 0 (kv qg [0] (aw (fTup (aw (fC (.str "put")) (aw (fVar 1) (aw (fVar 2) (aw (fVar 3) (fNil)))))) (aw (d5 yl (aw (fVar 4) (aw (fVar 1) (aw (fVar 6) (fNil))))) (aw (fK (.ins false "House" jd) 0 (ji se [0] (fNil))) (fNil))))))) (sRet (fVar 5))))))))))
def zfk:ll->k7->ln:=runL 7 1 3 t3
def yk:ll->k7->Option (Str×ll):=xL 7 1 3 t3
def zhu:FS:=sRet (d5 zgk (aw (fK (.ins false "House" jd) 0 (ji se [0] (fNil))) (fNil)))
def zfy:ll->k7->k8:=runQ 1 1 0 zhu
def zn6:ll->k7->ka:=xQ 1 1 0 zhu
def ze9:FS:=sIf (fTst (fBin dEq (d5 ze3 (aw (fVar 0) (fNil))) (fC (.int 0)))) (ku "NothingWaits" (some)) (sNil)
def zfa:ll->k7->k8:=runQ 1 0 1 ze9
def yq:ll->k7->ka:=xQ 1 0 1 ze9
def yj:FS:=sSeq (sSet 1 (fK (.ins false "House" jd) 0 (ji qh [0] (fNil)))) (sSeq (sXp (lz yq [] (aw (fVar 1) (fNil))) (i7 (ji zfa [] (aw (fVar 1) (fNil))))) (sSeq (sXp (xFrz true (lz t0 [] (aw (oy (.ins false "House" jd) 0 0) (fNil)))) (i7 (fFrz true (ji wp [] (aw (oy (.ins false "House" jd) 0 0) (fNil)))))) (sSeq (sSet 2 (fBin dIx (fLst (jw wm (aw (fVar 1) (fNil)))) (fC (.int 0)))) (sSeq (sSet 3 (d5 zi3 (aw (fVar 1) (aw (fVar 2) (fNil))))) (sSeq (sSet 4 (fK (.ins false "House" jd) 0 (ji zfy [0] (fNil)))) (sSeq (sSet 5 (fTup (aw (fVar 4) (aw (fBin i4 (fVar 4) (d5 u4 (aw (fVar 3) (fNil)))) (aw (d5 zho (aw (fVar 1) (fNil))) (fNil)))))) (sSeq (i7 (fK (.ins false "House" jd) 0 (kv qg [0] (aw (fTup (aw (fC (.str "dry")) (fNil))) (aw (d5 zfu (aw (fVar 1) (aw (fVar 2) (fNil)))) (aw (fLst (fCat (fK (.ins false "House" jd) 0 (ji se [0] (fNil))) (fLst (f8 (aw (fVar 5) (fNil)))))) (fNil))))))) (sRet (fVar 3)))))))))
def zfl:ll->k7->ln:=runL 6 1 0 yj
def yi:ll->k7->Option (Str×ll):=xL 6 1 0 yj
def zgy:FS:=sRet (fLst (jw wm (aw (fK (.ins false "House" jd) 0 (ji qh [0] (fNil))) (fNil))))
def zfb:ll->k7->k8:=runQ 1 1 0 zgy
def zmg:ll->k7->ka:=xQ 1 1 0 zgy
def zjp:FS:=sRet (d5 bSum (aw (fLst (iz (fiS (fVar 0)) [] fYes (d5 bSum (aw (fLst (iz (fiS (fVar 0)) [] fYes (fIxV 0 (fC (.int 2))))) (fNil))))) (fNil)))
def zhv:k7->k8:=runD 1 1 zjp
def zfc:FS:=sSet 1 (fLst (fCat (fVar 1) (fLst (fRep (f8 (aw (fVar 4) (fNil))) (fBin dSub (fVar 3) (fVar 2))))))
def zis:FS:=sSeq (sSet 1 (fLst (f8 (fNil)))) (sSeq (qr [2,3,4] (fiS (fVar 0)) (zfc)) (sRet (fVar 1)))
def zit:k7->k8:=runD 5 1 zis
def zl1:FS:=sRet (fBin dIx (fLst (f8 (aw (fC (.int 5)) (aw (fC (.int 3)) (aw (fC (.int 2)) (aw (fC (.int 4)) (aw (fC (.int 1)) (aw (fC (.int 5)) (aw (fC (.int 0)) (aw (fC (.int 4)) (aw (fC (.int 3)) (aw (fC (.int 5)) (aw (fC (.int 2)) (aw (fC (.int 4)) (fNil))))))))))))))) (fBin dMod (fVar 0) (fC (.int 12))))
def zhw:k7->k8:=runD 1 1 zl1
def zhx:FS:=sRet (d5 zgj (aw (fK (.ins false "House" jd) 0 (ji qh [0] (fNil))) (fNil)))
def zef:ll->k7->k8:=runQ 1 1 0 zhx
def zn7:ll->k7->ka:=xQ 1 1 0 zhx
def zl2:FS:=sSeq (sSet 2 (i9 1)) (sSeq (sSet 3 (fLst (f8 (aw (fC (.str "put")) (aw (fC (.str "put")) (aw (fC (.str "tell")) (aw (fC (.str "dry")) (aw (fC (.str "put")) (aw (fC (.str "go")) (aw (fC (.str "put")) (aw (fC (.str "put")) (aw (fC (.str "back")) (aw (fC (.str "tell")) (aw (fC (.str "put")) (aw (fC (.str "dry")) (fNil)))))))))))))))) (sSeq (sSet 4 (fIxV 3 (fBin dMod (fVar 0) (fC (.int 12))))) (sSeq (sSet 5 (fBin dMod (fBin dDiv (fVar 0) (fC (.int 12))) (fC (.int 16)))) (sSeq (sSet 6 (fBin dDiv (fVar 0) (fC (.int 192)))) (sSeq (sSet 7 (fBin i4 (fC (.int 1)) (fBin dMod (fVar 6) (d5 bMax (aw (fVar 2) (aw (fC (.int 1)) (fNil))))))) (sSeq (sSet 6 (fBin dDiv (fVar 6) (fC (.int 5)))) (sSeq (sIf (fOr (fTst (fBin dEq (fVar 5) (fC (.int 5)))) (fTst (fBin dEq (fVar 2) (fC (.int 0))))) (sSet 7 (fBin dIx (fLst (f8 (aw (fC (.int 0)) (aw (fBin i4 (fVar 2) (fC (.int 1))) (aw (fUn dNeg (fC (.int 1))) (aw (fBin dPow (fC (.int 10)) (fC (.int 12))) (fNil))))))) (fBin dMod (fVar 6) (fC (.int 4))))) (sNil)) (sSeq (sSet 8 (fBin i4 (fC (.int 1)) (fBin dMod (fVar 6) (fC (.int 60))))) (sSeq (sIf (fTst (fBin dEq (fVar 5) (fC (.int 6)))) (sSet 8 (fBin dIx (fLst (f8 (aw (fC (.int 0)) (aw (fC (.int 61)) (aw (fUn dNeg (fC (.int 1))) (aw (fBin dPow (fC (.int 10)) (fC (.int 12))) (fNil))))))) (fBin dMod (fVar 6) (fC (.int 4))))) (sNil)) (sSeq (sSet 9 (fBin dMod (fBin dDiv (fVar 6) (fC (.int 60))) (fC (.int 101)))) (sSeq (sIf (fTst (fBin dGt (fVar 5) (fC (.int 9)))) (sSeq (sSet 8 (fBin i4 (fC (.int 1)) (fBin dMod (fVar 8) (fC (.int 3))))) (sSet 9 (fBin dMod (fVar 9) (fC (.int 4))))) (sNil)) (sSeq (sIf (fTst (fBin dEq (fVar 5) (fC (.int 7)))) (sSet 9 (fBin dIx (fLst (f8 (aw (fUn dNeg (fC (.int 1))) (aw (fC (.int 101)) (aw (fUn dNeg (fBin dPow (fC (.int 10)) (fC (.int 12)))) (aw (fBin dPow (fC (.int 10)) (fC (.int 12))) (fNil))))))) (fBin dMod (fBin dDiv (fVar 6) (fC (.int 60))) (fC (.int 4))))) (sNil)) (sSeq (sSet 10 (fC (.int 0))) (sSeq (sIf (fAnd (fTst (fBin dLe (fC (.int 1)) (fVar 7))) (fTst (fBin dLe (fVar 7) (fVar 2)))) (sSet 10 (d5 bLen (aw (fIxV 1 (fBin dSub (fVar 7) (fC (.int 1)))) (fNil)))) (sNil)) (sSeq (sSet 11 (fBin i4 (fC (.int 1)) (fBin dMod (fBin dDiv (fVar 6) (fC (.int 6060))) (d5 bMax (aw (fVar 10) (aw (fC (.int 1)) (fNil))))))) (sSeq (sIf (fTst (fBin dEq (fVar 5) (fC (.int 8)))) (sSet 11 (fBin dIx (fLst (f8 (aw (fC (.int 0)) (aw (fBin i4 (fVar 10) (fC (.int 1))) (aw (fUn dNeg (fC (.int 1))) (aw (fBin dPow (fC (.int 10)) (fC (.int 12))) (fNil))))))) (fBin dMod (fBin dDiv (fVar 6) (fC (.int 6060))) (fC (.int 4))))) (sNil)) (sSeq (sIf (fTst (fBin dEq (fVar 4) (fC (.str "put")))) (sRet (fTup (aw (fC (.str "put")) (aw (fVar 7) (aw (fVar 8) (aw (fVar 9) (fNil))))))) (sNil)) (sSeq (sIf (fTst (fBin dEq (fVar 4) (fC (.str "tell")))) (sRet (fTup (aw (fC (.str "tell")) (aw (fVar 7) (aw (fVar 11) (aw (fVar 9) (fNil))))))) (sNil)) (sSeq (sIf (fTst (fBin dEq (fVar 4) (fC (.str "go")))) (sRet (fTup (aw (fC (.str "go")) (aw (fVar 7) (fNil))))) (sNil)) (sRet (fTup (aw (fVar 4) (fNil)))))))))))))))))))))))
def zhy:k7->k8:=runD 12 2 zl2
def zjf:FS:=sSeq (sSet 3 (fIxV 2 (fC (.int 0)))) (sSeq (sIf (fTst (fBin dEq (fVar 3) (fC (.str "back")))) (sRet (fBin dIx (fLst (f8 (aw (fC (.str "")) (aw (fC (.str "nothing done")) (fNil))))) (d5 bInt (aw (fBin dEq (fVar 1) (fC (.int 0))) (fNil))))) (sNil)) (sSeq (sIf (fTst (fBin dEq (fVar 3) (fC (.str "dry")))) (sIf (fTst (fBin dEq (d5 bSum (aw (fLst (iz (fiS (fVar 0)) [] fYes (i9 0))) (fNil))) (fC (.int 0)))) (sRet (fC (.str "nothing waits"))) (sNil)) (sIf (fOr (fTst (fBin dLt (fIxV 2 (fC (.int 1))) (fC (.int 1)))) (fTst (fBin dGt (fIxV 2 (fC (.int 1))) (i9 0)))) (sRet (fC (.str "unknown stack"))) (sIf (fAnd (fTst (fBin dNe (fVar 3) (fC (.str "put")))) (fTst (fBin dEq (d5 bLen (aw (fIxV 0 (fBin dSub (fIxV 2 (fC (.int 1))) (fC (.int 1)))) (fNil))) (fC (.int 0))))) (sRet (fC (.str "empty stack"))) (sNil)))) (sSeq (sIf (fAnd (fTst (fBin dEq (fVar 3) (fC (.str "tell")))) (fOr (fTst (fBin dLt (fIxV 2 (fC (.int 2))) (fC (.int 1)))) (fTst (fBin dGt (fIxV 2 (fC (.int 2))) (d5 bLen (aw (fIxV 0 (fBin dSub (fIxV 2 (fC (.int 1))) (fC (.int 1)))) (fNil))))))) (sRet (fC (.str "unknown place"))) (sNil)) (sSeq (sIf (fAnd (fTst (fBin dEq (fVar 3) (fC (.str "put")))) (fOr (fTst (fBin dLt (fIxV 2 (fC (.int 2))) (fC (.int 1)))) (fTst (fBin dGt (fIxV 2 (fC (.int 2))) (fC (.int 60)))))) (sRet (fC (.str "bad hours"))) (sNil)) (sSeq (sIf (fAnd (fOr (fTst (fBin dEq (fVar 3) (fC (.str "put")))) (fTst (fBin dEq (fVar 3) (fC (.str "tell"))))) (fOr (fTst (fBin dLt (fIxV 2 (fC (.int 3))) (fC (.int 0)))) (fTst (fBin dGt (fIxV 2 (fC (.int 3))) (fC (.int 100)))))) (sRet (fC (.str "bad loss"))) (sNil)) (sSeq (sIf (fAnd (fTst (fBin dEq (fVar 3) (fC (.str "put")))) (fTst (fBin dGe (d5 bSum (aw (fLst (iz (fiS (fVar 0)) [] fYes (i9 0))) (fNil))) (fC (.int 14))))) (sRet (fC (.str "house full"))) (sNil)) (sSeq (sIf (fTst (fBin dGe (fVar 1) (fC (.int 60)))) (sRet (fC (.str "deeds full"))) (sNil)) (sRet (fC (.str ""))))))))))
def u7:k7->k8:=runD 4 3 zjf
def tx:FS:=sSeq (y9 3 (zj (fiS (fVar 0)) [] (jw uf (aw (fVar 0) (fNil))))) (sSeq (sSet 4 (fC (.int 0))) (sSeq (sIf (fTst (fBin dGt (i9 1) (fC (.int 1)))) (sSet 4 (fBin dSub (fIxV 1 (fC (.int 1))) (fC (.int 1)))) (sNil)) (sSeq (sIf (fTst (fBin dEq (fIxV 1 (fC (.int 0))) (fC (.str "put")))) (sSeq (ub 3 (fVar 4) (sv false (fCat (fLst (f8 (aw (fTup (aw (fVar 2) (aw (fIxV 1 (fC (.int 2))) (aw (fIxV 1 (fC (.int 3))) (fNil))))) (fNil)))) (fIxV 3 (fVar 4))))) (sRet (fLst (f8 (aw (fVar 3) (aw (fVar 2) (fNil))))))) (sNil)) (sSeq (sIf (fTst (fBin dEq (fIxV 1 (fC (.int 0))) (fC (.str "tell")))) (sSeq (sSet 5 (fFrz false (fBin dIx (fIxV 3 (fVar 4)) (fBin dSub (fIxV 1 (fC (.int 2))) (fC (.int 1)))))) (sSeq (zr6 3 (fVar 4) (fBin dSub (fIxV 1 (fC (.int 2))) (fC (.int 1))) (fTup (aw (fIxV 5 (fC (.int 0))) (aw (fIxV 5 (fC (.int 1))) (aw (fIxV 1 (fC (.int 3))) (fNil)))))) (sRet (fLst (f8 (aw (fVar 3) (aw (fIxV 5 (fC (.int 2))) (fNil)))))))) (sNil)) (sSeq (sIf (fTst (fBin dEq (fIxV 1 (fC (.int 0))) (fC (.str "dry")))) (sSet 4 (fBin dSub (fBin dIx (fBin dIx (d5 zfj (aw (fVar 0) (fNil))) (fC (.int 0))) (fC (.int 0))) (fC (.int 1)))) (sNil)) (sSeq (sSet 5 (fFrz false (fBin dIx (fIxV 3 (fVar 4)) (fC (.int 0))))) (sSeq (ub 3 (fVar 4) (sv false (fSl (fIxV 3 (fVar 4)) (fO1 (fC (.int 1))) (fO0)))) (sRet (fLst (f8 (aw (fVar 3) (aw (fVar 5) (fNil)))))))))))))
def sf:k7->k8:=runD 6 3 tx
def zeg:FS:=sSeq (sIf (fTst (fIsi "tuple" (fVar 1))) (sRet (d5 zc1 (aw (fVar 0) (aw (fVar 1) (fNil))))) (sNil)) (sRet (wz (d5 u5 (aw (fVar 0) (fNil))) (fBin dEq (fVar 0) (fVar 1))))
def yx:k7->k8:=runD 2 2 zeg
def zjq:FS:=zx3 (fAgL (pCd (fLst (iz (jw iR1 (aw (fVar 0) (fNil))) [] fYes (fLst (f8 (fNil))))) (pCo (f8 (fNil)) (pCo (f8 (fNil)) (pCd (fLst (f8 (fNil))) (pNil))))))
def zhz:k7->Option Ag:=runG 1 1 zjq
def zra:k7->ka:=xG 1 1 zjq
def zfd:FS:=sSeq (i7 (nj 1 (fVar 2))) (sIf (fTst (fBin dEq (fBin dMod (fBin dDiv (fVar 2) (fC (.int 12))) (fC (.int 4))) (fC (.int 1)))) (sSeq (i7 (nj 1 (fVar 2))) (i7 (nj 1 (fVar 2)))) (sNil))
def zk3:FS:=sSeq (sOwn 1 (f8 (fNil))) (sSeq (sFor 2 (fiS (fVar 0)) (zfd)) (sRet (fVar 1)))
def ziu:k7->k8:=runD 3 1 zk3
def zfz:FS:=sIf (fTst (fBin dEq (d5 bLen (aw (fIxV 0 (fBin dSub (fVar 1) (fC (.int 1)))) (fNil))) (fC (.int 0)))) (ku "EmptyStack" ((λz=>(some z).bind ((λz=>((vInt (fVar 1)) z).bind (some)))))) (sNil)
def zeh:ll->k7->k8:=runQ 2 0 2 zfz
def wg:ll->k7->ka:=xQ 2 0 2 zfz
def we:FS:=sSeq (sSet 2 (fK (.ins false "House" jd) 0 (ji qh [0] (fNil)))) (sSeq (sXp (lz u8 [] (aw (fVar 2) (aw (fVar 1) (fNil)))) (i7 (ji yt [] (aw (fVar 2) (aw (fVar 1) (fNil)))))) (sSeq (sXp (lz wg [] (aw (fVar 2) (aw (fVar 1) (fNil)))) (i7 (ji zeh [] (aw (fVar 2) (aw (fVar 1) (fNil)))))) (sSeq (sXp (xFrz true (lz t0 [] (aw (oy (.ins false "House" jd) 0 0) (fNil)))) (i7 (fFrz true (ji wp [] (aw (oy (.ins false "House" jd) 0 0) (fNil)))))) (sSeq (i7 (fK (.ins false "House" jd) 0 (kv qg [0] (aw (fTup (aw (fC (.str "go")) (aw (fVar 1) (fNil)))) (aw (d5 zfu (aw (fVar 2) (aw (fVar 1) (fNil)))) (aw (fK (.ins false "House" jd) 0 (ji se [0] (fNil))) (fNil))))))) (sRet (d5 zi3 (aw (fVar 2) (aw (fVar 1) (fNil)))))))))
def zgd:ll->k7->ln:=runL 3 1 1 we
def yg:ll->k7->Option (Str×ll):=xL 3 1 1 we
def zdm:FS:=sIf (fOr (fTst (fBin dLt (fVar 1) (fC (.int 1)))) (fTst (fBin dGt (fVar 1) (i9 0)))) (ku "UnknownPlace" (some)) (sNil)
def zfe:ll->k7->k8:=runQ 2 0 2 zdm
def yp:ll->k7->ka:=xQ 2 0 2 zdm
def zrb:FS:=sRet (fTup (aw (d5 zfs (aw (fVar 0) (fNil))) (aw (d5 u4 (aw (fVar 0) (fNil))) (aw (fVar 1) (fNil)))))
def zjr:k7->k8:=runD 2 2 zrb
def sd:FS:=sSeq (sSet 4 (fK (.ins false "House" jd) 0 (ji qh [0] (fNil)))) (sSeq (sXp (lz u8 [] (aw (fVar 4) (aw (fVar 1) (fNil)))) (i7 (ji yt [] (aw (fVar 4) (aw (fVar 1) (fNil)))))) (sSeq (sXp (lz wg [] (aw (fVar 4) (aw (fVar 1) (fNil)))) (i7 (ji zeh [] (aw (fVar 4) (aw (fVar 1) (fNil)))))) (sSeq (sSet 5 (fIxV 4 (fBin dSub (fVar 1) (fC (.int 1))))) (sSeq (sXp (lz yp [] (aw (fVar 5) (aw (fVar 2) (fNil)))) (i7 (ji zfe [] (aw (fVar 5) (aw (fVar 2) (fNil)))))) (sSeq (sXp (lz wj [] (aw (fVar 3) (fNil))) (i7 (ji zee [] (aw (fVar 3) (fNil))))) (sSeq (sXp (xFrz true (lz t0 [] (aw (oy (.ins false "House" jd) 0 0) (fNil)))) (i7 (fFrz true (ji wp [] (aw (oy (.ins false "House" jd) 0 0) (fNil)))))) (sSeq (sSet 6 (fIxV 5 (fBin dSub (fVar 2) (fC (.int 1))))) (sSeq (sSet 7 (fLst (fCat (fLst (fCat (fLst (fSl (fVar 5) (fO0) (fO1 (fBin dSub (fVar 2) (fC (.int 1)))))) (fLst (f8 (aw (d5 zjr (aw (fVar 6) (aw (fVar 3) (fNil)))) (fNil)))))) (fLst (fSl (fVar 5) (fO1 (fVar 2)) (fO0)))))) (sSeq (i7 (fK (.ins false "House" jd) 0 (kv qg [0] (aw (fTup (aw (fC (.str "tell")) (aw (fVar 1) (aw (fVar 2) (aw (fVar 3) (fNil)))))) (aw (d5 yl (aw (fVar 4) (aw (fVar 1) (aw (fVar 7) (fNil))))) (aw (fK (.ins false "House" jd) 0 (ji se [0] (fNil))) (fNil))))))) (sRet (d5 wf (aw (fVar 6) (fNil)))))))))))))
def zei:ll->k7->ln:=runL 8 1 3 sd
def yn:ll->k7->Option (Str×ll):=xL 8 1 3 sd
inductive Deed where
 | put (a h l:Int) | tell (a p l:Int) | go (a:Int) | dry
abbrev l1:=List Deed
def dD:Deed->D
 | .put a h l=>.tup [.str "put",.int a,.int h,.int l]
 | .tell a p l=>.tup [.str "tell",.int a,.int p,.int l]
 | .go a=>.tup [.str "go",.int a]
 | .dry=>.tup [.str "dry"]
def Deed.isPut:Deed->Bool | .put ..=>true | _=>false
abbrev Spn:=Int×Int×Int
abbrev l2:=List Spn
abbrev Hs:=lx×l2
abbrev mu:=List Hs
def spL(sp:l2):D:=.lst (sp.map sD)
def stD(s:Hs):D:=.tup [ssL s.1,spL s.2]
abbrev kH:AK:=.ins false "House" jd
def hP(k:l1)(s:mu):k9:=[.o (k.map dD),.o (s.map stD)]
abbrev hA(k:l1)(s:mu):Ag:=(kH,hP k s)
variable{e:DE0}{κ:AK}{l:Option Nat}{ps:k9}
def zn8(h:e[i]?=some (some (.ag κ l ps)))(D:ps[j]?=some (.o ds)):lf (.at κ) i j e=some ds:=by
 unfold lf agAt;rw[if_pos (show Acc.ok (.at κ) e i j from(show isK κ e i from .inl ⟨_,_,h⟩)),h];dsimp;rw[D]
def zsi(h:e[i]?=some (some (.ro κ ps)))(D:ps[j]?=some (.o ds)):lf (.at κ) i j e=some ds:=by
 unfold lf agAt;rw[if_pos (show Acc.ok (.at κ) e i j from(show isK κ e i from .inr ⟨_,h⟩)),h];dsimp;rw[D]
variable{f:FE}
def z5o(h:e[i]?=some (some (.ag κ l ps))):fK κ i f e=f e:=if_pos (.inl ⟨_,_,h⟩)
def z14(h:e[i]?=some (some (.ro κ ps))):fK κ i f e=f e:=if_pos (.inr ⟨_,h⟩)
def z5p{f:XF}(h:e[i]?=some (some (.ag κ l ps))):xK κ i f e=f e:=if_pos (.inl ⟨_,_,h⟩)
variable{r:k7×DE0}{m:ll->k7->k8}{F:FA}
def zsj(h:e[i]?=some (some (.ro κ ps)))(D:F e=some r)(h2:r.2[i]?=some (some (.ro κ ps))):ji m [i] F e=(m [(κ,ps)] r.1).map λd=>(d,r.2):=by
 unfold ji;rw[if_pos (show aggs e [i] from λk I=>by rw[cy.mp I];exact⟨_,h⟩),D];simp[getR,h2]
def zsk(h:e[i]?=some (some (.ag κ l ps)))(D:F e=some r)(h2:r.2[i]?=some (some (.ag κ l ps))):ji m [i] F e=(m [(κ,ps)] r.1).map λd=>(d,r.2):=by
 unfold ji;rw[if_pos (show aggs e [i] from λk I=>by rw[cy.mp I];exact⟨_,h⟩),D];simp[getR,h2]
def ma:ji m [] F e=(F e).bind λr=>(m [] r.1).map λd=>(d,r.2):=by
 unfold ji;rw[if_pos (show aggs e [] from λk D=>nomatch D)];rfl
variable{x:ll->k7->Option (Str×ll)}
def l6{x:ll->k7->ka}:lz x [] F e=(F e).bind λr=>(x [] r.1).map λd=>(d,r.2):=by
 unfold lz;rw[if_pos (show aggs e [] from λk I=>nomatch I)];rfl
variable{d:D}{ps':k9}
def zyo{m:ll->k7->ln}(h:e[i]?=some (some (.ag κ l ps)))(I:F e=some r)(h2:r.2[i]?=some (some (.ag κ l ps)))(J:m [(κ,ps)] r.1=some (d,[(κ,ps')])):kv m [i] F e=some (d,r.2.set i (some (.ag κ l ps'))):=by
 unfold kv;rw[if_pos (show aggs e [i] from λk R=>by rw[cy.mp R];exact⟨_,h⟩),I];simp[getA,h2,J,putA]
def zv6(h:e[i]?=some (some (.ag κ l ps)))(D:F e=some r)(h2:r.2[i]?=some (some (.ag κ l ps))){d:Str}(I:x [(κ,ps)] r.1=some (d,[(κ,ps')])):l9 x [i] F e=some (d,r.2.set i (some (.ag κ l ps'))):=by
 unfold l9;rw[if_pos (show aggs e [i] from λk J=>by rw[cy.mp J];exact⟨_,h⟩),D];simp[getA,h2,I,putA]
def zv7(h:e[i]?=some (some (.ag κ l ps)))(D:F e=some r)(h2:r.2[i]?=some (some (.ag κ l ps)))(I:x [(κ,ps)] r.1=none):l9 x [i] F e=none:=by
 unfold l9;rw[if_pos (show aggs e [i] from λk J=>by rw[cy.mp J];exact⟨_,h⟩),D];simp only[getA,h2,aj,ac,I];rfl
theorem zrc(xs:k7)(x:D):atI (xs++[x]) (-1)=some x:=by
 unfold atI ixN;rw[if_neg (by decide),if_pos (by simp;lia),show(-1+((xs++[x]).length:Int)).toNat=xs.length by simp;lia];simp
variable{k:l1}{s:Hs}
def re:qh [hA k (p++[s])] []=some (ssL s.1):=by
 unfold qh runQ;have h:lf (.at kH) 0 1 (kg 1 [hA k (p++[s])] [])=some ((p++[s]).map stD):=zsi (ps:=hP k (p++[s])) rfl rfl;simp[zgw,pIx,h,zrc,stD];rfl
def zx:se [hA k (p++[s])] []=some (spL s.2):=by
 unfold se runQ;have h:lf (.at kH) 0 1 (kg 1 [hA k (p++[s])] [])=some ((p++[s]).map stD):=zsi (ps:=hP k (p++[s])) rfl rfl;simp[zgx,pIx,h,zrc,stD];rfl
def hrOf(sp:l2):Int:=match sp.getLast? with | none=>0 | some x=>x.2.1
theorem zn9(sp:l2):zgk [spL sp]=some (.int (hrOf sp)):=by
 unfold zgk runD spL hrOf;cases h:sp.getLast? with
 | none =>
   rw[wt.mp h];simp[zir,jl]
 | some x =>
   obtain⟨q,rfl⟩:=wq.mp h;have I:jl 1 [D.lst ((q++[x]).map sD)]=[some (.sh (.lst (q.map sD++[sD x])))]:=by simp[jl]
   have h1:atI (q.map sD++[sD x]) (-1)=some (sD x):=zrc _ _;have h2:((q.map sD++[sD x]).length:Int)≠0:=by simp;lia
   rw[I];generalize q.map sD++[sD x]=L at *;have J:decide ((L.length:Int)=0)=false:=decide_eq_false h2;simp only[zir,sSeq,sIf,fTst,fBin,i9,ae,ac,fC,dEq,aj,J,bw,if_false,sNil,sRet,fIxV,fUn,dNeg,ixSl,h1,sD,dIx];rfl
def z15:zfy [hA k (p++[s])] []=some (.int (hrOf s.2)):=by
 unfold zfy runQ;have D:(kg 1 [hA k (p++[s])] [])[0]?=some (some (.ro kH (hP k (p++[s])))):=rfl;have h1:=zsj (m:=se) (F:=fNil) D (r:=([],kg 1 [hA k (p++[s])] [])) rfl D;have h2:=z14 (f:=ji se [0] fNil) D;simp[zx] at h1;simp[zhu,h2,h1,zn9]
theorem ya{a:Int}(h1:1<=a)(h2:a<=ss.length):u8 [] [ssL ss,.int a]=none/\yt [] [ssL ss,.int a]=some .non:=by
 have e:kg 2 [] [ssL ss,.int a]=[some (.sh (ssL ss)),some (.sh (.int a))]:=rfl;have l:((ss.map λs=>D.lst (s.map sD)).length:Int)=ss.length:=by rw[ah]
 unfold u8 yt xQ runQ;rw[if_pos ⟨rfl,rfl⟩,if_pos ⟨rfl,rfl⟩,e];unfold ssL at *;generalize (ss.map λs=>D.lst (s.map sD))=L at *;simp[zdk,show ¬a<1 by lia,show ¬((L.length:Int)<a) by lia]
theorem zrd{a:Int}(h:a<1\/ss.length<a):u8 [] [ssL ss,.int a]=some ("UnknownStack" : Str):=by
 have e:kg 2 [] [ssL ss,.int a]=[some (.sh (ssL ss)),some (.sh (.int a))]:=rfl;have l:((ss.map λs=>D.lst (s.map sD)).length:Int)=ss.length:=by rw[ah]
 unfold u8 xQ;rw[if_pos ⟨rfl,rfl⟩,e];unfold ssL at *;generalize (ss.map λs=>D.lst (s.map sD))=L at *;by_cases h1:a<1
 ·simp[zdk,h1,ku]
 ·simp[zdk,h1,show((L.length:Int)<a) by lia,ku]
variable{h:Int}
theorem zsl(h1:1<=h)(h2:h<=60):yr [] [.int h]=none/\ze7 [] [.int h]=some .non:=by
 unfold yr ze7 xQ runQ;rw[if_pos ⟨rfl,rfl⟩,if_pos ⟨rfl,rfl⟩,show kg 1 [] [.int h]=[some (.sh (.int h))] from rfl];simp[zdl,show ¬h<1 by lia,show ¬60<h by lia]
theorem z16(D:h<1\/60<h):yr [] [.int h]=some ("BadHours" : Str):=by
 unfold yr xQ;rw[if_pos ⟨rfl,rfl⟩,show kg 1 [] [.int h]=[some (.sh (.int h))] from rfl];by_cases h1:h<1
 ·simp[zdl,h1,ku,vInt]
 ·simp[zdl,h1,show 60<h by lia,ku,vInt]
theorem zoa(h1:0<=h)(h2:h<=100):wj [] [.int h]=none/\zee [] [.int h]=some .non:=by
 unfold wj zee xQ runQ;rw[if_pos ⟨rfl,rfl⟩,if_pos ⟨rfl,rfl⟩,show kg 1 [] [.int h]=[some (.sh (.int h))] from rfl];simp[zed,show ¬h<0 by lia,show ¬100<h by lia]
theorem zz1(D:h<0\/100<h):wj [] [.int h]=some ("BadLoss" : Str):=by
 unfold wj xQ;rw[if_pos ⟨rfl,rfl⟩,show kg 1 [] [.int h]=[some (.sh (.int h))] from rfl];by_cases h1:h<0
 ·simp[zed,h1,ku,vInt]
 ·simp[zed,h1,show 100<h by lia,ku,vInt]
theorem zyp(h1:0<=h)(h2:h<=5):ze6 [] [.int h]=none/\ze5 [] [.int h]=some .non:=by
 unfold ze6 ze5 xQ runQ;rw[if_pos ⟨rfl,rfl⟩,if_pos ⟨rfl,rfl⟩,show kg 1 [] [.int h]=[some (.sh (.int h))] from rfl];simp[zgv,show ¬h<0 by lia,show ¬5<h by lia]
theorem zv8(ss:lx)(D:ss.length<=1000):(if ss.flatten.length<14 then yv [] [ssL ss]=none/\zfw [] [ssL ss]=some .non else yv [] [ssL ss]=some ("HouseFull" : Str)):=by
 have h:=zpx ss D;generalize ss.flatten.length=n at *;split <;> rename_i I
 ·unfold yv zfw xQ runQ
  rw[if_pos ⟨rfl,rfl⟩,if_pos ⟨rfl,rfl⟩,show kg 1 [] [ssL ss]=[some (.sh (ssL ss))] from rfl];simp[zfv,h,show ¬(14:Int)<=(n:Int) by lia]
 ·unfold yv xQ
  rw[if_pos ⟨rfl,rfl⟩,show kg 1 [] [ssL ss]=[some (.sh (ssL ss))] from rfl];simp[zfv,h,show(14:Int)<=(n:Int) by lia,ku,vInt]
theorem uw(ds:k7):(if ds.length<60 then t0 [] [.lst ds]=none/\wp [] [.lst ds]=some .non else t0 [] [.lst ds]=some ("DeedsFull" : Str)):=by
 split <;> rename_i I
 ·unfold t0 wp xQ runQ
  rw[if_pos ⟨rfl,rfl⟩,if_pos ⟨rfl,rfl⟩,show kg 1 [] [.lst ds]=[some (.sh (.lst ds))] from rfl];simp[ze8,show ¬(60:Int)<=(ds.length:Int) by lia]
 ·unfold t0 xQ
  rw[if_pos ⟨rfl,rfl⟩,show kg 1 [] [.lst ds]=[some (.sh (.lst ds))] from rfl];simp[ze8,show(60:Int)<=(ds.length:Int) by lia,ku,vInt]
def jt(k:l1):Int:=1+(k.filter Deed.isPut).length
theorem z17(k:l1)(J:k.length<=1000):zfx [.lst (k.map dD)]=some (.int (jt k)):=by
 have c:=zld (tt:=fTst (fBin dEq (fIxV 0 (fC (.int 0))) (fC (.str "put")))) (te:=fVar 0) (base:=[]) dD dD Deed.isPut k λx _=>by
  cases x with
  | put a h l=>exact⟨_,rfl,λ_=>⟨_,rfl⟩⟩
  | tell a p l=>exact⟨_,rfl,λz=>nomatch z⟩
  | go a=>exact⟨_,rfl,λz=>nomatch z⟩
  | dry=>exact⟨_,rfl,λz=>nomatch z⟩
 have I:Few (k.map dD).length:=few (by rw[ah];lia);unfold zfx runD;rw[if_pos (show[D.lst (k.map dD)].length=1 from rfl),show jl 1 [D.lst (k.map dD)]=[some (.sh (.lst (k.map dD)))] from rfl];unfold jt;generalize k.map dD=L at *;simp[zj9,iz,I,c]
def fK0:fK κ 0 f (some (.ag κ l ps)::e)=f (some (.ag κ l ps)::e):=z5o rfl
def fK0r:fK κ 0 f (some (.ro κ ps)::e)=f (some (.ro κ ps)::e):=z14 rfl
variable{sl:Sl}
def cQ0:ji m [0] F (some sl::e)=(F (some sl::e)).bind λr=>(getR r.2 [0]).bind λags=>(m ags r.1).map λd=>(d,r.2):=if_pos λk D=>by rw[cy.mp D];exact⟨_,rfl⟩
variable{m:ll->k7->ln}
def cL0:kv m [0] F (some sl::e)=(F (some sl::e)).bind λr=>(getA r.2 [0]).bind λags=>(m ags r.1).bind λq=>if q.2.map (·.1)=ags.map (·.1) then some (q.1,putA r.2 [0] q.2) else none:=if_pos λk D=>by rw[cy.mp D];exact⟨_,rfl⟩
def zyq:getA (some (.ag κ l ps)::e) [0]=some [(κ,ps)]:=rfl
variable{κ':AK}
def zyr:putA (some (.ag κ l ps)::e) [0] [(κ',ps')]=some (.ag κ' l ps')::e:=rfl
def l8:getR (some (.ag κ l ps)::e) [0]=some [(κ,ps)]:=rfl
def zz2:getR (some (.ro κ ps)::e) [0]=some [(κ,ps)]:=rfl
def ua:oy kH 0 0 (frz true (some (.ag kH l (hP k p))::e))=some (.lst (k.map dD),frz true (some (.ag kH l (hP k p))::e)):=by
 unfold oy;rw[if_pos (show isK kH (frz true (some (.ag kH l (hP k p))::e)) 0 from .inr ⟨[.d (.lst (k.map dD)),.d (.lst (p.map stD))],rfl⟩)];rfl
variable{r:Nat}
def zm1(h:e[i]?=some (some (.ag κ (some r) ps)))(I:∀c fs,κ≠.ins true c fs)(D:ps[j]?=some (.o ds))(J:f e=some (d,e))(R:Few (ds.length+1)) :
  rd (.at κ) i j f e=some (.non,e.set i (some (.ag κ (some r) (ps.set j (.o (ds++[d])))))):=by
 unfold rd;rw[h];dsimp only;rw[if_pos (show labO κ (some r) from⟨rfl,I⟩),zn8 h D,ac,J,ac];unfold appP;rw[h];dsimp only;rw[D];dsimp only;rw[if_pos ⟨rfl,rfl,rfl,R⟩];unfold setP;rw[h]
theorem zob{d:Deed}{sp:l2}(D:k.length<=1000)(I:p.length<=1000):qg [hA k p] [dD d,ssL ss,spL sp]=some (.non,[hA (k++[d]) (p++[(ss,sp)])]):=by
 have h1:=zm1 (e:=[some (.ag kH (some 0) (hP k p)),some (.sh (dD d)),some (.sh (ssL ss)),some (.sh (spL sp))]) (i:=0) (j:=0) (f:=fVar 1) rfl (λc fs z=>nomatch z) rfl rfl (few (by rw[ah];lia));have h2:=zm1 (e:=[some (.ag kH (some 0) ((hP k p).set 0 (.o (k.map dD++[dD d])))),some (.sh (dD d)),some (.sh (ssL ss)),some (.sh (spL sp))]) (i:=0) (j:=1) (f:=fTup (aw (fVar 2) (aw (fVar 3) fNil))) (ds:=p.map stD) rfl (λc fs z=>nomatch z) rfl rfl (few (by rw[ah];lia));unfold qg runL;rw[if_pos ⟨rfl,rfl⟩,show j0 4 [hA k p] [dD d,ssL ss,spL sp]=[some (.ag kH (some 0) (hP k p)),some (.sh (dD d)),some (.sh (ssL ss)),some (.sh (spL sp))] from rfl];simp[zht,h1,h2];unfold hA hP;rw[db,db];rfl
def putX(ss:lx)(n:Nat)(a h l:Int):ka:=if a<1\/(ss.length:Int)<a then some "UnknownStack" else if h<1\/60<h then some "BadHours" else if l<0\/100<l then some "BadLoss" else if ss.flatten.length<14 then(if n<60 then none else some "DeedsFull") else some "HouseFull"
def putS(ss:lx)(a:Nat)(x:Sk):lx:=ss.set (a-1) (x::ss.getD (a-1) [])
theorem z5q{l:Int}(I:putX s.1 k.length a h l=none)(n:s.1.length<=5)(o:p.length<=100) :
  yk [hA k (p++[s])] [.int a,.int h,.int l]=none/\zfk [hA k (p++[s])] [.int a,.int h,.int l]=some (.int (jt k),[hA (k++[.put a h l]) (p++[s]++[(putS s.1 a (jt k,h,l),s.2)])]):=by
 unfold putX at I;split at I
 ·cases I
 split at I
 ·cases I
 split at I
 ·cases I
 split at I;case isFalse=>cases I
 rename_i Y;split at I;case isFalse=>cases I
 rename_i Z;have k1:=ya (ss:=s.1) (a:=a) (by lia) (by lia);have k2:=zsl (h:=h) (by lia) (by lia);have k3:=zoa (h:=l) (by lia) (by lia);have V:=zv8 s.1 (by lia);rw[if_pos Y] at V;have k5:=uw (k.map dD);rw[if_pos (by rw[ah];exact Z)] at k5;have b:=z17 k (by lia);have J:(a-1:Nat)<s.1.length:=by lia
 have c:atI (s.1.map λs=>D.lst (s.map sD)) ((a:Int)-1)=some (.lst ((s.1.getD (a-1) []).map sD)):=by
  rw[show(a:Int)-1=((a-1:Nat):Int) by lia,ly (λs:lu=>D.lst (s.map sD)) (aq J),av,aq J];rfl
 have e:=zhs (ss:=s.1) (a:=a) ((jt k,h,l)::s.1.getD (a-1) []) (by lia) (by lia) (by lia);have f:=zob (k:=k) (p:=p++[s]) (d:=.put a h l) (ss:=putS s.1 a (jt k,h,l)) (sp:=s.2) (by lia) (by simp;lia);have g:=re (k:=k) (p:=p) (s:=s);have i:=zx (k:=k) (p:=p) (s:=s);have j:Few (0+1+((s.1.getD (a-1) []).map sD).length):=few (by
  have:(s.1.getD (a-1) []).length<=s.1.flatten.length:=by
   rw[av,aq J];exact(ek (pz J)).length_le
  rw[ah];lia)
 have m:j0 7 [hA k (p++[s])] [.int a,.int h,.int l]=[some (.ag kH (some 0) (hP k (p++[s]))),some (.sh (.int a)),some (.sh (.int h)),some (.sh (.int l)),none,none,none]:=rfl;have S:qg [(kH,hP k (p++[s]))] [.tup [.str "put",.int a,.int h,.int l],ssL (putS s.1 a (jt k,h,l)),spL s.2]=some (.non,[hA (k++[.put a h l]) (p++[s]++[(putS s.1 a (jt k,h,l),s.2)])]):=f;have U:yl [ssL s.1,.int a,.lst (.tup [.int (jt k),.int h,.int l]::(s.1.getD (a-1) []).map sD)]=some (ssL (putS s.1 a (jt k,h,l))):=e;have R:t3 (j0 7 [hA k (p++[s])] [.int a,.int h,.int l])=some (.rt (.int (jt k)),[some (.ag kH (some 0) (hP (k++[.put a h l]) (p++[s]++[(putS s.1 a (jt k,h,l),s.2)]))),some (.sh (.int a)),some (.sh (.int h)),some (.sh (.int l)),some (.sh (ssL s.1)),some (.sh (.int (jt k))),some (.sh (.lst (.tup [.int (jt k),.int h,.int l]::(s.1.getD (a-1) []).map sD)))]):=by
  rw[m];generalize (s.1.getD (a-1) []).map sD=TL at *;unfold ssL at *;simp[t3,fK0,cQ0,l8,g,l6,ma,k1,k2,k3,V,xFrz,fFrz,ua,k5,noL,b,c,j,cL0,zyq,U,i,S,zyr]
 exact⟨by unfold yk xL;rw[if_pos ⟨rfl,rfl⟩,R],by unfold zfk runL;rw[if_pos ⟨rfl,rfl⟩,R];rfl⟩
def newS(n:Nat):Hs:=(List.replicate n [],[])
theorem z18(Y:n<=5):zer [(.ins true "House" [],[])] [.int n]=none/\zce [(.ins true "House" [],[])] [.int n]=some (.non,[(.ins true "House" jd,hP [] [newS n])]):=by
 have k1:=zyp (h:=n) (by lia) (by lia);have J:Few (rngD 0 n).length:=few (by rw[yh];lia);have c:=o7 (te:=fLst (f8 fNil)) (base:=[]) (λi:Nat=>D.int (0+(i:Int))) (λ_:Nat=>D.lst []) (List.range n) λi _=>⟨_,rfl⟩;have R:=qx n (by lia);have S:j0 2 [(AK.ins true "House" [],[])] [.int n]=[some (.ag (.ins true "House" []) (some 0) []),some (.sh (.int n))]:=rfl;have U:(List.range n).map (λ_=>D.lst [])=(List.replicate n ([]:lu)).map λs=>D.lst (s.map sD):=by
  rw[List.map_const',kh,nh,du]
 have I:zda (j0 2 [(AK.ins true "House" [],[])] [.int n])=some (.nx,[some (.ag (.ins true "House" jd) (some 0) (hP [] [newS n])),some (.sh (.int n))]):=by
  rw[S];unfold rngD at R J;rw[U] at c;have V:(True/\(Str.ofString "kept")∉([]:g7)/\0<900):=⟨trivial,by simp,by decide⟩;simp only[zda,sSeq,sXp,l6,ma,aw,fVar,fNil,af,ae,ac,k1,li,aj,i7,y8,f8,b6,gz,if_true,ax,lj,fTup,fLst,iz,jw,R,J,c,du,ak,show 0+1+1<=64 by decide,show 0+1<=64 by decide];rw[if_pos V];simp only[ac,af,ae,R,J,c,if_true,aj,ak,b6,show 0+1+1<=64 by decide,show 0+1<=64 by decide];rfl
 exact⟨by unfold zer xL;rw[if_pos ⟨rfl,rfl⟩,I],by unfold zce runL;rw[if_pos ⟨rfl,rfl⟩,I];rfl⟩
def z19(D:n<=5)(I:F e=some ([.int n],e')):zc "House" zce F e=some ((kH,hP [] [newS n]),e'):=by
 unfold zc;rw[I,ac,(z18 D).2];rfl
def xq(h:e[i]?=some (some (.ag κ l ps)))(D:F e=some (ds,e))(I:m [(κ,ps)] ds=some (d,[(κ,ps')])):kv m [i] F e=some (d,e.set i (some (.ag κ l ps'))):=zyo h (r:=(ds,e)) D h I
variable{m:ll->k7->Option (Str×ll)}
def zsm{d:Str}(h:e[i]?=some (some (.ag κ l ps)))(D:F e=some (ds,e))(I:m [(κ,ps)] ds=some (d,[(κ,ps')])):l9 m [i] F e=some (d,e.set i (some (.ag κ l ps'))):=zv6 h (r:=(ds,e)) D h I
def zsn(h:e[i]?=some (some (.ag κ l ps)))(D:F e=some (ds,e))(I:m [(κ,ps)] ds=none):l9 m [i] F e=none:=zv7 h (r:=(ds,e)) D h I
def plD:D->Prop | .int _=>True | .str _=>True | _=>False
theorem zjs(xs:k7)(R:∀x∈xs,plD x)(V:xs.length<=1000):zc1 [.tup xs,.tup xs]=some (.bl true):=by
 obtain⟨e',h1,v2,rfl⟩:=yd (i:=2) (g:=zc5) (λk e=>∃v2,e=[some (.sh (.tup xs)),some (.sh (.tup xs)),v2]) (rngD 0 xs.length) [some (.sh (.tup xs)),some (.sh (.tup xs)),none] ⟨none,rfl⟩ (by
  rintro k d e S ⟨v2,rfl⟩;obtain⟨rfl,I⟩:=z8 S;have J:atI xs (k:Int)=some xs[k]:=by
   unfold atI;rw[uq (by lia) (by lia)];simp[I]
  have U:=R _ (pz I);generalize xs[k]=x at *;cases x with
  | int i=>simp[zc5,J,zny]
  | str i=>simp[zc5,J]
  | _=>exact U.elim)
 have hi:=qx xs.length (by lia);refine j3 (e':=?w) rfl ?h;show zf5 [some (.sh (.tup xs)),some (.sh (.tup xs)),none]=_;simp[zf5,hi,h1];rfl
def zys(h:wm [ssL s.1]=some (iD os)):zfb [hA k (p++[s])] []=some (.lst (iD os)):=by
 unfold zfb runQ;have D:(kg 1 [hA k (p++[s])] [])[0]?=some (some (.ro kH (hP k (p++[s])))):=rfl;have h1:=zsj (m:=qh) (F:=fNil) D (r:=([],kg 1 [hA k (p++[s])] [])) rfl D;have h2:=z14 (f:=ji qh [0] fNil) D;simp[re] at h1;simp[zgy,h2,h1,h]
theorem zso(ss:lx)(D:ss.length<=1000):(if 0<ss.flatten.length then yq [] [ssL ss]=none/\zfa [] [ssL ss]=some .non else yq [] [ssL ss]=some ("NothingWaits" : Str)):=by
 have h:=zpx ss D;generalize ss.flatten.length=n at *;split <;> rename_i I
 ·unfold yq zfa xQ runQ
  rw[if_pos ⟨rfl,rfl⟩,if_pos ⟨rfl,rfl⟩,show kg 1 [] [ssL ss]=[some (.sh (ssL ss))] from rfl];simp[ze9,h,show ¬n=0 by lia]
 ·unfold yq xQ
  rw[if_pos ⟨rfl,rfl⟩,show kg 1 [] [ssL ss]=[some (.sh (ssL ss))] from rfl];simp[ze9,h,show n=0 by lia,ku]
def dryS(s:Hs)(a:Nat)(x:Sk)(tl:lu):Hs:=(s.1.set (a-1) tl,s.2++[(hrOf s.2,hrOf s.2+x.2.1,lss s.1.flatten)])
variable{x:Sk}{tl:lu}
theorem z5r(V:wm [ssL s.1]=some (iD (a::os)))(R:s.1[a-1]?=some (x::tl))(S:1<=a)(Y:k.length<60)(o:s.1.length<=5)(q:p.length<=100)(Z:∀y∈s.1,y.length<=1000)(b:s.2.length<=1000)(c:0<s.1.flatten.length) :
  yi [hA k (p++[s])] []=none/\zfl [hA k (p++[s])] []=some (sD x,[hA (k++[.dry]) (p++[s]++[dryS s a x tl])]):=by
 have k1:=zso s.1 (by lia);rw[if_pos c] at k1;have k5:=uw (k.map dD);rw[if_pos (by rw[ah];exact Y)] at k5;have e:=zz0 R S;have f:=zm0 R S (by lia);have g:=zq9 s.1 Z;have h:qg [(kH,hP k (p++[s]))] [.tup [.str "dry"],ssL (s.1.set (a-1) tl),.lst (s.2.map sD++[.tup [.int (hrOf s.2),.int (hrOf s.2+x.2.1),.int (lss s.1.flatten)]])]=some (.non,[hA (k++[.dry]) (p++[s]++[dryS s a x tl])]):=by
  have:=zob (k:=k) (p:=p++[s]) (d:=.dry) (ss:=s.1.set (a-1) tl) (sp:=s.2++[(hrOf s.2,hrOf s.2+x.2.1,lss s.1.flatten)]) (by lia) (by simp;lia);unfold spL at this;rw[db] at this;exact this
 have i:=re (k:=k) (p:=p) (s:=s);have U:=zx (k:=k) (p:=p) (s:=s);have j:=z15 (k:=k) (p:=p) (s:=s);have kd:u4 [sD x]=some (.int x.2.1):=zn2 x;have l:Few ((s.2.map sD).length+(0+1)):=few (by rw[ah];lia);have J:atI (iD (a::os)) 0=some (.int (a:Int)):=by unfold iD;exact ly (k:=0) (λn:Nat=>D.int (n:Int)) rfl
 have m:j0 6 [hA k (p++[s])] []=[some (.ag kH (some 0) (hP k (p++[s]))),none,none,none,none,none]:=rfl;have I:∃e',yj (j0 6 [hA k (p++[s])] [])=some (.rt (sD x),some (.ag kH (some 0) (hP (k++[.dry]) (p++[s]++[dryS s a x tl])))::e'):=by
  rw[m];unfold spL at U;generalize s.2.map sD=SP at *;simp[yj,fK0,cQ0,l8,i,l6,ma,k1,xFrz,fFrz,ua,k5,noL,e,V,J,j,kd,g,f,U,l,cL0,zyq,h,zyr]
 obtain⟨e',I⟩:=I;exact⟨by unfold yi xL;rw[if_pos ⟨rfl,rfl⟩,I],by unfold zfl runL;rw[if_pos ⟨rfl,rfl⟩,I];rfl⟩
def ud:Int->l2->Prop
 | _,[]=>True
 | b,x::r=>x.1=b/\x.1<=x.2.1/\ud x.2.1 r
def pd:Int->l2->Int
 | b,[]=>b
 | _,x::r=>pd x.2.1 r
def zl3:∀(sp:l2) (b:Int) (x:Spn),pd b (sp++[x])=x.2.1
 | [],_,_=>rfl
 | y::r,_,x=>zl3 r y.2.1 x
def zv9(sp:l2):hrOf sp=pd 0 sp:=by
 unfold hrOf;cases h:sp.getLast? with
 | none=>rw[wt.mp h];rfl
 | some x=>obtain⟨q,rfl⟩:=wq.mp h;rw[zl3]
def zp1:∀(sp:l2) (b:Int) (x:Spn),ud b sp->x.1=pd b sp->x.1<=x.2.1->ud b (sp++[x])
 | [],_,_,_,h,h2=>⟨h,h2,trivial⟩
 | y::r,_,x,hc,h,h2=>⟨hc.1,hc.2.1,zp1 r _ x hc.2.2 h h2⟩
theorem zyt:∀(sp:l2) (b:Int),ud b sp->b<=pd b sp
 | [],b,_=>ie b
 | y::r,b,hc=>by have:=zyt r _ hc.2.2;have:=hc.1;have:=hc.2.1;show b<=pd y.2.1 r;lia
def rts(sp:l2):ik:=(sp.map λx=>List.replicate (x.2.1-x.1).toNat x.2.2).flatten
theorem zre:∀(sp:l2) (b:Int),ud b sp->((rts sp).length:Int)=pd b sp-b
 | [],b,_=>by show(0:Int)=b-b;lia
 | x::r,b,hc=>by
   have D:=zre r _ hc.2.2;have e:rts (x::r)=List.replicate (x.2.1-x.1).toNat x.2.2++rts r:=rfl;rw[e,ao,fg];have:=hc.1;have:=hc.2.1;show _=pd x.2.1 r-b
   lia
theorem z2a(ss:lx)(S:ss.length<=1000)(R:∀s∈ss,s.length<=1000):zhv [ssL ss]=some (.int (lss ss.flatten)):=by
 have c:=o7 (te:=d5 bSum (aw (fLst (iz (fiS (fVar 0)) [] fYes (fIxV 0 (fC (.int 2))))) (fNil))) (base:=[]) (λs:lu=>D.lst (s.map sD)) (λs:lu=>D.int (s.map λx:Sk=>x.2.2).sum) ss λs U=>by
  have V:=o7 (te:=fIxV 0 (fC (.int 2))) (base:=[]) sD (λx:Sk=>D.int x.2.2) s λx _=>⟨_,by simp[sD,ww];rfl⟩;have I:=xg (λx:Sk=>x.2.2) s;have J:Few (s.map sD).length:=few (by rw[ah];have:=R s U;lia);generalize s.map sD=L at *;exact⟨_,by simp[iz,J,V,I];rfl⟩
 have I:=xg (λs:lu=>(s.map λx:Sk=>x.2.2).sum) ss;have J:Few (ss.map λs=>D.lst (s.map sD)).length:=few (by rw[ah];lia);have Y:(ss.map λs:lu=>(s.map λx:Sk=>x.2.2).sum).sum=lss ss.flatten:=by
  clear c I J S R;induction ss with
  | nil=>rfl
  | cons a l ih=>rw[bn,gm,ih,cr,ny];rfl
 rw[Y] at I;refine j3 (e':=[some (.sh (ssL ss))]) rfl ?_;show zjp [some (.sh (ssL ss))]=_;unfold ssL;generalize (ss.map λs=>D.lst (s.map sD))=L at *;simp[zjp,iz,J] at c ⊢;simp[c,I]
def zwa(a b:l2):rts (a++b)=rts a++rts b:=by simp[rts]
theorem zyu(sp:l2)(I:ud b sp)(i:pd b sp-b<=100000):zit [spL sp]=some (.lst ((rts sp).map D.int)):=by
 have Y:=zre sp b I;obtain⟨e',U,v2,R,S,rfl⟩:=zz (ix:=[2,3,4]) (g:=zfc) (λx:Spn=>[D.int x.1,.int x.2.1,.int x.2.2]) (λp e=>∃v2 R S,e=[some (.sh (spL sp)),some (.sh (.lst ((rts p).map D.int))),v2,R,S]) sp
  [some (.sh (spL sp)),some (.sh (.lst [])),none,none,none] ⟨none,none,none,rfl⟩ (λ_ _=>rfl) (by
   rintro p x q e J ⟨v2,R,S,rfl⟩;have Z:(rts p).length+(x.2.1-x.1).toNat<=100000:=by
    have:(rts sp).length=(rts p).length+((x.2.1-x.1).toNat+(rts q).length):=by rw[J,zwa,ao];congr 1;show(List.replicate _ _++rts q).length=_;simp
    lia
   have V:Bnd (-(2 ^ 62)) (2 ^ 62) (x.2.1-x.1):=by
    have:-100000<=x.2.1-x.1:=by
     have a:∀(l:l2) (b:Int),ud b l->x∈l->x.1<=x.2.1:=by
      intro l;induction l with
      | nil=>intro b _ h;cases h
      | cons y r ih=>intro b I h;rcases ce.mp h with rfl | h;exact I.2.1;exact ih _ I.2.2 h
     have:=a sp b I (by rw[J];simp)
     lia
    exact⟨by lia,by lia⟩
   have c:Few ((0+1)*(x.2.1-x.1).toNat):=by show _<=_;lia
   have d:Few (((rts p).map D.int).length+(List.replicate (x.2.1-x.1).toNat (D.int x.2.2)).length):=by show _<=_;rw[ah,fg];lia
   have f:(rts (p++[x])).map D.int=(rts p).map D.int++List.replicate (x.2.1-x.1).toNat (D.int x.2.2):=by rw[zwa,db,show rts [x]=List.replicate (x.2.1-x.1).toNat x.2.2 by simp[rts],nh]
   refine⟨[some (.sh (spL sp)),some (.sh (.lst ((rts (p++[x])).map D.int))),some (.sh (.int x.1)),some (.sh (.int x.2.1)),some (.sh (.int x.2.2))],?_,_,_,_,rfl⟩;rw[f];simp only[tj,zfc,sSet,fLst,fCat,fRep,f8,aw,fNil,fVar,fBin,dSub,ae,af,ac,aj,ax,ay,ak,b6,show 0+1<=64 by decide,if_true,c,V,and_self,zq2,d])
 have U:forU [2,3,4] zfc (sp.map sD) [some (.sh (spL sp)),some (.sh (.lst [])),none,none,none]=_:=U;refine j3 (e':=[some (.sh (spL sp)),some (.sh (.lst ((rts sp).map D.int))),v2,R,S]) rfl ?_;show zis [some (.sh (spL sp)),none,none,none,none]=_;unfold spL at *;simp[zis,U]
def z2b(h:zgj [ssL s.1]=some d):zef [hA k (p++[s])] []=some d:=by
 unfold zef runQ;rw[if_pos ⟨rfl,rfl⟩,show kg 1 [hA k (p++[s])] []=[some (.ro kH (hP k (p++[s])))] from rfl];simp[zhx,fK0r,cQ0,zz2,re,h]
variable{t:lu}
theorem zoc(h:ss[a-1]?=some t)(I:1<=a)(J:ss.length<=1000):(if t.length=0 then wg [] [ssL ss,.int (a:Int)]=some ("EmptyStack" : Str) else wg [] [ssL ss,.int (a:Int)]=none/\zeh [] [ssL ss,.int (a:Int)]=some .non):=by
 have h1:=qm h I;have R:=(ai.mp h).1;have e:kg 2 [] [ssL ss,.int (a:Int)]=[some (.sh (ssL ss)),some (.sh (.int (a:Int)))]:=rfl;have D:((t.map sD).length:Int)=t.length:=by rw[ah]
 generalize t.map sD=T at *;split <;> rename_i S
 ·unfold wg xQ
  rw[if_pos ⟨rfl,rfl⟩,e];unfold ssL;have c:decide ((T.length:Int)=0)=true:=decide_eq_true (by lia);simp only[zfz,sIf,fTst,fBin,d5,aw,fIxV,ixSl,fVar,fC,fNil,dSub,ae,af,ac,aj,h1,bLen,dEq,c,if_true,ku,vInt,show((a:Int)).natAbs<1000000 by lia]
 ·unfold wg zeh xQ runQ
  rw[if_pos ⟨rfl,rfl⟩,if_pos ⟨rfl,rfl⟩,e];unfold ssL;have c:decide ((T.length:Int)=0)=false:=decide_eq_false (by lia);simp only[zfz,sIf,fTst,fBin,d5,aw,fIxV,ixSl,fVar,fC,fNil,dSub,ae,af,ac,aj,h1,bLen,dEq,c,bw,if_false,sNil,and_self]
def goS(s:Hs)(a:Nat)(tl:lu):Hs:=(s.1.set (a-1) tl,s.2)
theorem z7c(I:s.1[a-1]?=some (x::tl))(J:1<=a)(R:k.length<60)(c:s.1.length<=5)(e:p.length<=100) :
  yg [hA k (p++[s])] [.int (a:Int)]=none/\zgd [hA k (p++[s])] [.int (a:Int)]=some (sD x,[hA (k++[.go a]) (p++[s]++[goS s a tl])]):=by
 have f:=(ai.mp I).1;have k1:=ya (ss:=s.1) (a:=a) (by lia) (by lia);have k2:=zoc I J (by lia);rw[if_neg (by simp)] at k2;have k5:=uw (k.map dD);rw[if_pos (by rw[ah];exact R)] at k5;have S:=zz0 I J;have U:=zm0 I J (by lia);have V:qg [(kH,hP k (p++[s]))] [.tup [.str "go",.int (a:Int)],ssL (s.1.set (a-1) tl),spL s.2]=some (.non,[hA (k++[.go a]) (p++[s]++[goS s a tl])]):=zob (k:=k) (p:=p++[s]) (d:=.go a) (ss:=s.1.set (a-1) tl) (sp:=s.2) (by lia) (by simp;lia);have Y:=re (k:=k) (p:=p) (s:=s);have Z:=zx (k:=k) (p:=p) (s:=s);have b:j0 3 [hA k (p++[s])] [.int (a:Int)]=[some (.ag kH (some 0) (hP k (p++[s]))),some (.sh (.int (a:Int))),none]:=rfl;have D:we (j0 3 [hA k (p++[s])] [.int (a:Int)])=some (.rt (sD x),[some (.ag kH (some 0) (hP (k++[.go a]) (p++[s]++[goS s a tl]))),some (.sh (.int (a:Int))),some (.sh (ssL s.1))]):=by
  rw[b];generalize spL s.2=SP at *;simp[we,fK0,cQ0,l8,Y,l6,ma,k1,k2,xFrz,fFrz,ua,k5,noL,S,U,Z,cL0,zyq,V,zyr]
 exact⟨by unfold yg xL;rw[if_pos ⟨rfl,rfl⟩,D],by unfold zgd runL;rw[if_pos ⟨rfl,rfl⟩,D];rfl⟩
theorem zsp{m:Int}:(if m<1\/(t.length:Int)<m then yp [] [.lst (t.map sD),.int m]=some ("UnknownPlace" : Str) else yp [] [.lst (t.map sD),.int m]=none/\zfe [] [.lst (t.map sD),.int m]=some .non):=by
 have e:kg 2 [] [.lst (t.map sD),.int m]=[some (.sh (.lst (t.map sD))),some (.sh (.int m))]:=rfl;have D:((t.map sD).length:Int)=t.length:=by rw[ah]
 generalize t.map sD=T at *;split <;> rename_i I
 ·unfold yp xQ
  rw[if_pos ⟨rfl,rfl⟩,e];by_cases h1:m<1
  ·simp[zdm,h1,ku]
  ·simp[zdm,h1,show(T.length:Int)<m by lia,ku]
 ·unfold yp zfe xQ runQ
  rw[if_pos ⟨rfl,rfl⟩,if_pos ⟨rfl,rfl⟩,e];simp[zdm,show ¬m<1 by lia,show ¬(T.length:Int)<m by lia]
def zp2(x:Sk)(l:Int):zjr [sD x,.int l]=some (sD (x.1,x.2.1,l)):=by
 rfl
theorem z2c{m:Nat}{l:Int}(J:s.1[a-1]?=some t)(S:t[m-1]?=some x)(R:1<=a)(A:1<=m)(c:0<=l)(h1:l<=100)(e:k.length<60)(B:s.1.length<=5)(f:t.length<=1000)(C:p.length<=100) :
  yn [hA k (p++[s])] [.int (a:Int),.int (m:Int),.int l]=none/\zei [hA k (p++[s])] [.int (a:Int),.int (m:Int),.int l]=some (.int x.2.2,[hA (k++[.tell a m l]) (p++[s]++[(s.1.set (a-1) (t.set (m-1) (x.1,x.2.1,l)),s.2)])]):=by
 have E:=(ai.mp J).1;have F:=(ai.mp S).1;have k1:=ya (ss:=s.1) (a:=a) (by lia) (by lia);have k2:=zoc J R (by lia);rw[if_neg (by lia)] at k2;have k3:=zsp (t:=t) (m:=m);rw[if_neg (by lia)] at k3;have g:=zoa (h:=l) c h1;have k5:=uw (k.map dD);rw[if_pos (by rw[ah];exact e)] at k5;have i:=qm J R;have j:atI (t.map sD) ((m:Int)-1)=some (sD x):=by
  rw[show(m:Int)-1=((m-1:Nat):Int) by lia];exact ly sD S
 have U:=zhs (ss:=s.1) (a:=a) (t.set (m-1) (x.1,x.2.1,l)) R (by lia) (by lia);have G:(t.map sD).length=t.length:=ah ..;have V:=zsh (t.map sD) (m-1) (by lia);rw[show((m-1:Nat):Int)=(m:Int)-1 by lia] at V;have n:=zli (t.map sD) m (by lia);have b:=zv5 (t.map sD) (m-1) (sD (x.1,x.2.1,l)) (by lia);rw[show m-1+1=m by lia] at b;have o:Few (((t.map sD).take (m-1)).length+(0+1)):=few (by simp only[dz];lia);have q:Few (((t.map sD).take (m-1)++[sD (x.1,x.2.1,l)]).length+((t.map sD).drop m).length):=few (by simp[dz,fq];lia);have r:(t.set (m-1) (x.1,x.2.1,l)).map sD=(t.map sD).set (m-1) (sD (x.1,x.2.1,l)):=iu ..;rw[r,<-b] at U;have u:qg [(kH,hP k (p++[s]))] [.tup [.str "tell",.int (a:Int),.int (m:Int),.int l],ssL (s.1.set (a-1) (t.set (m-1) (x.1,x.2.1,l))),spL s.2]=some (.non,[hA (k++[.tell a m l]) (p++[s]++[(s.1.set (a-1) (t.set (m-1) (x.1,x.2.1,l)),s.2)])]):=zob (k:=k) (p:=p++[s]) (d:=.tell a m l) (ss:=s.1.set (a-1) (t.set (m-1) (x.1,x.2.1,l))) (sp:=s.2) (by lia) (by simp;lia);have v:=re (k:=k) (p:=p) (s:=s);have w:=zx (k:=k) (p:=p) (s:=s);have y:=zp2 x l;have kd:=zq6 x;have z:j0 8 [hA k (p++[s])] [.int (a:Int),.int (m:Int),.int l]=[some (.ag kH (some 0) (hP k (p++[s]))),some (.sh (.int (a:Int))),some (.sh (.int (m:Int))),some (.sh (.int l)),none,none,none,none]:=rfl;have I:∃e',sd (j0 8 [hA k (p++[s])] [.int (a:Int),.int (m:Int),.int l])=some (.rt (.int x.2.2),some (.ag kH (some 0) (hP (k++[.tell a m l]) (p++[s]++[(s.1.set (a-1) (t.set (m-1) (x.1,x.2.1,l)),s.2)])))::e'):=by
  rw[z];unfold ssL at *;generalize (s.1.map λs=>D.lst (s.map sD))=SL at *;generalize (t.map sD).take (m-1)=TA at *;generalize (t.map sD).drop m=TB at *;generalize t.map sD=T at *;generalize sD (x.1,x.2.1,l)=Y at *;generalize sD x=Z at *;refine⟨[some (.sh (.int (a:Int))),some (.sh (.int (m:Int))),some (.sh (.int l)),some (.sh (.lst SL)),some (.sh (.lst T)),some (.sh Z),some (.sh (.lst (TA++[Y]++TB)))],?_⟩;simp only[sd,sSeq,sSet,sXp,i7,fK0,cQ0,fNil,ac,l8,v,aj,ay,ax,l6,ma,aw,fVar,af,ae,k1,k2,k3,g,li,xFrz,fFrz,ua,k5,noL,if_true,d5,fIxV,ixSl,fBin,fC,dSub,i,j,fLst,fCat,fSl,fO0,fO1,V,n,f8,y,o,q,fTup,ak,b6,show 0+1<=64 by decide,show 0+1+1+1+1<=64 by decide,U,w,cL0,zyq,u,bn,du,zyr,sRet,kd]
 obtain⟨e',I⟩:=I;exact⟨by unfold yn xL;rw[if_pos ⟨rfl,rfl⟩,I],by unfold zei runL;rw[if_pos ⟨rfl,rfl⟩,I];rfl⟩
abbrev dsO(ss:lx):List k7:=ss.map λs=>s.map sD
def zz3(h:e[j]?=some (some (.sh d))):(frz false e)[j]?=some (some (.sh d)):=by
 unfold frz;rw[cb,h];rfl
def zz4(h:e[j]?=some (some (.o2 (dsO ss)))):(frz false e)[j]?=some (some (.sh (ssL ss))):=by
 unfold frz;rw[cb,h];show some (some (Sl.sh (.lst ((dsO ss).map D.lst))))=_;unfold dsO ssL;rw[iw];rfl
def zz5(r:lu):noLs (r.map sD)=true:=by
 induction r with
 | nil=>rfl
 | cons x r ih=>rw[bn];unfold noLs;rw[ih];rfl
variable{c w:Str}
def zwb(h:xi c=some w):((List.range 13).filter λk=>c==lc.getD k "").map (λk=>D.str (pf.getD k ""))=[D.str w]:=by
 have I:c∈lc:=zmu (by unfold kdT;rw[h];rfl);simp[lc] at I;rcases I with rfl | rfl | rfl | rfl | rfl | rfl | rfl | rfl | rfl | rfl | rfl | rfl | rfl <;> cases h <;> rfl
theorem zyv(c:Str)(d:D)(h:kdT c=some d):runK 4 z1v c d:=by
 obtain⟨w,J,rfl⟩:=ij.mp h;intro ea;have R:iR1 [.int 13]=some (rngD 0 13):=qx 13 (by decide);have S:∀n,n<=100->Few n=True:=λn Z=>eq_true (few (by lia));have cmp:=zld (tt:=fAnd (fTst (fIxV 2 (fVar 0))) (fTst (fIsx ea 3 true))) (te:=fIxV 1 (fVar 0)) (base:=[some (.sh (.lst (pf.map D.str))),some (.sh (.lst (lc.map λn=>D.bl (c==n)))),some (.sh (.exc ea))]) (λj:Nat=>D.int (0+(j:Int))) (λk=>D.str (pf.getD k "")) (λk=>c==lc.getD k "") (List.range 13) (λk I=>by
  have I:=j5.mp I;have U:atI (lc.map λn=>D.bl (c==n)) (0+(k:Int))=some (.bl (c==lc.getD k "")):=by
   rw[iy,ly (λn:Str=>D.bl (c==n)) (aq (show k<lc.length from I)),av,aq (show k<lc.length from I)];rfl
  have V:atI (pf.map D.str) (0+(k:Int))=some (.str (pf.getD k "")):=by
   rw[iy,ly D.str (aq (show k<pf.length from I)),av,aq (show k<pf.length from I)];rfl
  generalize (lc.map λn=>D.bl (c==n))=KL at *;generalize pf.map D.str=WL at *;refine⟨[some (.sh (.int (0+(k:Int)))),some (.sh (.lst WL)),some (.sh (.lst KL)),some (.sh (.exc ea))],?_,λ_=>⟨_,by simp only[fIxV,fVar,ixSl,ae,af,ac,aj,V];rfl⟩⟩;generalize (c==lc.getD k "")=bb at *;cases bb <;> simp only[fAnd,fTst,fIxV,fVar,ixSl,fIsx,U,ae,af,ac,aj,bw,if_false,if_true])
 rw[zwb J] at cmp;have cmp:m4 (fAnd (fTst (fIxV 2 (fVar 0))) (fTst (fIsx ea 3 true))) (fIxV 1 (fVar 0)) [some (.sh (.lst (pf.map D.str))),some (.sh (.lst (lc.map λn=>D.bl (c==n)))),some (.sh (.exc ea))] (rngD 0 13)=some [D.str w]:=cmp;have Y:(rngD 0 13).length=13:=rfl;refine⟨[some (.sh (.exc ea)),some (.sh (.lst (lc.map λn=>D.bl (c==n)))),some (.sh (.lst (pf.map D.str))),some (.sh (.lst [.str w]))],?_⟩;show z1v ea c [some (.sh (.exc ea)),none,none,none]=_;simp[lc,pf] at cmp ⊢;simp[z1v,fIsx,S,iz,R,Y,capt,cmp,bTup]
def zej:FS:=sSeq (sIf (fTst (fBin dEq (pLen (.at (.ins false "House" jd)) 0 0) (fC (.int 0)))) (ku "NothingDone" (some)) (sNil)) (sSeq (i7 (pPop (.at (.ins false "House" jd)) 0 1)) (sRet (pPop (.at (.ins false "House" jd)) 0 0)))
def zek:ll->k7->ln:=runL 1 1 0 zej
def ym:ll->k7->Option (Str×ll):=xL 1 1 0 zej
def pv:FS:=sSeq (sIf (fTst (fBin dEq (fIxV 1 (fC (.int 0))) (fC (.str "put")))) (sXp (xK (.ins false "House" jd) 0 (l9 yk [0] (aw (fIxV 1 (fC (.int 1))) (aw (fIxV 1 (fC (.int 2))) (aw (fIxV 1 (fC (.int 3))) (fNil)))))) (sRet (fK (.ins false "House" jd) 0 (kv zfk [0] (aw (fIxV 1 (fC (.int 1))) (aw (fIxV 1 (fC (.int 2))) (aw (fIxV 1 (fC (.int 3))) (fNil)))))))) (sNil)) (sSeq (sIf (fTst (fBin dEq (fIxV 1 (fC (.int 0))) (fC (.str "tell")))) (sXp (xK (.ins false "House" jd) 0 (l9 yn [0] (aw (fIxV 1 (fC (.int 1))) (aw (fIxV 1 (fC (.int 2))) (aw (fIxV 1 (fC (.int 3))) (fNil)))))) (sRet (fK (.ins false "House" jd) 0 (kv zei [0] (aw (fIxV 1 (fC (.int 1))) (aw (fIxV 1 (fC (.int 2))) (aw (fIxV 1 (fC (.int 3))) (fNil)))))))) (sNil)) (sSeq (sIf (fTst (fBin dEq (fIxV 1 (fC (.int 0))) (fC (.str "go")))) (sXp (xK (.ins false "House" jd) 0 (l9 yg [0] (aw (fIxV 1 (fC (.int 1))) (fNil)))) (sRet (fK (.ins false "House" jd) 0 (kv zgd [0] (aw (fIxV 1 (fC (.int 1))) (fNil)))))) (sNil)) (sSeq (sIf (fTst (fBin dEq (fIxV 1 (fC (.int 0))) (fC (.str "dry")))) (sXp (xK (.ins false "House" jd) 0 (l9 yi [0] (fNil))) (sRet (fK (.ins false "House" jd) 0 (kv zfl [0] (fNil))))) (sNil)) (sXp (xK (.ins false "House" jd) 0 (l9 ym [0] (fNil))) (sRet (fK (.ins false "House" jd) 0 (kv zek [0] (fNil))))))))
def zh1:ll->k7->ln:=runL 2 1 1 pv
def yf:ll->k7->Option (Str×ll):=xL 2 1 1 pv
def zgm:FS:=sSeq (sSet 2 (fTup (aw (fC (.str "refused")) (aw (fC (.str "")) (fNil))))) (sSeq (sTry (sXp (l9 yf [0] (aw (fVar 1) (fNil))) (sRet (kv zh1 [0] (aw (fVar 1) (fNil))))) 3 2 kdT) (sRet (fVar 2)))
def r8:ll->k7->ln:=runL 4 1 1 zgm
def zp3:ll->k7->Option (Str×ll):=xL 4 1 1 zgm
def ye:FS:=sSeq (vf 1 [3,4,5,6]) (sSeq (sSet 7 (d5 u7 (aw (fVar 3) (aw (pLen (.al 4) 1 1) (aw (fVar 2) (fNil)))))) (sSeq (sSet 8 (kv r8 [0] (aw (fVar 2) (fNil)))) (sSeq (sIf (fTst (fBin dNe (fVar 7) (fC (.str "")))) (sRet (d5 zc1 (aw (fVar 8) (aw (fTup (aw (fC (.str "refused")) (aw (fVar 7) (fNil)))) (fNil))))) (sNil)) (sSeq (sIf (fTst (fBin dEq (fIxV 2 (fC (.int 0))) (fC (.str "back")))) (sSeq (sSet 9 (pPop (.al 5) 1 2)) (sSeq (qp 1 0 (fIxV 9 (fC (.int 0)))) (sSeq (qp 1 3 (fIxV 9 (fC (.int 1)))) (sRet (d5 zc1 (aw (fVar 8) (aw (pPop (.al 4) 1 1) (fNil)))))))) (sNil)) (sSeq (sSet 10 (d5 sf (aw (fVar 3) (aw (fVar 2) (aw (fFrz false (fBin i4 (fC (.int 1)) (d5 bLen (aw (fLst (iz (fiS (fVar 4)) [] (fTst (fBin dEq (fIxV 0 (fC (.int 0))) (fC (.str "put")))) (fVar 0))) (fNil))))) (fNil)))))) (sSeq (i7 (rd (.al 5) 1 2 (fTup (aw (fVar 3) (aw (fVar 6) (fNil)))))) (sSeq (i7 (rd (.al 4) 1 1 (fVar 2))) (sSeq (qp 1 0 (fIxV 10 (fC (.int 0)))) (sSeq (sIf (fTst (fBin dEq (fIxV 2 (fC (.int 0))) (fC (.str "dry")))) (sSeq (sSet 11 (d5 bLen (aw (d5 zit (aw (fVar 6) (fNil))) (fNil)))) (qp 1 3 (fLst (fCat (fVar 6) (fLst (f8 (aw (fTup (aw (fVar 11) (aw (fBin i4 (fVar 11) (fBin dIx (fIxV 10 (fC (.int 1))) (fC (.int 1)))) (aw (d5 zhv (aw (fVar 3) (fNil))) (fNil))))) (fNil)))))))) (sNil)) (sRet (d5 yx (aw (fVar 8) (aw (fIxV 10 (fC (.int 1))) (fNil))))))))))))))
def uz:ll->k7->ln:=runL 12 2 1 ye
def zto:ll->k7->Option (Str×ll):=xL 12 2 1 ye
variable{ags:ll}
def wu{p:Nat}{t:ll}(h1:ags.length=p)(h2:ds.length=ar)(D:g (j0 n ags ds)=some (.xc c,e))(I:outA e 0 (List.range p)=some t):xL n p ar g ags ds=some (c,t):=by
 unfold xL;rw[if_pos ⟨h1,h2⟩,D];dsimp only;rw[I];rfl
variable{a:Int}
theorem z7d{l:Int}(D:putX s.1 k.length a h l=some c)(b:s.1.length<=5):yk [hA k (p++[s])] [.int a,.int h,.int l]=some (c,[hA k (p++[s])]):=by
 have I:=re (k:=k) (p:=p) (s:=s);have S:j0 7 [hA k (p++[s])] [.int a,.int h,.int l]=[some (.ag kH (some 0) (hP k (p++[s]))),some (.sh (.int a)),some (.sh (.int h)),some (.sh (.int l)),none,none,none]:=rfl;have k5:=uw (k.map dD);rw[ah] at k5;refine wu (e:=[some (.ag kH (some 0) (hP k (p++[s]))),some (.sh (.int a)),some (.sh (.int h)),some (.sh (.int l)),some (.sh (ssL s.1)),none,none]) rfl rfl ?_ rfl;rw[S];unfold putX at D;have J:=zv8 s.1 (by lia);split at D
 ·cases D
  rename_i U;have k1:=zrd (ss:=s.1) (a:=a) U;simp[t3,fK0,cQ0,l8,I,l6,k1]
 have k1:=ya (ss:=s.1) (a:=a) (by lia) (by lia);split at D
 ·cases D
  rename_i V;have k2:=z16 (h:=h) V;simp[t3,fK0,cQ0,l8,I,l6,ma,k1,k2]
 have k2:=zsl (h:=h) (by lia) (by lia);split at D
 ·cases D
  rename_i Y;have k3:=zz1 (h:=l) Y;simp[t3,fK0,cQ0,l8,I,l6,ma,k1,k2,k3]
 have k3:=zoa (h:=l) (by lia) (by lia);split at D
 ·rename_i R
  rw[if_pos R] at J;split at D
  ·cases D
  ·cases D
   rename_i Z;rw[if_neg Z] at k5;simp[t3,fK0,cQ0,l8,I,l6,ma,k1,k2,k3,J,xFrz,ua,k5]
 ·cases D
  rename_i R;rw[if_neg R] at J;simp[t3,fK0,cQ0,l8,I,l6,ma,k1,k2,k3,J]
def ql(ss:lx)(n:Nat)(a m l:Int):ka:=if a<1\/(ss.length:Int)<a then some "UnknownStack" else if (ss.getD (a.toNat-1) []).length=0 then some "EmptyStack" else if m<1\/((ss.getD (a.toNat-1) []).length:Int)<m then some "UnknownPlace" else if l<0\/100<l then some "BadLoss" else if n<60 then none else some "DeedsFull"
def goX(ss:lx)(n:Nat)(a:Int):ka:=if a<1\/(ss.length:Int)<a then some "UnknownStack" else if (ss.getD (a.toNat-1) []).length=0 then some "EmptyStack" else if n<60 then none else some "DeedsFull"
def dryX(ss:lx)(n:Nat):ka:=if 0<ss.flatten.length then(if n<60 then none else some "DeedsFull") else some "NothingWaits"
theorem qd(h:¬(a<1\/(ss.length:Int)<a)):ss[a.toNat-1]?=some (ss.getD (a.toNat-1) []):=by
 rw[av,aq (by lia)];rfl
theorem go_x(D:goX s.1 k.length a=some c)(U:s.1.length<=5):yg [hA k (p++[s])] [.int a]=some (c,[hA k (p++[s])]):=by
 have I:=re (k:=k) (p:=p) (s:=s);have k5:=uw (k.map dD);rw[ah] at k5;refine wu (e:=[some (.ag kH (some 0) (hP k (p++[s]))),some (.sh (.int a)),some (.sh (ssL s.1))]) rfl rfl ?_ rfl;rw[show j0 3 [hA k (p++[s])] [.int a]=[some (.ag kH (some 0) (hP k (p++[s]))),some (.sh (.int a)),none] from rfl];unfold goX at D;split at D
 ·cases D
  rename_i J;have k1:=zrd (ss:=s.1) (a:=a) J;simp[we,fK0,cQ0,l8,I,l6,ma,k1]
 rename_i J;have k1:=ya (ss:=s.1) (a:=a) (by lia) (by lia);have k2:=zoc (qd J) (by lia) (by lia);rw[show((a.toNat:Nat):Int)=a by lia] at k2;split at D
 ·cases D
  rename_i R;rw[if_pos R] at k2;simp[we,fK0,cQ0,l8,I,l6,ma,k1,k2]
 rename_i R;rw[if_neg R] at k2;split at D
 ·cases D
 ·cases D
  rename_i S;rw[if_neg S] at k5;simp[we,fK0,cQ0,l8,I,l6,ma,k1,k2,xFrz,ua,k5]
theorem z5s{m l:Int}(I:ql s.1 k.length a m l=some c)(g:s.1.length<=5):yn [hA k (p++[s])] [.int a,.int m,.int l]=some (c,[hA k (p++[s])]):=by
 have J:=re (k:=k) (p:=p) (s:=s);have k5:=uw (k.map dD);rw[ah] at k5;have b:j0 8 [hA k (p++[s])] [.int a,.int m,.int l]=[some (.ag kH (some 0) (hP k (p++[s]))),some (.sh (.int a)),some (.sh (.int m)),some (.sh (.int l)),none,none,none,none]:=rfl;suffices U:∃d,sd (j0 8 [hA k (p++[s])] [.int a,.int m,.int l])=some (.xc c,[some (.ag kH (some 0) (hP k (p++[s]))),some (.sh (.int a)),some (.sh (.int m)),some (.sh (.int l)),some (.sh (ssL s.1)),d,none,none]) from let ⟨_,U⟩:=U;wu rfl rfl U rfl;rw[b];unfold ql at I;split at I
 ·cases I
  rename_i R;have k1:=zrd (ss:=s.1) (a:=a) R;exact⟨_,by simp[sd,fK0,cQ0,l8,J,l6,ma,k1];rfl⟩
 rename_i R;have k1:=ya (ss:=s.1) (a:=a) (by lia) (by lia);have k2:=zoc (qd R) (by lia) (by lia);have S:=qm (qd R) (by lia);rw[show((a.toNat:Nat):Int)=a by lia] at k2 S;split at I
 ·cases I
  rename_i V;rw[if_pos V] at k2;generalize ssL s.1=SL at *;exact⟨_,by simp[sd,fK0,cQ0,l8,J,l6,ma,k1,k2];rfl⟩
 rename_i V;rw[if_neg V] at k2;have k3:=zsp (t:=s.1.getD (a.toNat-1) []) (m:=m);unfold ssL at *;split at I
 ·cases I
  rename_i Y;rw[if_pos Y] at k3;generalize (s.1.getD (a.toNat-1) []).map sD=TL at *;exact⟨_,by simp[sd,fK0,cQ0,l8,J,l6,ma,k1,k2,S,k3];rfl⟩
 rename_i Y;rw[if_neg Y] at k3;generalize (s.1.getD (a.toNat-1) []).map sD=TL at *;generalize (s.1.map λs=>D.lst (s.map sD))=SL at *;split at I
 ·cases I
  rename_i e;have Z:=zz1 (h:=l) e;exact⟨_,by simp[sd,fK0,cQ0,l8,J,l6,ma,k1,k2,S,k3,Z];rfl⟩
 have Z:=zoa (h:=l) (by lia) (by lia);split at I
 ·cases I
 ·cases I
  rename_i f;rw[if_neg f] at k5;exact⟨_,by simp[sd,fK0,cQ0,l8,J,l6,ma,k1,k2,S,k3,Z,xFrz,ua,k5];rfl⟩
theorem z7e(D:dryX s.1 k.length=some c)(S:s.1.length<=5):yi [hA k (p++[s])] []=some (c,[hA k (p++[s])]):=by
 have J:=re (k:=k) (p:=p) (s:=s);have k5:=uw (k.map dD);rw[ah] at k5;have k1:=zso s.1 (by lia);refine wu (e:=[some (.ag kH (some 0) (hP k (p++[s]))),some (.sh (ssL s.1)),none,none,none,none]) rfl rfl ?_ rfl;rw[show j0 6 [hA k (p++[s])] []=[some (.ag kH (some 0) (hP k (p++[s]))),none,none,none,none,none] from rfl];unfold dryX at D;split at D
 ·rename_i I
  rw[if_pos I] at k1;split at D
  ·cases D
  ·cases D
   rename_i R;rw[if_neg R] at k5;simp[yj,fK0,cQ0,l8,J,l6,ma,k1,xFrz,ua,k5]
 ·cases D
  rename_i I;rw[if_neg I] at k1;simp[yj,fK0,cQ0,l8,J,l6,ma,k1]
def zod(D:ps[j]?=some (.o ds)):lf (.at kH) 0 j (some (.ag kH (some 0) ps)::e)=some ds:=zn8 rfl D
variable{s':Hs}
theorem z2d{d:Deed}:ym [hA (k++[d]) (p++[s]++[s'])] []=none/\zek [hA (k++[d]) (p++[s]++[s'])] []=some (dD d,[hA k (p++[s])]):=by
 have R:j0 1 [hA (k++[d]) (p++[s]++[s'])] []=[some (.ag kH (some 0) (hP (k++[d]) (p++[s]++[s'])))]:=rfl;have h1:lf (.at kH) 0 0 [some (.ag kH (some 0) (hP (k++[d]) (p++[s]++[s'])))]=some (k.map dD++[dD d]):=by rw[zod (j:=0) rfl];simp
 have h2:lf (.at kH) 0 1 [some (.ag kH (some 0) (hP (k++[d]) (p++[s]++[s'])))]=some ((p++[s]).map stD++[stD s']):=by rw[zod (j:=1) rfl];simp
 have I:zej (j0 1 [hA (k++[d]) (p++[s]++[s'])] [])=some (.rt (dD d),[some (.ag kH (some 0) (hP k (p++[s])))]):=by
  rw[R];have S:∀(l:k7) (x:D),(l++[x])[(l++[x]).length-1]?=some x:=λl x=>by simp
  have U:∀(l:k7) (x:D),(l++[x]).dropLast=l:=λl x=>by simp
  have V:¬(((k.map dD++[dD d]).length:Nat):Int)=0:=by simp;lia
  have J:lf (.at kH) 0 0 [some (.ag kH (some 0) [.o (k.map dD++[dD d]),.o ((p++[s]).map stD)])]=some (k.map dD++[dD d]):=zod (j:=0) rfl;unfold hP at *;rw[show((k++[d]).map dD)=k.map dD++[dD d] by simp,show((p++[s]++[s']).map stD)=(p++[s]).map stD++[stD s'] by simp] at *;generalize (p++[s]).map stD=PL at *;simp only[zej,sSeq,sIf,fTst,fBin,pLen,h1,aj,ac,fC,dEq,V,decide_false,bw,if_false,sNil,i7,pPop,ae,h2,S,U,setP,ay,ax,J,sRet]
 exact⟨by unfold ym xL;rw[if_pos ⟨rfl,rfl⟩,I],by unfold zek runL;rw[if_pos ⟨rfl,rfl⟩,I];rfl⟩
def z5t:ym [hA [] p] []=some (("NothingDone" : Str),[hA [] p]):=by
 have h1:lf (.at kH) 0 0 [some (.ag kH (some 0) (hP [] p))]=some []:=zod (j:=0) rfl;refine wu (e:=[some (.ag kH (some 0) (hP [] p))]) rfl rfl ?_ rfl;rw[show j0 1 [hA [] p] []=[some (.ag kH (some 0) (hP [] p))] from rfl];simp[zej,pLen,h1,show(((0:Nat):Int)=0) from rfl,ku]
inductive Cmd where
 | d (x:Deed) | back
def cD:Cmd->D
 | .d x=>dD x
 | .back=>.tup [.str "back"]
def cmdX(ss:lx)(n:Nat):Cmd->ka
 | .d (.put a h l)=>putX ss n a h l
 | .d (.tell a m l)=>ql ss n a m l
 | .d (.go a)=>goX ss n a
 | .d .dry=>dryX ss n
 | .back=>if n=0 then some "NothingDone" else none
def dueW(o:ka):Str:=match o with | none=>"" | some c=>(xi c).getD ""
theorem zyw(R:ss.length<=1000)(e:DE0):d5 bSum (aw (fLst (iz (fiS (fVar 0)) [] fYes (i9 0))) fNil) (some (.sh (ssL ss))::e)=some (.int (ss.flatten.length:Int),some (.sh (ssL ss))::e):=by
 have c:=o7 (te:=i9 0) (base:=[]) (λs:lu=>D.lst (s.map sD)) (λs:lu=>D.int (s.length:Int)) ss λs _=>⟨_,by simp;rfl⟩;have I:=xg (λs:lu=>(s.length:Int)) ss;have J:Few (ss.map λs=>D.lst (s.map sD)).length:=few (by rw[ah];lia);rw[zv4] at I;unfold ssL;generalize (ss.map λs=>D.lst (s.map sD))=L at *;simp only[d5,aw,fLst,iz,fiS,fVar,fNil,ae,ac,aj,J,if_true,du,c,I]
def Rt(r:Option (Fl×DE0))(x:Str):Prop:=∃e',r=some (.rt (.str x),e')
section
variable {c p q:FT} {f g:FE} {u v w:FS} {e:DE0} {i:Nat} {d:D} {x y:Str} {A B:Prop} [Decidable A] [Decidable B] {a b:Int}
def setT(h:f e=some (d,e))(k:Rt (u (e.set i (some (.sh d)))) x):Rt (sSeq (sSet i f) u e) x:=by
 rw[show sSeq (sSet i f) u e=u (e.set i (some (.sh d))) by simp[h]];exact k
def ifN(h:c e=some (false,e))(k:Rt (sSeq v w e) x):Rt (sSeq (sIf c u v) w e) x:=by
 rw[show sSeq (sIf c u v) w e=sSeq v w e by simp[h]];exact k
def ifP(h:c e=some (true,e))(k:Rt (sSeq u w e) x):Rt (sSeq (sIf c u v) w e) x:=by
 rw[show sSeq (sIf c u v) w e=sSeq u w e by simp[h]];exact k
def ifT(h:c e=some (decide A,e))(k:A->y=x)(k':¬A->Rt (sSeq v w e) x):Rt (sSeq (sIf c (sRet (fC (.str y))) v) w e) x:=by
 by_cases z:A
 ·exact⟨e,by simp[h,z,k z]⟩
 ·exact ifN (by rw[h,decide_eq_false z]) (k' z)
def ifN0(h:c e=some (false,e))(k:Rt (w e) x):Rt (sSeq (sIf c u sNil) w e) x:=ifN h k
def ifT0(h:c e=some (decide A,e))(k:A->y=x)(k':¬A->Rt (w e) x):Rt (sSeq (sIf c (sRet (fC (.str y))) sNil) w e) x:=ifT h k k'
def orq(h:p e=some (decide A,e))(h':¬A->q e=some (decide B,e)):fOr p q e=some (decide (A\/B),e):=by
 by_cases z:A
 ·simp[h,z]
 ·simp[h,h' z,z]
def andF(h:p e=some (false,e)):fAnd p q e=some (false,e):=by simp[h]
def andT(h:p e=some (true,e)):fAnd p q e=q e:=by simp[h]
def ltq(h:f e=some (.int a,e))(h':g e=some (.int b,e)):fTst (fBin dLt f g) e=some (decide (a<b),e):=by simp[h,h']
def gtq(h:f e=some (.int a,e))(h':g e=some (.int b,e)):fTst (fBin dGt f g) e=some (decide (b<a),e):=by simp[h,h']
def geq(h:f e=some (.int a,e))(h':g e=some (.int b,e)):fTst (fBin dGe f g) e=some (decide (b<=a),e):=by simp[h,h']
def eqq(h:f e=some (.int a,e))(h':g e=some (.int b,e)):fTst (fBin dEq f g) e=some (decide (a=b),e):=by simp[h,h']
end
def sne:(("put" : Str) = "back")=False/\(("put" : Str) = "dry")=False/\(("put" : Str) = "tell")=False/\(("tell" : Str) = "back")=False/\(("tell" : Str) = "dry")=False/\(("tell" : Str) = "put")=False/\(("go" : Str) = "back")=False/\(("go" : Str) = "dry")=False/\(("go" : Str) = "put")=False/\(("go" : Str) = "tell")=False/\(("dry" : Str) = "back")=False/\(("dry" : Str) = "put")=False/\(("dry" : Str) = "tell")=False:=by
 refine⟨?_,?_,?_,?_,?_,?_,?_,?_,?_,?_,?_,?_,?_⟩ <;> exact eq_false (by decide)
variable{x:Str}{y:Sk}
def at_4{x y z w:D}:atI [x,y,z,w] 0=some x/\atI [x,y,z,w] 1=some y/\atI [x,y,z,w] 2=some z/\atI [x,y,z,w] 3=some w:=⟨rfl,rfl,rfl,rfl⟩
theorem zg4(ss:lx)(n:Nat)(c:Cmd)(i:ss.length<=5):u7 [ssL ss,.int (n:Int),cD c]=some (.str (dueW (cmdX ss n c))):=by
 have U:=λe=>zyw (ss:=ss) (by lia) e;suffices J:Rt (zjf [some (.sh (ssL ss)),some (.sh (.int (n:Int))),some (.sh (cD c)),none]) (dueW (cmdX ss n c)) from let ⟨_,J⟩:=J;j3 rfl J;have I:∀(d w:D),Rt (sSeq (sIf (fTst (fBin dGe (fVar 1) (fC (.int 60)))) (sRet (fC (.str "deeds full"))) (sNil)) (sRet (fC (.str ""))) [some (.sh (ssL ss)),some (.sh (.int (n:Int))),some (.sh d),some (.sh w)]) (dueW (if n<60 then none else some "DeedsFull")):=λd w =>
  ifT0 (geq rfl rfl) (λh=>by rw[if_neg (by lia)];rfl) λh=>by rw[if_pos (by lia)];exact⟨_,rfl⟩
 have R:∀r:DE0,i9 0 (some (.sh (ssL ss))::r)=some (.int (ss.length:Int),some (.sh (ssL ss))::r):=λr=>by unfold ssL;simp
 have len1:∀(d:D) (w:D) (a:Int),fIxV 2 (fC (.int 1)) [some (.sh (ssL ss)),some (.sh (.int (n:Int))),some (.sh d),some (.sh w)]=some (.int a,[some (.sh (ssL ss)),some (.sh (.int (n:Int))),some (.sh d),some (.sh w)])->¬(a<1\/(ss.length:Int)<a)->d5 bLen (aw (fIxV 0 (fBin dSub (fIxV 2 (fC (.int 1))) (fC (.int 1)))) fNil) [some (.sh (ssL ss)),some (.sh (.int (n:Int))),some (.sh d),some (.sh w)]=some (.int ((ss.getD (a.toNat-1) []).length:Int),[some (.sh (ssL ss)),some (.sh (.int (n:Int))),some (.sh d),some (.sh w)]):=λd w a h V=>by
  have g:=qm (qd V) (by lia);rw[show((a.toNat:Nat):Int)=a by lia] at g;have S:∀F:FE,F [some (.sh (ssL ss)),some (.sh (.int (n:Int))),some (.sh d),some (.sh w)]=some (.int (a-1),[some (.sh (ssL ss)),some (.sh (.int (n:Int))),some (.sh d),some (.sh w)])->d5 bLen (aw (fIxV 0 F) fNil) [some (.sh (ssL ss)),some (.sh (.int (n:Int))),some (.sh d),some (.sh w)]=some (.int ((ss.getD (a.toNat-1) []).length:Int),[some (.sh (ssL ss)),some (.sh (.int (n:Int))),some (.sh d),some (.sh w)]):=λF Y=>by
   unfold ssL at *;simp only[d5,aw,fIxV,Y,fNil,ixSl,ae,g,bLen,ac,aj,ah]
  refine S _ ?_;simp only[fBin,h,fC,dSub,ac,aj]
 cases c with
 | back =>
   refine setT (d:=.str "back") rfl ?_;by_cases z:n=0
   ·subst z;exact⟨_,rfl⟩
   ·have Z:((n:Int)=0)=False:=eq_false (by lia)
    refine⟨[some (.sh (ssL ss)),some (.sh (.int (n:Int))),some (.sh (cD .back)),some (.sh (.str "back"))],?_⟩;rw[show dueW (cmdX ss n .back) = "" by unfold cmdX;rw[if_neg z];rfl];generalize ssL ss=SL at *;have b:dIx (.lst [.str "",.str "nothing done"]) (.int 0)=some (.str ""):=rfl;simp only[sSeq,sIf,fTst,fBin,fVar,fC,dEq,ay,ax,af,ae,ac,aj,decide_true,if_true,sRet,fLst,f8,aw,fNil,d5,ak,b6,show 0+1+1<=64 by decide,Z,decide_false,bInt,b];rfl
 | d x =>
   cases x with
   | dry =>
     refine setT (d:=.str "dry") rfl (ifN0 (by rfl) (ifP (by rfl) ?_));show Rt _ (dueW (dryX ss n));unfold dryX;refine ifT0 (by exact eqq (U _) rfl) (λz=>by rw[if_neg (by lia)];rfl) λz=>?_;rw[if_pos (by lia)];refine ifN0 (by exact andF rfl) (ifN0 (by exact andF rfl) (ifN0 (by exact andF rfl) (ifN0 (by exact andF rfl) ?_)));exact I _ _
   | put a h l =>
     refine setT (d:=.str "put") rfl (ifN0 (by rfl) (ifN (by rfl) ?_));show Rt _ (dueW (putX ss n a h l));unfold putX;refine ifT (by exact orq (ltq (a:=a) rfl rfl) λ_=>gtq (a:=a) rfl (R _)) (λz=>by rw[if_pos z];rfl) λz=>?_;rw[if_neg z];refine ifN0 (by exact andF rfl) (ifN0 (by exact andF rfl) ?_);refine ifT0 (by exact(andT rfl).trans (orq (ltq (a:=h) rfl rfl) λ_=>gtq (a:=h) rfl rfl)) (λz=>by rw[if_pos z];rfl) λz=>?_;rw[if_neg z];refine ifT0 (by exact(andT rfl).trans (orq (ltq (a:=l) rfl rfl) λ_=>gtq (a:=l) rfl rfl)) (λz=>by rw[if_pos z];rfl) λz=>?_;rw[if_neg z];refine ifT0 (by exact(andT rfl).trans (geq (U _) rfl)) (λz=>by rw[if_neg (by lia)];rfl) λz=>?_;rw[if_pos (by lia)];exact I _ _
   | tell a m l =>
     refine setT (d:=.str "tell") rfl (ifN0 (by rfl) (ifN (by rfl) ?_));show Rt _ (dueW (ql ss n a m l));unfold ql;refine ifT (by exact orq (ltq (a:=a) rfl rfl) λ_=>gtq (a:=a) rfl (R _)) (λz=>by rw[if_pos z];rfl) λz=>?_;rw[if_neg z];refine ifT0 (by exact(andT rfl).trans (eqq (len1 _ _ a rfl z) rfl)) (λz=>by rw[if_pos (by lia)];rfl) λf=>?_;rw[if_neg (by lia)];refine ifT0 (by exact(andT rfl).trans (orq (ltq (a:=m) rfl rfl) λ_=>gtq (a:=m) rfl (len1 _ _ a rfl z))) (λz=>by rw[if_pos z];rfl) λz=>?_;rw[if_neg z];refine ifN0 (by exact andF rfl) ?_;refine ifT0 (by exact(andT rfl).trans (orq (ltq (a:=l) rfl rfl) λ_=>gtq (a:=l) rfl rfl)) (λz=>by rw[if_pos z];rfl) λz=>?_;rw[if_neg z];refine ifN0 (by exact andF rfl) ?_;exact I _ _
   | go a =>
     refine setT (d:=.str "go") rfl (ifN0 (by rfl) (ifN (by rfl) ?_));show Rt _ (dueW (goX ss n a));unfold goX;refine ifT (by exact orq (ltq (a:=a) rfl rfl) λ_=>gtq (a:=a) rfl (R _)) (λz=>by rw[if_pos z];rfl) λz=>?_;rw[if_neg z];refine ifT0 (by exact(andT rfl).trans (eqq (len1 _ _ a rfl z) rfl)) (λz=>by rw[if_pos (by lia)];rfl) λf=>?_;rw[if_neg (by lia)];refine ifN0 (by exact andF rfl) (ifN0 (by exact andF rfl) (ifN0 (by exact andF rfl) (ifN0 (by exact andF rfl) ?_)));exact I _ _
def askX:Cmd->ll->k7->Option (Str×ll)
 | .d (.put _ _ _)=>yk | .d (.tell _ _ _)=>yn | .d (.go _)=>yg | .d .dry=>yi | .back=>ym
def askM:Cmd->ll->k7->ln
 | .d (.put _ _ _)=>zfk | .d (.tell _ _ _)=>zei | .d (.go _)=>zgd | .d .dry=>zfl | .back=>zek
def askD:Cmd->k7
 | .d (.put a h l)=>[.int a,.int h,.int l] | .d (.tell a m l)=>[.int a,.int m,.int l] | .d (.go a)=>[.int a] | _=>[]
def vn{p:Nat}{t:ll}(h1:ags.length=p)(h2:ds.length=ar)(D:g (j0 n ags ds)=some (.rt d,e))(I:outA e 0 (List.range p)=some t):runL n p ar g ags ds=some (d,t)/\xL n p ar g ags ds=none:=by
 unfold runL xL;rw[if_pos ⟨h1,h2⟩,if_pos ⟨h1,h2⟩,D];dsimp only;rw[I];exact⟨rfl,rfl⟩
def xask(D:F (some (.ag kH l ps)::e)=some (ds,some (.ag kH l ps)::e))(I:m [(kH,ps)] ds=some (x,[(kH,ps')])):xK kH 0 (l9 m [0] F) (some (.ag kH l ps)::e)=some (x,some (.ag kH l ps')::e):=by
 rw[z5p (i:=0) rfl];exact zsm (i:=0) rfl D I
def xasn(D:F (some (.ag kH l ps)::e)=some (ds,some (.ag kH l ps)::e))(I:m [(kH,ps)] ds=none):xK kH 0 (l9 m [0] F) (some (.ag kH l ps)::e)=none:=by
 rw[z5p (i:=0) rfl];exact zsn (i:=0) rfl D I
variable{m:ll->k7->ln}
def mask{x:D}(I:F (some (.ag kH l ps)::e)=some (ds,some (.ag kH l ps)::e))(J:m [(kH,ps)] ds=some (x,[(kH,ps')])):fK kH 0 (kv m [0] F) (some (.ag kH l ps)::e)=some (x,some (.ag kH l ps')::e):=by
 rw[z5o (i:=0) rfl];exact xq (i:=0) rfl I J
def z7f(c:Cmd)(h:askX c [(kH,ps)] (askD c)=some (x,[(kH,ps')])):yf [(kH,ps)] [cD c]=some (x,[(kH,ps')]):=by
 refine wu (e:=[some (.ag kH (some 0) ps'),some (.sh (cD c))]) rfl rfl ?_ rfl;rw[show j0 2 [(kH,ps)] [cD c]=[some (.ag kH (some 0) ps),some (.sh (cD c))] from rfl];have sn:=sne;cases c with
 | back =>
   have R:atI [D.str "back"] 0=some (.str "back"):=rfl;have J:(("back" : Str) = "put")=False/\(("back" : Str) = "tell")=False/\(("back" : Str) = "go")=False/\(("back" : Str) = "dry")=False:=by refine⟨?_,?_,?_,?_⟩ <;> exact eq_false (by decide)
   have q:=xask (l:=some 0) (F:=fNil) (e:=[some (.sh (cD .back))]) rfl h;simp only[cD,askX] at q ⊢;simp only[pv,sSeq,sIf,fTst,fBin,fIxV,ixSl,fC,dEq,ae,af,ac,aj,decide_false,bw,if_false,sNil,sXp,sRet, *]
 | d y =>
   cases y with
   | put a b z =>
     have I:=at_4 (x:=D.str "put") (y:=.int a) (z:=.int b) (w:=.int z);have q:=xask (l:=some 0) (F:=aw (fIxV 1 (fC (.int 1))) (aw (fIxV 1 (fC (.int 2))) (aw (fIxV 1 (fC (.int 3))) fNil))) (e:=[some (.sh (cD (.d (.put a b z))))]) rfl h;simp only[cD,dD,askX] at q ⊢;simp only[pv,sSeq,sIf,fTst,fBin,fIxV,ixSl,fC,dEq,ae,af,ac,aj,decide_true,if_true,sNil,sXp,sRet, *]
   | tell a b z =>
     have I:=at_4 (x:=D.str "tell") (y:=.int a) (z:=.int b) (w:=.int z);have q:=xask (l:=some 0) (F:=aw (fIxV 1 (fC (.int 1))) (aw (fIxV 1 (fC (.int 2))) (aw (fIxV 1 (fC (.int 3))) fNil))) (e:=[some (.sh (cD (.d (.tell a b z))))]) rfl h;simp only[cD,dD,askX] at q ⊢;simp only[pv,sSeq,sIf,fTst,fBin,fIxV,ixSl,fC,dEq,ae,af,ac,aj,decide_true,decide_false,bw,if_false,if_true,sNil,sXp,sRet, *]
   | go a =>
     have I:atI [D.str "go",.int a] 0=some (.str "go"):=rfl;have q:=xask (l:=some 0) (F:=aw (fIxV 1 (fC (.int 1))) fNil) (e:=[some (.sh (cD (.d (.go a))))]) rfl h;simp only[cD,dD,askX] at q ⊢;simp only[pv,sSeq,sIf,fTst,fBin,fIxV,ixSl,fC,dEq,ae,af,ac,aj,decide_true,decide_false,bw,if_false,if_true,sNil,sXp,sRet, *]
   | dry =>
     have I:atI [D.str "dry"] 0=some (.str "dry"):=rfl;have J:(("dry" : Str) = "go")=False:=eq_false (by decide);have q:=xask (l:=some 0) (F:=fNil) (e:=[some (.sh (cD (.d .dry)))]) rfl h;simp only[cD,dD,askX] at q ⊢;simp only[pv,sSeq,sIf,fTst,fBin,fIxV,ixSl,fC,dEq,ae,af,ac,aj,decide_true,decide_false,bw,if_false,if_true,sNil,sXp,sRet, *]
def z7g(c:Cmd)(J:askX c [(kH,ps)] (askD c)=none)(h:askM c [(kH,ps)] (askD c)=some (d,[(kH,ps')])):zh1 [(kH,ps)] [cD c]=some (d,[(kH,ps')])/\yf [(kH,ps)] [cD c]=none:=by
 refine vn (e:=[some (.ag kH (some 0) ps'),some (.sh (cD c))]) rfl rfl ?_ rfl;rw[show j0 2 [(kH,ps)] [cD c]=[some (.ag kH (some 0) ps),some (.sh (cD c))] from rfl];have sn:=sne;cases c with
 | back =>
   have U:atI [D.str "back"] 0=some (.str "back"):=rfl;have S:(("back" : Str) = "put")=False/\(("back" : Str) = "tell")=False/\(("back" : Str) = "go")=False/\(("back" : Str) = "dry")=False:=by refine⟨?_,?_,?_,?_⟩ <;> exact eq_false (by decide)
   have I:=xasn (l:=some 0) (F:=fNil) (e:=[some (.sh (cD .back))]) rfl J;have q:=mask (l:=some 0) (F:=fNil) (e:=[some (.sh (cD .back))]) rfl h;simp only[cD,askX,askM] at I q ⊢;simp only[pv,sSeq,sIf,fTst,fBin,fIxV,ixSl,fC,dEq,ae,af,ac,aj,decide_false,bw,if_false,sNil,sXp,sRet, *]
 | d y =>
   cases y with
   | put a b z =>
     have R:=at_4 (x:=D.str "put") (y:=.int a) (z:=.int b) (w:=.int z);have I:=xasn (l:=some 0) (F:=aw (fIxV 1 (fC (.int 1))) (aw (fIxV 1 (fC (.int 2))) (aw (fIxV 1 (fC (.int 3))) fNil))) (e:=[some (.sh (cD (.d (.put a b z))))]) rfl J;have q:=mask (l:=some 0) (F:=aw (fIxV 1 (fC (.int 1))) (aw (fIxV 1 (fC (.int 2))) (aw (fIxV 1 (fC (.int 3))) fNil))) (e:=[some (.sh (cD (.d (.put a b z))))]) rfl h;simp only[cD,dD,askX,askM] at I q ⊢;simp only[pv,sSeq,sIf,fTst,fBin,fIxV,ixSl,fC,dEq,ae,af,ac,aj,decide_true,if_true,sNil,sXp,sRet, *]
   | tell a b z =>
     have R:=at_4 (x:=D.str "tell") (y:=.int a) (z:=.int b) (w:=.int z);have I:=xasn (l:=some 0) (F:=aw (fIxV 1 (fC (.int 1))) (aw (fIxV 1 (fC (.int 2))) (aw (fIxV 1 (fC (.int 3))) fNil))) (e:=[some (.sh (cD (.d (.tell a b z))))]) rfl J;have q:=mask (l:=some 0) (F:=aw (fIxV 1 (fC (.int 1))) (aw (fIxV 1 (fC (.int 2))) (aw (fIxV 1 (fC (.int 3))) fNil))) (e:=[some (.sh (cD (.d (.tell a b z))))]) rfl h;simp only[cD,dD,askX,askM] at I q ⊢;simp only[pv,sSeq,sIf,fTst,fBin,fIxV,ixSl,fC,dEq,ae,af,ac,aj,decide_true,decide_false,bw,if_false,if_true,sNil,sXp,sRet, *]
   | go a =>
     have R:atI [D.str "go",.int a] 0=some (.str "go"):=rfl;have I:=xasn (l:=some 0) (F:=aw (fIxV 1 (fC (.int 1))) fNil) (e:=[some (.sh (cD (.d (.go a))))]) rfl J;have q:=mask (l:=some 0) (F:=aw (fIxV 1 (fC (.int 1))) fNil) (e:=[some (.sh (cD (.d (.go a))))]) rfl h;simp only[cD,dD,askX,askM] at I q ⊢;simp only[pv,sSeq,sIf,fTst,fBin,fIxV,ixSl,fC,dEq,ae,af,ac,aj,decide_true,decide_false,bw,if_false,if_true,sNil,sXp,sRet, *]
   | dry =>
     have R:atI [D.str "dry"] 0=some (.str "dry"):=rfl;have S:(("dry" : Str) = "go")=False:=eq_false (by decide);have I:=xasn (l:=some 0) (F:=fNil) (e:=[some (.sh (cD (.d .dry)))]) rfl J;have q:=mask (l:=some 0) (F:=fNil) (e:=[some (.sh (cD (.d .dry)))]) rfl h;simp only[cD,dD,askX,askM] at I q ⊢;simp only[pv,sSeq,sIf,fTst,fBin,fIxV,ixSl,fC,dEq,ae,af,ac,aj,decide_true,decide_false,bw,if_false,if_true,sNil,sXp,sRet, *]
def z5u(c:Cmd)(h:askX c [(kH,ps)] (askD c)=some (x,[(kH,ps)]))(D:xi x=some w):r8 [(kH,ps)] [cD c]=some (.tup [.str "refused",.str w],[(kH,ps)]):=by
 have q:=zsm (m:=yf) (F:=aw (fVar 1) fNil) (e:=[some (.ag kH (some 0) ps),some (.sh (cD c)),some (.sh (.tup [.str "refused",.str ""])),none]) (i:=0) (l:=some 0) (ps:=ps) (ds:=[cD c]) rfl rfl (z7f c h);have k1:kdT x=some (.tup [.str "refused",.str w]):=by unfold kdT;rw[D];rfl
 refine(vn (e:=[some (.ag kH (some 0) ps),some (.sh (cD c)),some (.sh (.tup [.str "refused",.str w])),none]) rfl rfl ?_ rfl).1;rw[show j0 4 [(kH,ps)] [cD c]=[some (.ag kH (some 0) ps),some (.sh (cD c)),none,none] from rfl];simp[zgm] at q ⊢;simp[sTry,q,k1]
def zwc(c:Cmd)(I:askX c [(kH,ps)] (askD c)=none)(h:askM c [(kH,ps)] (askD c)=some (d,[(kH,ps')])):r8 [(kH,ps)] [cD c]=some (d,[(kH,ps')]):=by
 obtain⟨J,R⟩:=z7g c I h;have D:=zsn (m:=yf) (F:=aw (fVar 1) fNil) (e:=[some (.ag kH (some 0) ps),some (.sh (cD c)),some (.sh (.tup [.str "refused",.str ""])),none]) (i:=0) (l:=some 0) (ps:=ps) (ds:=[cD c]) rfl rfl R;have q:=xq (m:=zh1) (F:=aw (fVar 1) fNil) (e:=[some (.ag kH (some 0) ps),some (.sh (cD c)),some (.sh (.tup [.str "refused",.str ""])),none]) (i:=0) (l:=some 0) (ps:=ps) (ds:=[cD c]) rfl rfl J;refine(vn (e:=[some (.ag kH (some 0) ps'),some (.sh (cD c)),some (.sh (.tup [.str "refused",.str ""])),none]) rfl rfl ?_ rfl).1;rw[show j0 4 [(kH,ps)] [cD c]=[some (.ag kH (some 0) ps),some (.sh (cD c)),none,none] from rfl];simp[zgm] at D q ⊢;simp[sTry,D,q]
theorem cp_o(ss:lx)(J:ss.length<=1000)(e:DE0):zj (fiS (fVar 0)) [] (jw uf (aw (fVar 0) fNil)) (some (.sh (ssL ss))::e)=some (dsO ss,some (.sh (ssL ss))::e):=by
 have c:=zmq (te:=jw uf (aw (fVar 0) (fNil))) (base:=[]) (λs:lu=>D.lst (s.map sD)) (λs:lu=>s.map sD) ss λs _=>⟨_,by simp;rfl⟩;have I:Few (ss.map λs=>D.lst (s.map sD)).length:=few (by rw[ah];lia);unfold ssL dsO;generalize (ss.map λs=>D.lst (s.map sD))=L at *;simp[zj,I,c]
def y0(ss:lx):D.lst ((dsO ss).map D.lst)=ssL ss:=by unfold dsO ssL;rw[iw];rfl
variable{x:Sk}{l:Int}
def at_0{x:D}{l:k7}:atI (x::l) 0=some x:=by unfold atI ixN;simp
variable{a:Nat}{num:Int}
theorem zsq(R:1<=a)(c:a<=ss.length)(d:ss.length<=5)(f:(ss.getD (a-1) []).length<=1000):sf [ssL ss,dD (.put a h l),.int num]=some (.lst [ssL (putS ss a (num,h,l)),.int num]):=by
 have g:=λe=>cp_o ss (by lia) e;have S:=at_4 (x:=D.str "put") (y:=.int (a:Int)) (z:=.int h) (w:=.int l);have i:((1:Int)<((0+1+1+1+1:Nat):Int))=True:=eq_true (by decide);have I:ss[a-1]?=some (ss.getD (a-1) []):=by rw[av,aq (by lia)];rfl
 have j:ixN (dsO ss).length ((a:Int)-1)=some (a-1):=by
  rw[uq (by lia) (by unfold dsO;rw[ah];lia)];congr 1;lia
 have U:(dsO ss).set (a-1) (((num,h,l)::ss.getD (a-1) []).map sD)=dsO (putS ss a (num,h,l)):=by unfold putS dsO;rw[iu]
 have V:=qm I R;have Y:Few (0+1+((ss.getD (a-1) []).map sD).length):=few (by rw[ah];lia);have Z:noLs (D.tup [.int num,.int h,.int l]::(ss.getD (a-1) []).map sD)=true:=zz5 ((num,h,l)::ss.getD (a-1) []);have ct:sv false (fCat (fLst (f8 (aw (fTup (aw (fVar 2) (aw (fIxV 1 (fC (.int 2))) (aw (fIxV 1 (fC (.int 3))) (fNil))))) (fNil)))) (fIxV 3 (fVar 4))) [some (.sh (ssL ss)),some (.sh (dD (.put a h l))),some (.sh (.int num)),some (.o2 (dsO ss)),some (.sh (.int ((a:Int)-1))),none]=some (((num,h,l)::ss.getD (a-1) []).map sD,[some (.sh (ssL ss)),some (.sh (dD (.put a h l))),some (.sh (.int num)),some (.o2 (dsO ss)),some (.sh (.int ((a:Int)-1))),none]):=by
  have b:frz false [some (.sh (ssL ss)),some (.sh (dD (.put a h l))),some (.sh (.int num)),some (.o2 (dsO ss)),some (.sh (.int ((a:Int)-1))),none]=[some (.sh (ssL ss)),some (.sh (dD (.put a h l))),some (.sh (.int num)),some (.sh (ssL ss)),some (.sh (.int ((a:Int)-1))),none]:=by
   rw[<-y0];rfl
  unfold sv;rw[b,show((num,h,l)::ss.getD (a-1) []).map sD=D.tup [.int num,.int h,.int l]::(ss.getD (a-1) []).map sD from rfl];unfold ssL dD;generalize (ss.getD (a-1) []).map sD=TL at *;generalize (ss.map λs=>D.lst (s.map sD))=SL at *;simp[S,V,Y,Z]
 rw[<-y0 (putS ss a (num,h,l)),<-U];suffices J:∃e',tx [some (.sh (ssL ss)),some (.sh (dD (.put a h l))),some (.sh (.int num)),none,none,none]=some (.rt (.lst [.lst (((dsO ss).set (a-1) (((num,h,l)::ss.getD (a-1) []).map sD)).map D.lst),.int num]),e') from let ⟨_,J⟩:=J;j3 rfl J;simp only[dD] at ct ⊢;simp only[tx,sSeq,y9,sSet,fC,i9,fIxV,ixSl,fVar,fBin,fTst,sIf,sNil,dGt,dEq,dSub,ae,af,ac,aj,ax,ay,ak,b6,decide_true,if_true,sRet,fLst,f8,aw,fNil,ub,frsE,frs1,bn,du, *];exact⟨_,rfl⟩
theorem zp4{m:Nat}(I:ss[a-1]?=some t)(R:t[m-1]?=some x)(S:1<=a)(g:1<=m)(h:ss.length<=5):sf [ssL ss,dD (.tell a m l),.int num]=some (.lst [ssL (ss.set (a-1) (t.set (m-1) (x.1,x.2.1,l))),.int x.2.2]):=by
 have i:=λe=>cp_o ss (by lia) e;have sn:=sne;have U:=at_4 (x:=D.str "tell") (y:=.int (a:Int)) (z:=.int (m:Int)) (w:=.int l);have j:atI [D.int x.1,.int x.2.1,.int x.2.2] 0=some (.int x.1)/\atI [D.int x.1,.int x.2.1,.int x.2.2] 1=some (.int x.2.1)/\atI [D.int x.1,.int x.2.1,.int x.2.2] 2=some (.int x.2.2):=⟨rfl,rfl,rfl⟩;have k:((1:Int)<((0+1+1+1+1:Nat):Int))=True:=eq_true (by decide);have V:(0+1+1<=64)=True/\(0+1+1+1<=64)=True:=⟨eq_true (by decide),eq_true (by decide)⟩;have n:=(ai.mp I).1;have o:=(ai.mp R).1;have p:ixN (dsO ss).length ((a:Int)-1)=some (a-1):=by
  rw[uq (by lia) (by unfold dsO;rw[ah];lia)];congr 1;lia
 have Y:(dsO ss)[a-1]?=some (t.map sD):=by unfold dsO;rw[cb,I];rfl
 have Z:ixN (t.map sD).length ((m:Int)-1)=some (m-1):=by
  rw[uq (by lia) (by rw[ah];lia)];congr 1;lia
 have b:(dsO ss).set (a-1) ((t.map sD).set (m-1) (.tup [.int x.1,.int x.2.1,.int l]))=dsO (ss.set (a-1) (t.set (m-1) (x.1,x.2.1,l))):=by
  unfold dsO;rw[iu,iu];rfl
 have c:=qm I S;have d:atI (t.map sD) ((m:Int)-1)=some (sD x):=by
  rw[show(m:Int)-1=((m-1:Nat):Int) by lia];exact ly sD R
 have ct:fFrz false (fBin dIx (fIxV 3 (fVar 4)) (fBin dSub (fIxV 1 (fC (.int 2))) (fC (.int 1)))) [some (.sh (ssL ss)),some (.sh (dD (.tell a m l))),some (.sh (.int num)),some (.o2 (dsO ss)),some (.sh (.int ((a:Int)-1))),none]=some (sD x,[some (.sh (ssL ss)),some (.sh (dD (.tell a m l))),some (.sh (.int num)),some (.o2 (dsO ss)),some (.sh (.int ((a:Int)-1))),none]):=by
  have f:frz false [some (.sh (ssL ss)),some (.sh (dD (.tell a m l))),some (.sh (.int num)),some (.o2 (dsO ss)),some (.sh (.int ((a:Int)-1))),none]=[some (.sh (ssL ss)),some (.sh (dD (.tell a m l))),some (.sh (.int num)),some (.sh (ssL ss)),some (.sh (.int ((a:Int)-1))),none]:=by
   rw[<-y0];rfl
  unfold fFrz;rw[f];unfold ssL dD;simp[U,c,d];rfl
 rw[<-y0 (ss.set (a-1) (t.set (m-1) (x.1,x.2.1,l))),<-b];suffices J:∃e',tx [some (.sh (ssL ss)),some (.sh (dD (.tell a m l))),some (.sh (.int num)),none,none,none]=some (.rt (.lst [.lst (((dsO ss).set (a-1) ((t.map sD).set (m-1) (.tup [.int x.1,.int x.2.1,.int l]))).map D.lst),.int x.2.2]),e') from let ⟨_,J⟩:=J;j3 rfl J;simp only[dD,sD] at ct ⊢;simp only[tx,sSeq,y9,sSet,fC,i9,fIxV,ixSl,fVar,fBin,fTst,sIf,sNil,dGt,dEq,dSub,ae,af,ac,aj,ax,ay,ak,b6,decide_true,decide_false,bw,if_false,if_true,sRet,fLst,f8,aw,fNil,ub,frsE, *];simp only[zr6,fTup];simp only[fC,fIxV,ixSl,fVar,fBin,dSub,ae,af,ac,aj,ax,ay,ak,b6,if_true,aw,fNil,frsE,frs1,bn,du, *];exact⟨_,rfl⟩
theorem zsr{v1 v2:la}(S:ss[a-1]?=some (x::tl))(U:1<=a)(g:ss.length<=5)(V:tl.length<=1000) :
  ∃e',(sSeq (sSet 5 (fFrz false (fBin dIx (fIxV 3 (fVar 4)) (fC (.int 0))))) (sSeq (ub 3 (fVar 4) (sv false (fSl (fIxV 3 (fVar 4)) (fO1 (fC (.int 1))) (fO0)))) (sRet (fLst (f8 (aw (fVar 3) (aw (fVar 5) (fNil)))))))) [some (.sh (ssL ss)),v1,v2,some (.o2 (dsO ss)),some (.sh (.int ((a:Int)-1))),none]=some (.rt (.lst [ssL (ss.set (a-1) tl),sD x]),e'):=by
 have h:=(ai.mp S).1;have Y:ixN (dsO ss).length ((a:Int)-1)=some (a-1):=by
  rw[uq (by lia) (by unfold dsO;rw[ah];lia)];congr 1;lia
 have Z:(dsO ss).set (a-1) (tl.map sD)=dsO (ss.set (a-1) tl):=by unfold dsO;rw[iu]
 have I:=qm S U;have b:atI (sD x::tl.map sD) 0=some (sD x):=at_0;have J:=zli (sD x::tl.map sD) 1 (by simp);have c:noLs (tl.map sD)=true:=zz5 tl;have R:(0+1+1<=64)=True:=eq_true (by decide);have d:(frz false [some (.sh (ssL ss)),v1,v2,some (.o2 (dsO ss)),some (.sh (.int ((a:Int)-1))),none])[3]?=some (some (.sh (ssL ss)))/\(frz false [some (.sh (ssL ss)),v1,v2,some (.o2 (dsO ss)),some (.sh (.int ((a:Int)-1))),none])[4]?=some (some (.sh (.int ((a:Int)-1)))):=⟨zz4 rfl,zz3 rfl⟩;have e:(frz false [some (.sh (ssL ss)),v1,v2,some (.o2 (dsO ss)),some (.sh (.int ((a:Int)-1))),some (.sh (sD x))])[3]?=some (some (.sh (ssL ss)))/\(frz false [some (.sh (ssL ss)),v1,v2,some (.o2 (dsO ss)),some (.sh (.int ((a:Int)-1))),some (.sh (sD x))])[4]?=some (some (.sh (.int ((a:Int)-1)))):=⟨zz4 rfl,zz3 rfl⟩;have ct:fFrz false (fBin dIx (fIxV 3 (fVar 4)) (fC (.int 0))) [some (.sh (ssL ss)),v1,v2,some (.o2 (dsO ss)),some (.sh (.int ((a:Int)-1))),none]=some (sD x,[some (.sh (ssL ss)),v1,v2,some (.o2 (dsO ss)),some (.sh (.int ((a:Int)-1))),none]):=by
  unfold fFrz;unfold ssL at *;simp[d,I,b];rfl
 have f:sv false (fSl (fIxV 3 (fVar 4)) (fO1 (fC (.int 1))) (fO0)) [some (.sh (ssL ss)),v1,v2,some (.o2 (dsO ss)),some (.sh (.int ((a:Int)-1))),some (.sh (sD x))]=some (tl.map sD,[some (.sh (ssL ss)),v1,v2,some (.o2 (dsO ss)),some (.sh (.int ((a:Int)-1))),some (.sh (sD x))]):=by
  unfold sv;unfold ssL at *;rw[bn] at I;generalize tl.map sD=TL at *;generalize (ss.map λs=>D.lst (s.map sD))=SL at *;have J:cutD (sD x::TL) (some 1) none=TL:=J;simp[e,I,J,c]
 rw[<-y0 (ss.set (a-1) tl),<-Z];generalize tl.map sD=TL at *;generalize dsO ss=SO at *;simp only[sSeq,sSet,ct,aj,ac,ax,ay,ub,f,ae,af,frsE,frs1,bn,du,fVar,Y,sRet,fLst,f8,aw,fNil,ak,b6,R,if_true];exact⟨_,rfl⟩
theorem zwe(J:ss[a-1]?=some (x::tl))(R:1<=a)(S:ss.length<=5)(I:tl.length<=1000):sf [ssL ss,dD (.go a),.int num]=some (.lst [ssL (ss.set (a-1) tl),sD x]):=by
 obtain⟨e',st⟩:=zsr (v1:=some (.sh (dD (.go a)))) (v2:=some (.sh (.int num))) J R S I;have U:=λe=>cp_o ss (by lia) e;have sn:=sne;have V:atI [D.str "go",.int (a:Int)] 0=some (.str "go")/\atI [D.str "go",.int (a:Int)] 1=some (.int (a:Int)):=⟨rfl,rfl⟩;have Y:((1:Int)<((0+1+1:Nat):Int))=True:=eq_true (by decide);refine j3 (e':=e') rfl (?_:tx [some (.sh (ssL ss)),some (.sh (dD (.go a))),some (.sh (.int num)),none,none,none]=_);rw[<-st];simp only[dD];simp[tx,U,V,sn]
variable{v:D}
theorem zss{u w:D}{ts:k7}(J:zfj [ssL ss]=some (.lst (.tup [.int (a:Int),u,v,w]::ts)))(R:ss[a-1]?=some (x::tl))(S:1<=a)(U:ss.length<=5)(I:tl.length<=1000):sf [ssL ss,dD .dry,.int num]=some (.lst [ssL (ss.set (a-1) tl),sD x]):=by
 obtain⟨e',st⟩:=zsr (v1:=some (.sh (dD .dry))) (v2:=some (.sh (.int num))) R S U I;have V:=λe=>cp_o ss (by lia) e;have sn:=sne;have Y:atI [D.str "dry"] 0=some (.str "dry"):=rfl;have Z:atI (.tup [.int (a:Int),u,v,w]::ts) 0=some (.tup [.int (a:Int),u,v,w]):=at_0;have b:atI [D.int (a:Int),u,v,w] 0=some (.int (a:Int)):=rfl;have c:((1:Int)<((0+1:Nat):Int))=False:=eq_false (by decide);refine j3 (e':=e') rfl (?_:tx [some (.sh (ssL ss)),some (.sh (dD .dry)),some (.sh (.int num)),none,none,none]=_);rw[<-st];simp only[dD];simp[tx,V,Y,sn,J,Z,b]
def stP(k:l1)(p:mu)(s:Hs):k9:=[.d (ssL s.1),.o (k.map dD),.o (p.map stD),.d (spL s.2)]
structure SI (n i:Nat) (s:Hs):Prop where
 len:s.1.length=n
 few:s.1.flatten.length<=14
 good:∀x∈s.1.flatten,gn x
 chain:ud 0 s.2
 rate:∀x∈s.2,0<=x.2.2/\x.2.2<=100000
 sp:s.2.length<=i
 hour:pd 0 s.2<=60*s.2.length
def Stp(k:l1)(s:Hs)(d:Deed)(s':Hs):Prop:=cmdX s.1 k.length (.d d)=none/\∃ans,sf [ssL s.1,dD d,.int (jt k)]=some (.lst [ssL s'.1,ans])/\match d with | .dry=>∃x:Sk,ans=sD x/\s'.2=s.2++[(hrOf s.2,hrOf s.2+x.2.1,lss s.1.flatten)] | _=>s'.2=s.2
structure HI (n:Nat) (k:l1) (p:mu) (s:Hs):Prop where
 n5:n<=5
 k60:k.length<=60
 kp:p.length=k.length
 all:∀i t,(p++[s])[i]?=some t->SI n i t
 st0:(p++[s])[0]?=some (newS n)
 tr:∀i d t t',k[i]?=some d->(p++[s])[i]?=some t->(p++[s])[i+1]?=some t'->Stp (k.take i) t d t'
def HI.at(h:HI n k p s):SI n k.length s:=h.all k.length s (by rw[<-h.kp];simp)
variable{x:Str}
def xp{x:Nat}(h:e[i]?=some (some (.ag .ls (some r) ps)))(h2:e[x]?=some (some (.al r (ph ps j))))(D:ps[j]?=some (.o ds)):lf (.al x) i j e=some ds:=by
 unfold lf agAt;rw[if_pos (show Acc.ok (.al x) e i j from⟨_,_,_,h,h2⟩),h];dsimp;rw[D]
def z5v(h:c∈lc):∃w,xi c=some w/\(w=("" : Str))=False:=by
 simp[lc] at h;rcases h with rfl | rfl | rfl | rfl | rfl | rfl | rfl | rfl | rfl | rfl | rfl | rfl | rfl <;> exact⟨_,rfl,eq_false (by decide)⟩
variable{c:Cmd}
def zyx(h:cmdX ss n c=some x):x∈lc:=by
 cases c with
 | back =>
   simp only[cmdX] at h;split at h
   ·cases h;decide
   ·cases h
 | d y =>
   cases y with
   | put a b l=>simp only[cmdX,putX] at h;(repeat' split at h) <;> (first | cases h) <;> decide
   | tell a b l=>simp only[cmdX,ql] at h;(repeat' split at h) <;> (first | cases h) <;> decide
   | go a=>simp only[cmdX,goX] at h;(repeat' split at h) <;> (first | cases h) <;> decide
   | dry=>simp only[cmdX,dryX] at h;(repeat' split at h) <;> (first | cases h) <;> decide
def z2e(hi:HI n k p s)(h:cmdX s.1 k.length c=some x):askX c [hA k (p++[s])] (askD c)=some (x,[hA k (p++[s])]):=by
 have l5:s.1.length<=5:=by rw[hi.at.len];exact hi.n5
 cases c with
 | back =>
   simp only[cmdX] at h;split at h
   ·cases h
    rename_i q;obtain rfl:=ib q;exact z5t
   ·cases h
 | d y =>
   cases y with
   | put a b l=>exact z7d h l5
   | tell a b l=>exact z5s h l5
   | go a=>exact go_x h l5
   | dry=>exact z7e h l5
def z5w(hi:HI n k p s)(h:cmdX s.1 k.length c=some x):uz [hA k (p++[s]),(.ls,stP k p s)] [cD c]=some (.bl true,[hA k (p++[s]),(.ls,stP k p s)]):=by
 obtain⟨w,I,D⟩:=z5v (zyx h);have rf:=zg4 s.1 k.length c (by rw[hi.at.len];exact hi.n5);rw[h,show dueW (some x)=w by show(xi x).getD "" = w;rw[I];rfl] at rf;have cl:=z5u c (z2e hi h) I;have R:=zjs [.str "refused",.str w] (by simp[plD]) (by simp);have S:((k.map dD).length:Int)=k.length:=by rw[ah]
 have pl:=xp (e:=[some (.ag kH (some 0) (hP k (p++[s]))),some (.ag .ls (some 1) (stP k p s)),some (.sh (cD c)),some (.sh (ssL s.1)),some (.al 1 0),some (.al 1 1),some (.sh (spL s.2)),none,none,none,none,none]) (i:=1) (x:=4) (j:=1) (ds:=k.map dD) rfl rfl rfl;have J:=xq (m:=r8) (F:=aw (fVar 2) fNil) (e:=[some (.ag kH (some 0) (hP k (p++[s]))),some (.ag .ls (some 1) (stP k p s)),some (.sh (cD c)),some (.sh (ssL s.1)),some (.al 1 0),some (.al 1 1),some (.sh (spL s.2)),some (.sh (.str w)),none,none,none,none]) (i:=0) (l:=some 0) (ps:=hP k (p++[s])) (ds:=[cD c]) rfl rfl cl;refine(vn (e:=[some (.ag kH (some 0) (hP k (p++[s]))),some (.ag .ls (some 1) (stP k p s)),some (.sh (cD c)),some (.sh (ssL s.1)),some (.al 1 0),some (.al 1 1),some (.sh (spL s.2)),some (.sh (.str w)),some (.sh (.tup [.str "refused",.str w])),none,none,none]) rfl rfl ?_ rfl).1;rw[show j0 12 [hA k (p++[s]),(.ls,stP k p s)] [cD c]=[some (.ag kH (some 0) (hP k (p++[s]))),some (.ag .ls (some 1) (stP k p s)),some (.sh (cD c)),none,none,none,none,none,none,none,none,none] from rfl];have un:vf 1 [3,4,5,6] [some (.ag kH (some 0) (hP k (p++[s]))),some (.ag .ls (some 1) (stP k p s)),some (.sh (cD c)),none,none,none,none,none,none,none,none,none]=some (.nx,[some (.ag kH (some 0) (hP k (p++[s]))),some (.ag .ls (some 1) (stP k p s)),some (.sh (cD c)),some (.sh (ssL s.1)),some (.al 1 0),some (.al 1 1),some (.sh (spL s.2)),none,none,none,none,none]):=rfl;generalize hP k (p++[s])=HP at *;generalize spL s.2=SP at *;rw[<-S] at rf;generalize k.map dD=KL at *;simp at J;simp[ye,un,pLen,pl,rf];simp[J,D,R]
theorem z5x(D:e[4]?=some (some (.sh (.lst (k.map dD)))))(J:k.length<=1000):fBin i4 (fC (.int 1)) (d5 bLen (aw (fLst (iz (fiS (fVar 4)) [] (fTst (fBin dEq (fIxV 0 (fC (.int 0))) (fC (.str "put")))) (fVar 0))) (fNil))) e=some (.int (jt k),e):=by
 have c:=zld (tt:=fTst (fBin dEq (fIxV 0 (fC (.int 0))) (fC (.str "put")))) (te:=fVar 0) (base:=[]) dD dD Deed.isPut k λx _=>by
  cases x with
  | put a h l=>exact⟨_,rfl,λ_=>⟨_,rfl⟩⟩
  | tell a p l=>exact⟨_,rfl,λz=>nomatch z⟩
  | go a=>exact⟨_,rfl,λz=>nomatch z⟩
  | dry=>exact⟨_,rfl,λz=>nomatch z⟩
 have I:Few (k.map dD).length:=few (by rw[ah];lia);unfold jt;generalize k.map dD=L at *;simp[iz,D,I,c]
variable{x:Sk}
def zst{x:Nat}(h:e[1]?=some (some (.ag .ls (some r) ps)))(h2:e[x]?=some (some (.al r (ph ps j))))(D:ps[j]?=some (.o ds))(I:f e=some (d,e))(J:Few (ds.length+1)) :
  rd (.al x) 1 j f e=some (.non,e.set 1 (some (.ag .ls (some r) (ps.set j (.o (ds++[d])))))):=by
 unfold rd;rw[h];dsimp only;rw[if_pos (show labO .ls (some r) from⟨rfl,λ_ _ z=>nomatch z⟩),xp h h2 D,ac,I,ac];unfold appP;rw[h];dsimp only;rw[D];dsimp only;rw[if_pos ⟨rfl,rfl,rfl,J⟩];unfold setP;rw[h]
def z5y:Deed->Bool | .dry=>true | _=>false
variable{d:Deed}{ss':lx}{ans:D}
theorem z7h(hi:HI n k p s)(U:z5y d=false)(h:cmdX s.1 k.length (.d d)=none)(b:k.length<=100)(cl:r8 [hA k (p++[s])] [dD d]=some (ans,[hA (k++[d]) (p++[s]++[(ss',s.2)])]))(st:sf [ssL s.1,dD d,.int (jt k)]=some (.lst [ssL ss',ans]))(I:yx [ans,ans]=some (.bl true))(c:noL ans=true) :
  uz [hA k (p++[s]),(.ls,stP k p s)] [dD d]=some (.bl true,[hA (k++[d]) (p++[s]++[(ss',s.2)]),(.ls,stP (k++[d]) (p++[s]) (ss',s.2))]):=by
 have rf:=zg4 s.1 k.length (.d d) (by rw[hi.at.len];exact hi.n5);rw[h,show dueW none = "" from rfl] at rf;have D:((k.map dD).length:Int)=k.length:=by rw[ah]
 obtain⟨w,ws,ew,hb,hdr⟩:∃w ws,dD d=.tup (.str w::ws)/\(w=("back" : Str))=False/\(w=("dry" : Str))=False:=by
  cases d with
  | put a h l=>exact⟨_,_,rfl,eq_false (by decide),eq_false (by decide)⟩
  | tell a h l=>exact⟨_,_,rfl,eq_false (by decide),eq_false (by decide)⟩
  | go a=>exact⟨_,_,rfl,eq_false (by decide),eq_false (by decide)⟩
  | dry=>cases U
 have pl:=xp (e:=[some (.ag kH (some 0) (hP k (p++[s]))),some (.ag .ls (some 1) (stP k p s)),some (.sh (dD d)),some (.sh (ssL s.1)),some (.al 1 0),some (.al 1 1),some (.sh (spL s.2)),none,none,none,none,none]) (i:=1) (x:=4) (j:=1) (ds:=k.map dD) rfl rfl rfl;have V:=xq (m:=r8) (F:=aw (fVar 2) fNil) (e:=[some (.ag kH (some 0) (hP k (p++[s]))),some (.ag .ls (some 1) (stP k p s)),some (.sh (dD d)),some (.sh (ssL s.1)),some (.al 1 0),some (.al 1 1),some (.sh (spL s.2)),some (.sh (.str "")),none,none,none,none]) (i:=0) (l:=some 0) (ps:=hP k (p++[s])) (ds:=[dD d]) rfl rfl cl;have nm:fFrz false (fBin i4 (fC (.int 1)) (d5 bLen (aw (fLst (iz (fiS (fVar 4)) [] (fTst (fBin dEq (fIxV 0 (fC (.int 0))) (fC (.str "put")))) (fVar 0))) (fNil)))) [some (.ag kH (some 0) (hP (k++[d]) (p++[s]++[(ss',s.2)]))),some (.ag .ls (some 1) (stP k p s)),some (.sh (dD d)),some (.sh (ssL s.1)),some (.al 1 0),some (.al 1 1),some (.sh (spL s.2)),some (.sh (.str "")),some (.sh ans),none,none,none]=some (.int (jt k),[some (.ag kH (some 0) (hP (k++[d]) (p++[s]++[(ss',s.2)]))),some (.ag .ls (some 1) (stP k p s)),some (.sh (dD d)),some (.sh (ssL s.1)),some (.al 1 0),some (.al 1 1),some (.sh (spL s.2)),some (.sh (.str "")),some (.sh ans),none,none,none]):=by
  unfold fFrz;rw[z5x (k:=k) rfl (by lia)];rfl
 have Y:=zst (e:=[some (.ag kH (some 0) (hP (k++[d]) (p++[s]++[(ss',s.2)]))),some (.ag .ls (some 1) (stP k p s)),some (.sh (dD d)),some (.sh (ssL s.1)),some (.al 1 0),some (.al 1 1),some (.sh (spL s.2)),some (.sh (.str "")),some (.sh ans),none,some (.sh (.lst [ssL ss',ans])),none]) (x:=5) (j:=2) (ds:=p.map stD) (f:=fTup (aw (fVar 3) (aw (fVar 6) fNil))) (d:=stD s) rfl rfl rfl rfl (few (by rw[ah];have:=hi.kp;lia));have Z:=zst (e:=[some (.ag kH (some 0) (hP (k++[d]) (p++[s]++[(ss',s.2)]))),some (.ag .ls (some 1) [.d (ssL s.1),.o (k.map dD),.o (p.map stD++[stD s]),.d (spL s.2)]),some (.sh (dD d)),some (.sh (ssL s.1)),some (.al 1 0),some (.al 1 1),some (.sh (spL s.2)),some (.sh (.str "")),some (.sh ans),none,some (.sh (.lst [ssL ss',ans])),none]) (x:=4) (j:=1) (ds:=k.map dD) (f:=fVar 2) (d:=dD d) rfl rfl rfl rfl (few (by rw[ah];lia));have J:atI (.str w::ws) 0=some (.str w):=at_0;have R:atI [ssL ss',ans] 0=some (ssL ss')/\atI [ssL ss',ans] 1=some ans:=⟨rfl,rfl⟩;refine(vn (e:=[some (.ag kH (some 0) (hP (k++[d]) (p++[s]++[(ss',s.2)]))),some (.ag .ls (some 1) (stP (k++[d]) (p++[s]) (ss',s.2))),some (.sh (dD d)),some (.sh (ssL s.1)),some (.al 1 0),some (.al 1 1),some (.sh (spL s.2)),some (.sh (.str "")),some (.sh ans),none,some (.sh (.lst [ssL ss',ans])),none]) rfl rfl ?_ rfl).1;rw[show j0 12 [hA k (p++[s]),(.ls,stP k p s)] [dD d]=[some (.ag kH (some 0) (hP k (p++[s]))),some (.ag .ls (some 1) (stP k p s)),some (.sh (dD d)),none,none,none,none,none,none,none,none,none] from rfl];have un:vf 1 [3,4,5,6] [some (.ag kH (some 0) (hP k (p++[s]))),some (.ag .ls (some 1) (stP k p s)),some (.sh (dD d)),none,none,none,none,none,none,none,none,none]=some (.nx,[some (.ag kH (some 0) (hP k (p++[s]))),some (.ag .ls (some 1) (stP k p s)),some (.sh (dD d)),some (.sh (ssL s.1)),some (.al 1 0),some (.al 1 1),some (.sh (spL s.2)),none,none,none,none,none]):=rfl;have S:stP (k++[d]) (p++[s]) (ss',s.2)=[.d (ssL ss'),.o (k.map dD++[dD d]),.o (p.map stD++[stD s]),.d (spL s.2)]:=by unfold stP;simp
 have rf:u7 [ssL s.1,.int (k.length:Int),dD d]=some (.str ""):=rf;rw[S];rw[<-D] at rf;unfold stP at *;generalize dD d=DD at *;subst ew;clear S D cl;generalize hP (k++[d]) (p++[s]++[(ss',s.2)])=HP2 at *;generalize k.map dD=KL at *;simp[ye,un,pLen,pl,rf];simp[V,J,hb];simp[nm,st,Y,Z,qp,R,hdr,I];simp[R,J,hdr,I]
def zz6{x:Nat}{d:D}(h:e[1]?=some (some (.ag .ls (some r) ps)))(h2:e[x]?=some (some (.al r (ph ps j))))(I:ps[j]?=some (.o (ds++[d]))) :
  pPop (.al x) 1 j e=some (d,e.set 1 (some (.ag .ls (some r) (ps.set j (.o ds))))):=by
 unfold pPop;rw[xp h h2 I,ac,show(ds++[d])[(ds++[d]).length-1]?=some d by simp,aj,show(ds++[d]).dropLast=ds by simp];unfold setP;rw[h]
def z7i(d:Deed):∃xs,dD d=.tup xs/\(∀x∈xs,plD x)/\xs.length<=1000:=by
 cases d <;> exact⟨_,rfl,by simp[plD],by simp⟩
def z2f(hi:HI n (k++[d]) (p++[s]) s') :
  uz [hA (k++[d]) (p++[s]++[s']),(.ls,stP (k++[d]) (p++[s]) s')] [cD .back]=some (.bl true,[hA k (p++[s]),(.ls,stP k p s)]):=by
 have h:cmdX s'.1 (k++[d]).length .back=none:=by simp[cmdX]
 have rf:=zg4 s'.1 (k++[d]).length .back (by rw[hi.at.len];exact hi.n5);rw[h,show dueW none = "" from rfl] at rf;obtain⟨xs,ex,S,U⟩:=z7i d;have J:=zjs xs S U;rw[<-ex] at J;have R:=z2d (k:=k) (p:=p) (s:=s) (d:=d) (s':=s');have cl:=zwc .back R.1 R.2;have V:stP (k++[d]) (p++[s]) s'=[.d (ssL s'.1),.o (k.map dD++[dD d]),.o (p.map stD++[stD s]),.d (spL s'.2)]:=by unfold stP;simp
 have I:((k.map dD++[dD d]).length:Int)=(k++[d]).length:=by simp
 rw[<-I] at rf;rw[V];have pl:=xp (e:=[some (.ag kH (some 0) (hP (k++[d]) (p++[s]++[s']))),some (.ag .ls (some 1) [.d (ssL s'.1),.o (k.map dD++[dD d]),.o (p.map stD++[stD s]),.d (spL s'.2)]),some (.sh (cD .back)),some (.sh (ssL s'.1)),some (.al 1 0),some (.al 1 1),some (.sh (spL s'.2)),none,none,none,none,none]) (i:=1) (x:=4) (j:=1) (ds:=k.map dD++[dD d]) rfl rfl rfl;have Y:=xq (m:=r8) (F:=aw (fVar 2) fNil) (e:=[some (.ag kH (some 0) (hP (k++[d]) (p++[s]++[s']))),some (.ag .ls (some 1) [.d (ssL s'.1),.o (k.map dD++[dD d]),.o (p.map stD++[stD s]),.d (spL s'.2)]),some (.sh (cD .back)),some (.sh (ssL s'.1)),some (.al 1 0),some (.al 1 1),some (.sh (spL s'.2)),some (.sh (.str "")),none,none,none,none]) (i:=0) (l:=some 0) (ps:=hP (k++[d]) (p++[s]++[s'])) (ds:=[cD .back]) rfl rfl cl;have Z:=zz6 (e:=[some (.ag kH (some 0) (hP k (p++[s]))),some (.ag .ls (some 1) [.d (ssL s'.1),.o (k.map dD++[dD d]),.o (p.map stD++[stD s]),.d (spL s'.2)]),some (.sh (cD .back)),some (.sh (ssL s'.1)),some (.al 1 0),some (.al 1 1),some (.sh (spL s'.2)),some (.sh (.str "")),some (.sh (dD d)),none,none,none]) (x:=5) (j:=2) rfl rfl rfl;have a:=zz6 (e:=[some (.ag kH (some 0) (hP k (p++[s]))),some (.ag .ls (some 1) [.d (ssL s.1),.o (k.map dD++[dD d]),.o (p.map stD),.d (spL s.2)]),some (.sh (cD .back)),some (.sh (ssL s'.1)),some (.al 1 0),some (.al 1 1),some (.sh (spL s'.2)),some (.sh (.str "")),some (.sh (dD d)),some (.sh (.tup [ssL s.1,spL s.2])),none,none]) (x:=4) (j:=1) rfl rfl rfl;refine(vn (e:=[some (.ag kH (some 0) (hP k (p++[s]))),some (.ag .ls (some 1) (stP k p s)),some (.sh (cD .back)),some (.sh (ssL s'.1)),some (.al 1 0),some (.al 1 1),some (.sh (spL s'.2)),some (.sh (.str "")),some (.sh (dD d)),some (.sh (.tup [ssL s.1,spL s.2])),none,none]) rfl rfl ?_ rfl).1;rw[show j0 12 [hA (k++[d]) (p++[s]++[s']),(.ls,[.d (ssL s'.1),.o (k.map dD++[dD d]),.o (p.map stD++[stD s]),.d (spL s'.2)])] [cD .back]=[some (.ag kH (some 0) (hP (k++[d]) (p++[s]++[s']))),some (.ag .ls (some 1) [.d (ssL s'.1),.o (k.map dD++[dD d]),.o (p.map stD++[stD s]),.d (spL s'.2)]),some (.sh (cD .back)),none,none,none,none,none,none,none,none,none] from rfl];have un:vf 1 [3,4,5,6] [some (.ag kH (some 0) (hP (k++[d]) (p++[s]++[s']))),some (.ag .ls (some 1) [.d (ssL s'.1),.o (k.map dD++[dD d]),.o (p.map stD++[stD s]),.d (spL s'.2)]),some (.sh (cD .back)),none,none,none,none,none,none,none,none,none]=some (.nx,[some (.ag kH (some 0) (hP (k++[d]) (p++[s]++[s']))),some (.ag .ls (some 1) [.d (ssL s'.1),.o (k.map dD++[dD d]),.o (p.map stD++[stD s]),.d (spL s'.2)]),some (.sh (cD .back)),some (.sh (ssL s'.1)),some (.al 1 0),some (.al 1 1),some (.sh (spL s'.2)),none,none,none,none,none]):=rfl;have b:cD .back=.tup [.str "back"]:=rfl;have c:atI [ssL s.1,spL s.2] 0=some (ssL s.1)/\atI [ssL s.1,spL s.2] 1=some (spL s.2):=⟨rfl,rfl⟩;have f:atI [D.str "back"] 0=some (.str "back"):=rfl;have es:stD s=.tup [ssL s.1,spL s.2]:=rfl;unfold stP;generalize hP (k++[d]) (p++[s]++[s'])=HP2 at *;generalize stD s=SD at *;generalize cD .back=CD at *;subst b es;simp only[ye,sSeq,un,ac,sSet,d5,aw,fNil,fVar,pLen,pl,aj,ae,af,rf,ax,ay];simp[Y,f];simp[Z,qp,c,a,J]
def z2g(i:Int):u5 [.int i]=some (.bl true):=by
 rfl
def zwf(i:Int):yx [.int i,.int i]=some (.bl true)/\noL (.int i)=true:=by
 refine⟨?_,rfl⟩;have w:=z2g i;refine j3 (e':=[some (.sh (.int i)),some (.sh (.int i))]) rfl ?_;rw[show jl 2 [D.int i,.int i]=[some (.sh (.int i)),some (.sh (.int i))] from rfl];simp only[zeg,sSeq,sIf,fTst,fIsi,fVar,sNil,sRet,wz,d5,aw,fNil,w,fBin,dEq,ae,af,ac,aj];simp[w]
def zz7(x:Sk):yx [sD x,sD x]=some (.bl true)/\noL (sD x)=true:=by
 refine⟨?_,rfl⟩;have w:=zjs [.int x.1,.int x.2.1,.int x.2.2] (by simp[plD]) (by simp);refine j3 (e':=[some (.sh (sD x)),some (.sh (sD x))]) rfl ?_;rw[show jl 2 [sD x,sD x]=[some (.sh (sD x)),some (.sh (sD x))] from rfl];simp only[zeg,sSeq,sIf,fTst,fIsi,fVar,sNil,sRet,d5,aw,fNil,sD,w,ae,af,ac,aj];simp
theorem z5z(hi:HI n k p s)(h:cmdX s.1 k.length (.d .dry)=none)(cl:r8 [hA k (p++[s])] [dD .dry]=some (sD x,[hA (k++[.dry]) (p++[s]++[dryS s a x tl])]))(st:sf [ssL s.1,dD .dry,.int (jt k)]=some (.lst [ssL (s.1.set (a-1) tl),sD x])) :
  uz [hA k (p++[s]),(.ls,stP k p s)] [dD .dry]=some (.bl true,[hA (k++[.dry]) (p++[s]++[dryS s a x tl]),(.ls,stP (k++[.dry]) (p++[s]) (dryS s a x tl))]):=by
 have I:=hi.at;have l5:s.1.length<=5:=by rw[I.len];exact hi.n5
 have rf:=zg4 s.1 k.length (.d .dry) l5;rw[h,show dueW none = "" from rfl] at rf;have J:((k.map dD).length:Int)=k.length:=by rw[ah]
 have V:=(zz7 x).1;have R:∀y∈s.1,y.length<=1000:=λy Y=>by
  have h1:=I.few;have h2:=(ek Y).length_le
  lia
 have Z:=z2a s.1 (by lia) R;have b:=I.sp;have B:=I.hour;have C:=hi.k60;have c:=zyu s.2 I.chain (by lia);have g:(((rts s.2).map D.int).length:Int)=hrOf s.2:=by rw[ah,zre _ _ I.chain,zv9];lia
 have pl:=xp (e:=[some (.ag kH (some 0) (hP k (p++[s]))),some (.ag .ls (some 1) (stP k p s)),some (.sh (dD .dry)),some (.sh (ssL s.1)),some (.al 1 0),some (.al 1 1),some (.sh (spL s.2)),none,none,none,none,none]) (i:=1) (x:=4) (j:=1) (ds:=k.map dD) rfl rfl rfl;have q:=xq (m:=r8) (F:=aw (fVar 2) fNil) (e:=[some (.ag kH (some 0) (hP k (p++[s]))),some (.ag .ls (some 1) (stP k p s)),some (.sh (dD .dry)),some (.sh (ssL s.1)),some (.al 1 0),some (.al 1 1),some (.sh (spL s.2)),some (.sh (.str "")),none,none,none,none]) (i:=0) (l:=some 0) (ps:=hP k (p++[s])) (ds:=[dD .dry]) rfl rfl cl;have nm:fFrz false (fBin i4 (fC (.int 1)) (d5 bLen (aw (fLst (iz (fiS (fVar 4)) [] (fTst (fBin dEq (fIxV 0 (fC (.int 0))) (fC (.str "put")))) (fVar 0))) (fNil)))) [some (.ag kH (some 0) (hP (k++[.dry]) (p++[s]++[dryS s a x tl]))),some (.ag .ls (some 1) (stP k p s)),some (.sh (dD .dry)),some (.sh (ssL s.1)),some (.al 1 0),some (.al 1 1),some (.sh (spL s.2)),some (.sh (.str "")),some (.sh (sD x)),none,none,none]=some (.int (jt k),[some (.ag kH (some 0) (hP (k++[.dry]) (p++[s]++[dryS s a x tl]))),some (.ag .ls (some 1) (stP k p s)),some (.sh (dD .dry)),some (.sh (ssL s.1)),some (.al 1 0),some (.al 1 1),some (.sh (spL s.2)),some (.sh (.str "")),some (.sh (sD x)),none,none,none]):=by
  unfold fFrz;rw[z5x (k:=k) rfl (by lia)];rfl
 have r:=zst (e:=[some (.ag kH (some 0) (hP (k++[.dry]) (p++[s]++[dryS s a x tl]))),some (.ag .ls (some 1) (stP k p s)),some (.sh (dD .dry)),some (.sh (ssL s.1)),some (.al 1 0),some (.al 1 1),some (.sh (spL s.2)),some (.sh (.str "")),some (.sh (sD x)),none,some (.sh (.lst [ssL (s.1.set (a-1) tl),sD x])),none]) (x:=5) (j:=2) (ds:=p.map stD) (f:=fTup (aw (fVar 3) (aw (fVar 6) fNil))) (d:=stD s) rfl rfl rfl rfl (few (by rw[ah];have:=hi.kp;lia));have t:=zst (e:=[some (.ag kH (some 0) (hP (k++[.dry]) (p++[s]++[dryS s a x tl]))),some (.ag .ls (some 1) [.d (ssL s.1),.o (k.map dD),.o (p.map stD++[stD s]),.d (spL s.2)]),some (.sh (dD .dry)),some (.sh (ssL s.1)),some (.al 1 0),some (.al 1 1),some (.sh (spL s.2)),some (.sh (.str "")),some (.sh (sD x)),none,some (.sh (.lst [ssL (s.1.set (a-1) tl),sD x])),none]) (x:=4) (j:=1) (ds:=k.map dD) (f:=fVar 2) (d:=dD .dry) rfl rfl rfl rfl (few (by rw[ah];lia));have U:atI [D.str "dry"] 0=some (.str "dry"):=rfl;have u:dD .dry=.tup [.str "dry"]:=rfl;have sn:=sne;have S:atI [ssL (s.1.set (a-1) tl),sD x] 0=some (ssL (s.1.set (a-1) tl))/\atI [ssL (s.1.set (a-1) tl),sD x] 1=some (sD x):=⟨rfl,rfl⟩;have v:dIx (sD x) (.int 1)=some (.int x.2.1):=rfl;have ct:fLst (fCat (fVar 6) (fLst (f8 (aw (fTup (aw (fVar 11) (aw (fBin i4 (fVar 11) (fBin dIx (fIxV 10 (fC (.int 1))) (fC (.int 1)))) (aw (d5 zhv (aw (fVar 3) fNil)) fNil)))) fNil))))
   [some (.ag kH (some 0) (hP (k++[.dry]) (p++[s]++[dryS s a x tl]))),some (.ag .ls (some 1) [.d (ssL (s.1.set (a-1) tl)),.o (k.map dD++[dD .dry]),.o (p.map stD++[stD s]),.d (spL s.2)]),some (.sh (dD .dry)),some (.sh (ssL s.1)),some (.al 1 0),some (.al 1 1),some (.sh (spL s.2)),some (.sh (.str "")),some (.sh (sD x)),none,some (.sh (.lst [ssL (s.1.set (a-1) tl),sD x])),some (.sh (.int (hrOf s.2)))]=some (spL (s.2++[(hrOf s.2,hrOf s.2+x.2.1,lss s.1.flatten)]),[some (.ag kH (some 0) (hP (k++[.dry]) (p++[s]++[dryS s a x tl]))),some (.ag .ls (some 1) [.d (ssL (s.1.set (a-1) tl)),.o (k.map dD++[dD .dry]),.o (p.map stD++[stD s]),.d (spL s.2)]),some (.sh (dD .dry)),some (.sh (ssL s.1)),some (.al 1 0),some (.al 1 1),some (.sh (spL s.2)),some (.sh (.str "")),some (.sh (sD x)),none,some (.sh (.lst [ssL (s.1.set (a-1) tl),sD x])),some (.sh (.int (hrOf s.2)))]):=by
  have w:Few ((s.2.map sD).length+1):=few (by rw[ah];lia);have z:spL (s.2++[(hrOf s.2,hrOf s.2+x.2.1,lss s.1.flatten)])=.lst (s.2.map sD++[.tup [.int (hrOf s.2),.int (hrOf s.2+x.2.1),.int (lss s.1.flatten)]]):=by unfold spL;rw[db];rfl
  rw[z];unfold spL;simp only[fLst,fCat,fVar,f8,aw,fNil,fTup,fBin,fIxV,ixSl,fC,d5,ae,af,ac,aj,S,v,i4,Z,ak,b6,show 0+1+1+1<=64 by decide,show 0+1<=64 by decide,w,if_true]
 refine(vn (e:=[some (.ag kH (some 0) (hP (k++[.dry]) (p++[s]++[dryS s a x tl]))),some (.ag .ls (some 1) (stP (k++[.dry]) (p++[s]) (dryS s a x tl))),some (.sh (dD .dry)),some (.sh (ssL s.1)),some (.al 1 0),some (.al 1 1),some (.sh (spL s.2)),some (.sh (.str "")),some (.sh (sD x)),none,some (.sh (.lst [ssL (s.1.set (a-1) tl),sD x])),some (.sh (.int (hrOf s.2)))]) rfl rfl ?_ rfl).1;rw[show j0 12 [hA k (p++[s]),(.ls,stP k p s)] [dD .dry]=[some (.ag kH (some 0) (hP k (p++[s]))),some (.ag .ls (some 1) (stP k p s)),some (.sh (dD .dry)),none,none,none,none,none,none,none,none,none] from rfl];have un:vf 1 [3,4,5,6] [some (.ag kH (some 0) (hP k (p++[s]))),some (.ag .ls (some 1) (stP k p s)),some (.sh (dD .dry)),none,none,none,none,none,none,none,none,none]=some (.nx,[some (.ag kH (some 0) (hP k (p++[s]))),some (.ag .ls (some 1) (stP k p s)),some (.sh (dD .dry)),some (.sh (ssL s.1)),some (.al 1 0),some (.al 1 1),some (.sh (spL s.2)),none,none,none,none,none]):=rfl;have A:stP (k++[.dry]) (p++[s]) (dryS s a x tl)=[.d (ssL (s.1.set (a-1) tl)),.o (k.map dD++[dD .dry]),.o (p.map stD++[stD s]),.d (spL (s.2++[(hrOf s.2,hrOf s.2+x.2.1,lss s.1.flatten)]))]:=by unfold stP dryS;simp
 have rf:u7 [ssL s.1,.int (k.length:Int),dD .dry]=some (.str ""):=rf;rw[A];rw[<-J] at rf;unfold stP at *;generalize dD .dry=DD at *;subst u;simp only[ye,sSeq,un,ac,sSet,d5,aw,fNil,fVar,pLen,pl,aj,ae,af,rf,ax,ay];simp only[q,aj,ac,ax,ay,sIf,fTst,fBin,fVar,fC,fIxV,ixSl,ae,af,dNe,dEq,U,sn,decide_true,decide_false,Bool.not_true,bw,if_false,sNil];simp only[nm,aj,ac,d5,aw,fNil,fVar,ae,af,ax,ay,st,i7,r,t,qp,S,fIxV,ixSl,fC];simp only[sSeq,sSet,U,decide_true,if_true,d5,aw,fNil,fVar,ae,af,ax,ay,aj,ac,c,bLen,g,qp,ct,sRet,fIxV,ixSl,fC,S,V]
def zoe{α:Type}:∀(ss:List (List α)) (i:Nat) (t t':List α),ss[i]?=some t->∃A B,ss.flatten=A++(t++B)/\(ss.set i t').flatten=A++(t'++B)
 | y::r,0,t,t',h=>by
   simp at h;subst h;exact⟨[],r.flatten,rfl,rfl⟩
 | y::r,i+1,t,t',h=>by
   obtain⟨A,B,h1,h2⟩:=zoe r i t t' (by simpa using h);exact⟨y++A,B,by simp[h1],by simp[h2]⟩
theorem HI.push(h:HI n k p s)(U:k.length<60)(R:SI n (k.length+1) s')(st:Stp k s d s'):HI n (k++[d]) (p++[s]) s':=by
 have S:(p++[s]).length=k.length+1:=by simp[h.kp]
 have lt:∀i,i<=k.length->(p++[s]++[s'])[i]?=(p++[s])[i]?:=λi c=>az (by lia);have J:(p++[s]++[s'])[k.length+1]?=some s':=by rw[<-S,f7]
 refine⟨h.n5,by simp;lia,by simp[h.kp],λi t D=>?_,by rw[lt 0 (by lia)];exact h.st0,λi d' t t' h1 h2 I=>?_⟩
 ·by_cases c:i<=k.length
  ·exact h.all i t (lt i c ▸ D)
  ·obtain rfl:i=k.length+1:=by have:=(ai.mp D).1;simp[h.kp] at this;lia
   rw[J] at D;cases D;exact R
 ·by_cases c:i<k.length
  ·rw[h9 (by lia)]
   exact h.tr i d' t t' (by rwa [az c] at h1) (by rwa [lt i (by lia)] at h2) (by rwa [lt _ c] at I)
  ·obtain rfl:i=k.length:=by have:=(ai.mp h1).1;simp at this;lia
   rw[f7] at h1;rw[lt _ (b9 _),<-h.kp,f7] at h2;rw[J] at I;cases h1;cases h2;cases I;rw[jo];exact st
theorem HI.pop(h:HI n (k++[d]) (p++[s]) s'):HI n k p s:=by
 have kp:p.length=k.length:=by have:=h.kp;simp at this;exact this
 have I:∀ {i t},(p++[s])[i]?=some t->(p++[s]++[s'])[i]?=some t:=λD=>by rw[az (ai.mp D).1];exact D
 refine⟨h.n5,by have:=h.k60;simp at this;lia,kp,λi t D=>h.all i t (I D),by have:=h.st0;rwa [az (by simp)] at this,λi d' t t' h1 h2 J=>?_⟩;have c:=(ai.mp h1).1;have:=h.tr i d' t t' (by rw[az c];exact h1) (I h2) (I J);rwa [h9 (by lia)] at this
theorem SI.swap{t':lu}(h:SI n i s)(I:s.1[a]?=some t)(J:s.1.flatten.length+t'.length<=14+t.length)(R:∀x∈t',(∀y∈t,gn y)->gn x):SI n (i+1) (s.1.set a t',s.2):=by
 obtain⟨A,B,h1,h2⟩:=zoe s.1 a t t' I;have g:=h.good;rw[h1] at g J;refine⟨by rw[dw];exact h.len,?_,?_,h.chain,h.rate,oh h.sp,h.hour⟩
 ·show(s.1.set a t').flatten.length<=14
  rw[h2];simp at *
  lia
 ·intro x D
  rw[h2,cz,cz] at D;rcases D with q | q | q
  ·exact g x (by simp[q])
  ·exact R x q λy S=>g y (by simp[S])
  ·exact g x (by simp[q])
theorem z2h(k:l1):1<=jt k/\jt k<=k.length+1:=by
 unfold jt;have:=List.length_filter_le Deed.isPut k
 lia
theorem zz8:∀(l:lu),(∀x∈l,gn x)->0<=lss l/\lss l<=100*l.length
 | [],_=>⟨by decide,by decide⟩
 | x::r,h=>by
   have J:=zz8 r λy D=>h y (by simp[D]);have I:=h x (by simp);unfold gn at I;have e:lss (x::r)=x.2.2+lss r:=by simp[lss]
   rw[e,ak]
   lia
theorem SI.dry(h:SI n i s)(I:s.1[a-1]?=some (x::tl)):SI n (i+1) (dryS s a x tl):=by
 have q:=h.swap (t':=tl) I (by have:=h.few;rw[ak];lia) λy D J=>J y (by simp[D]);have R:gn x:=h.good x (by
  obtain⟨A,B,h1,_⟩:=zoe s.1 (a-1) (x::tl) tl I;rw[h1];simp)
 have S:=zz8 s.1.flatten h.good;have V:=h.few;have Y:=h.hour;have U:=h.sp;unfold gn at R;refine⟨q.len,q.few,q.good,?_,?_,?_,?_⟩
 ·exact zp1 _ _ _ h.chain (zv9 s.2) (by show hrOf s.2<=hrOf s.2+x.2.1;lia)
 ·intro y D
  have D:y∈s.2++[(hrOf s.2,hrOf s.2+x.2.1,lss s.1.flatten)]:=D;rw[cz,cy] at D;rcases D with D | rfl
  ·exact h.rate y D
  ·show 0<=lss s.1.flatten/\lss s.1.flatten<=100000
   lia
 ·show(s.2++[_]).length<=i+1
  simp;lia
 ·show pd 0 (s.2++[(hrOf s.2,hrOf s.2+x.2.1,lss s.1.flatten)])<=60*((s.2++[(hrOf s.2,hrOf s.2+x.2.1,lss s.1.flatten)]).length:Int)
  rw[zl3,zv9,ao];simp
  lia
def zwg{l:List α}(h:l≠[]):∃m x,l=m++[x]:=⟨l.dropLast,l.getLast h,(List.dropLast_concat_getLast h).symm⟩
def Mv(k:l1)(p:mu)(s:Hs)(c:Cmd)(k':l1)(p':mu)(s':Hs):Prop:=match cmdX s.1 k.length c with | some _=>k'=k/\p'=p/\s'=s | none=>match c with | .back=>∃d,k=k'++[d]/\p=p'++[s'] | .d d=>k'=k++[d]/\p'=p++[s]
def Done(n:Nat)(k:l1)(p:mu)(s:Hs)(c:Cmd):Prop:=∃k' p' s',HI n k' p' s'/\uz [hA k (p++[s]),(.ls,stP k p s)] [cD c]=some (.bl true,[hA k' (p'++[s']),(.ls,stP k' p' s')])/\Mv k p s c k' p' s'
protected def Mv.d(h:cmdX s.1 k.length (.d d)=none):Mv k p s (.d d) (k++[d]) (p++[s]) s':=by
 unfold Mv;rw[h];exact⟨rfl,rfl⟩
def HI.l5(hi:HI n k p s):s.1.length<=5:=by rw[hi.at.len];exact hi.n5
theorem HI.r14(hi:HI n k p s):∀y∈s.1,y.length<=14:=λy D=>by
 have h2:=(ek D).length_le;have:=hi.at.few
 lia
theorem zrf(hi:HI n k p s)(D:z5y d=false)(I:k.length<60)(h:cmdX s.1 k.length (.d d)=none)(J:askX (.d d) [hA k (p++[s])] (askD (.d d))=none)(h1:askM (.d d) [hA k (p++[s])] (askD (.d d))=some (ans,[hA (k++[d]) (p++[s]++[(ss',s.2)])]))(st:sf [ssL s.1,dD d,.int (jt k)]=some (.lst [ssL ss',ans]))(R:yx [ans,ans]=some (.bl true))(S:noL ans=true)(U:SI n (k.length+1) (ss',s.2)):Done n k p s (.d d) :=
 ⟨_,_,_,hi.push I U ⟨h,ans,st,by cases d <;> first | rfl | cases D⟩,z7h hi D h (by lia) (zwc (.d d) J h1) st R S,Mv.d h⟩
theorem zyy{a:Int}(hi:HI n k p s)(h:cmdX s.1 k.length (.d (.put a b l))=none):Done n k p s (.d (.put a b l)):=by
 have hx:putX s.1 k.length a b l=none:=h;have D:=hx;have l5:=hi.l5;have kp:=hi.kp;have c:=hi.k60;unfold putX at D
 (repeat' split at D) <;> try cases D
 rename_i R e f g S;obtain⟨a,rfl⟩:=jh (show 0<=a by lia);have J:=z5q (p:=p) hx l5 (by lia);have I:=qd R;rw[show((a:Int).toNat-1)=a-1 by simp] at I;have i:=hi.r14 _ (bg I);have sp:=zsq (num:=jt k) (h:=b) (l:=l) (a:=a) (ss:=s.1) (by lia) (by lia) l5 (by lia);have U:=z2h k;have V:gn (jt k,b,l):=⟨U.1,by show jt k<=60;lia,by show 1<=b;lia,by show b<=60;lia,by show 0<=l;lia,by show l<=100;lia⟩;have Y:SI n (k.length+1) (putS s.1 a (jt k,b,l),s.2):=hi.at.swap I (by rw[ak];lia) λx hx Z=>by
  rw[ce] at hx;rcases hx with hx | hx
  ·rw[hx];exact V
  ·exact Z x hx
 exact zrf hi rfl S h J.1 J.2 sp (zwf _).1 rfl Y
theorem zwh{a m:Int}(hi:HI n k p s)(h:cmdX s.1 k.length (.d (.tell a m l))=none):Done n k p s (.d (.tell a m l)):=by
 have D:ql s.1 k.length a m l=none:=h;have l5:=hi.l5;have kp:=hi.kp;have c:=hi.at.few;unfold ql at D
 (repeat' split at D) <;> try cases D
 rename_i U V Y e J;obtain⟨a,rfl⟩:=jh (show 0<=a by lia);obtain⟨m,rfl⟩:=jh (show 0<=m by lia);have I:=qd U;rw[show((a:Int).toNat-1)=a-1 by simp] at I V Y;have f:=hi.r14 _ (bg I);obtain⟨x,hx2⟩:∃x,(s.1.getD (a-1) [])[m-1]?=some x:=⟨_,aq (by lia)⟩;have R:=z2c (k:=k) (p:=p) (s:=s) (l:=l) I hx2 (by lia) (by lia) (by lia) (by lia) J l5 (by lia) (by lia);have sp:=zp4 (num:=jt k) (l:=l) I hx2 (by lia) (by lia) l5;have Z:SI n (k.length+1) (s.1.set (a-1) ((s.1.getD (a-1) []).set (m-1) (x.1,x.2.1,l)),s.2):=hi.at.swap I (by rw[dw];lia) λz b S=>by
  rcases List.mem_or_eq_of_mem_set b with q | q
  ·exact S z q
  ·have g:=S x (bg hx2)
   rw[q];exact⟨g.1,g.2.1,g.2.2.1,g.2.2.2.1,by show 0<=l;lia,by show l<=100;lia⟩
 exact zrf hi rfl J h R.1 R.2 sp (zwf _).1 rfl Z
theorem z2i{a:Int}(hi:HI n k p s)(h:cmdX s.1 k.length (.d (.go a))=none):Done n k p s (.d (.go a)):=by
 have D:goX s.1 k.length a=none:=h;have l5:=hi.l5;have kp:=hi.kp;have c:=hi.at.few;unfold goX at D
 (repeat' split at D) <;> try cases D
 rename_i V J S;obtain⟨a,rfl⟩:=jh (show 0<=a by lia);have I:=qd V;rw[show((a:Int).toNat-1)=a-1 by simp] at I J;have R:=hi.r14 _ (bg I);obtain⟨x,tl,et⟩:∃x tl,s.1.getD (a-1) []=x::tl:=by
  cases q:s.1.getD (a-1) [] with
  | nil=>rw[q] at J;simp at J
  | cons x tl=>exact⟨x,tl,rfl⟩
 rw[et] at I R;have R:tl.length+1<=14:=by simpa using R
 have U:=z7c (k:=k) (p:=p) (s:=s) I (by lia) S l5 (by lia);have sp:=zwe (num:=jt k) I (by lia) l5 (by lia);have Y:SI n (k.length+1) (s.1.set (a-1) tl,s.2):=hi.at.swap I (by rw[ak];lia) λz Z b=>b z (by simp[Z]);exact zrf hi rfl S h U.1 U.2 sp (zz7 x).1 rfl Y
theorem zyz(hi:HI n k p s)(h:cmdX s.1 k.length (.d .dry)=none):Done n k p s (.d .dry):=by
 have D:dryX s.1 k.length=none:=h;have l5:=hi.l5;have kp:=hi.kp;have I:=hi.at;have J:=I.few;unfold dryX at D
 (repeat' split at D) <;> try cases D
 rename_i Z S;obtain⟨ts,ok,R⟩:=ze4 s.1 I.good J;have c:=zhr ok R J;have e:=zy ok I.good J (by lia);cases ts with
 | nil =>
   have:=ok.perm.length_eq;simp only[du,kr,b6] at this
   lia
 | cons t ts =>
   obtain⟨a,b⟩:=t;have f:=(ok.good (a,b) (by simp)).ne;cases b with
   | nil=>exact absurd rfl f
   | cons x r =>
     obtain⟨tl,ts',h1,h2,j,_⟩:=zpy ok I.good J;have U:=hi.r14;have V:=U _ (bg h1);have V:tl.length+1<=14:=by simpa using V
     have g:=I.sp;have Y:=z5r (k:=k) (p:=p) (s:=s) c h1 h2 S l5 (by lia) (λy i=>by have:=U y i;lia) (by lia) Z;have sp:=zss (num:=jt k) e h1 h2 l5 (by lia);exact⟨_,_,_,hi.push S (I.dry h1) ⟨h,sD x,sp,x,rfl,rfl⟩,z5z hi h (zwc (.d .dry) Y.1 Y.2) sp,Mv.d h⟩
def z7j(c:Cmd)(hi:HI n k p s):Done n k p s c:=by
 cases h:cmdX s.1 k.length c with
 | some x=>exact⟨k,p,s,hi,z5w hi h,by unfold Mv;rw[h];exact⟨rfl,rfl,rfl⟩⟩
 | none =>
 cases c with
 | back =>
   have D:k≠[]:=λe=>by subst e;simp[cmdX] at h
   have I:p≠[]:=λe=>by subst e;exact D (ib hi.kp.symm)
   obtain⟨k0,d,rfl⟩:=zwg D;obtain⟨J,R,rfl⟩:=zwg I;exact⟨k0,J,R,hi.pop,z2f hi,by unfold Mv;rw[h];exact⟨d,rfl,rfl⟩⟩
 | d y =>
   cases y with
   | put a b l=>exact zyy hi h
   | tell a m l=>exact zwh hi h
   | go a=>exact z2i hi h
   | dry=>exact zyz hi h
theorem z50(U:n<=5):zhz [.int n]=some (.ls,stP [] [] (newS n)):=by
 have I:Few (rngD 0 n).length:=few (by rw[yh];lia);have c:=o7 (te:=fLst (f8 fNil)) (base:=[]) (λi:Nat=>D.int (0+(i:Int))) (λ_:Nat=>D.lst []) (List.range n) λi _=>⟨_,rfl⟩;have R:rngD 0 n=(List.range n).map λi:Nat=>D.int (0+(i:Int)):=rfl;have S:(List.range n).map (λ_:Nat=>D.lst [])=(List.replicate n ([]:lu)).map λs=>D.lst (s.map sD):=by rw[List.map_const',kh,nh,du]
 have J:=qx n (by lia);unfold rngD at J;rw[S] at c;rw[R] at I;unfold zhz runG;rw[if_pos (show[D.int (n:Int)].length=1 from rfl),show jl 1 [D.int (n:Int)]=[some (.sh (.int n))] from rfl];simp only[zjq,zx3,fAgL,pCd,pCo,pNil,fLst,iz,jw,aw,fVar,fNil,f8,ae,ac,aj,J,I,if_true,du,c,b6,gz];rw[show frsE [some (Sl.sh (D.int (n:Int)))]=[some (.sh (.int n))] from rfl];simp only[ae,ac,aj,J,I,if_true,c,ak,b6,show 0+1+1+1+1<=64 by decide];rfl
def HI.new(D:n<=5):HI n [] [] (newS n) :=
 ⟨D,by simp,rfl,λi t h=>by
  have e:i=0/\t=newS n:=by
   cases i with
   | zero=>simp at h;exact⟨rfl,h.symm⟩
   | succ m=>simp at h
  obtain⟨rfl,rfl⟩:=e;have z:(newS n).1.flatten=[]:=by simp[newS]
  exact⟨by simp[newS],by rw[z];simp,by rw[z];simp,trivial,λx h=>by simp[newS] at h,by simp[newS],by simp[newS,pd]⟩,rfl,λi d t t' h=>by simp at h⟩
theorem z2j(z:Int):∃n:Nat,n<=5/\zhw [.int z]=some (.int n):=by
 have h:z % 12=0\/z % 12=1\/z % 12=2\/z % 12=3\/z % 12=4\/z % 12=5\/z % 12=6\/z % 12=7\/z % 12=8\/z % 12=9\/z % 12=10\/z % 12=11:=by lia
 have q:∀r:Int,dMod (.int z) (.int 12)=some (.int r)->∀v,dIx (.lst [.int 5,.int 3,.int 2,.int 4,.int 1,.int 5,.int 0,.int 4,.int 3,.int 5,.int 2,.int 4]) (.int r)=some v->zhw [.int z]=some v:=λr h1 v h2=>by
  refine j3 (e':=[some (.sh (.int z))]) rfl ?_;rw[show jl 1 [D.int z]=[some (.sh (.int z))] from rfl];simp only[zl1,sRet,fBin,fLst,f8,aw,fNil,fC,fVar,ae,ac,aj];rw[if_pos (by decide)];simp only[h1,h2,ac,aj,ae]
 have m:dMod (.int z) (.int 12)=some (.int (z % 12)):=by
  simp[dMod]
 rcases h with h | h | h | h | h | h | h | h | h | h | h | h <;> rw[h] at m <;> exact⟨_,by decide,q _ m (.int ((_:Nat):Int)) rfl⟩
theorem zy0(I:ik)(a:I.length<=200):∃cs:ik,cs.length<=3*I.length/\ziu [.lst (I.map D.int)]=some (.lst (cs.map D.int)):=by
 have loop:=yd (i:=2) (g:=zfd)
  (λk e=>∃(cs:ik) (v2:la),cs.length<=3*k/\e=[some (.sh (.lst (I.map D.int))),some (.ow (cs.map D.int)),v2])
  (I.map D.int) [some (.sh (.lst (I.map D.int))),some (.ow []),none] ⟨[],none,by simp,rfl⟩ ?_
 ·obtain⟨e',h1,cs,v2,J,rfl⟩:=loop
  rw[ah] at J;refine⟨cs,J,?_⟩;refine j3 (e':=[some (.sh (.lst (I.map D.int))),some (.sh (.lst (cs.map D.int))),v2]) rfl ?_;rw[show jl 3 [D.lst (I.map D.int)]=[some (.sh (.lst (I.map D.int))),none,none] from rfl];have Y:Few (I.map D.int).length:=few (by rw[ah];lia);simp[zk3,Y,h1]
 ·rintro k d e R ⟨cs,v2,J,rfl⟩
  obtain⟨z,Z,rfl⟩:=d7.mp (bg R);have b:k<I.length:=by have:=(ai.mp R).1;rwa [ah] at this
  have S:Few (cs.length+1):=few (by lia);have U:Few (cs.length+1+1):=few (by lia);have V:Few (cs.length+1+1+1):=few (by lia);by_cases q:z / 12 % 4=1
  ·exact⟨_,by simp[zfd,dDiv,dMod,b12,q,S,U,V];rfl,cs++[z,z,z],_,by simp;lia,by simp;rfl⟩
  ·exact⟨_,by simp[zfd,dDiv,dMod,b12,q,S,U,V];rfl,cs++[z],_,by simp;lia,by simp;rfl⟩
theorem ix4(a b c d x:Int):∃v:Int,dIx (.lst [.int a,.int b,.int c,.int d]) (.int (x % 4))=some (.int v):=by
 have h:x % 4=0\/x % 4=1\/x % 4=2\/x % 4=3:=by lia
 rcases h with h | h | h | h <;> rw[h] <;> exact⟨_,rfl⟩
theorem ixW(x:Int):∃w:Str,atI [D.str "put",.str "put",.str "tell",.str "dry",.str "put",.str "go",.str "put",.str "put",.str "back",.str "tell",.str "put",.str "dry"] (x % 12)=some (.str w)/\(w = "put"\/w = "tell"\/w = "go"\/w = "dry"\/w = "back"):=by
 have h:x % 12=0\/x % 12=1\/x % 12=2\/x % 12=3\/x % 12=4\/x % 12=5\/x % 12=6\/x % 12=7\/x % 12=8\/x % 12=9\/x % 12=10\/x % 12=11:=by lia
 rcases h with h | h | h | h | h | h | h | h | h | h | h | h <;> rw[h] <;> exact⟨_,rfl,by simp⟩
variable{b:Bool}{F:FE}{v0:Int}
def ifx{c:FT}(D:c e=some (b,e))(I:e[i]?=some (some (.sh (.int v0))))(J:b=true->∃v:Int,F e=some (.int v,e)):∃v:Int,sIf c (sSet i F) sNil e=some (.nx,e.set i (some (.sh (.int v)))):=by
 cases b with
 | false =>
   refine⟨v0,?_⟩;have:e.set i (some (.sh (.int v0)))=e:=by
    apply em;intro j;rw[gl];split
    ·rename_i q
     subst q;rw[I,if_pos (ai.mp I).1]
    ·rfl
   rw[this];simp[D]
 | true =>
   obtain⟨v,R⟩:=J rfl;exact⟨v,by simp[D,R]⟩
theorem ve(x j:Int)(h:1<=j/\j<=10000):dDiv (.int x) (.int j)=some (.int (x / j)):=by
 exact if_pos ⟨by lia,by lia⟩
theorem qk(x j:Int)(h:1<=j):dMod (.int x) (.int j)=some (.int (x % j)):=if_pos (by lia)
def zwi{z n I o f a h l t p:D}{J:D}{A H L P:Int}(R:w = "put"\/w = "tell"\/w = "go"\/w = "dry"\/w = "back") :
  ∃c e',(sSeq (sIf (fTst (fBin dEq (fVar 4) (fC (.str "put")))) (sRet (fTup (aw (fC (.str "put")) (aw (fVar 7) (aw (fVar 8) (aw (fVar 9) (fNil))))))) (sNil)) (sSeq (sIf (fTst (fBin dEq (fVar 4) (fC (.str "tell")))) (sRet (fTup (aw (fC (.str "tell")) (aw (fVar 7) (aw (fVar 11) (aw (fVar 9) (fNil))))))) (sNil)) (sSeq (sIf (fTst (fBin dEq (fVar 4) (fC (.str "go")))) (sRet (fTup (aw (fC (.str "go")) (aw (fVar 7) (fNil))))) (sNil)) (sRet (fTup (aw (fVar 4) (fNil)))))))
   [some (.sh z),some (.sh J),some (.sh n),some (.sh I),some (.sh (.str w)),some (.sh o),some (.sh f),some (.sh (.int A)),some (.sh (.int H)),some (.sh (.int L)),some (.sh t),some (.sh (.int P))]=some (.rt (cD c),e'):=by
 have sn:=sne;have s2:(("back" : Str) = "put")=False/\(("back" : Str) = "tell")=False/\(("back" : Str) = "go")=False/\(("dry" : Str) = "put")=False/\(("dry" : Str) = "tell")=False/\(("dry" : Str) = "go")=False:=by
  refine⟨?_,?_,?_,?_,?_,?_⟩ <;> exact eq_false (by decide)
 rcases R with rfl | rfl | rfl | rfl | rfl
 ·exact⟨.d (.put A H L),_,by simp[cD,dD];rfl⟩
 ·exact⟨.d (.tell A P L),_,by simp[cD,dD,sn];rfl⟩
 ·exact⟨.d (.go A),_,by simp[cD,dD,sn];rfl⟩
 ·exact⟨.d .dry,_,by simp[cD,dD,sn,s2];rfl⟩
 ·exact⟨.back,_,by simp[cD,dD,sn,s2];rfl⟩
def Res(r:Option (Fl×DE0)):Prop:=∃c e',r=some (.rt (cD c),e')
def setR(h:F e=some (v,e))(k:Res (g (e.set i (some (.sh v))))):Res (sSeq (sSet i F) g e):=by
 rw[show sSeq (sSet i F) g e=g (e.set i (some (.sh v))) by simp[h]];exact k
def ifR{c:FT}(D:c e=some (b,e))(I:e[i]?=some (some (.sh (.int v0))))(J:b=true->∃v:Int,F e=some (.int v,e))(k:∀v:Int,Res (g (e.set i (some (.sh (.int v)))))):Res (sSeq (sIf c (sSet i F) sNil) g e):=by
 obtain⟨v,R⟩:=ifx D I J;rw[show sSeq (sIf c (sSet i F) sNil) g e=g (e.set i (some (.sh (.int v)))) by simp only[sSeq,R,ac]];exact k v
def seqR{f:FS}{D:DE0}(h:f e=some (.nx,D))(k:Res (g D)):Res (sSeq f g e):=by
 rw[show sSeq f g e=g D by simp[h]];exact k
theorem z2k(z:Int)(ss:lx):∃c,zhy [.int z,ssL ss]=some (cD c):=by
 suffices R:Res (zl2 [some (.sh (.int z)),some (.sh (ssL ss)),none,none,none,none,none,none,none,none,none,none]) from let ⟨c,_,R⟩:=R;⟨c,j3 rfl R⟩;obtain⟨w,f,g⟩:=ixW z;have S:=ve z 12 (by decide);have U:=qk z 12 (by decide);have J:dPow (.int 10) (.int 12)=some (.int 1000000000000):=rfl;refine setR (v:=.int (ss.length:Int)) (by unfold ssL;simp) ?_;refine setR (v:=.lst [.str "put",.str "put",.str "tell",.str "dry",.str "put",.str "go",.str "put",.str "put",.str "back",.str "tell",.str "put",.str "dry"]) rfl ?_;refine setR (v:=.str w) (by simp[U,f]) ?_;refine setR (v:=.int (z / 12 % 16)) (by simp[S,qk]) ?_;refine setR (v:=.int (z / 192)) (by simp[ve]) ?_;generalize z / 12 % 16=O at *;generalize z / 192=F at *;have Y:∀(x:Int) (t:Int),∃v:Int,(match D.int x,D.int (if 1 > t then 1 else t) with | .int i,.int j=>dMod (.int i) (.int j) | _,_=>none)=some (.int v):=λx t=>⟨_,qk x _ (by split <;> lia)⟩;obtain⟨Z,k⟩:=Y F ss.length;refine setR (v:=.int (1+Z)) (by simp[k]) ?_;refine setR (v:=.int (F / 5)) (by simp[ve]) ?_;simp only[ax,ay];generalize F / 5=G at *;refine ifR (b:=decide (O=5) || decide ((ss.length:Int)=0)) (v0:=1+Z) (by by_cases q:O=5 <;> simp[q]) rfl (λ_=>?_) λA=>?_
 ·obtain⟨v,I⟩:=ix4 0 (ss.length+1) (-1) 1000000000000 G
  exact⟨v,by simp only[fBin,fLst,f8,aw,fNil,fC,fVar,fUn,dNeg,i4,J,qk G 4 (by decide),I,ae,af,ac,aj,ak,b6,show 0+1+1+1+1<=64 by decide,if_true]⟩
 refine setR (v:=.int (1+G % 60)) (by simp[qk]) ?_;simp only[ax,ay];refine ifR (b:=decide (O=6)) (v0:=1+G % 60) (by simp) rfl (λ_=>?_) λH=>?_
 ·obtain⟨v,I⟩:=ix4 0 61 (-1) 1000000000000 G
  exact⟨v,by simp only[fBin,fLst,f8,aw,fNil,fC,fVar,fUn,dNeg,J,qk G 4 (by decide),I,ae,af,ac,aj,ak,b6,show 0+1+1+1+1<=64 by decide,if_true]⟩
 refine setR (v:=.int (G / 60 % 101)) (by simp[qk,ve]) ?_;generalize G / 60 % 101=L at *;obtain⟨H2,V,h2⟩:∃H2 V:Int,sIf (fTst (fBin dGt (fVar 5) (fC (.int 9)))) (sSeq (sSet 8 (fBin i4 (fC (.int 1)) (fBin dMod (fVar 8) (fC (.int 3))))) (sSet 9 (fBin dMod (fVar 9) (fC (.int 4))))) sNil [some (.sh (.int z)),some (.sh (ssL ss)),some (.sh (.int (ss.length:Int))),some (.sh (.lst [.str "put",.str "put",.str "tell",.str "dry",.str "put",.str "go",.str "put",.str "put",.str "back",.str "tell",.str "put",.str "dry"])),some (.sh (.str w)),some (.sh (.int O)),some (.sh (.int G)),some (.sh (.int A)),some (.sh (.int H)),some (.sh (.int L)),none,none]=some (.nx,[some (.sh (.int z)),some (.sh (ssL ss)),some (.sh (.int (ss.length:Int))),some (.sh (.lst [.str "put",.str "put",.str "tell",.str "dry",.str "put",.str "go",.str "put",.str "put",.str "back",.str "tell",.str "put",.str "dry"])),some (.sh (.str w)),some (.sh (.int O)),some (.sh (.int G)),some (.sh (.int A)),some (.sh (.int H2)),some (.sh (.int V)),none,none]):=by
  by_cases q:9<O
  ·exact⟨1+H % 3,L % 4,by simp[q,qk]⟩
  ·exact⟨H,L,by simp[q]⟩
 refine seqR h2 ?_;refine ifR (b:=decide (O=7)) (v0:=V) (by simp) rfl (λ_=>?_) λn=>?_
 ·obtain⟨v,I⟩:=ix4 (-1) 101 (-1000000000000) 1000000000000 (G / 60)
  exact⟨v,by simp only[fBin,fLst,f8,aw,fNil,fC,fVar,fUn,dNeg,J,ve G 60 (by decide),qk (G / 60) 4 (by decide),I,ae,af,ac,aj,ak,b6,show 0+1+1+1+1<=64 by decide,if_true]⟩
 refine ifR (b:=decide (1<=A) && decide (A<=(ss.length:Int))) (v0:=0) (by by_cases q:1<=A <;> simp[q]) rfl (λq=>?_) λT=>?_
 ·simp only[d9,decide_eq_true_eq] at q
  have d:=qm (a:=A.toNat) (qd (ss:=ss) (a:=A) (by lia)) (by lia);rw[show((A.toNat:Nat):Int)=A by lia] at d;exact⟨_,by unfold ssL at *;simp[d];rfl⟩
 obtain⟨e,m⟩:=Y (G / 6060) T;refine setR (v:=.int (1+e)) (by simp[ve G 6060 (by decide),m]) ?_;simp only[ax,ay];refine ifR (b:=decide (O=8)) (v0:=1+e) (by simp) rfl (λ_=>?_) λP=>?_
 ·obtain⟨v,I⟩:=ix4 0 (T+1) (-1) 1000000000000 (G / 6060)
  exact⟨v,by simp only[fBin,fLst,f8,aw,fNil,fC,fVar,fUn,dNeg,i4,J,ve G 6060 (by decide),qk (G / 6060) 4 (by decide),I,ae,af,ac,aj,ak,b6,show 0+1+1+1+1<=64 by decide,if_true]⟩
 exact zwi (z:=.int z) (h:=.non) (l:=.non) (a:=.non) (p:=.non) g
variable{F:FA}{l':Option Nat}
def z2l{l:Option Nat}{J I:k9}{d:D}(S:i≠j)(h:e[i]?=some (some (.ag κ l ps)))(h':e[j]?=some (some (.ag κ' l' J)))(U:F e=some (ds,e))(V:m [(κ,ps),(κ',J)] ds=some (d,[(κ,ps'),(κ',I)])) :
  kv m [i,j] F e=some (d,(e.set i (some (.ag κ l ps'))).set j (some (.ag κ' l' I))):=by
 unfold kv;rw[if_pos (show aggs e [i,j] from λk R=>by
  simp at R;rcases R with rfl | rfl
  ·exact⟨_,h⟩
  ·exact⟨_,h'⟩),U]
 have Y:(e.set i (some (.ag κ l ps')))[j]?=some (some (.ag κ' l' J)):=by rw[dg S];exact h'
 simp[getA,h,h',V,putA,Y]
theorem zwj(cs:ik)(a b:kb):∃I:ik,cutD (cs.map D.int) a b=I.map D.int/\I.length<=cs.length:=by
 unfold cutD;rw[<-List.map_drop,<-List.map_take];exact⟨_,rfl,by simp only[dz,fq];lia⟩
abbrev EL(A B C:la)(k:l1)(p:mu)(s:Hs)(r:DE0):DE0:=A::B::C::some (.ag kH none (hP k (p++[s])))::some (.ag .ls none (stP k p s))::r
def z7k{l:Option Nat}(I:i≠j)(hi:HI n k p s)(h:e[i]?=some (some (.ag kH l (hP k (p++[s])))))(h':e[j]?=some (some (.ag .ls l' (stP k p s))))(J:F e=some ([cD c],e)) :
  ∃k' p' s',HI n k' p' s'/\kv uz [i,j] F e=some (.bl true,(e.set i (some (.ag kH l (hP k' (p'++[s']))))).set j (some (.ag .ls l' (stP k' p' s'))))/\Mv k p s c k' p' s':=by
 obtain⟨k',p',s',D,R,S⟩:=z7j c hi;exact⟨k',p',s',D,z2l I h h' J R,S⟩
def zy1{A B C:la}{r:DE0}:pLen (.at .ls) 4 1 (EL A B C k p s r)=some (.int (k.length:Int),EL A B C k p s r):=by
 unfold pLen;rw[zn8 (l:=none) (ps:=stP k p s) (ds:=k.map dD) rfl rfl,aj,ah]
def zz9(h:sD x=sD y):x=y:=by
 obtain⟨a,b,c⟩:=x;obtain⟨d,e,f⟩:=y;simp[sD] at h;simp[h]
def zof{x y:lx}(h:ssL x=ssL y):x=y:=by
 unfold ssL at h;exact(List.map_inj_right λa b e=>(List.map_inj_right λ_ _=>zz9).mp (D.lst.inj e)).mp (D.lst.inj h)
def flat(ts:l0):lu:=(ts.map (·.2)).flatten
theorem z7o(hi:HI n k p s)(h1:HI n (k++[.dry]) (p++[s]) s')(ok:TurnsOk s.1 ts)(e:0<s.1.flatten.length) :
  ∃x ts' a tl,TurnsOk s'.1 ts'/\flat ts=x::flat ts'/\s'.2=s.2++[(hrOf s.2,hrOf s.2+x.2.1,lss s.1.flatten)]/\jq ts=a::jq ts'/\s.1[a-1]?=some (x::tl)/\s'.1=s.1.set (a-1) tl/\1<=a/\a<=s.1.length:=by
 have D:=hi.at;have l5:=hi.l5;have U:=zy ok D.good D.few (by lia);have tr:=h1.tr k.length .dry s s' (by simp) (by rw[<-hi.kp];simp) (by rw[<-hi.kp,show p.length+1=(p++[s]).length by simp,f7]);rw[jo] at tr;obtain⟨_,ans,st,y,rfl,h2⟩:=tr;cases ts with
 | nil =>
   have:=ok.perm.length_eq;simp only[du,kr,b6] at this
   lia
 | cons t ts =>
   obtain⟨a,b⟩:=t;have V:=(ok.good (a,b) (by simp)).ne;cases b with
   | nil=>exact absurd rfl V
   | cons x r =>
     obtain⟨tl,ts',J,R,Y,Z,c,d⟩:=zpy ok D.good D.few;have S:=hi.r14 _ (bg J);have S:tl.length+1<=14:=by simpa using S
     have sp:=zss (num:=jt k) U J R l5 (by lia);rw[st] at sp;obtain⟨I,e2⟩:ssL s'.1=ssL (s.1.set (a-1) tl)/\sD y=sD x:=by simpa using sp
     have I:=zof I;obtain rfl:=zz9 e2;exact⟨y,ts',a,tl,by rw[I];exact Z,by unfold flat;rw[d];simp,h2,by rw[c];simp[jq,gp],J,I,R,Y⟩
def zp5(ok:TurnsOk ss ts):(flat ts).length=ss.flatten.length/\lss (flat ts)=lss ss.flatten/\∀x∈flat ts,x∈ss.flatten:=by
 have h:=ok.perm;refine⟨h.length_eq,?_,λx D=>h.mem_iff.mp D⟩;exact zv2 (λx:Sk=>x.2.2) h
def z51(ok:TurnsOk ss ts)(D:∀y∈ss.flatten,gn y)(I:ss.flatten.length<=14)(R:ss.length<=900):yw [ssL ss]=some (.lst (ts.map tnD)):=by
 obtain⟨S,J,h⟩:=ze4 ss D I;have e:=zy J D I R;rw[zy ok D I R] at e;rw[h,e]
theorem zrh(hi:HI n k p s)(ok:TurnsOk s.1 ts):zef [hA k (p++[s])] []=some (.int (fc 0 (flat ts))):=by
 have l5:=hi.l5;have h:=zn4 ok (z51 ok hi.at.good hi.at.few (by lia)) hi.at.good (by lia) hi.at.few;rw[zv3 ok] at h;exact z2b h
abbrev Ent:=Nat×Sk
def col(c:Nat)(L:List Ent):lu:=(L.filter λe=>e.1==c).map (·.2)
def non(a:Nat)(L:List Ent):lu:=(L.filter λe=>!(e.1==a)).map (·.2)
def n9(c:Nat)(x:Sk)(L:List Ent):col c ((c,x)::L)=x::col c L:=by simp[col]
variable{c:Nat}
def my{d:Nat}(h:d≠c)(x:Sk)(L:List Ent):col c ((d,x)::L)=col c L:=by simp[col,h]
def zju(c:Nat)(x:Sk)(L:List Ent):non c ((c,x)::L)=non c L:=by simp[non]
def zh2{d:Nat}(h:d≠c)(x:Sk)(L:List Ent):non c ((d,x)::L)=x::non c L:=by simp[non,h]
def zwk(c:Nat)(A B:List Ent):col c (A++B)=col c A++col c B:=by simp[col]
theorem zog(d:Int):∀(X:lu) (h:Int),fc (h+d) X=fc h X+d*lss X
 | [],h=>by simp[fc,lss]
 | x::X,h=>by
   rw[fc,fc,show h+d+x.2.1=h+x.2.1+d by lia,zog d X,qf];generalize fc (h+x.2.1) X=c
   grind
def vm(h:Int)(X:lu):fc h X=fc 0 X+h*lss X:=by
 have:=zog h X 0;rwa [iy] at this
def ziv:∀(A B:lu) (h:Int),fc h (A++B)=fc h A+fc (h+hrs A) B
 | [],B,h=>by simp[fc,hrs]
 | x::A,B,h=>by
   rw[ft,fc,fc,ziv A B,o8,mz h,mz]
def rmv(a:Nat):Nat->List Ent->List Ent
 | 0,L=>L
 | _+1,[]=>[]
 | n+1,e::L=>if e.1=a then rmv a n L else e::rmv a (n+1) L
def zoh(a:Nat):∀(L:List Ent) (n:Nat),col a (rmv a n L)=(col a L).drop n
 | [],0=>rfl
 | [],n+1=>rfl
 | e::L,0=>rfl
 | (d,x)::L,n+1=>by
   by_cases h:d=a
   ·subst h
    rw[rmv,if_pos rfl,zoh d L n,n9,List.drop_succ_cons]
   ·rw[rmv,if_neg h,my h,my h]
    exact zoh a L (n+1)
def zk{a c:Nat}(D:c≠a):∀(L:List Ent) (n:Nat),col c (rmv a n L)=col c L
 | [],0=>rfl
 | [],n+1=>rfl
 | e::L,0=>rfl
 | (d,x)::L,n+1=>by
   by_cases h:d=a
   ·subst h
    rw[rmv,if_pos rfl,zk D L n,my (Ne.symm D)]
   ·rw[rmv,if_neg h]
    by_cases I:d=c
    ·subst I;rw[n9,n9,zk D L (n+1)]
    ·rw[my I,my I,zk D L (n+1)]
theorem zt(a:Nat):∀(L:List Ent) (r:lu),(∃t,col a L=r++t)->lss (L.map (·.2))=lss r+lss ((rmv a r.length L).map (·.2))/\hrs (L.map (·.2))=hrs r+hrs ((rmv a r.length L).map (·.2))
 | L,[],_=>by cases L <;> simp[rmv,lss,hrs]
 | [],x::r,⟨t,ht⟩=>by simp[col] at ht
 | (d,y)::L,x::r,⟨t,ht⟩=>by
   by_cases h:d=a
   ·subst h
    rw[n9,ft] at ht;obtain⟨e,D⟩:=List.cons.inj ht;subst e;obtain⟨h1,h2⟩:=zt d L r ⟨t,D⟩;rw[ak,rmv,if_pos rfl,bn,qf,o8,qf,o8,h1,h2];exact⟨by lia,by lia⟩
   ·rw[my h] at ht
    obtain⟨h1,h2⟩:=zt a L (x::r) ⟨t,ht⟩;rw[ak] at h1 h2;rw[ak,rmv,if_neg h,bn,bn,qf,o8,qf (r:=List.map _ _),o8 (r:=List.map _ _),h1,h2];exact⟨by lia,by lia⟩
theorem z2m(a:Nat)(W P:Int)(hP:0<P):∀(L:List Ent) (r:lu) (G:Int),(∃t,col a L=r++t)->(∀e∈L,0<=e.2.2.1)->(∀u t,r=u++t->0<=P*lss t-W*hrs t)->(∀q t,L=q++t->0<=G+(W*hrs (non a q)-P*lss (non a q))) ->
  0<=P*(fc 0 (L.map (·.2))-fc 0 (r++(rmv a r.length L).map (·.2)))+hrs r*G
 | L,[],G,_,_,_,_=>by cases L <;> simp[rmv,hrs]
 | [],x::r,G,⟨t,ht⟩,_,_,_=>by simp[col] at ht
 | (d,y)::L,x::r,G,⟨t,ht⟩,hx,hs,hG=>by
   have V:0<=G:=by
    have:=hG [] _ rfl;simpa[non,hrs,lss] using this
   have U:0<=y.2.1:=hx _ bc;by_cases h:d=a
   ·subst h
    rw[n9,ft] at ht;obtain⟨e,I⟩:=List.cons.inj ht;subst e;have J:=z2m d W P hP L r G ⟨t,I⟩ (λz S=>hx z (am _ S)) (λu v e=>hs (y::u) v (by rw[e];rfl)) (λq v e=>by
     have:=hG ((d,y)::q) v (by rw[e];rfl);rwa [zju] at this)
    have m:=j6 U V;have R:=(zt d L r ⟨t,I⟩).1;have Y:lss (r++(rmv d r.length L).map (·.2))=lss (L.map (·.2)):=by rw[ny,R]
    rw[ak,rmv,if_pos rfl,bn,ft,fc,fc,vm (0+y.2.1) (L.map (·.2)),vm (0+y.2.1) (r++(rmv d r.length L).map (·.2)),Y,o8];generalize fc 0 (L.map (·.2))=c1 at *;generalize fc 0 (r++(rmv d r.length L).map (·.2))=c2 at *;generalize lss (L.map (·.2))=c3 at *;have D:P*((d,y).2.2.2*(0+(d,y).2.2.1)+(c1+(0+y.2.1)*c3)-(y.2.2*(0+y.2.1)+(c2+(0+y.2.1)*c3)))+(y.2.1+hrs r)*G=(P*(c1-c2)+hrs r*G)+y.2.1*G:=by dsimp only;grind
    rw[D]
    lia
   ·rw[my h] at ht
    have J:=z2m a W P hP L (x::r) (G+(W*y.2.1-P*y.2.2)) ⟨t,ht⟩ (λz S=>hx z (am _ S)) hs (λq v e=>by
     have:=hG ((d,y)::q) v (by rw[e];rfl);rw[zh2 h,o8,qf,f9,f9] at this
     lia)
    have R:=(zt a L (x::r) ⟨t,ht⟩).1;have Z:=hs [] (x::r) rfl;rw[ak] at J R;rw[ak,rmv,if_neg h,bn,bn];generalize x::r=b at *;rw[ziv] at J;rw[ziv,fc,fc,vm (0+_) (L.map (·.2)),R,vm (0+hrs b+_)];rw[vm (0+hrs b)] at J;generalize fc 0 (L.map (·.2))=c1 at *;generalize fc 0 b=c2 at *;generalize lss ((rmv a (r.length+1) L).map (·.2))=c3 at *;generalize fc 0 ((rmv a (r.length+1) L).map (·.2))=c4 at *;have m:=j6 U Z;generalize hrs b=hb1 at *;generalize lss b=lb at *;have D:P*((d,y).2.2.2*(0+(d,y).2.2.1)+(c1+(0+(d,y).2.2.1)*(lb+c3))-(c2+((d,y).2.2.2*(0+hb1+(d,y).2.2.1)+(c4+(0+hb1+(d,y).2.2.1)*c3))))+hb1*G=(P*(c1-(c2+(c4+(0+hb1)*c3)))+hb1*(G+(W*y.2.1-P*y.2.2)))+y.2.1*(P*lb-W*hb1):=by dsimp only;grind
    rw[D]
    lia
theorem zp7{a c:Nat}(J:c≠a):∀q:List Ent,hrs (non a q)=hrs (col c q)+hrs (non a (q.filter λe=>!(e.1==c)))/\lss (non a q)=lss (col c q)+lss (non a (q.filter λe=>!(e.1==c)))
 | []=>by simp[non,col,hrs,lss]
 | (d,y)::q=>by
   obtain⟨h1,h2⟩:=zp7 J q;by_cases D:d=c
   ·subst D
    rw[zh2 J,n9,jg (by simp),o8,o8,qf,qf,h1,h2];exact⟨by lia,by lia⟩
   ·rw[my D,jf (by simp[D])]
    by_cases I:d=a
    ·subst I
     rw[zju,zju];exact⟨h1,h2⟩
    ·rw[zh2 I,zh2 I,o8,o8,qf,qf,h1,h2]
     exact⟨by lia,by lia⟩
theorem z0a(a:Nat)(W P:Int):∀(n:Nat) (q:List Ent),q.length<=n->(∀c,c≠a->0<=W*hrs (col c q)-P*lss (col c q))->0<=W*hrs (non a q)-P*lss (non a q)
 | 0,q,hq,_=>by
   rw[ib (Nat.le_zero.mp hq)];simp[non,hrs,lss]
 | n+1,q,hq,h=>by
   by_cases D:∃e∈q,e.1≠a
   ·obtain⟨⟨c,y⟩,J,I⟩:=D
    have I:c≠a:=I;obtain⟨h1,h2⟩:=zp7 I q;have S:(q.filter λe=>!(e.1==c)).length<q.length:=by
     rw[List.length_filter_lt_length_iff_exists];exact⟨_,J,by simp⟩
    have U:=z0a a W P n (q.filter λe=>!(e.1==c)) (by lia) (λd R=>by
     by_cases e:d=c
     ·subst e
      rw[show col d (q.filter λe=>!(e.1==d))=[] by unfold col;rw[List.filter_filter,List.map_eq_nil_iff,il];intro z _;simp];simp[hrs,lss]
     ·rw[show col d (q.filter λe=>!(e.1==c))=col d q by
       unfold col;rw[List.filter_filter];congr 1;apply List.filter_congr;intro z _;by_cases D:z.1=d
       ·simp[D,e]
       ·simp[D]]
      exact h d R)
    have V:=h c I;rw[h1,h2,f9,f9]
    lia
   ·have:non a q=[]:=by
     unfold non;rw[List.map_eq_nil_iff,il];intro e J;have:e.1=a:=Classical.byContradiction λz=>D ⟨e,J,z⟩;simp[this]
    rw[this];simp[hrs,lss]
theorem zsu{b:lu}(D:0<hrs b):∀(bs:lx) (X:lu),(∀u∈bs,Good u/\(∀x∈u,gn x)/\lss u*hrs b<=lss b*hrs u)->X <+: bs.flatten->lss X*hrs b<=lss b*hrs X
 | [],X,_,h=>by
   rw[kr,List.prefix_nil] at h;subst h;simp[hrs,lss]
 | u::bs,X,hb,h=>by
   obtain⟨I,J,R⟩:=hb u bc;rw[cr] at h;rcases znz h with z | ⟨t,e,ht⟩
   ·have h1:=I.beg X z
    have S:=pq u J I.ne;have U:0<=hrs X:=zvk X λx V=>J x (z.subset V);have Y:=d4 h1 (Int.le_of_lt D);have Z:=d4 R U;have a:lss X*hrs b*hrs u<=lss b*hrs X*hrs u:=by
     rw[show lss X*hrs b*hrs u=lss X*hrs u*hrs b by grind,show lss b*hrs X*hrs u=lss b*hrs u*hrs X by grind];exact Int.le_trans Y (by rw[show lss u*hrs X*hrs b=lss u*hrs b*hrs X by grind];exact Z)
    exact j7 a S
   ·subst e
    have d:=zsu D bs t (λv c=>hb v (am _ c)) ht;rw[ny,nz,ig,f9]
    lia
def ofE(ts:l0)(c:Nat):lu:=((ts.filter λt=>t.1==c).map (·.2)).flatten
theorem opt:∀(ts:l0) (L:List Ent),ts.Pairwise bef->(∀t∈ts,Good t.2)->(∀t∈ts,∀x∈t.2,gn x)->(∀e∈L,gn e.2)->(∀c,col c L=ofE ts c)->fc 0 (flat ts)<=fc 0 (L.map (·.2))/\lss (flat ts)=lss (L.map (·.2))
 | [],L,_,_,_,_,h=>by
   cases L with
   | nil=>exact⟨ie _,rfl⟩
   | cons e L =>
     have:=h e.1;rw[show e=(e.1,e.2) from rfl,n9] at this;simp[ofE] at this
 | (a,b)::ts,L,srt,hg,hs,hL,h=>by
   have Y:=fb.mp srt;have Z:Good b:=hg (a,b) bc;have g:∀x∈b,gn x:=hs (a,b) bc;have R:=pq b g Z.ne;have S:col a L=b++ofE ts a:=by rw[h a];simp[ofE]
   have J:∀c,c≠a->col c L=ofE ts c:=λc U=>by rw[h c];simp[ofE,Ne.symm U]
   have V:∀e∈rmv a b.length L,gn e.2:=λe D=>by
    have:∀(L:List Ent) (n:Nat),∀e∈rmv a n L,e∈L:=λL=>by
     induction L with
     | nil=>intro n e D;cases n <;> simpa[rmv] using D
     | cons z L ih =>
       intro n e D;cases n with
       | zero=>exact D
       | succ n =>
         rw[rmv] at D;split at D
         ·exact am _ (ih n e D)
         ·rcases ce.mp D with q | q
          ·rw[q];exact bc
          ·exact am _ (ih (n+1) e q)
    exact hL e (this _ _ _ D)
   obtain⟨r,d⟩:=opt ts (rmv a b.length L) Y.2 (λt I=>hg t (am _ I)) (λt I=>hs t (am _ I)) V (λc=>by
    by_cases e:c=a
    ·subst e;rw[zoh,S,List.drop_left]
    ·rw[zk e,J c e])
   obtain⟨i,_⟩:=zt a L b ⟨_,S⟩;have j:=z2m a (lss b) (hrs b) R L b 0 ⟨_,S⟩ (λe D=>by have:=hL e D;unfold gn at this;lia) (λu t e=>by
    have h1:=Z.beg u ⟨t,e.symm⟩;have s:lss b=lss u+lss t:=by rw[e,ny]
    have v:hrs b=hrs u+hrs t:=by rw[e,nz]
    generalize lss b=lb at *;generalize hrs b=hb at *;rw[show lss t=lb-lss u by lia,show hrs t=hb-hrs u by lia,Int.mul_sub,Int.mul_sub,io hb lb,io hb]
    lia) (λq t e=>by
    rw[iy];refine z0a a _ _ q.length q (b9 _) λc U=>?_;have k:col c q <+: ofE ts c:=by rw[<-J c U,e,zwk];exact List.prefix_append _ _
    have:=zsu R _ (col c q) (λu l=>by
     obtain⟨t,I,m⟩:=d7.mp l;have I:=(f6.mp I).1;subst m;refine⟨hg t (am _ I),hs t (am _ I),?_⟩;have o:=Y.1 t I;rcases o with z | z
     ·exact Int.le_of_lt z
     ·exact vb.mp z.1) k
    rw[io (hrs b)]
    lia)
   rw[Int.mul_zero,Int.add_zero] at j;have f:fc 0 (b++(rmv a b.length L).map (·.2))<=fc 0 (L.map (·.2)):=by
    by_cases z:fc 0 (b++(rmv a b.length L).map (·.2))<=fc 0 (L.map (·.2))
    ·exact z
    ·have:=Int.mul_neg_of_pos_of_neg R (show fc 0 (L.map (·.2))-fc 0 (b++(rmv a b.length L).map (·.2))<0 by lia)
     lia
   have p:flat ((a,b)::ts)=b++flat ts:=rfl;rw[p];refine⟨?_,by rw[ny,i,d]⟩;rw[ziv,vm (0+hrs b)];rw[ziv,vm (0+hrs b)] at f;rw[<-d] at f
   lia
def ents(ts:l0):List Ent:=(ts.map λt=>t.2.map λx=>(t.1,x)).flatten
def zoi:∀ts:l0,(ents ts).map (·.2)=flat ts
 | []=>rfl
 | t::ts=>by
   rw[show ents (t::ts)=(t.2.map λx=>(t.1,x))++ents ts from rfl,db,zoi ts,iw,show((λe:Ent=>e.2) ∘ λx=>(t.1,x))=id from rfl,List.map_id];rfl
def zw(c:Nat):∀ts:l0,col c (ents ts)=ofE ts c
 | []=>rfl
 | (d,b)::ts=>by
   have D:∀b:lu,col c (b.map λx=>(d,x))=if d=c then b else[]:=λb=>by
    induction b with
    | nil=>simp[col]
    | cons x b ih =>
      rw[bn];by_cases h:d=c
      ·subst h;rw[n9,ih,if_pos rfl,if_pos rfl]
      ·rw[my h,ih,if_neg h,if_neg h]
   rw[show ents ((d,b)::ts)=(b.map λx=>(d,x))++ents ts from rfl,zwk,D,zw c ts];by_cases h:d=c
   ·simp[ofE,h]
   ·simp[ofE,h]
def stk(ss:lx)(c:Nat):lu:=if c=0 then[] else ss.getD (c-1) []
theorem xo(ok:TurnsOk ss ts)(c:Nat):ofE ts c=stk ss c:=by
 by_cases h:∃j s,c=j+1/\ss[j]?=some s
 ·obtain⟨j,s,e,D⟩:=h
  subst e;rw[stk,if_neg (by lia),Nat.add_sub_cancel,av,D];exact ok.part j s D
 ·have R:c=0\/ss.length<c:=by
   cases c with
   | zero=>exact .inl rfl
   | succ j =>
     by_cases I:j<ss.length
     ·exact absurd ⟨j,ss[j],rfl,aq I⟩ h
     ·exact .inr (by lia)
  rw[show ofE ts c=[] by
   unfold ofE;rw[il.mpr λt J=>by have:=ok.lo t J;simp;lia];rfl]
  unfold stk;by_cases z:c=0
  ·rw[if_pos z]
  ·rw[if_neg z,av,cx (by lia)];rfl
theorem zwl(D:1<=a)(I:a<=ss.length):stk (ss.set (a-1) t) c=if c=a then t else stk ss c:=by
 unfold stk;by_cases z:c=0
 ·rw[if_pos z,if_pos z,if_neg (by lia)]
 ·rw[if_neg z,if_neg z,av,gl]
  by_cases e:c=a
  ·subst e;rw[if_pos rfl,if_pos rfl,if_pos (by lia)];rfl
  ·rw[if_neg (by lia),if_neg e,av]
def zsv(ok:TurnsOk ss ts)(D:∀x∈ss.flatten,gn x)(L:List Ent)(h:∀c,col c L=stk ss c):fc 0 (flat ts)<=fc 0 (L.map (·.2)) :=
 (opt ts L ok.srt ok.good (ok.sk D) (λe I=>by
   have:e.2∈col e.1 L:=d7.mpr ⟨e,f6.mpr ⟨I,by simp⟩,rfl⟩;rw[h e.1,<-xo ok] at this;obtain⟨b,J,R⟩:=fm.mp this;obtain⟨t,S,U⟩:=d7.mp J;subst U;exact ok.sk D t (f6.mp S).1 _ R) λc=>(h c).trans (xo ok c).symm).1
theorem z0b(a:Nat):∀(L:List Ent) (h:Int),0<=h->(∀e∈L,0<=e.2.2.1/\0<=e.2.2.2)->fc h ((rmv a 1 L).map (·.2))<=fc h (L.map (·.2))
 | [],h,_,_=>ie _
 | (d,x)::L,h,h0,hn=>by
   obtain⟨I,R⟩:=hn _ bc;have D:∀e∈L,0<=e.2.2.1/\0<=e.2.2.2:=λe J=>hn e (am _ J);by_cases e:d=a
   ·subst e
    rw[rmv,if_pos rfl,show rmv d 0 L=L by cases L <;> rfl,bn,fc,zog x.2.1 _ h];have S:0<=lss (L.map (·.2)):=by
     clear hn;induction L with
     | nil=>exact ie _
     | cons z L ih =>
       rw[bn,qf];have:=D z bc;have:=ih λe J=>D e (am _ J)
       lia
    have U:=j6 I S;have V:=j6 R (show 0<=h+x.2.1 by dsimp only at I;lia);dsimp only at *
    lia
   ·rw[rmv,if_neg e,bn,bn,fc,fc]
    have:=z0b a L (h+x.2.1) (by dsimp only at I;lia) D;dsimp only
    lia
def chg(a:Nat)(l:Int):Nat->List Ent->List Ent
 | _,[]=>[]
 | n,e::L=>if e.1=a then(match n with | 0=>(e.1,(e.2.1,e.2.2.1,l))::L | n+1=>e::chg a l n L) else e::chg a l n L
def chg0(a:Nat)(l:Int)(x:Sk)(L:List Ent):chg a l 0 ((a,x)::L)=(a,(x.1,x.2.1,l))::L:=by simp[chg]
def chgS(a:Nat)(l:Int)(x:Sk)(L:List Ent)(n:Nat):chg a l (n+1) ((a,x)::L)=(a,x)::chg a l n L:=by simp[chg]
def chgN{d:Nat}(h:d≠a)(l:Int)(x:Sk)(L:List Ent)(n:Nat):chg a l n ((d,x)::L)=(d,x)::chg a l n L:=by cases n <;> simp[chg,h]
def zri(a:Nat)(l:Int):∀(L:List Ent) (n:Nat) (y:Sk),(col a L)[n]?=some y->col a (chg a l n L)=(col a L).set n (y.1,y.2.1,l)
 | [],n,y,h=>by simp[col] at h
 | (d,x)::L,n,y,h=>by
   by_cases e:d=a
   ·subst e
    rw[n9] at h ⊢;cases n with
    | zero=>cases h;rw[chg0];exact n9 _ _ _
    | succ n =>
      rw[chgS,n9,zri d l L n y h];rfl
   ·rw[my e] at h ⊢
    rw[chgN e,my e,zri a l L n y h]
def zsw{a c:Nat}(l:Int)(D:c≠a):∀(L:List Ent) (n:Nat),col c (chg a l n L)=col c L
 | [],n=>rfl
 | (d,x)::L,n=>by
   by_cases e:d=a
   ·subst e
    rw[my (Ne.symm D)];cases n with
    | zero=>rw[chg0];exact my (Ne.symm D) _ _
    | succ n=>rw[chgS];exact(my (Ne.symm D) _ _).trans (zsw l D L n)
   ·rw[chgN e]
    by_cases I:d=c
    ·subst I;rw[n9,n9,zsw l D L n]
    ·rw[my I,my I,zsw l D L n]
theorem zwm(a:Nat)(l:Int):∀(L:List Ent) (n:Nat) (y:Sk) (h:Int),0<=h->(∀e∈L,0<=e.2.2.1)->(col a L)[n]?=some y->l<=y.2.2->fc h ((chg a l n L).map (·.2))<=fc h (L.map (·.2))
 | [],n,y,h,_,_,hy,_=>by simp[col] at hy
 | (d,x)::L,n,y,h,h0,hn,hy,hl=>by
   have R:0<=x.2.1:=hn _ bc;have D:∀e∈L,0<=e.2.2.1:=λe I=>hn e (am _ I);by_cases e:d=a
   ·subst e
    rw[n9] at hy;cases n with
    | zero =>
      cases hy;rw[chg0];have m:=d4 hl (show 0<=h+x.2.1 by lia);show l*(h+x.2.1)+fc (h+x.2.1) (L.map (·.2))<=x.2.2*(h+x.2.1)+fc (h+x.2.1) (L.map (·.2))
      lia
    | succ n =>
      have J:=zwm d l L n y (h+x.2.1) (by lia) D hy hl;rw[chgS];show x.2.2*(h+x.2.1)+fc (h+x.2.1) ((chg d l n L).map (·.2))<=x.2.2*(h+x.2.1)+fc (h+x.2.1) (L.map (·.2))
      lia
   ·rw[my e] at hy
    have J:=zwm a l L n y (h+x.2.1) (by lia) D hy hl;rw[chgN e];show x.2.2*(h+x.2.1)+fc (h+x.2.1) ((chg a l n L).map (·.2))<=x.2.2*(h+x.2.1)+fc (h+x.2.1) (L.map (·.2))
    lia
def zp8(ok:TurnsOk ss ts)(D:∀x∈ss.flatten,gn x):∀e∈ents ts,gn e.2:=λe I=>by
 obtain⟨l,J,h⟩:=fm.mp I;obtain⟨t,R,S⟩:=d7.mp J;subst S;obtain⟨x,U,ex⟩:=d7.mp h;subst ex;exact ok.sk D t R x U
variable{ts':l0}
theorem z52(ok:TurnsOk ss ts)(D:TurnsOk ss' ts')(R:∀x∈ss.flatten,gn x)(I:∀x∈ss'.flatten,gn x)(J:ss[a-1]?=some (x::tl))(S:1<=a)(e:ss'=ss.set (a-1) tl):fc 0 (flat ts')<=fc 0 (flat ts):=by
 have V:=(ai.mp J).1;have h1:=zsv D I (rmv a 1 (ents ts)) (λc=>by
  rw[e,zwl S (by lia)];by_cases z:c=a
  ·subst z
   rw[if_pos rfl,zoh,zw,xo ok,stk,if_neg (by lia),av,J];rfl
  ·rw[if_neg z,zk z,zw,xo ok])
 have h2:=z0b a (ents ts) 0 (ie _) (λz U=>by have:=zp8 ok R z U;unfold gn at this;lia);rw[zoi] at h2;exact Int.le_trans h1 h2
variable{m:Nat}
theorem zwn(ok:TurnsOk ss ts)(D:TurnsOk ss' ts')(U:∀x∈ss.flatten,gn x)(I:∀x∈ss'.flatten,gn x)(R:ss[a-1]?=some t)(V:1<=a)(S:t[m]?=some y)(Y:l<=y.2.2)(e:ss'=ss.set (a-1) (t.set m (y.1,y.2.1,l))):fc 0 (flat ts')<=fc 0 (flat ts):=by
 have b:=(ai.mp R).1;have J:col a (ents ts)=t:=by rw[zw,xo ok,stk,if_neg (by lia),av,R];rfl
 have h1:=zsv D I (chg a l m (ents ts)) (λc=>by
  rw[e,zwl V (by lia)];by_cases z:c=a
  ·subst z
   rw[if_pos rfl,zri c l _ m y (by rw[J];exact S),J]
  ·rw[if_neg z,zsw l z,zw,xo ok])
 have h2:=zwm a l (ents ts) m y 0 (ie _) (λz Z=>by have:=zp8 ok U z Z;unfold gn at this;lia) (by rw[J];exact S) Y;rw[zoi] at h2;exact Int.le_trans h1 h2
def zoj{l:List α}{x y:α}(h:l[i]?=some x):(l.set i y).set i x=l:=by
 obtain⟨hi,e⟩:=ai.mp h;rw[om,<-e,List.set_getElem_self]
def z2n(ok:TurnsOk ss ts)(D:TurnsOk ss' ts')(S:∀x∈ss.flatten,gn x)(I:∀x∈ss'.flatten,gn x)(J:ss[a-1]?=some t)(U:1<=a)(R:t[m]?=some y)(V:y.2.2<=l)(e:ss'=ss.set (a-1) (t.set m (y.1,y.2.1,l))):fc 0 (flat ts)<=fc 0 (flat ts'):=by
 have Y:=(ai.mp J).1;have Z:=(ai.mp R).1;refine zwn D ok I S (a:=a) (m:=m) (y:=(y.1,y.2.1,l)) (t:=t.set m (y.1,y.2.1,l)) (l:=y.2.2) (by rw[e,di Y]) U (by rw[di Z]) V ?_;rw[show(y.1,y.2.1,y.2.2)=y from rfl,zoj R,e,zoj J]
theorem z53(ok:TurnsOk ss ts)(D:TurnsOk ss' ts')(J:∀x∈ss.flatten,gn x)(I:∀x∈ss'.flatten,gn x)(R:1<=a)(U:a<=ss.length)(e:ss'=putS ss a x):fc 0 (flat ts)<=fc 0 (flat ts'):=by
 have S:ss[a-1]?=some (ss.getD (a-1) []):=by rw[av,aq (by lia)];rfl
 refine z52 D ok I J (a:=a) (x:=x) (tl:=ss.getD (a-1) []) ?_ R ?_
 ·rw[e,putS,di (by lia)]
 ·rw[e,putS,zoj S]
theorem zok:∀(X:lu) (h:Int),0<=h->(∀x∈X,gn x)->0<=fc h X
 | [],_,_,_=>ie _
 | x::X,h,h0,hg=>by
   have D:=hg x bc;unfold gn at D;have J:=zok X (h+x.2.1) (by lia) λy I=>hg y (am _ I);have m:=j6 D.2.2.2.2.1 (show 0<=h+x.2.1 by lia);rw[fc]
   lia
def curL(ss:lx)(a m:Int):Int:=if a<1\/(ss.length:Int)<a\/m<1\/((ss.getD (a.toNat-1) []).length:Int)<m then 0 else((ss.getD (a.toNat-1) []).getD (m.toNat-1) (0,0,0)).2.2
def zy2(hi:HI n k p s)(h1:HI n (k++[d]) (p++[s]) s'):Stp k s d s':=by
 have tr:=h1.tr k.length d s s' (by simp) (by rw[<-hi.kp];simp) (by rw[<-hi.kp,show p.length+1=(p++[s]).length by simp,f7]);rwa [jo] at tr
theorem mono(hi:HI n k p s)(h1:HI n (k++[d]) (p++[s]) s')(ok:TurnsOk s.1 ts)(R:TurnsOk s'.1 ts') :
  match d with
  | .put _ _ _=>fc 0 (flat ts)<=fc 0 (flat ts')
  | .go _=>fc 0 (flat ts')<=fc 0 (flat ts)
  | .tell a m l=>(l<=curL s.1 a m->fc 0 (flat ts')<=fc 0 (flat ts))/\(curL s.1 a m<=l->fc 0 (flat ts)<=fc 0 (flat ts'))
  | .dry=>True:=by
 have Z:=hi.at;have S:=h1.at;have l5:=hi.l5;obtain⟨D,ans,st,_⟩:=zy2 hi h1;cases d with
 | dry=>trivial
 | put a h l =>
   show fc 0 (flat ts)<=fc 0 (flat ts');replace D:putX s.1 k.length a h l=none:=D;unfold putX at D;split at D
   ·cases D
   ·rename_i c
    obtain⟨I,rfl⟩:∃I:Nat,a=(I:Int):=⟨a.toNat,by lia⟩;have sp:=zsq (num:=jt k) (ss:=s.1) (a:=I) (h:=h) (l:=l) (by lia) (by lia) l5 (by
     rw[av,aq (by lia)];have:=hi.r14 _ (pz (show I-1<s.1.length by lia));exact de this (by lia))
    rw[st] at sp;obtain⟨U,_⟩:ssL s'.1=ssL (putS s.1 I (jt k,h,l))/\ans=.int (jt k):=by simpa using sp
    exact z53 ok R Z.good S.good (by lia) (by lia) (zof U)
 | go a =>
   show fc 0 (flat ts')<=fc 0 (flat ts);replace D:goX s.1 k.length a=none:=D;unfold goX at D;split at D
   ·cases D
   ·rename_i c
    split at D
    ·cases D
    ·rename_i Y
     obtain⟨I,rfl⟩:∃I:Nat,a=(I:Int):=⟨a.toNat,by lia⟩;have J:=qd c;rw[e7] at J Y;obtain⟨x,tl,et⟩:∃x tl,s.1.getD (I-1) []=x::tl:=by
      cases h:s.1.getD (I-1) [] with
      | nil=>rw[h] at Y;exact absurd rfl Y
      | cons x tl=>exact⟨x,tl,rfl⟩
     rw[et] at J;have f:=hi.r14 _ (bg J);have f:tl.length+1<=14:=by simpa using f
     have sp:=zwe (num:=jt k) J (by lia) l5 (by lia);rw[st] at sp;obtain⟨U,_⟩:ssL s'.1=ssL (s.1.set (I-1) tl)/\ans=sD x:=by simpa using sp
     exact z52 ok R Z.good S.good J (by lia) (zof U)
 | tell a m l =>
   show(l<=curL s.1 a m->fc 0 (flat ts')<=fc 0 (flat ts))/\(curL s.1 a m<=l->fc 0 (flat ts)<=fc 0 (flat ts'));replace D:ql s.1 k.length a m l=none:=D;unfold ql at D;split at D
   ·cases D
   ·rename_i c
    split at D
    ·cases D
    ·rename_i Y
     split at D
     ·cases D
     ·rename_i g
      obtain⟨I,rfl⟩:∃I:Nat,a=(I:Int):=⟨a.toNat,by lia⟩;have J:=qd c;rw[e7] at J Y g;obtain⟨V,rfl⟩:∃V:Nat,m=(V:Int):=⟨m.toNat,by lia⟩;have b:curL s.1 (I:Int) (V:Int)=((s.1.getD (I-1) []).getD (V-1) (0,0,0)).2.2:=by
       unfold curL;rw[e7,e7,if_neg (by lia)]
      rw[b];generalize s.1.getD (I-1) []=t at *;have e:t[V-1]?=some (t.getD (V-1) (0,0,0)):=by rw[av,aq (by lia)];rfl
      generalize t.getD (V-1) (0,0,0)=y at *;have sp:=zp4 (num:=jt k) (l:=l) J e (by lia) (by lia) l5;rw[st] at sp;obtain⟨U,_⟩:ssL s'.1=ssL (s.1.set (I-1) (t.set (V-1) (y.1,y.2.1,l)))/\ans=.int y.2.2:=by simpa using sp
      have U:=zof U;exact⟨λh=>zwn ok R Z.good S.good J (by lia) e h U,λh=>z2n ok R Z.good S.good J (by lia) e h U⟩
end LB
namespace SQ
open PySem L2 LB
def zdd:FS:=sSeq (sSet 2 (fK (.ins false "House" jd) 0 (ji zfb [0] (fNil)))) (sSeq (sSet 3 (fK (.ins false "House" jd) 0 (ji zef [0] (fNil)))) (sSeq (sIf (fOr (fNot (fTst (d5 zga (aw (fVar 2) (aw (fVar 1) (fNil)))))) (fNot (fTst (d5 u5 (aw (fVar 3) (fNil)))))) (sRet (fUn dNeg (fC (.int 1)))) (sNil)) (sSeq (sIf (fTst (fBin dNe (fVar 3) (d5 zjn (aw (d5 zik (aw (fVar 1) (aw (fVar 2) (fNil)))) (fNil))))) (sRet (fUn dNeg (fC (.int 1)))) (sNil)) (sRet (fVar 3)))))
def wo:ll->k7->k8:=runQ 4 1 1 zdd
def zku:ll->k7->ka:=xQ 4 1 1 zdd
def yo:FS:=sSeq (sIf (fOr (fTst (fBin dLt (fIxV 1 (fC (.int 1))) (fC (.int 1)))) (fOr (fTst (fBin dGt (fIxV 1 (fC (.int 1))) (i9 0))) (fOr (fTst (fBin dLt (fIxV 1 (fC (.int 2))) (fC (.int 1)))) (fTst (fBin dGt (fIxV 1 (fC (.int 2))) (d5 bLen (aw (fIxV 0 (fBin dSub (fIxV 1 (fC (.int 1))) (fC (.int 1)))) (fNil)))))))) (sRet (fC (.int 0))) (sNil)) (sRet (fBin dIx (fBin dIx (fIxV 0 (fBin dSub (fIxV 1 (fC (.int 1))) (fC (.int 1)))) (fBin dSub (fIxV 1 (fC (.int 2))) (fC (.int 1)))) (fC (.int 2))))
def u6:k7->k8:=runD 2 2 yo
def zol:FS:=sSeq (sSet 7 (d5 zhy (aw (fVar 6) (aw (fDat 4 0) (fNil))))) (sSeq (sSet 8 (fBin dNe (d5 u7 (aw (fDat 4 0) (aw (pLen (.at .ls) 4 1) (aw (fVar 7) (fNil))))) (fC (.str "")))) (sSeq (sSet 9 (fBin dEq (fIxV 7 (fC (.int 0))) (fC (.str "go")))) (sSeq (sSet 10 (fBin dEq (fIxV 7 (fC (.int 0))) (fC (.str "put")))) (sSeq (sIf (fTst (fBin dEq (fIxV 7 (fC (.int 0))) (fC (.str "tell")))) (sSeq (sSet 9 (fBin dLe (fIxV 7 (fC (.int 3))) (d5 u6 (aw (fDat 4 0) (aw (fVar 7) (fNil)))))) (sSet 10 (fBin dGe (fIxV 7 (fC (.int 3))) (d5 u6 (aw (fDat 4 0) (aw (fVar 7) (fNil))))))) (sNil)) (sSeq (sIf (fNot (fTst (kv uz [3,4] (aw (fVar 7) (fNil))))) (sRet (fC (.bl false))) (sNil)) (sSeq (sSet 11 (ji wo [3] (aw (fDat 4 0) (fNil)))) (sSeq (sIf (fOr (fTst (fBin dLt (fVar 11) (fC (.int 0)))) (fAnd (fTst (fVar 8)) (fTst (fBin dNe (fVar 11) (fVar 5))))) (sRet (fC (.bl false))) (sNil)) (sSeq (sIf (fOr (fAnd (fTst (fVar 9)) (fTst (fBin dGt (fVar 11) (fVar 5)))) (fAnd (fTst (fVar 10)) (fTst (fBin dLt (fVar 11) (fVar 5))))) (sRet (fC (.bl false))) (sNil)) (sSet 5 (fVar 11))))))))))
def z54:FS:=sSeq (sSet 1 (d5 zfi (aw (fVar 0) (aw (fC (.int 61)) (fNil))))) (sSeq (sSet 2 (d5 zhw (aw (fIxV 1 (fC (.int 0))) (fNil)))) (sSeq (zd 3 (zc "House" zce (aw (fVar 2) (fNil)))) (sSeq (zd 4 (zr2 zhz (aw (fVar 2) (fNil)))) (sSeq (sSet 5 (ji wo [3] (aw (fDat 4 0) (fNil)))) (sSeq (sFor 6 (fiS (d5 ziu (aw (fLst (fSl (fVar 1) (fO1 (fC (.int 1))) (fO1 (fBin dSub (fC (.int 61)) (fBin dMod (fBin dDiv (fIxV 1 (fC (.int 0))) (fC (.int 12))) (fC (.int 61))))))) (fNil)))) (zol)) (sRet (fBin dGe (fVar 5) (fC (.int 0)))))))))
def z55:k7->k8:=runD 12 1 z54
end SQ
namespace SQ
open PySem L2 LB PyProof.Rows
def top(i:Nat):Stmt:=PySem.Challenge.pw_rotstacks_k40_whole_never_dearer.main.body.getD i (.Pass ⟨0,0,0,0⟩)
def mth(j:Nat):Stmt:=match top 63 with | .ClassDef _ _ _ b _ _ _ _ _ _ _=>b.getD j (.Pass ⟨0,0,0,0⟩) | _=>.Pass ⟨0,0,0,0⟩
local macro_rules | `(tactic| walk_at "g") => `(tactic| first | exact gl_d (by kernel_rfl) | exact gl_c (by kernel_rfl) | exact gl_p (by kernel_rfl))
local macro_rules | `(tactic| exists $t:term) => `(tactic| as_aux_lemma => exact $t)
local macro_rules | `(tactic| walk_at "b") => `(tactic| exact ⟨by walk_at "g", by assumption⟩)
def ok_all{P:Program}{w:World}{K:kf}{mg:Str->g9}{C:Addr}(T2:Def K mg (top 2) "sack_number" ["sack"])(T3:Def K mg (top 3) "sack_hours" ["sack"])(T4:Def K mg (top 4) "sack_loss" ["sack"])(T5:Def K mg (top 5) "sacks_in_all" ["stacks"])(T6:Def K mg (top 6) "loss_in_all" ["stacks"])(T7:Def K mg (top 7) "top_sack" ["stacks", "at"])(T8:Def K mg (top 8) "with_stack" ["stacks", "at", "stack"])(T9:Def K mg (top 9) "without_top" ["stacks", "at"])(b4:Def K mg (top 11) "share_gap" ["one", "other"])(b5:Def K mg (top 12) "share_sign" ["one", "other"])(ca:Def K mg (top 13) "single_block" ["sack"])(cc:Def K mg (top 14) "joined_block" ["upper", "lower"])(cd:Def K mg (top 15) "block_share" ["block"])(ch:Def K mg (top 16) "has_greater_share" ["upper", "lower"])(ck:Def K mg (top 17) "stack_blocks" ["stack"])(cl:Def K mg (top 34) "turn_share" ["turn"])(cm:Def K mg (top 35) "place_of_turn" ["turns", "turn"])(cn:Def K mg (top 36) "block_turns" ["stacks"])(co:Def K mg (top 37) "told_order" ["stacks"])(bb:Def K mg (top 38) "check_known" ["stacks", "at"])(cp:Def K mg (top 39) "check_whole" ["stacks", "order"])(cq:Def K mg (top 40) "check_order" ["stacks", "order"])(ct:Def K mg (top 41) "taken_sacks" ["stacks", "order"])(cu:Def K mg (top 43) "order_cost" ["stacks", "order"])(cv:Def K mg (top 44) "least_cost" ["stacks"])(c0:Def K mg (top 46) "hours_gone" ["stretches"])(c1:Def K mg (top 53) "check_count" ["many"])(da:Def K mg (top 54) "check_hours" ["hours"])(dd:Def K mg (top 55) "check_loss" ["loss"])(dj:Def K mg (top 56) "check_room" ["stacks"])(dk:Def K mg (top 57) "check_lies" ["stacks", "at"])(dp:Def K mg (top 58) "check_place" ["stack", "place"])(dr:Def K mg (top 59) "check_waits" ["stacks"])(ds:Def K mg (top 60) "check_deeds" ["deeds"])(dt:Def K mg (top 61) "next_number" ["deeds"])(dv:Def K mg (top 62) "told_anew" ["sack", "loss"])(N:Mef K C (mth 0) "__init__" "House.__init__" ["self", "many"])(O:Mef K C (mth 1) "piles" "House.piles" ["self"])(Q:Mef K C (mth 2) "spans" "House.spans" ["self"])(T:Mef K C (mth 3) "keep" "House.keep" ["self", "deed", "piles", "spans"])(X:Mef K C (mth 4) "put" "House.put" ["self", "at", "hours", "loss"])(aa:Mef K C (mth 5) "tell" "House.tell" ["self", "at", "place", "loss"])(ab:Mef K C (mth 6) "go" "House.go" ["self", "at"])(ag:Mef K C (mth 8) "back" "House.back" ["self"])(al:Mef K C (mth 11) "hour" "House.hour" ["self"])(an:Mef K C (mth 7) "dry" "House.dry" ["self"])(ap:Mef K C (mth 12) "order" "House.order" ["self"])(ar:Mef K C (mth 14) "cost" "House.cost" ["self"])(dx:Def K mg (top 65) "_law_whole" ["_law_found"])(d0:Def K mg (top 66) "_law_at" ["_law_script", "_law_k"])(d1:Def K mg (top 67) "_law_draws" ["_law_script", "_law_many_here"])(d2:Def K mg (top 68) "_law_best" ["_law_sacks"])(d3:Def K mg (top 69) "_law_turns" ["_law_stacks"])(ea:Def K mg (top 70) "_law_taken" ["_law_stacks", "_law_order"])(eb:Def K mg (top 71) "_law_cost" ["_law_sacks"])(ec:Def K mg (top 72) "_law_is_order" ["_law_found", "_law_stacks"])(ed:Def K mg (top 73) "_law_same_row" ["_law_found", "_law_due"])(ee:Def K mg (top 74) "_law_kind" ["_law_error"])(ef:Def K mg (top 75) "_law_deed" ["_law_cell", "_law_piles"])(ei:Def K mg (top 76) "_law_refusal" ["_law_piles", "_law_kept", "_law_deed_here"])(ej:Def K mg (top 77) "_law_ask" ["_law_house", "_law_deed_here"])(el:Def K mg (top 78) "_law_call" ["_law_house", "_law_deed_here"])(en:Def K mg (top 79) "_law_step" ["_law_piles", "_law_deed_here", "_law_number"])(eo:Def K mg (top 80) "_law_rate" ["_law_piles"])(ep:Def K mg (top 81) "_law_same_answer" ["_law_found", "_law_due"])(er:Def K mg (top 82) "_law_many" ["_law_header"])(es:Def K mg (top 83) "_law_rates" ["_law_dried"])(et:Def K mg (top 84) "_law_do" ["_law_house", "_law_state", "_law_deed_here"])(eu:Def K mg (top 85) "_law_new" ["_law_many_here"])(ev:Def K mg (top 86) "_law_cells" ["_law_cells_here"])(ew:Def K mg (top 87) "_law_told_cost" ["_law_house", "_law_piles"])(ex:Def K mg (top 88) "_law_loss_at" ["_law_piles", "_law_deed_here"])(x:Cl K "House" C)(cs:Cls K C)(mC:mg "House" = some (.ref C))(kC:PySem.W.makesIn K C=true)(pC:PySem.W.keepIn K (.ref C)=true)(a0:PySem.W.findIn K (.ref C) "kept" = some none)(G:PySem.W.findIn K (.ref C) "states" = some none)(m:Exc K mg "BadCount")(o:Exc K mg "BadHours")(q:Exc K mg "BadLoss")(k:Exc K mg "DeedsFull")(j:Exc K mg "EmptyStack")(l:Exc K mg "HouseFull")(i:Exc K mg "NothingDone")(c:Exc K mg "NothingWaits")(d:Exc K mg "UnknownPlace")(e:Exc K mg "UnknownStack")(V:∃t,mg "MOST_DEEDS" = some (.int 60 t))(Y:∃t,mg "MOST_HOURS" = some (.int 60 t))(Z:∃t,mg "MOST_LOSS" = some (.int 100 t))(S:∃t,mg "MOST_STACKS" = some (.int 5 t))(R:∃t,mg "MOST_WAITING" = some (.int 14 t))(s:KFacts K mg)(L:mg "ValueError" = none)(b2:mg "bool" = none)(a1:mg "enumerate" = none)(ey:mg "int" = none)(M:mg "isinstance" = none)(ez:mg "len" = none)(b3:mg "list" = none)(e0:mg "max" = none)(bd:mg "range" = none)(e1:mg "str" = none)(e2:mg "sum" = none)(be:mg "tuple" = none):∀base f fd,Fun K "law" "law" (top 89) f fd->FnOk P w K mg base CX0 11 f fd ["_law_script"] (dSp K z55):=by
 intro base;have D:Atr K "House" "kept":=⟨C,cs,a0,x⟩;have J:Atr K "House" "states":=⟨C,cs,G,x⟩;have c2:Cal P w K mg base CX0 "sack_number" 1 (dSp K zfs):=by exists jk T2 ["sack"] λr a t=>dy (fo (eh cf a))
 have c3:Cal P w K mg base CX0 "sack_hours" 1 (dSp K u4):=by exists jk T3 ["sack"] λr a t=>dy (fo (eh cf a))
 have c4:Cal P w K mg base CX0 "sack_loss" 1 (dSp K wf):=by exists jk T4 ["sack"] λr a t=>dy (fo (eh cf a))
 have c5:Cal P w K mg base CX0 "sacks_in_all" 1 (dSp K ze3):=by exists jk T5 ["stacks"] λr a t=>dy (fo (vj (bq (gh (uu a (kj (bj a)) (λ_ _ _ _ _ _ _ a=>kz a))) dc)))
 have c6:Cal P w K mg base CX0 "loss_in_all" 2 (dSp K zho):=by exists jk T6 ["stacks", "total", "stack"] λr a t=>dm (fx t cf) (dm (m7 (kj (bj a)) t.pg (dy (znh t (vj (bq (gh (uu a (kj (bj a)) (λ_ _ _ _ _ _ _ a=>gy c4 r (bq (bj a) dc)))) dc))))) (dy (fo (bj a))))
 have c7:Cal P w K mg base CX0 "top_sack" 1 (dSp K zi3):=by exists jk T7 ["stacks", "at"] λr a t=>dy (fo (j9 (eh (j2 (bj a) cf) a) cf))
 have c8:Cal P w K mg base CX0 "with_stack" 1 (dSp K yl):=by exists jk T8 ["stacks", "at", "stack"] λr a t=>dy (fo (gh (mh (gh (mh (gh (ue (bj a) vp (tm (j2 (bj a) cf)))) (gh (ja (bq (bj a) dc))))) (gh (ue (bj a) (tm (bj a)) vp)))))
 have c9:Cal P w K mg base CX0 "without_top" 2 (dSp K zfu):=by exists jk T9 ["stacks", "at"] λr a t=>dy (fo (gy c8 r (bq (bj a) (bq (bj a) (bq (gh (ue (eh (j2 (bj a) cf) a) (tm cf) vp)) dc)))))
 have e3:Cal P w K mg base CX0 "share_gap" 1 (dSp K zhb):=by exists jk b4 ["one", "other"] λr a t=>dy (fo (j2 (qz (eh cf a) (eh cf a)) (qz (eh cf a) (eh cf a))))
 have bf:Cal P w K mg base CX0 "share_sign" 2 (dSp K t4):=by exists jk b5 ["one", "other", "gap"] λr a t=>dm (fx t (gy e3 r (bq (bj a) (bq (bj a) dc)))) (dm (gw (lw (bj a) cf) (dy (fo cf)) ii) (dm (gw (me (bj a) cf) (dy (fo (p9 cf))) ii) (dy (fo cf))))
 have e4:Cal P w K mg base CX0 "single_block" 2 (dSp K zey):=by exists jk ca ["sack"] λr a t=>dy (fo (kx (bq cf (bq (gy c3 r (bq (bj a) dc)) (bq (gy c4 r (bq (bj a) dc)) dc)))))
 have e5:Cal P w K mg base CX0 "joined_block" 1 (dSp K zez):=by exists jk cc ["upper", "lower"] λr a t=>dy (fo (kx (bq (ky (eh cf a) (eh cf a)) (bq (ky (eh cf a) (eh cf a)) (bq (ky (eh cf a) (eh cf a)) dc)))))
 have bk:Cal P w K mg base CX0 "block_share" 1 (dSp K zd2):=by exists jk cd ["block"] λr a t=>dy (fo (kx (bq (eh cf a) (bq (eh cf a) dc))))
 have e6:Cal P w K mg base CX0 "has_greater_share" 3 (dSp K t5):=by exists jk ch ["upper", "lower"] λr a t=>dy (fo (z6m (gy bf r (bq (gy bk r (bq (bj a) dc)) (bq (gy bk r (bq (bj a) dc)) dc))) cf))
 have e8:Cal P w K mg base CX0 "stack_blocks" 4 (dSp K zgr):=by exists jk ck ["stack", "blocks", "sack", "block"] λr a t=>dm (o6 (t.psF (ja dc))) (dm (m7 (kj (bj a)) t.pg (dm (fx t (gy e4 r (bq (bj a) dc))) (dm (zne (dt_w (nt (lw (kz a) cf) (n4 (qy (mr (gy e6 r (bq (eh (p9 cf) a) (bq (bj a) dc)))))))) (dy (fx t (gy e5 r (bq (z4q a) (bq (bj a) dc)))))) (dy (jv (uy (bj a) a)))))) (dy (fo (bj a))))
 have bl:Cal P w K mg base CX0 "turn_share" 1 (dSp K wn):=by exists jk cl ["turn"] λr a t=>dy (fo (kx (bq (eh cf a) (bq (eh cf a) dc))))
 have e9:Cal P w K mg base CX0 "place_of_turn" 3 (dSp K zf7):=by exists jk cm ["turns", "turn", "place"] λr a t=>dm (fx t cf) (dm (zne (dt_w (nt (me (bj a) (kz a)) (n4 (wy (gy bf r (bq (gy bl r (bq (eh (bj a) a) dc)) (bq (gy bl r (bq (bj a) dc)) dc))) cf)))) (dy (znh t cf))) (dy (fo (bj a))))
 have fa:Cal P w K mg base CX0 "block_turns" 5 (dSp K yw):=by exists jk cn ["stacks", "turns", "at", "stack", "many", "hours", "loss", "turn"] λr a t=>dm (o6 (t.psF (ja dc))) (dm (zux (zxn (bq (bj a) dc)) (m8 t (m8 t zi)) (dy (zql (kj (gy e8 r (bq (bj a) dc))) (m8 t (m8 t (m8 t zi))) (dm (fx t (kx (bq (bj a) (bq (bj a) (bq (bj a) (bq (bj a) dc)))))) (dy (jv (zuw (zxw e9 r (z1i (z6x (bq (bj a) dc)) a)) (bj a) a))))))) (dy (fo (bj a))))
 have a9:Cal P w K mg base CX0 "told_order" 6 (fSp K wm):=by exists z64 co ["stacks", "order", "at", "many", "hours", "loss"] λr a t=>dm (o6 (t.psF (ja dc))) (dm (zql (kj (gy fa r (bq (bj a) dc))) (m8 t (m8 t (m8 t (m8 t zi)))) (dy (jv (zu3 (zzk (ja (bq (bj a) dc)) (bj a)) a)))) (dy (z06 a)))
 have H:Cal P w K mg base (CXr P w) "check_known" 1 (qSp K yt u8):=by exists qo bb ["stacks", "at"] λr a t=>dy (gw (dt_w (lv (me (bj a) cf) (mi (lw (bj a) (kz a))))) (dy (rq e zr0)) ii)
 have fe:Cal P w K mg base CX0 "check_known" 1 (dSp K zhg):=by exists jk bb ["stacks", "at"] λr a t=>dy (gw (dt_w (lv (me (bj a) cf) (mi (lw (bj a) (kz a))))) (dy znd) ii)
 have fh:Cal P w K mg base CX0 "check_whole" 1 (dSp K zhi):=by exists jk cp ["stacks", "order", "left", "at"] λr a t=>dm (o6 (z9 a t (kj (bj a)) (λ_ _ _ _ _ _ _ a=>kz a))) (dm (m7 (kj (bj a)) t.pg (dm (gw (jx (eh (j2 (bj a) cf) a) cf) (dy znd) ii) (dy (zxr (j2 (bj a) cf) cf a)))) (dy (gw (lw (z1h a) cf) (dy znd) ii)))
 have fi:Cal P w K mg base CX0 "check_order" 2 (dSp K zhk):=by exists jk cq ["stacks", "order", "at"] λr a t=>dm (m7 (kj (bj a)) t.pg (dy (jv (gy fe r (bq (bj a) (bq (bj a) dc)))))) (dy (jv (gy fh r (bq (bj a) (bq (bj a) dc)))))
 have fk:Cal P w K mg base CX0 "taken_sacks" 3 (dSp K zft):=by exists jk ct ["stacks", "order", "taken", "sacks", "at"] λr a t=>dm (jv (gy fi r (bq (bj a) (bq (bj a) dc)))) (dm (o6 (z9 a t (kj (bj a)) (λ_ _ _ _ _ _ _ a=>cf))) (dm (o6 (t.psF (ja dc))) (dm (m7 (kj (bj a)) t.pg (dm (jv (uy (j9 (eh (j2 (bj a) cf) a) (eh (j2 (bj a) cf) a)) a)) (dy (zxq (j2 (bj a) cf) cf a)))) (dy (fo (bj a))))))
 have fl:Cal P w K mg base CX0 "order_cost" 4 (dSp K zii):=by exists jk cu ["stacks", "order", "cost", "hour", "sack"] λr a t=>dm (fx t cf) (dm (fx t cf) (dm (m7 (kj (gy fk r (bq (bj a) (bq (bj a) dc)))) t.pg (dm (znh t (gy c3 r (bq (bj a) dc))) (dy (znh t (qz (gy c4 r (bq (bj a) dc)) (bj a)))))) (dy (fo (bj a)))))
 have fp:Cal P w K mg base CX0 "least_cost" 7 (dSp K zgj):=by exists jk cv ["stacks"] λr a t=>dy (fo (gy fl r (bq (bj a) (bq (gh (zqi a9 r (bq (bj a) dc))) dc))))
 have fr:Cal P w K mg base CX0 "hours_gone" 1 (dSp K zgk):=by exists jk c0 ["stretches"] λr a t=>dm (gw (jx (kz a) cf) (dy (fo cf)) ii) (dy (fo (j9 (eh (p9 cf) a) cf)))
 have bm:Cal P w K mg base (CXr P w) "check_count" 1 (qSp K ze5 ze6):=by exists qo c1 ["many"] λr a t=>dy (gw (dt_w (lv (me (bj a) cf) (mi (lw (bj a) (rg S))))) (dy (rq m (xt (n6 ut (n6 (xv (rg S)) (n6 ut xu)))))) ii)
 have bo:Cal P w K mg base (CXr P w) "check_hours" 1 (qSp K ze7 yr):=by exists qo da ["hours"] λr a t=>dy (gw (dt_w (lv (me (bj a) cf) (mi (lw (bj a) (rg Y))))) (dy (rq o (xt (n6 ut (n6 (xv (rg Y)) (n6 ut xu)))))) ii)
 have a2:Cal P w K mg base (CXr P w) "check_loss" 1 (qSp K zee wj):=by exists qo dd ["loss"] λr a t=>dy (gw (dt_w (lv (me (bj a) cf) (mi (lw (bj a) (rg Z))))) (dy (rq q (xt (n6 ut (n6 (xv (rg Z)) xu))))) ii)
 have bp:Cal P w K mg base (CXr P w) "check_room" 2 (qSp K zfw yv):=by exists qo dj ["stacks"] λr a t=>dy (gw (wy (gy c5 r (bq (bj a) dc)) (rg R)) (dy (rq l (xt (n6 (xv (rg R)) (n6 ut xu))))) ii)
 have a3:Cal P w K mg base (CXr P w) "check_lies" 1 (qSp K zeh wg):=by exists qo dk ["stacks", "at"] λr a t=>dy (gw (jx (sy (bq (eh (j2 (bj a) cf) a) dc)) cf) (dy (rq j (xt (n6 ut (n6 (xv (bj a)) xu))))) ii)
 have br:Cal P w K mg base (CXr P w) "check_place" 1 (qSp K zfe yp):=by exists qo dp ["stack", "place"] λr a t=>dy (gw (dt_w (lv (me (bj a) cf) (mi (lw (bj a) (kz a))))) (dy (rq d zr0)) ii)
 have bs:Cal P w K mg base (CXr P w) "check_waits" 2 (qSp K zfa yq):=by exists qo dr ["stacks"] λr a t=>dy (gw (jx (gy c5 r (bq (bj a) dc)) cf) (dy (rq c zr0)) ii)
 have p:Cal P w K mg base (CXr P w) "check_deeds" 1 (qSp K wp t0):=by exists qo ds ["deeds"] λr a t=>dy (gw (wy (kz a) (rg V)) (dy (rq k (xt (n6 (xv (rg V)) (n6 ut xu))))) ii)
 have fs:Cal P w K mg base CX0 "next_number" 1 (dSp K zfx):=by exists jk dt ["deeds"] λr a t=>dy (fo (ky cf (sy (bq (gh (zo8 a (kj (bj a)) (λ_ _ _ _ _ _ _ a=>jx (eh cf a) gi) (λ_ _ _ _ _ _ _ a=>bj a))) dc))))
 have fv:Cal P w K mg base CX0 "told_anew" 2 (dSp K zjr):=by exists jk dv ["sack", "loss"] λr a t=>dy (fo (kx (bq (gy c2 r (bq (bj a) dc)) (bq (gy c3 r (bq (bj a) dc)) (bq (bj a) dc)))))
 have a4:KCal P w K mg base "House" 2 (lSp K zce zer):=by exists z66 x mC kC pC N ["self", "many"] λr a t=>dm (lq (jv (ml bm r (ju (bq (bj a) dc)))) (nc (m9 bm r (ju (bq (bj a) dc))))) (dm (zr5 D a (ja dc)) (dy (zr5 J a (ja (bq (kx (bq (gh (uu a (wd (bq (bj a) dc)) (λ_ _ _ _ _ _ _ a=>gh (ja dc)))) (bq (gh (ja dc)) dc))) dc)))))
 have U:MCal P w K mg base "House" "piles" 1 (qSp K qh zme):=by exists y7 x cs O ["self"] λr a t=>dy (fo (j9 (zu7 (vy J a) (zzr zzq)) cf))
 have b:MCal P w K mg base "House" "spans" 1 (qSp K se zmf):=by exists y7 x cs Q ["self"] λr a t=>dy (fo (j9 (zu7 (vy J a) (zzr zzq)) cf))
 have g:MCal P w K mg base "House" "keep" 1 (lSp K qg zn5):=by exists wv x cs T ["self", "deed", "piles", "spans"] λr a t=>dm (jv (zha (vy D a) (bj a))) (dy (jv (zha (vy J a) (kx (bq (bj a) (bq (bj a) dc))))))
 have z:MCal P w K mg base "House" "put" 3 (lSp K zfk yk):=by exists wv x cs X ["self", "at", "hours", "loss", "piles", "number", "stack"] λr a t=>dm (fx t (n8 U r a)) (dm (lq (jv (ml H r (ju (bq (bj a) (bq (bj a) dc))))) (nc (m9 H r (ju (bq (bj a) (bq (bj a) dc)))))) (dm (lq (jv (ml bo r (ju (bq (bj a) dc)))) (nc (m9 bo r (ju (bq (bj a) dc))))) (dm (lq (jv (ml a2 r (ju (bq (bj a) dc)))) (nc (m9 a2 r (ju (bq (bj a) dc))))) (dm (lq (jv (ml bp r (ju (bq (bj a) dc)))) (nc (m9 bp r (ju (bq (bj a) dc))))) (dm (lq (jv (ur (λ_ _=>ml p r (ju (bq (tu D a) dc))))) (nc (zr3 (λ_ _=>m9 p r (ju (bq (tu D a) dc)))))) (dm (fx t (ur (λ_ _=>gy fs r (bq (tu D a) dc)))) (dm (fx t (gh (mh (gh (ja (bq (kx (bq (bj a) (bq (bj a) (bq (bj a) dc)))) dc))) (eh (j2 (bj a) cf) a)))) (dm (jv (wc g r (bq (kx (bq gi (bq (bj a) (bq (bj a) (bq (bj a) dc))))) (bq (gy c8 r (bq (bj a) (bq (bj a) (bq (bj a) dc)))) (bq (n8 b r a) dc))) a)) (dy (fo (bj a)))))))))))
 have A:MCal P w K mg base "House" "tell" 3 (lSp K zei yn):=by exists wv x cs aa ["self", "at", "place", "loss", "piles", "stack", "sack", "changed"] λr a t=>dm (fx t (n8 U r a)) (dm (lq (jv (ml H r (ju (bq (bj a) (bq (bj a) dc))))) (nc (m9 H r (ju (bq (bj a) (bq (bj a) dc)))))) (dm (lq (jv (ml a3 r (ju (bq (bj a) (bq (bj a) dc))))) (nc (m9 a3 r (ju (bq (bj a) (bq (bj a) dc)))))) (dm (fx t (eh (j2 (bj a) cf) a)) (dm (lq (jv (ml br r (ju (bq (bj a) (bq (bj a) dc))))) (nc (m9 br r (ju (bq (bj a) (bq (bj a) dc)))))) (dm (lq (jv (ml a2 r (ju (bq (bj a) dc)))) (nc (m9 a2 r (ju (bq (bj a) dc))))) (dm (lq (jv (ur (λ_ _=>ml p r (ju (bq (tu D a) dc))))) (nc (zr3 (λ_ _=>m9 p r (ju (bq (tu D a) dc)))))) (dm (fx t (eh (j2 (bj a) cf) a)) (dm (fx t (gh (mh (gh (mh (gh (ue (bj a) vp (tm (j2 (bj a) cf)))) (gh (ja (bq (gy fv r (bq (bj a) (bq (bj a) dc))) dc))))) (gh (ue (bj a) (tm (bj a)) vp))))) (dm (jv (wc g r (bq (kx (bq gi (bq (bj a) (bq (bj a) (bq (bj a) dc))))) (bq (gy c8 r (bq (bj a) (bq (bj a) (bq (bj a) dc)))) (bq (n8 b r a) dc))) a)) (dy (fo (gy c4 r (bq (bj a) dc)))))))))))))
 have B:MCal P w K mg base "House" "go" 3 (lSp K zgd yg):=by exists wv x cs ab ["self", "at", "piles"] λr a t=>dm (fx t (n8 U r a)) (dm (lq (jv (ml H r (ju (bq (bj a) (bq (bj a) dc))))) (nc (m9 H r (ju (bq (bj a) (bq (bj a) dc)))))) (dm (lq (jv (ml a3 r (ju (bq (bj a) (bq (bj a) dc))))) (nc (m9 a3 r (ju (bq (bj a) (bq (bj a) dc)))))) (dm (lq (jv (ur (λ_ _=>ml p r (ju (bq (tu D a) dc))))) (nc (zr3 (λ_ _=>m9 p r (ju (bq (tu D a) dc)))))) (dm (jv (wc g r (bq (kx (bq gi (bq (bj a) dc))) (bq (gy c9 r (bq (bj a) (bq (bj a) dc))) (bq (n8 b r a) dc))) a)) (dy (fo (gy c7 r (bq (bj a) (bq (bj a) dc)))))))))
 have E:MCal P w K mg base "House" "back" 1 (lSp K zek ym):=by exists wv x cs ag ["self"] λr a t=>dm (gw (jx (zns (vy D a)) cf) (dy (rq i zr0)) ii) (dm (jv (zlf (vy J a))) (dy (fo (zlf (vy D a)))))
 have a5:MCal P w K mg base "House" "hour" 2 (qSp K zfy zn6):=by exists y7 x cs al ["self"] λr a t=>dy (fo (gy fr r (bq (n8 b r a) dc)))
 have F:MCal P w K mg base "House" "dry" 7 (lSp K zfl yi):=by exists wv x cs an ["self", "piles", "at", "sack", "begun", "stretch"] λr a t=>dm (fx t (n8 U r a)) (dm (lq (jv (ml bs r (ju (bq (bj a) dc)))) (nc (m9 bs r (ju (bq (bj a) dc))))) (dm (lq (jv (ur (λ_ _=>ml p r (ju (bq (tu D a) dc))))) (nc (zr3 (λ_ _=>m9 p r (ju (bq (tu D a) dc)))))) (dm (fx t (j9 (gh (zqi a9 r (bq (bj a) dc))) cf)) (dm (fx t (gy c7 r (bq (bj a) (bq (bj a) dc)))) (dm (fx t (n8 a5 r a)) (dm (fx t (kx (bq (bj a) (bq (ky (bj a) (gy c3 r (bq (bj a) dc))) (bq (gy c6 r (bq (bj a) dc)) dc))))) (dm (jv (wc g r (bq (kx (bq gi dc)) (bq (gy c9 r (bq (bj a) (bq (bj a) dc))) (bq (gh (mh (n8 b r a) (gh (ja (bq (bj a) dc))))) dc))) a)) (dy (fo (bj a))))))))))
 have a6:MCal P w K mg base "House" "order" 7 (qSp K zfb zmg):=by exists y7 x cs ap ["self"] λr a t=>dy (fo (gh (zqi a9 r (bq (n8 U r a) dc))))
 have a7:MCal P w K mg base "House" "cost" 8 (qSp K zef zn7):=by exists y7 x cs ar ["self"] λr a t=>dy (fo (gy fp r (bq (n8 U r a) dc)))
 have a8:Cal P w K mg base CX0 "_law_whole" 1 (dSp K u5):=by exists jk dx ["_law_found"] λr a t=>dy (fo (zzg (ul z4u (bj a)) (zzf (z4e (ul z09 (bj a))))))
 have fw:Cal P w K mg base CX0 "_law_at" 1 (dSp K zid):=by exists jk d0 ["_law_script", "_law_k"] λr a t=>dm (gw (me (bj a) (kz a)) (dy (fo (eh (bj a) a))) ii) (dy (fo cf))
 have f0:Cal P w K mg base CX0 "_law_draws" 2 (dSp K zfi):=by exists jk d1 ["_law_script", "_law_many_here", "_law_made", "_law_state", "_law_k", "_law_cell"] λr a t=>dm (o6 (t.psF (ja dc))) (dm (fx t cf) (dm (m7 (wd (bq (bj a) dc)) t.pg (dm (fx t (gy fw r (bq (bj a) (bq (bj a) dc)))) (dm (gw (jx (mj (kz a) cf) cf) (dm (fx t (mj (ky (ky (ky (qz (bj a) cf) (bj a)) (bj a)) cf) cf)) (dy (fx t (mj (qz (ky (bj a) (bj a)) cf) cf)))) ii) (dy (jv (uy (bj a) a)))))) (dy (fo (bj a)))))
 have f1:Cal P w K mg base CX0 "_law_best" 1 (dSp K zf8):=by exists jk d2 ["_law_sacks", "_law_best_here", "_law_hours", "_law_loss", "_law_k"] λr a t=>dm (fx t (gh (ja (bq cf (bq cf (bq (p9 cf) dc)))))) (dm (fx t cf) (dm (fx t cf) (dm (m7 (wd (bq (kz a) dc)) t.pg (dm (fx t (ky (bj a) (j9 (eh (bj a) a) cf))) (dm (fx t (ky (bj a) (j9 (eh (bj a) a) cf))) (dy (gw (wy (qz (bj a) (eh cf a)) (qz (eh cf a) (bj a))) (dy (fx t (gh (ja (bq (ky (bj a) cf) (bq (bj a) (bq (bj a) dc))))))) ii))))) (dy (fo (bj a))))))
 have f2:Cal P w K mg base CX0 "_law_turns" 2 (dSp K zfj):=by exists jk d3 ["_law_stacks", "_law_left", "_law_made", "_law_heads", "_law_pick", "_law_k"] λr a t=>dm (o6 (z9 a t (kj (bj a)) (λ_ _ _ _ _ _ _ a=>gh (zum (bq (bj a) dc))))) (dm (o6 (t.psF (ja dc))) (dm (zne (lw (vj (bq (gh (zxs a (zzm a) (λ_ _ _ _ _ _ _ a=>kz a))) dc)) cf) (dm (zus (zxt a t (zzm a) (λ_ _ _ _ _ _ _ a=>gy f1 r (bq (bj a) dc)))) (dm (fx t cf) (dm (m7 (wd (bq (kz a) dc)) t.pg (dy (gw (lw (qz (j9 (eh (bj a) a) cf) (j9 (eh (bj a) a) cf)) (qz (j9 (eh (bj a) a) cf) (j9 (eh (bj a) a) cf))) (dy (fx t (bj a))) ii))) (dm (jv (uy (kx (bq (ky (bj a) cf) (bq (j9 (eh (bj a) a) cf) (bq (j9 (eh (bj a) a) cf) (bq (j9 (eh (bj a) a) cf) dc))))) a)) (dy (znf (bj a) (gh (ue (eh (bj a) a) (tm (j9 (eh (bj a) a) cf)) vp)) a))))))) (dy (fo (bj a)))))
 have f3:Cal P w K mg base CX0 "_law_taken" 1 (dSp K zik):=by exists jk ea ["_law_stacks", "_law_order", "_law_taken_here", "_law_made", "_law_at_here"] λr a t=>dm (o6 (z9 a t (kj (bj a)) (λ_ _ _ _ _ _ _ a=>cf))) (dm (o6 (t.psF (ja dc))) (dm (m7 (kj (bj a)) t.pg (dm (jv (uy (j9 (eh (j2 (bj a) cf) a) (eh (j2 (bj a) cf) a)) a)) (dy (znf (j2 (bj a) cf) (ky (eh (j2 (bj a) cf) a) cf) a)))) (dy (fo (bj a)))))
 have f4:Cal P w K mg base CX0 "_law_cost" 1 (dSp K zjn):=by exists jk eb ["_law_sacks", "_law_hour", "_law_total", "_law_sack"] λr a t=>dm (fx t cf) (dm (fx t cf) (dm (m7 (kj (bj a)) t.pg (dm (fx t (ky (bj a) (eh cf a))) (dy (fx t (ky (bj a) (qz (eh cf a) (bj a))))))) (dy (fo (bj a)))))
 have f5:Cal P w K mg base CX0 "_law_is_order" 2 (dSp K zga):=by exists jk ec ["_law_found", "_law_stacks", "_law_taken_here", "_law_at_here", "_law_k"] λr a t=>dm (gw (qy (mr (ul z1a (bj a)))) (dy (fo pj)) ii) (dm (o6 (z9 a t (kj (bj a)) (λ_ _ _ _ _ _ _ a=>cf))) (dm (m7 (kj (bj a)) t.pg (dm (gw (dt_w (lv (qy (mr (gy a8 r (bq (bj a) dc)))) (lv (me (bj a) cf) (mi (lw (bj a) (kz a)))))) (dy (fo pj)) ii) (dy (znf (j2 (bj a) cf) (ky (eh (j2 (bj a) cf) a) cf) a)))) (dm (m7 (wd (bq (kz a) dc)) t.pg (dy (gw (vg (eh (bj a) a) (sy (bq (eh (bj a) a) dc))) (dy (fo pj)) ii))) (dy (fo pj)))))
 have ba:Cal P w K mg base CX0 "_law_same_row" 2 (dSp K zc1):=by exists jk ed ["_law_found", "_law_due", "_law_k"] λr a t=>dm (gw (dt_w (lv (qy (mr (ul zrt (bj a)))) (mi (vg (kz a) (kz a))))) (dy (fo pj)) ii) (dm (m7 (wd (bq (kz a) dc)) t.pg (dm (gw (dt_w (nt (mr (ul zuu (eh (bj a) a))) (n4 (qy (mr (ul zuu (eh (bj a) a))))))) (dy (fo pj)) ii) (dm (gw (dt_w (nt (qy (mr (ul zuu (eh (bj a) a)))) (n4 (qy (mr (gy a8 r (bq (eh (bj a) a) dc))))))) (dy (fo pj)) ii) (dy (gw (vg (eh (bj a) a) (eh (bj a) a)) (dy (fo pj)) ii))))) (dy (fo pj)))
 obtain⟨RA,hR,hS⟩:=s.rot;have kk:KCl P w K mg base "_law_kind" 1 kdT:=by exists z68 ee ["_law_error", "_law_kinds", "_law_words", "_law_found"] zyv λu v y a t=>dm (fx t (gh (ja (bq (o5 s u v y a) (bq (o5 s u v y a) dc))))) (dm (fx t (gh (mh (bj a) (gh (ja (bq (o5 s u v y a) (bq (o5 s u v y a) dc))))))) (dm (fx t (gh (mh (bj a) (gh (ja (bq (o5 s u v y a) (bq (o5 s u v y a) dc))))))) (dm (fx t (gh (mh (bj a) (gh (ja (bq (o5 s u v y a) (bq (o5 s u v y a) dc))))))) (dm (fx t (gh (mh (bj a) (gh (ja (bq (o5 s u v y a) (bq (o5 s u v y a) dc))))))) (dm (fx t (gh (mh (bj a) (gh (ja (bq (o5 s u v y a) (bq (o5 s u v y a) dc))))))) (dm (fx t (gh (mh (bj a) (gh (ja (bq (o5 s u v y a) dc)))))) (dm (fx t (gh (ja (bq gi (bq gi (bq gi (bq gi (bq gi (bq gi dc))))))))) (dm (fx t (gh (mh (bj a) (gh (ja (bq gi (bq gi (bq gi (bq gi (bq gi dc)))))))))) (dm (fx t (gh (mh (bj a) (gh (ja (bq gi (bq gi dc))))))) (dm (zus (zqk (λ_ _ _ _ _ _ _ I h=>y.comp I h) a t (zmp (λit lo n=>zqt it lo n) (bq cf dc)) (λ_ _ _ _ _ _ _ y a=>dt_w (nt (mr (eh (bj a) a)) (n4 (mr (z5d s u v y a))))) (λ_ _ _ _ _ _ _ y a=>eh (bj a) a))) (dy (fo (z1r (bq (gh (mh (gh (ja (bq gi dc))) (bj a))) dc))))))))))))))
 have ga:Cal P w K mg base CX0 "_law_deed" 1 (dSp K zhy):=by exists jk ef ["_law_cell", "_law_piles", "_law_many_here", "_law_words", "_law_word", "_law_odd", "_law_figure", "_law_at_here", "_law_hours", "_law_loss", "_law_tall", "_law_place"] λr a t=>dm (fx t (kz a)) (dm (fx t (gh (ja (bq gi (bq gi (bq gi (bq gi (bq gi (bq gi (bq gi (bq gi (bq gi (bq gi (bq gi (bq gi dc))))))))))))))) (dm (fx t (eh (mj (bj a) cf) a)) (dm (fx t (mj (td (bj a) cf) cf)) (dm (fx t (td (bj a) cf)) (dm (fx t (ky cf (mj (bj a) (zzh (bq (bj a) (bq cf dc)))))) (dm (fx t (td (bj a) cf)) (dm (gw (dt_w (lv (jx (bj a) cf) (mi (jx (bj a) cf)))) (dy (fx t (j9 (gh (ja (bq cf (bq (ky (bj a) cf) (bq (p9 cf) (bq (zf cf cf) dc)))))) (mj (bj a) cf)))) ii) (dm (fx t (ky cf (mj (bj a) cf))) (dm (gw (jx (bj a) cf) (dy (fx t (j9 (gh (ja (bq cf (bq cf (bq (p9 cf) (bq (zf cf cf) dc)))))) (mj (bj a) cf)))) ii) (dm (fx t (mj (td (bj a) cf) cf)) (dm (gw (lw (bj a) cf) (dm (fx t (ky cf (mj (bj a) cf))) (dy (fx t (mj (bj a) cf)))) ii) (dm (gw (jx (bj a) cf) (dy (fx t (j9 (gh (ja (bq (p9 cf) (bq cf (bq (p9 (zf cf cf)) (bq (zf cf cf) dc)))))) (mj (td (bj a) cf) cf)))) ii) (dm (fx t cf) (dm (gw (dt_w (nt (z4d cf (bj a)) (n4 (z4d (bj a) (bj a))))) (dy (fx t (sy (bq (eh (j2 (bj a) cf) a) dc)))) ii) (dm (fx t (ky cf (mj (td (bj a) cf) (zzh (bq (bj a) (bq cf dc)))))) (dm (gw (jx (bj a) cf) (dy (fx t (j9 (gh (ja (bq cf (bq (ky (bj a) cf) (bq (p9 cf) (bq (zf cf cf) dc)))))) (mj (td (bj a) cf) cf)))) ii) (dm (gw (jx (bj a) gi) (dy (fo (kx (bq gi (bq (bj a) (bq (bj a) (bq (bj a) dc))))))) ii) (dm (gw (jx (bj a) gi) (dy (fo (kx (bq gi (bq (bj a) (bq (bj a) (bq (bj a) dc))))))) ii) (dm (gw (jx (bj a) gi) (dy (fo (kx (bq gi (bq (bj a) dc))))) ii) (dy (fo (kx (bq (bj a) dc)))))))))))))))))))))))
 have bt:Cal P w K mg base CX0 "_law_refusal" 1 (dSp K u7):=by exists jk ei ["_law_piles", "_law_kept", "_law_deed_here", "_law_word"] λr a t=>dm (fx t (eh cf a)) (dm (gw (jx (bj a) gi) (dy (fo (j9 (gh (ja (bq gi (bq gi dc)))) (z03 (bq (zw8 (bj a) cf) dc))))) ii) (dm (gw (jx (bj a) gi) (dy (gw (jx (vj (bq (gh (uu a (kj (bj a)) (λ_ _ _ _ _ _ _ a=>kz a))) dc)) cf) (dy (fo gi)) ii)) (dy (gw (dt_w (lv (me (eh cf a) cf) (mi (lw (eh cf a) (kz a))))) (dy (fo gi)) (dy (gw (dt_w (nt (vg (bj a) gi) (n4 (jx (sy (bq (eh (j2 (eh cf a) cf) a) dc)) cf)))) (dy (fo gi)) ii))))) (dm (gw (dt_w (nt (jx (bj a) gi) (n4 (dt_w (lv (me (eh cf a) cf) (mi (lw (eh cf a) (sy (bq (eh (j2 (eh cf a) cf) a) dc))))))))) (dy (fo gi)) ii) (dm (gw (dt_w (nt (jx (bj a) gi) (n4 (dt_w (lv (me (eh cf a) cf) (mi (lw (eh cf a) cf))))))) (dy (fo gi)) ii) (dm (gw (dt_w (nt (dt_w (lv (jx (bj a) gi) (mi (jx (bj a) gi)))) (n4 (dt_w (lv (me (eh cf a) cf) (mi (lw (eh cf a) cf))))))) (dy (fo gi)) ii) (dm (gw (dt_w (nt (jx (bj a) gi) (n4 (wy (vj (bq (gh (uu a (kj (bj a)) (λ_ _ _ _ _ _ _ a=>kz a))) dc)) cf)))) (dy (fo gi)) ii) (dm (gw (wy (bj a) cf) (dy (fo gi)) ii) (dy (fo gi)))))))))
 have bv:Cal P w K mg base (CXr P w) "_law_ask" 8 (lSp K zh1 yf):=by exists z1o ej ["_law_house", "_law_deed_here"] λr a t=>dm (gw (jx (eh cf a) gi) (dy (lq (fo (wc z r (bq (eh cf a) (bq (eh cf a) (bq (eh cf a) dc))) a)) (xw (znq z r (bq (eh cf a) (bq (eh cf a) (bq (eh cf a) dc))) a)))) ii) (dm (gw (jx (eh cf a) gi) (dy (lq (fo (wc A r (bq (eh cf a) (bq (eh cf a) (bq (eh cf a) dc))) a)) (xw (znq A r (bq (eh cf a) (bq (eh cf a) (bq (eh cf a) dc))) a)))) ii) (dm (gw (jx (eh cf a) gi) (dy (lq (fo (wc B r (bq (eh cf a) dc) a)) (xw (znq B r (bq (eh cf a) dc) a)))) ii) (dm (gw (jx (eh cf a) gi) (dy (lq (fo (zmr F r a)) (xw (zpj F r a)))) ii) (dy (lq (fo (zmr E r a)) (xw (zpj E r a)))))))
 have gb:Cal P w K mg base (CXr P w) "_law_call" 9 (lSp K r8 zp3):=by exists z1o el ["_law_house", "_law_deed_here", "_law_refused", "e"] λr a t=>dm (fx t (kx (bq gi (bq gi dc)))) (dm (z1t hR hS kk r a t (λ_ _ a t=>dy (lq (fo (zlt bv r (vz (ju (bq (bj a) dc)) a))) (xw (zx1 bv r (vz (ju (bq (bj a) dc)) a)))))) (dy (fo (bj a))))
 have gd:Cal P w K mg base CX0 "_law_step" 3 (dSp K sf):=by exists jk en ["_law_piles", "_law_deed_here", "_law_number", "_law_left", "_law_k", "_law_sack"] λr a t=>dm (z07 (zxf a t (kj (bj a)) (λ_ _ _ _ _ _ _ a=>zum (bq (bj a) dc)))) (dm (fx t cf) (dm (gw (lw (kz a) cf) (dy (fx t (j2 (eh cf a) cf))) ii) (dm (gw (jx (eh cf a) gi) (dm (zr7 (λ_ _=>bj a) (zvb (λ_ _=>mh (gh (ja (bq (kx (bq (bj a) (bq (eh cf a) (bq (eh cf a) dc)))) dc))) (eh (bj a) a))) a) (dy (fo (gh (ja (bq (bj a) (bq (bj a) dc))))))) ii) (dm (gw (jx (eh cf a) gi) (dm (fx t (ur (λ_ _=>j9 (eh (bj a) a) (j2 (eh cf a) cf)))) (dm (zvd (λ_ _=>bj a) (λ_ _=>j2 (eh cf a) cf) (kx (bq (eh cf a) (bq (eh cf a) (bq (eh cf a) dc)))) a) (dy (fo (gh (ja (bq (bj a) (bq (eh cf a) dc)))))))) ii) (dm (gw (jx (eh cf a) gi) (dy (fx t (j2 (j9 (j9 (gy f2 r (bq (bj a) dc)) cf) cf) cf))) ii) (dm (fx t (ur (λ_ _=>j9 (eh (bj a) a) cf))) (dm (zr7 (λ_ _=>bj a) (zvb (λ_ _=>ue (eh (bj a) a) (tm cf) vp)) a) (dy (fo (gh (ja (bq (bj a) (bq (bj a) dc)))))))))))))
 have gj:Cal P w K mg base CX0 "_law_rate" 1 (dSp K zhv):=by exists jk eo ["_law_piles"] λr a t=>dy (fo (vj (bq (gh (uu a (kj (bj a)) (λ_ _ _ _ _ _ _ a=>vj (bq (gh (uu a (kj (bj a)) (λ_ _ _ _ _ _ _ a=>eh cf a))) dc)))) dc)))
 have gr:Cal P w K mg base CX0 "_law_same_answer" 3 (dSp K yx):=by exists jk ep ["_law_found", "_law_due"] λr a t=>dm (gw (mr (ul zrt (bj a))) (dy (fo (gy ba r (bq (bj a) (bq (bj a) dc))))) ii) (dy (fo (zzg (gy a8 r (bq (bj a) dc)) (zzf (zw8 (bj a) (bj a))))))
 have gs:Cal P w K mg base CX0 "_law_many" 1 (dSp K zhw):=by exists jk er ["_law_header"] λr a t=>dy (fo (j9 (gh (ja (bq cf (bq cf (bq cf (bq cf (bq cf (bq cf (bq cf (bq cf (bq cf (bq cf (bq cf (bq cf dc)))))))))))))) (mj (bj a) cf)))
 have gu:Cal P w K mg base CX0 "_law_rates" 1 (dSp K zit):=by exists jk es ["_law_dried", "_law_rates_here", "_law_begun", "_law_dry", "_law_rate_here"] λr a t=>dm (fx t (gh (ja dc))) (dm (zql (kj (bj a)) (m8 t (m8 t (m8 t zi))) (dy (fx t (gh (mh (bj a) (gh (zzk (ja (bq (bj a) dc)) (j2 (bj a) (bj a))))))))) (dy (fo (bj a))))
 have gx:Cal P w K mg base (CXr P w) "_law_do" 10 (lSp K uz zto):=by exists z1o et ["_law_house", "_law_state", "_law_deed_here", "_law_piles", "_law_kept", "_law_past", "_law_dried", "_law_due", "_law_found", "_law_ahead", "_law_step_here", "_law_hour"] λr a t=>dm (zx9 (m8 t (m8 t (m8 t (m8 t zi)))) a) (dm (fx t (gy bt r (bq (bj a) (bq (zns (zg a)) (bq (bj a) dc))))) (dm (fx t (zlt gb r (vz (ju (bq (bj a) dc)) a))) (dm (gw (vg (bj a) gi) (dy (fo (gy ba r (bq (bj a) (bq (kx (bq gi (bq (bj a) dc))) dc))))) ii) (dm (gw (jx (eh cf a) gi) (dm (fx t (zlf (zg a))) (dm (zlg (eh cf a) a) (dm (zlg (eh cf a) a) (dy (fo (gy ba r (bq (bj a) (bq (zlf (zg a)) dc)))))))) ii) (dm (fx t (gy gd r (bq (bj a) (bq (bj a) (bq (ur (λ_ _=>ky cf (sy (bq (gh (zo8 a (kj (bj a)) (λ_ _ _ _ _ _ _ a=>jx (eh cf a) gi) (λ_ _ _ _ _ _ _ a=>bj a))) dc)))) dc))))) (dm (jv (zha (zg a) (kx (bq (bj a) (bq (bj a) dc))))) (dm (jv (zha (zg a) (bj a))) (dm (zlg (eh cf a) a) (dm (gw (jx (eh cf a) gi) (dm (fx t (sy (bq (gy gu r (bq (bj a) dc)) dc))) (dy (zlg (gh (mh (bj a) (gh (ja (bq (kx (bq (bj a) (bq (ky (bj a) (j9 (eh cf a) cf)) (bq (gy gj r (bq (bj a) dc)) dc)))) dc))))) a))) ii) (dy (fo (gy gr r (bq (bj a) (bq (eh cf a) dc))))))))))))))
 have g0:Cal P w K mg base (CXr P w) "_law_new" 1 (gSp K zhz zra):=by exists z65 eu ["_law_many_here"] λr a t=>dy (zx4 (z1n (z47 (λ_ _=>gh (uu a (wd (bq (bj a) dc)) (λ_ _ _ _ _ _ _ a=>gh (ja dc)))) (z48 (λ_ _=>ja dc) (z48 (λ_ _=>ja dc) (z47 (λ_ _=>gh (ja dc)) z1m))))))
 have g1:Cal P w K mg base CX0 "_law_cells" 1 (dSp K ziu):=by exists jk ev ["_law_cells_here", "_law_made", "_law_cell"] λr a t=>dm (o6 (t.psF (ja dc))) (dm (m7 (kj (bj a)) t.pg (dm (jv (uy (bj a) a)) (dy (gw (jx (mj (td (bj a) cf) cf) cf) (dm (jv (uy (bj a) a)) (dy (jv (uy (bj a) a)))) ii)))) (dy (fo (bj a))))
 have b0:Cal P w K mg base (CXr P w) "_law_told_cost" 9 (qSp K wo zku):=by exists qo ew ["_law_house", "_law_piles", "_law_told", "_law_found"] λr a t=>dm (fx t (n8 a6 r a)) (dm (fx t (n8 a7 r a)) (dm (gw (dt_w (lv (qy (mr (gy f5 r (bq (bj a) (bq (bj a) dc))))) (mi (qy (mr (gy a8 r (bq (bj a) dc))))))) (dy (fo (p9 cf))) ii) (dm (gw (vg (bj a) (gy f4 r (bq (gy f3 r (bq (bj a) (bq (bj a) dc))) dc))) (dy (fo (p9 cf))) ii) (dy (fo (bj a))))))
 have b1:Cal P w K mg base CX0 "_law_loss_at" 1 (dSp K u6):=by exists jk ex ["_law_piles", "_law_deed_here"] λr a t=>dm (gw (dt_w (lv (me (eh cf a) cf) (lv (lw (eh cf a) (kz a)) (lv (me (eh cf a) cf) (mi (lw (eh cf a) (sy (bq (eh (j2 (eh cf a) cf) a) dc)))))))) (dy (fo cf)) ii) (dy (fo (j9 (j9 (eh (j2 (eh cf a) cf) a) (j2 (eh cf a) cf)) cf)))
 exact z67 ["_law_script", "_law_draws_here", "_law_many_here", "_law_house", "_law_state", "_law_ahead", "_law_cell", "_law_deed_here", "_law_refused", "_law_less", "_law_more", "_law_behind"] λr a t=>dm (fx t (gy f0 r (bq (bj a) (bq cf dc)))) (dm (fx t (gy gs r (bq (eh cf a) dc))) (dm (zr1 t (zx6 a4 r (bq (bj a) dc))) (dm (zr1 t (zx5 g0 r (bq (bj a) dc))) (dm (fx t (ml b0 r (vz (ju (bq (xr a) dc)) a))) (dm (m7 (kj (gy g1 r (bq (gh (ue (bj a) (tm cf) (tm (j2 cf (mj (td (eh cf a) cf) cf))))) dc))) t.pg (dm (fx t (gy ga r (bq (bj a) (bq (xr a) dc)))) (dm (fx t (z6n (gy bt r (bq (xr a) (bq (zns (z1l a)) (bq (bj a) dc)))) gi)) (dm (fx t (zw8 (eh cf a) gi)) (dm (fx t (zw8 (eh cf a) gi)) (dm (gw (jx (eh cf a) gi) (dm (fx t (z6l (eh cf a) (gy b1 r (bq (xr a) (bq (bj a) dc))))) (dy (fx t (z4c (eh cf a) (gy b1 r (bq (xr a) (bq (bj a) dc))))))) ii) (dm (gw (qy (mr (zlt gx r (vz (vz (ju (bq (bj a) dc)) a) a)))) (dy (fo pj)) ii) (dm (fx t (ml b0 r (vz (ju (bq (xr a) dc)) a))) (dm (gw (dt_w (lv (me (bj a) cf) (mi (dt_w (nt (mr (bj a)) (n4 (vg (bj a) (bj a)))))))) (dy (fo pj)) ii) (dm (gw (dt_w (lv (dt_w (nt (mr (bj a)) (n4 (lw (bj a) (bj a))))) (mi (dt_w (nt (mr (bj a)) (n4 (me (bj a) (bj a)))))))) (dy (fo pj)) ii) (dy (fx t (bj a))))))))))))) (dy (fo (z4c (bj a) cf))))))))
end SQ
namespace SQ
open PySem L2 LB
variable{k:l1}{p:mu}{s:Hs}{ts:l0}{n:Nat}
theorem zk4(hi:HI n k p s)(ok:TurnsOk s.1 ts):wo [hA k (p++[s])] [ssL s.1]=some (.int (fc 0 (flat ts))):=by
 have J:=hi.at;have l5:=hi.l5;have R:=J.few;have S:=zhr ok (z51 ok J.good R (by lia)) R;have I:=ok.whole;have Y:(jq ts).length<=14:=by rw[I.len];exact R
 have Z:=zys (k:=k) (p:=p) S;have a:=zrh hi ok;have b:=zny (fc 0 (flat ts));have U:=zpv I (by lia) (by lia);have V:=zq7 (tk s.1 (jq ts)) λx c=>J.good x (I.sk x c);rw[zv3 ok,show(ts.map (·.2)).flatten=flat ts from rfl] at U V;have d:=zq8 I (by lia);have D:∃e',zdd (kg 4 [hA k (p++[s])] [ssL s.1])=some (.rt (.int (fc 0 (flat ts))),e'):=by
  rw[show kg 4 [hA k (p++[s])] [ssL s.1]=[some (.ro kH (hP k (p++[s]))),some (.sh (ssL s.1)),none,none] from rfl];generalize fc 0 (flat ts)=v at *;generalize (flat ts).map sD=FL at *;generalize iD (jq ts)=OL at *;generalize ssL s.1=SS at *;simp[zdd,fK0r,cQ0,zz2,Z,a,b,U,V,d]
 obtain⟨e',D⟩:=D;unfold wo runQ;rw[if_pos ⟨rfl,rfl⟩,D]
theorem ztq(ss:lx)(a m l:Int)(g:ss.length<=5)(h:∀t∈ss,t.length<=14):u6 [ssL ss,cD (.d (.tell a m l))]=some (.int (curL ss a m)):=by
 refine zxx rfl ?_;rw[show jl 2 [ssL ss,cD (.d (.tell a m l))]=[some (.sh (.lst (ss.map λs=>D.lst (s.map sD)))),some (.sh (.tup [.str "tell",.int a,.int m,.int l]))] from rfl];have R:∀x y z w:D,atI [x,y,z,w] 1=some y:=λ_ _ _ _=>rfl;have b:∀x y z w:D,atI [x,y,z,w] 2=some z:=λ_ _ _ _=>rfl;have V:(((ss.map λs=>D.lst (s.map sD)).length:Nat):Int)=(ss.length:Int):=by rw[ah]
 unfold curL;by_cases J:a<1
 ·rw[if_pos (.inl J)]
  simp only[yo,sSeq,sIf,fOr,fTst,fBin,fIxV,ixSl,fC,R,dLt,decide_eq_true J,sRet,ae,af,ac,aj,if_true];exact⟨_,rfl⟩
 by_cases I:(ss.length:Int)<a
 ·rw[if_pos (.inr (.inl I))]
  generalize (ss.map λs=>D.lst (s.map sD))=L at *;rw[<-V] at I;simp only[yo,sSeq,sIf,fOr,fTst,fBin,fIxV,i9,ixSl,fC,R,dLt,dGt,decide_eq_false J,decide_eq_true I,sRet,ae,af,ac,aj,if_true,bw,if_false];exact⟨_,rfl⟩
 by_cases Z:m<1
 ·rw[if_pos (.inr (.inr (.inl Z)))]
  generalize (ss.map λs=>D.lst (s.map sD))=L at *;rw[<-V] at I;simp only[yo,sSeq,sIf,fOr,fTst,fBin,fIxV,i9,ixSl,fC,R,b,dLt,dGt,decide_eq_false J,decide_eq_false I,decide_eq_true Z,sRet,ae,af,ac,aj,if_true,bw,if_false];exact⟨_,rfl⟩
 obtain⟨t,ht⟩:∃t,t=ss.getD (a.toNat-1) []:=⟨_,rfl⟩;rw[<-ht];have c:=qd (ss:=ss) (a:=a) (by lia);rw[<-ht] at c;have S:atI (ss.map λs=>D.lst (s.map sD)) (a-1)=some (.lst (t.map sD)):=by
  have:=ly (λs:lu=>D.lst (s.map sD)) c;rwa [show((a.toNat-1:Nat):Int)=a-1 by lia] at this
 have tl:((t.map sD).length:Int)=(t.length:Int):=by rw[ah]
 by_cases U:(t.length:Int)<m
 ·rw[if_pos (.inr (.inr (.inr U)))]
  generalize (ss.map λs=>D.lst (s.map sD))=L at *;generalize t.map sD=TL at *;rw[<-V] at I;rw[<-tl] at U;simp only[yo,sSeq,sIf,fOr,fTst,fBin,fIxV,i9,ixSl,fC,R,b,dLt,dGt,dSub,S,d5,aw,fNil,bLen,decide_eq_false J,decide_eq_false I,decide_eq_false Z,decide_eq_true U,sRet,ae,af,ac,aj,if_true,bw,if_false];exact⟨_,rfl⟩
 ·rw[if_neg (by lia)]
  have e:t[m.toNat-1]?=some (t.getD (m.toNat-1) (0,0,0)):=by rw[av,aq (by lia)];rfl
  have f:dIx (.lst (t.map sD)) (.int (m-1))=some (sD (t.getD (m.toNat-1) (0,0,0))):=by
   have:=ly sD e;rw[show((m.toNat-1:Nat):Int)=m-1 by lia] at this;exact this
  generalize t.getD (m.toNat-1) (0,0,0)=y at *;have h2:dIx (sD y) (.int 2)=some (.int y.2.2):=rfl;generalize (ss.map λs=>D.lst (s.map sD))=L at *;generalize t.map sD=TL at *;generalize sD y=Y at *;rw[<-V] at I;rw[<-tl] at U;simp only[yo,sSeq,sIf,fOr,fTst,fBin,fIxV,i9,ixSl,fC,R,b,dLt,dGt,dSub,S,f,h2,d5,aw,fNil,bLen,decide_eq_false J,decide_eq_false I,decide_eq_false Z,decide_eq_false U,sNil,sRet,ae,af,ac,aj,if_true,bw,if_false];exact⟨_,rfl⟩
def leB(ss:lx):Cmd->Bool | .d (.go _)=>true | .d (.tell a m l)=>decide (l<=curL ss a m) | _=>false
def moB(ss:lx):Cmd->Bool | .d (.put _ _ _)=>true | .d (.tell a m l)=>decide (curL ss a m<=l) | _=>false
variable{c:Cmd}
theorem z7l{k1:l1}{p1:mu}{U:Hs}{D:l0}(hi:HI n k p s)(I:HI n k1 p1 U)(J:Mv k p s c k1 p1 U)(ok:TurnsOk s.1 ts)(R:TurnsOk U.1 D) :
  ((!decide (dueW (cmdX s.1 k.length c) = ""))=true->fc 0 (flat D)=fc 0 (flat ts))/\(leB s.1 c=true->fc 0 (flat D)<=fc 0 (flat ts))/\(moB s.1 c=true->fc 0 (flat ts)<=fc 0 (flat D)):=by
 unfold Mv at J;cases hx:cmdX s.1 k.length c with
 | some x =>
   rw[hx] at J;obtain⟨rfl,rfl,rfl⟩:=J;have S:=zrh hi ok;rw[zrh I R] at S;have S:fc 0 (flat D)=fc 0 (flat ts):=by simpa using S
   exact⟨λ_=>S,λ_=>by lia,λ_=>by lia⟩
 | none =>
   rw[hx] at J;refine⟨λh=>by rw[show dueW none = "" from rfl] at h;simp at h,?_⟩;cases c with
   | back=>exact⟨λh=>(by cases h),λh=>(by cases h)⟩
   | d d =>
     obtain⟨rfl,rfl⟩:=J;have m:=mono hi I ok R;cases d with
     | put a h l=>exact⟨λh=>(by cases h),λ_=>m⟩
     | go a=>exact⟨λ_=>m,λh=>(by cases h)⟩
     | dry=>exact⟨λh=>(by cases h),λh=>(by cases h)⟩
     | tell a b l=>exact⟨λh=>m.1 (of_decide_eq_true h),λh=>m.2 (of_decide_eq_true h)⟩
variable{A B C:la}
def pre{R:FS}(hi:HI n k p s)(U V Z Y J I:la) :
  sSeq (sSet 8 (fBin dNe (d5 u7 (aw (fDat 4 0) (aw (pLen (.at .ls) 4 1) (aw (fVar 7) (fNil))))) (fC (.str "")))) (sSeq (sSet 9 (fBin dEq (fIxV 7 (fC (.int 0))) (fC (.str "go")))) (sSeq (sSet 10 (fBin dEq (fIxV 7 (fC (.int 0))) (fC (.str "put")))) (sSeq (sIf (fTst (fBin dEq (fIxV 7 (fC (.int 0))) (fC (.str "tell")))) (sSeq (sSet 9 (fBin dLe (fIxV 7 (fC (.int 3))) (d5 u6 (aw (fDat 4 0) (aw (fVar 7) (fNil)))))) (sSet 10 (fBin dGe (fIxV 7 (fC (.int 3))) (d5 u6 (aw (fDat 4 0) (aw (fVar 7) (fNil))))))) (sNil)) R)))
   (EL A B C k p s [U,V,some (.sh (cD c)),Z,Y,J,I])=R (EL A B C k p s [U,V,some (.sh (cD c)),some (.sh (.bl (!decide (dueW (cmdX s.1 k.length c) = "")))),some (.sh (.bl (leB s.1 c))),some (.sh (.bl (moB s.1 c))),I]):=by
 have l5:=hi.l5;have rf:=zg4 s.1 k.length c l5;have f:∀Z Y J,fDat 4 0 (EL A B C k p s [U,V,some (.sh (cD c)),Z,Y,J,I])=some (ssL s.1,EL A B C k p s [U,V,some (.sh (cD c)),Z,Y,J,I]):=λ_ _ _=>rfl;have g:∀Z Y J,pLen (.at .ls) 4 1 (EL A B C k p s [U,V,some (.sh (cD c)),Z,Y,J,I])=some (.int (k.length:Int),EL A B C k p s [U,V,some (.sh (cD c)),Z,Y,J,I]):=λ_ _ _=>zy1;have i:sSet 8 (fBin dNe (d5 u7 (aw (fDat 4 0) (aw (pLen (.at .ls) 4 1) (aw (fVar 7) (fNil))))) (fC (.str ""))) (EL A B C k p s [U,V,some (.sh (cD c)),Z,Y,J,I])=some (.nx,EL A B C k p s [U,V,some (.sh (cD c)),some (.sh (.bl (!decide (dueW (cmdX s.1 k.length c) = "")))),Y,J,I]):=by
  simp only[sSet,fBin,d5,aw,fNil,fVar,f,g,rf,fC,dNe,ae,af,ac,aj];rfl
 rw[sSeq,i,ac];show sSeq _ _ _=_;generalize some (Sl.sh (.bl (!decide (dueW (cmdX s.1 k.length c) = ""))))=w8 at *;have S:∀(w:Str) (ds:k7) (b mo:Bool),cD c=.tup (.str w::ds)->(decide (w = "go")=b)->(decide (w = "put")=mo)->decide (w = "tell")=false->leB s.1 c=b->moB s.1 c=mo ->
   sSeq (sSet 9 (fBin dEq (fIxV 7 (fC (.int 0))) (fC (.str "go")))) (sSeq (sSet 10 (fBin dEq (fIxV 7 (fC (.int 0))) (fC (.str "put")))) (sSeq (sIf (fTst (fBin dEq (fIxV 7 (fC (.int 0))) (fC (.str "tell")))) (sSeq (sSet 9 (fBin dLe (fIxV 7 (fC (.int 3))) (d5 u6 (aw (fDat 4 0) (aw (fVar 7) (fNil)))))) (sSet 10 (fBin dGe (fIxV 7 (fC (.int 3))) (d5 u6 (aw (fDat 4 0) (aw (fVar 7) (fNil))))))) (sNil)) R)) (EL A B C k p s [U,V,some (.sh (cD c)),w8,Y,J,I])=R (EL A B C k p s [U,V,some (.sh (cD c)),w8,some (.sh (.bl (leB s.1 c))),some (.sh (.bl (moB s.1 c))),I]):=λw ds b mo e h1 h2 j o q=>by
  rw[e,o,q,<-h1,<-h2];unfold EL;simp only[sSeq,sSet,sIf,fTst,fBin,fIxV,ixSl,fC,at_0,dEq,j,sNil,ae,af,ay,ax,ac,aj,bw,if_false]
 cases c with
 | back=>exact S "back" [] false false rfl (by decide) (by decide) (by decide) rfl rfl
 | d d =>
   cases d with
   | put a h l=>exact S "put" _ false true rfl (by decide) (by decide) (by decide) rfl rfl
   | go a=>exact S "go" _ true false rfl (by decide) (by decide) (by decide) rfl rfl
   | dry=>exact S "dry" _ false false rfl (by decide) (by decide) (by decide) rfl rfl
   | tell a m l =>
     have r:=ztq s.1 a m l l5 hi.r14;have t:decide (("tell" : Str) = "go")=false:=by decide
     have u:decide (("tell" : Str) = "put")=false:=by decide
     have v:∀x y z w:D,atI [x,y,z,w] 3=some w:=λ_ _ _ _=>rfl;show _=R (EL A B C k p s [U,V,some (.sh (cD (.d (.tell a m l)))),w8,some (.sh (.bl (decide (l<=curL s.1 a m)))),some (.sh (.bl (decide (curL s.1 a m<=l)))),I]);rw[show cD (.d (.tell a m l))=.tup [.str "tell",.int a,.int m,.int l] from rfl] at *;unfold EL at *;generalize hP k (p++[s])=HP at *;generalize stP k p s=SP at *;generalize ssL s.1=SS at *;simp only[sSeq,sSet,sIf,fTst,fBin,fIxV,ixSl,fC,at_0,v,dEq,t,u,decide_true,if_true,d5,aw,fNil,fVar,f,r,dLe,dGe,ae,af,ay,ax,ac,aj]
theorem z2o(hi:HI n k p s)(ok:TurnsOk s.1 ts)(z:Int)(Z V Y R D:la) :
  ∃k' p' s' ts' q t u a b,HI n k' p' s'/\TurnsOk s'.1 ts'/\zol (EL A B C k p s [some (.sh (.int (fc 0 (flat ts)))),some (.sh (.int z)),Z,V,Y,R,D])=some (.nx,EL A B C k' p' s' [some (.sh (.int (fc 0 (flat ts')))),some (.sh (.int z)),q,t,u,a,b]):=by
 obtain⟨c,w⟩:=z2k z s.1;obtain⟨k1,p1,I,J,d,y⟩:=z7k (e:=EL A B C k p s [some (.sh (.int (fc 0 (flat ts)))),some (.sh (.int z)),some (.sh (cD c)),some (.sh (.bl (!decide (dueW (cmdX s.1 k.length c) = "")))),some (.sh (.bl (leB s.1 c))),some (.sh (.bl (moB s.1 c))),D]) (i:=3) (j:=4) (c:=c) (F:=aw (fVar 7) fNil) (by decide) hi rfl rfl rfl;obtain⟨S,U,_⟩:=ze4 I.1 J.at.good J.at.few;obtain⟨E,G,H⟩:=z7l hi J y ok U;have Q:0<=fc 0 (flat S):=zok _ 0 (ie _) λx K=>J.at.good x ((zp5 U).2.2 x K);have L:=zk4 J U;refine⟨k1,p1,I,S,some (.sh (cD c)),some (.sh (.bl (!decide (dueW (cmdX s.1 k.length c) = "")))),some (.sh (.bl (leB s.1 c))),some (.sh (.bl (moB s.1 c))),some (.sh (.int (fc 0 (flat S)))),J,U,?_⟩;have M:fDat 4 0 (EL A B C k p s [some (.sh (.int (fc 0 (flat ts)))),some (.sh (.int z)),Z,V,Y,R,D])=some (ssL s.1,EL A B C k p s [some (.sh (.int (fc 0 (flat ts)))),some (.sh (.int z)),Z,V,Y,R,D]):=rfl;have N:sSet 7 (d5 zhy (aw (fVar 6) (aw (fDat 4 0) fNil))) (EL A B C k p s [some (.sh (.int (fc 0 (flat ts)))),some (.sh (.int z)),Z,V,Y,R,D])=some (.nx,EL A B C k p s [some (.sh (.int (fc 0 (flat ts)))),some (.sh (.int z)),some (.sh (cD c)),V,Y,R,D]):=by
  simp only[sSet,d5,aw,fNil,fVar,M,w,ae,af,ac,aj];rfl
 unfold zol;rw[sSeq,N,ac];show sSeq _ _ _=_;rw[pre hi];have O:fDat 4 0 (EL A B C k1 p1 I [some (.sh (.int (fc 0 (flat ts)))),some (.sh (.int z)),some (.sh (cD c)),some (.sh (.bl (!decide (dueW (cmdX s.1 k.length c) = "")))),some (.sh (.bl (leB s.1 c))),some (.sh (.bl (moB s.1 c))),D])=some (ssL I.1,EL A B C k1 p1 I [some (.sh (.int (fc 0 (flat ts)))),some (.sh (.int z)),some (.sh (cD c)),some (.sh (.bl (!decide (dueW (cmdX s.1 k.length c) = "")))),some (.sh (.bl (leB s.1 c))),some (.sh (.bl (moB s.1 c))),D]):=rfl;have f:=zsk (m:=wo) (F:=aw (fDat 4 0) fNil) (e:=EL A B C k1 p1 I [some (.sh (.int (fc 0 (flat ts)))),some (.sh (.int z)),some (.sh (cD c)),some (.sh (.bl (!decide (dueW (cmdX s.1 k.length c) = "")))),some (.sh (.bl (leB s.1 c))),some (.sh (.bl (moB s.1 c))),D]) (i:=3) (l:=none) (ps:=hP k1 (p1++[I])) rfl (r:=([ssL I.1],EL A B C k1 p1 I [some (.sh (.int (fc 0 (flat ts)))),some (.sh (.int z)),some (.sh (cD c)),some (.sh (.bl (!decide (dueW (cmdX s.1 k.length c) = "")))),some (.sh (.bl (leB s.1 c))),some (.sh (.bl (moB s.1 c))),D])) (by simp only[aw,fNil,O,ac,aj]) rfl;rw[show[((kH,hP k1 (p1++[I])):Ag)]=[hA k1 (p1++[I])] from rfl,L] at f;unfold EL at *;simp only[ay,ax] at d;generalize (!decide (dueW (cmdX s.1 k.length c) = ""))=rf at *;generalize leB s.1 c=le at *;generalize moB s.1 c=mo at *;generalize fc 0 (flat ts)=v at *;generalize fc 0 (flat S)=v1 at *;generalize hP k1 (p1++[I])=HP1 at *;generalize stP k1 p1 I=SP1 at *;generalize hP k (p++[s])=HP at *;generalize stP k p s=SP at *;generalize cD c=CC at *;have P:decide (v1<0)=false:=decide_eq_false (by lia);have g:(rf && !decide (v1=v))=false:=by cases rf with | false=>rfl | true=>simp[E rfl]
 have h:(le && decide (v<v1))=false:=by cases le with | false=>rfl | true=>have:=G rfl;simp;lia
 have o:(mo && decide (v1<v))=false:=by cases mo with | false=>rfl | true=>have:=H rfl;simp;lia
 cases rf <;> cases le <;> cases mo <;> simp only[Bool.true_and,Bool.false_and] at g h o <;> simp[d,f,P,g,h,o]
def zwo:∀(a:ik) (k:l1) (p:mu) (s:Hs) (ts:l0) (Z R S U I J:la),HI n k p s->TurnsOk s.1 ts->∃k' p' s' ts' i b c d V Y,HI n k' p' s'/\TurnsOk s'.1 ts'/\forL 6 zol (a.map D.int) (EL A B C k p s [some (.sh (.int (fc 0 (flat ts)))),Z,R,S,U,I,J])=some (.nx,EL A B C k' p' s' [some (.sh (.int (fc 0 (flat ts')))),i,b,c,d,V,Y])
 | [],k,p,s,ts,Z,R,S,U,I,J,hi,ok=>⟨k,p,s,ts,Z,R,S,U,I,J,hi,ok,rfl⟩
 | z::a,k,p,s,ts,Z,R,S,U,I,J,hi,ok=>by
   obtain⟨k1,p1,j,e,b,c,d,V,Y,h1,l,m⟩:=z2o (A:=A) (B:=B) (C:=C) hi ok z R S U I J;obtain⟨k2,p2,s2,f,o,q,r,t,g,h,h2,u,v⟩:=zwo a k1 p1 j e (some (.sh (.int z))) b c d V Y h1 l;refine⟨k2,p2,s2,f,o,q,r,t,g,h,h2,u,?_⟩;rw[bn,forL,show(EL A B C k p s [some (.sh (.int (fc 0 (flat ts)))),Z,R,S,U,I,J]).set 6 (some (.sh (.int z)))=EL A B C k p s [some (.sh (.int (fc 0 (flat ts)))),some (.sh (.int z)),R,S,U,I,J] from rfl,m];exact v
theorem good(I:ik)(N:I.length<=63):z55 [.lst (I.map D.int)]=some (.bl true):=by
 obtain⟨cs,S,U⟩:=zye I 61 (by lia);have U:zfi [.lst (I.map D.int),.int 61]=some (.lst (cs.map D.int)):=U;have g:atI (cs.map D.int) 0=some (.int cs[0]):=ly (k:=0) D.int (by simp[S]);obtain⟨n,J,h⟩:=z2j cs[0];have V:=z50 J;obtain⟨j,o,q⟩:=zwj cs (some 1) (some ((61:Int)-cs[0] / 12 % 61));obtain⟨ws,t,u⟩:=zy0 j (by lia);have hi:=HI.new J;obtain⟨A,eA⟩:∃A:la,A=some (.sh (.lst (I.map D.int))):=⟨_,rfl⟩;obtain⟨B,eB⟩:∃A:la,A=some (.sh (.lst (cs.map D.int))):=⟨_,rfl⟩;obtain⟨C,eC⟩:∃A:la,A=some (.sh (.int n)):=⟨_,rfl⟩;obtain⟨ts,ok,_⟩:=ze4 (newS n).1 hi.at.good hi.at.few;have v:=zk4 hi ok;have w:fDat 4 0 (EL A B C [] [] (newS n) [none,none,none,none,none,none,none])=some (ssL (newS n).1,EL A B C [] [] (newS n) [none,none,none,none,none,none,none]):=rfl;have Y:=zsk (m:=wo) (F:=aw (fDat 4 0) fNil) (e:=EL A B C [] [] (newS n) [none,none,none,none,none,none,none]) (i:=3) (l:=none) (ps:=hP [] ([]++[newS n])) rfl (r:=([ssL (newS n).1],EL A B C [] [] (newS n) [none,none,none,none,none,none,none])) (by simp only[aw,fNil,w,ac,aj]) rfl;rw[show[((kH,hP [] ([]++[newS n])):Ag)]=[hA [] ([]++[newS n])] from rfl,v] at Y;obtain⟨k,p,s,R,y,z,E,G,Z,a,H,b,f⟩:=zwo (A:=A) (B:=B) (C:=C) ws [] [] (newS n) ts none none none none none none hi ok;have K:decide ((0:Int)<=fc 0 (flat R))=true:=decide_eq_true (zok _ 0 (ie _) λx L=>H.at.good x ((zp5 b).2.2 x L));have M:=z19 (n:=n) J (F:=aw (fVar 2) fNil) (e:=[A,B,C,none,none,none,none,none,none,none,none,none]) (by rw[eC];rfl);have c:dDiv (.int cs[0]) (.int 12)=some (.int (cs[0] / 12)):=zu4 (by decide) (by decide);have d:dMod (.int (cs[0] / 12)) (.int 61)=some (.int (cs[0] / 12 % 61)):=z1j (by decide);refine j3 (e':=EL A B C k p s [some (.sh (.int (fc 0 (flat R)))),y,z,E,G,Z,a]) rfl ?_;rw[show jl 12 [D.lst (I.map D.int)]=[some (.sh (.lst (I.map D.int))),none,none,none,none,none,none,none,none,none,none,none] from rfl];unfold EL at *;rw[lj] at Y f;subst eA eB eC;generalize fc 0 (flat ts)=v0 at *;generalize fc 0 (flat R)=v1 at *;generalize hP k (p++[s])=HP at *;generalize stP k p s=SP at *;generalize hP [] [newS n]=HP0 at *;generalize stP [] [] (newS n)=SP0 at *;simp only[z54,sSeq,sSet,d5,aw,fVar,fC,fNil,ae,af,ay,ax,ac,aj,U,fIxV,ixSl,g,h,zd,M,zr2,V,Y,sFor,fiS,fLst,fSl,fO1,fBin,dSub,zu4,c,d,o,u,f,sRet,dGe,K]
end SQ
end
open PySem PySem.W PyProof.Rows
open L2 (us1 us2 us3 us4 us5)
theorem PySem.Challenge.cw_rotstacks_k40_whole_never_dearer_holds : PySem.Challenge.rw_rotstacks_k40_whole_never_dearer.Holds := by
 refine headO ?_
 k_fill
 refine L2.walkD (k:=11) (s:="_law_script") (l:=PySem.Challenge.rw_rotstacks_k40_whole_never_dearer) ⟨rfl,by decide,by decide⟩ rfl rfl (λw h Y=>PySem.W.kIn_of Y) ?F;case F =>
  intro w mg fa h KX G hmg;refine' L2.law_mk KX G hmg ?a ?l ?c ?k ?b (SQ.ok_all _ _ _ _ _ _ _ _ _ _ _ _ _ _ _ _ _ _ _ _ _ _ _ _ _ _ _ _ _ _ _ _ _ _ _ _ _ _ _ _ _ _ _ _ _ _ _ _ _ _ _ _ _ _ _ _ _ _ _ _ _ _ _ _ _ _ _ _ _ _ _ _ ?hhC _ _ _ _ _ _ _ _ _ _ _ _ _ _ _ _ _ _ _ _ _ _ _ _ _ _ _ _ _ _ _ _ _ _) SQ.good
  (case a=>k_is)
  (case l=>k_is)
  (case c=>k_is)
  (case k=>k_is)
  (case b=>exact λv=>rfl)
  (case hhC=>unfold L2.Cl;k_is)
  all_goals first | (refine' L2.def_mk (by assumption) (by assumption) ?a ?l ?c ?k ?b;(case a=>k_is);(case l=>k_is);(case c=>k_is);(case k=>k_is);(case b=>first | exact us1 λ_=>rfl | exact us2 λ_ _=>rfl | exact us3 λ_ _ _=>rfl | exact us4 λ_ _ _ _=>rfl | exact us5 λ_ _ _ _ _=>rfl)) | (refine' L2.mef_mk ?a ?l ?c ?k ?i ?b;(case a=>k_is);(case l=>k_is);(case c=>k_is);(case k=>k_is);(case i=>k_is);(case b=>first | exact us1 λ_=>rfl | exact us2 λ_ _=>rfl | exact us3 λ_ _ _=>rfl | exact us4 λ_ _ _ _=>rfl | exact us5 λ_ _ _ _ _=>rfl)) | exact⟨by k_is,by k_is,by k_is,by k_is⟩ | exact PySem.W.mg_none_of KX G (by k_is) | exact kn KX G (by k_is) | (refine' L2.exc_mk KX G ?a ?b (by decide +kernel);(case a=>k_is);(case b=>k_exc)) | (refine' L2.con_mk KX G ?a;(case a=>k_is)) | exact L2.kf_mk KX G (by kernel_rfl) | k_is

