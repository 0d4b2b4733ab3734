import PyProof.Rows.All
import Wide.All
import OpenK.AllK
import Wide.FinOn
import Lean
import PyProof.EqAt
import PyProof.EqKinds
import PyProof.TupleCall
import PyProof.Draws
import PyProof.ZipIter
import PyProof.EnumMake
import PyProof.AttrMissHeap
import KE.KDictOf
import PyProof.Rows.SeqMore2
import PyProof.Rows.SortWalk
import KE.KTryMore
import PyProof.RulesAs
import PyProof.NsDelKeeps
import KE.KIsAll
import PyProof.ExcArgs
import PySem.Challenge.RW_rotstacks_k32_whole_blocks
set_option Elab.async false
set_option linter.all false
set_option maxRecDepth 100000
set_option compiler.extract_closed false
set_option bootstrap.genMatcherCode false
local macro_rules | `(command|def $i:declId $s:optDeclSig $v:declVal)=>`(command|noncomputable def $i:declId $s:optDeclSig $v:declVal)
set_option maxHeartbeats 0
def ac:=@Option.bind_some
def ae:=@List.getElem?_cons_zero
def af:=@List.getElem?_cons_succ
def ah:=@List.length_map
def ai:=@Option.map_some
def aj:=@List.getElem?_eq_some_iff
def ak:=@List.length_cons
def am:=@List.length_append
def ao:=@PySem.Heap.get?_push_of_some
def aq:=@List.set_cons_zero
def av:=@List.set_cons_succ
def aw:=@List.getElem?_append_left
def ax:=@List.mem_cons_of_mem
def ay:=@List.getElem?_eq_getElem
def az:=@Nat.lt_of_lt_of_le
def bc:=@List.size_toArray
def bg:=@PySem.Heap.lt_size
def bi:=@List.mem_of_getElem?
def bj:=@Bool.false_eq_true
def bn:=@List.mem_cons_self
def bq:=@Option.some.inj
def bu:=@List.length_nil
def bw:=@Nat.le_refl
def bx:=@List.nodup_cons
def bz:=@List.mem_append_right
def b6:=@Nat.ne_of_lt
def b7:=@List.getElem?_map
def b9:=@List.map_append
def cb:=@List.mem_cons
def ce:=@Bool.false_ne_true
def cf:=@List.map_cons
def cg:=@List.flatten_cons
def ci:=@PySem.Heap.get?_push_size
def cj:=@PySem.Heap.get?_update_other
def cq:=@List.lookup_cons
def cr:=@List.getElem?_eq_none
def cx:=@Nat.le_trans
def cy:=@List.mem_singleton
def cz:=@List.mem_append
def db:=@List.getElem?_set_ne
def dc:=@List.append_nil
def df:=@List.getElem?_append_right
def dg:=@List.getD_eq_getElem?_getD
def dh:=@Option.bind_eq_some_iff
def di:=@List.map_nil
def dm:=@List.length_take
def dn:=@List.length_set
def dr:=@Bool.and_eq_true
def du:=@List.mem_append_left
def dy:=@List.flatten_append
def d4:=@List.append_assoc
def d5:=@List.getElem?_set_self
def d6:=@PySem.W.kia_one
def d7:=@PySem.mem_of_lookup
def d8:=@List.length_replicate
def d9:=@List.sublist_flatten_of_mem
def eg:=@List.drop_eq_getElem_cons
def eh:=@List.ext_getElem?
def ei:=@List.pairwise_cons
def ek:=@Nat.lt_succ_self
def em:=@List.length_drop
def fc:=@List.mem_flatten
def fe:=@List.getElem_mem
def ff:=@Nat.lt_irrefl
def fg:=@List.mem_map
def fj:=@PySem.Heap.get?_update_self
def fm:=@PySem.F.plainAttrs_list
def ft:=@List.length_pos_iff
def fu:=@Nat.zero_le
def fz:=@Nat.lt_succ_of_lt
def f9:=@List.all_eq_true
def gc:=@Int.mul_le_mul_of_nonneg_right
def gh:=@List.take_append_of_le_length
def gi:=@Option.map_eq_some_iff
def gk:=@List.take_of_length_le
def gl:=@List.map_set
def gm:=@Int.mul_right_comm
def gn:=@Int.mul_assoc
def gp:=@List.getElem?_set
def gq:=@Int.toNat_natCast
def gw:=@List.pairwise_append
def gx:=@Int.add_mul
def ib:=@List.replicate_succ
def ie:=@List.length_flatten
def ii:=@List.sum_cons
def ij:=@PySem.Heap.size_push
def im:=@PySem.W.callWith_K
def io:=@List.filter_append
def iq:=@Int.eq_ofNat_of_zero_le
def i4:=@Nat.zero_add
def i5:=@List.map_map
def i6:=@PyProof.Rows.slot_tuple_getitem
def i7:=@List.takeWhile_append_dropWhile
def i8:=@List.length_singleton
def i9:=@List.drop_length
def ja:=@Bool.not_true
def jb:=@List.eq_nil_of_length_eq_zero
def jc:=@Int.mul_add
def jh:=@List.of_mem_zip
def ji:=@List.mem_filter
def jk:=@List.filterMap_cons
def jm:=@PyProof.Rows.callWith_type1
def jo:=@List.getElem?_concat_length
def jp:=@Int.mul_comm
def jt:=@List.zip_cons_cons
def ju:=@List.mem_range
def jv:=@Array.getElem?_eq_some_iff
def j1:=@List.length_range
def j2:=@Bool.not_eq_true'
def j4:=@PySem.W.mg_of
def j5:=@Option.isSome_iff_exists
def ke:=@Nat.le_of_not_lt
def kg:=@List.length_eq_zero_iff
def kh:=@List.filter_cons_of_pos
def ki:=@List.filter_cons_of_neg
def kr:=@PySem.W.cellsFrom_some
def kt:=@Nat.ne_of_gt
def ku:=@Int.zero_add
def kx:=@Option.map_none
def ky:=@List.nil_append
def kz:=@Bool.eq_iff_iff
def lh:=@List.take_append_drop
def li:=@List.singleton_append
def lj:=@List.dropLast_eq_take
def ly:=@Nat.sub_succ_lt_self
def lz:=@List.getElem?_zipIdx
def me:=@PySem.W.plainGet_of
def mf:=@List.getElem_of_mem
def mh:=@Array.length_toList
def my:=@List.mem_filterMap
def mz:=@List.map_replicate
def nh:=@PySem.W.kitx_list
def ni:=@Nat.lt_of_succ_le
def nj:=@Nat.le_succ_of_le
def nk:=@Nat.le_of_lt
def nn:=@List.take_succ_eq_append_getElem
def pf:=@List.flatten_nil
def ph:=@List.cons_append
def qa:=@Nat.le_succ
def qb:=@Int.mul_le_mul_of_nonneg_left
def re:=@Nat.le_antisymm
def tx:=@Int.mul_lt_mul_of_pos_right
def ut:=@PySem.boot_len
def uu:=@PySem.F.excBase_ValueError
def uv:=@List.take_left
def uw:=@Int.lt_of_mul_lt_mul_right
def ux:=@Int.le_of_mul_le_mul_right
def vz:=@List.pairwise_iff_getElem
def wb:=@List.getLast?_eq_some_iff
def wc:=@List.getLast?_eq_none_iff
def x6:=@PySem.F.type_list_append
def x8:=@PySem.F.slot_list_append
def x9:=@PySem.F.args_tuple_add_2
def zz:=@PySem.F.entry_tuple_add
def z0:=@List.getElem?_replicate
abbrev g9:=List PySem.Str
abbrev h7:=List PySem.Value
abbrev h8:=Option PySem.Value
abbrev ia:=List PySem.Addr
abbrev ic:=List Nat
abbrev ik:=List Int
abbrev i0:=List PySem.Env
abbrev ka:=List PySem.Expr
abbrev kb:=Option PySem.Str
abbrev kf:=Option Int
abbrev k4:=PySem.W.Frag
abbrev k6:=List (PySem.Addr×PySem.Obj)
abbrev k7:=Array PySem.Value
namespace PySem.W.Fast
def tw16532565388948089689:=0
def tw13555893974768387133:=0
def tw14316539223398669155:=0
def tw15359066029296091914:=0
def tw12228147544654841872:=0
def tw13348409745563679208:=0
def tw3301900299095288138:=0
def tw5983847421345645524:=0
def tw390746492956994619:=0
def tw13494128715974936559:=0
def tw7803279730508470376:=0
def tw14726039395708169042:=0
def tw8884897592538199573:=0
def tw9294097118904623754:=0
def tw8069911128597027471:=0
def tw12900544123078580037:=0
def tw7725012626891826632:=0
def tw83686271494855530:=0
def tw14767782586175439492:=0
def tw18424013207920332442:=0
def tw10900955558412200155:=0
def tw11426443043654593942:=0
def tw1489821537144307907:=0
def tw3232635945941642777:=0
def tw11223450378524075063:=0
def tw8566647405121714172:=0
def tw5557865022116740448:=0
def tw2310152115407694317:=0
def tw12264938177008825913:=0
def tw8221379785114272625:=0
def tw5794113773821822752:=0
def tw9730515312287759631:=0
def tw13829647151781561520:=0
def tw13413012072783188425:=0
def tw16452817190893736414:=0
def tw2762573382950998441:=0
def tw6493330665566167147:=0
def tw3307053570587155738:=0
def tw15831293633207555195:=0
def tw391037279417437330:=0
def tw12576833586557029387:=0
def tw13414405786833013108:=0
def tw4437080809759059605:=0
def tw7556450903620949716:=0
def tw5034716454303145026:=0
def tw6197353572417851572:=0
def tw10462138171525502897:=0
def tw8672185609985027439:=0
def tw3074404603848668348:=0
def tw9861558533797506370:=0
def tw5598528202930427401:=0
def tw15359102603107413231:=0
def tw3823070681319032280:=0
def tw12668837403108445984:=0
def tw7951472646213758859:=0
def tw210044324623842073:=0
def tw12791392028554949626:=0
def tw3940656549514326351:=0
def tw13372310052145129520:=0
def tw2043501010429613985:=0
def tw5638072327206742917:=0
def tw8106365122697232209:=0
def tw17557592337473064842:=0
def tw2940359101061682462:=0
def tw6163023441807191163:=0
def tw1089804193526757552:=0
def tw489658428743795868:=0
def tw1941158131923050496:=0
def tw5044657848819888094:=0
def tw2482843710108317932:=0
def tw13026136331304254567:=0
def tw11457838680292950747:=0
def tw185677493752296963:=0
def tw14057238044761739051:=0
def tw871618039370766144:=0
def tw661426467697074520:=0
def tw13252475720556201039:=0
def tw17059504660766422354:=0
def tw17806559798037380195:=0
def tw15803686785222356702:=0
def tw7259224906758229625:=0
def tw15732433535119192703:=0
def tw6296575575862129534:=0
def tw6636851955436695:=0
def tw520760608191861299:=0
def tw14196151101740859672:=0
def tw5141834587752207717:=0
def tw8936502833500920895:=0
def tw1042730745191015830:=0
def tw8168842266489454260:=0
def tw5830473581335204598:=0
def tw13216005959699228206:=0
def tw10369762716532579584:=0
def tw670046974156816329:=0
def tw9652735135388227967:=0
def tw2678646209641352363:=0
def tw15711869671402154468:=0
def tw10051351566672146426:=0
def tw11902841278549707520:=0
def tw6483710568601462799:=0
def tw9798687865813937216:=0
def tw14848821875180376310:=0
def tw14163884457187909044:=0
def tw2388936564005763016:=0
def tw18251893030405360759:=0
def tw6262621742691095627:=0
def tw12085653861347959118:=0
def tw7122239765987411625:=0
def tw10059333434424283850:=0
def tw17581998168518647442:=0
def tw8528296176800286927:=0
def tw923929161578708131:=0
def tw4855314216099888563:=0
def tw13111393704196124666:=0
def tw16518523057615377998:=0
def tw11944983581154280522:=0
def tw7027161504191823226:=0
def tw10760262531259780584:=0
def tw10184082262108008333:=0
def tw9832110386767757957:=0
def tw6692185827042602583:=0
def tw5051928251995058599:=0
def tw8334637872655713847:=0
def tw2653100503704486927:=0
def tw17436130570902122954:=0
def tw13954008924371047584:=0
def tw14643470665348594077:=0
def tw10625169327803781342:=0
def tw3018418718631485023:=0
def tw1431313312217236848:=0
def tw5112735133822708549:=0
def tw1628180050576995452:=0
def tw4750475656651446926:=0
def tw2071606587056475718:=0
def tw4889893562448275700:=0
def tw4895425382642465790:=0
def tw10064278401438594924:=0
def tw9234954786079030011:=0
def tw8226255479208371499:=0
def tw18167784821210252591:=0
def tw10405927150804094027:=0
def tw14616072416306043124:=0
def tw17731801680971310:=0
def tw11054019970778517585:=0
def tw13121867851967981337:=0
def tw1145097617785993354:=0
def tw14556100686425596895:=0
def tw13916040809530369296:=0
def tw10315033424820311358:=0
def tw15744690935255899439:=0
def tw9238318764281012090:=0
def tw1304929338181100159:=0
def tw12576081000109285875:=0
def tw18183320784809482314:=0
def tw8077465801024808693:=0
def tw3073379544998069777:=0
def tw1622557476127942605:=0
def tw11066789057533804942:=0
def tw13536869062205639005:=0
def tw12340551673284875809:=0
def tw7881732657216084209:=0
def tw14718228206582423800:=0
def tw11638739722516940127:=0
def tw6016840223995648031:=0
def tw14786972923689998084:=0
def tw16658151731271584020:=0
def tw11546335813446654231:=0
def tw4348695930679769728:=0
def tw10850915588502522953:=0
def tw2702439272556505636:=0
def tw2811824731477432661:=0
def tw17843410382910287299:=0
def tw10472215586378509919:=0
def tw4050732226601590682:=0
def tw12001160295815477938:=0
def tw14826912328538242741:=0
def tw15745789919013403160:=0
def tw12327211532354790546:=0
def tw15594794917597159775:=0
def tw7053964674782963634:=0
def tw16350272775003310265:=0
def tw15848108554550008055:=0
def tw12312779253733893085:=0
def tw13586417400837890204:=0
def tw15623725677461450909:=0
def tw8134376496471485022:=0
def tw16888146075410284241:=0
def tw9679322562879927657:=0
def tw5166654182613107631:=0
def tw4721184679926851813:=0
def tw16095411511866042282:=0
def tw6986209519638567572:=0
def tw11201857759490133884:=0
def tw10276145494591126561:=0
def tw13617027138147984029:=0
def tw12482032908850363226:=0
def tw5640359272655481057:=0
def tw9956761563748615301:=0
def tw15146276678955778912:=0
def tw1315591018374922464:=0
def tw16871584232092169642:=0
def tw15509039178638469261:=0
def tw10020126217023852985:=0
def tw7399771249758580916:=0
def tw7470472829763555575:=0
def tw5910249020813440600:=0
def tw10509573546818073268:=0
def tw12779886806967036166:=0
def tw3035226437086075926:=0
def tw5062136379586313953:=0
def tw11114441641902549053:=0
def tw6731854756357519614:=0
def tw4437363248016740340:=0
def tw683955573386985426:=0
def tw17568970013642025323:=0
def tw15399392379912836652:=0
def tw13923418127731320396:=0
end PySem.W.Fast
open_top headO for PySem.Challenge.rw_rotstacks_k32_whole_blocks
noncomputable section
namespace L2
open PySem PySem.Spec PyProof.Rows
abbrev Key:=Sum Int Str
def z02:Key->Value->Bool
 | .inl k,v=>Value.isInt k v
 | .inr x,v=>Value.isStrOf x v
def keyH(w:World):Key->Int
 | .inl k=>hashInt k
 | .inr x=>hashStr w x
def tj:∀ {k:Key} {v:Value},z02 k v=true->(∃i t,k=Sum.inl i/\v=Value.int i t)\/(∃x t,k=Sum.inr x/\v=Value.str x t)
 | .inl i,v,h=>by
   obtain⟨t,e⟩:=Value.isInt_shape (k:=i) (v:=v) h;exact .inl ⟨i,t,rfl,e⟩
 | .inr x,v,h=>by
   obtain⟨t,e⟩:=Value.isStrOf_shape (x:=x) (v:=v) h;exact .inr ⟨x,t,rfl,e⟩
def z03(a b:Int):decide ((Sum.inl a:Key)=Sum.inl b)=(a==b):=by
 by_cases e:a=b
 ·subst e;simp
 ·have h:¬(Sum.inl a:Key)=Sum.inl b:=λq=>e (Sum.inl.inj q)
  rw[decide_eq_false h];exact(beq_eq_false_iff_ne.mpr e).symm
def z04(a b:Str):decide ((Sum.inr a:Key)=Sum.inr b)=decide (a=b):=by
 by_cases e:a=b
 ·subst e;simp
 ·have h:¬(Sum.inr a:Key)=Sum.inr b:=λq=>e (Sum.inr.inj q)
  rw[decide_eq_false h,decide_eq_false e]
def z05(a:Int)(b:Str):decide ((Sum.inl a:Key)=Sum.inr b)=false:=decide_eq_false (λq=>nomatch q)
def z06(a:Str)(b:Int):decide ((Sum.inr a:Key)=Sum.inl b)=false:=decide_eq_false (λq=>nomatch q)
def zsj(prog:Program)(w:World):PySem.KeyKind prog w Key where
 is:=z02
 hash:=keyH w
 inj:=λv a b J I=>by
  rcases tj J with⟨i,t,rfl,rfl⟩ | ⟨x,t,rfl,rfl⟩
  ·rcases tj I with⟨j,u,rfl,e⟩ | ⟨y,u,rfl,e⟩
   ·injection e with e1 _;rw[e1]
   ·exact nomatch e
  ·rcases tj I with⟨j,u,rfl,e⟩ | ⟨y,u,rfl,e⟩
   ·exact nomatch e
   ·injection e with e1 _;rw[e1]
 byValue:=λk v h=>by
  rcases tj h with⟨i,t,rfl,rfl⟩ | ⟨x,t,rfl,rfl⟩ <;> rfl
 pyHash:=λD h=>by
  rcases tj D with⟨i,t,rfl,rfl⟩ | ⟨x,t,rfl,rfl⟩
  ·exact wpAny_pyHash_int h
  ·exact wpAny_pyHash_str h
 eqBool:=λR D h=>by
  rcases tj R with⟨i,t,rfl,rfl⟩ | ⟨x,t,rfl,rfl⟩
  ·rcases tj D with⟨j,u,rfl,rfl⟩ | ⟨y,u,rfl,rfl⟩
   ·rw[z03] at h;exact wpAny_eqBool_int h
   ·rw[z05] at h;exact SeqAt.EqAt.int_str i t y u _ _ _ _ h
  ·rcases tj D with⟨j,u,rfl,rfl⟩ | ⟨y,u,rfl,rfl⟩
   ·rw[z06] at h;exact SeqAt.EqAt.str_int x t j u _ _ _ _ h
   ·rw[z04] at h;exact wpAny_eqBool_str h
 «strs»:=λk x t v h=>by
  rcases tj h with⟨i,u,rfl,e⟩ | ⟨y,u,rfl,e⟩
  ·exact nomatch e
  ·injection e with e1 _
   subst e1;cases v <;> rfl
inductive V where
 | non | bl (b:Bool) | int (i:Int) | str (x:Str) | byt (b:Array UInt8) | flt (b:UInt64) | ref (a:Addr) | ty (n:String)
 deriving DecidableEq
abbrev k8:=List V
def RelV:V->Value->Prop
 | .non,u=>u=Value.none
 | .bl b,u=>u=Value.bool b
 | .int i,u=>∃t,u=Value.int i t
 | .str x,u=>∃t,u=Value.str x t
 | .byt b,u=>∃t,u=Value.bytes b t
 | .flt b,u=>∃t,u=Value.float b t
 | .ref a,u=>u=Value.ref a
 | .ty n,u=>u=Value.type n
abbrev Vals:k8->h7->Prop:=Paired RelV
def Vals.length{xs:k8}{us:h7}(r:Vals xs us):xs.length=us.length:=Paired.length r
def Vals.get:∀ {xs:k8} {us:h7} {i:Nat} {x:V},Vals xs us->xs[i]?=some x->∃u,us[i]?=some u/\RelV x u
 | _,_,_,_,.nil,e=>by simp at e
 | _,_,0,_,.cons r _,e=>by simp at e;subst e;exact⟨_,rfl,r⟩
 | _,_,i+1,x,.cons _ t,e=>by
   obtain⟨u,h1,h2⟩:=Vals.get (i:=i) (x:=x) t (by simpa using e);exact⟨u,by simpa using h1,h2⟩
def Vals.set{x:V}{u:Value}(r:RelV x u):∀ {xs:k8} {us:h7} (i:Nat),Vals xs us->Vals (xs.set i x) (us.set i u)
 | _,_,_,.nil=>.nil
 | _,_,0,.cons _ t=>.cons r t
 | _,_,i+1,.cons q t=>.cons q (Vals.set r i t)
variable{xs ys:k8}{us:h7}
def Vals.append{ws:h7}(h:Vals xs us)(s:Vals ys ws):Vals (xs++ys) (us++ws):=by
 induction h with
 | nil=>exact s
 | cons r _ q=>exact .cons r q
def Vals.take:∀ {xs:k8} {us:h7} (n:Nat),Vals xs us->Vals (xs.take n) (us.take n)
 | _,_,0,_=>.nil
 | _,_,_+1,.nil=>.nil
 | _,_,n+1,.cons r t=>.cons r (Vals.take n t)
def Vals.drop:∀ {xs:k8} {us:h7} (n:Nat),Vals xs us->Vals (xs.drop n) (us.drop n)
 | _,_,0,r=>r
 | _,_,_+1,.nil=>.nil
 | _,_,n+1,.cons _ t=>Vals.drop n t
def RelO:Option V->h8->Prop
 | some v,some u=>RelV v u
 | none,none=>True
 | _,_=>False
def KV{κ:Type}:List (κ×V)->List (κ×Value)->Prop:=Paired λ(p:κ×V) (q:κ×Value)=>p.1=q.1/\RelV p.2 q.2
def kV:Key->V
 | .inl i=>.int i
 | .inr x=>.str x
inductive HO where
 | lst (xs:k8)
 | tup (xs:k8)
 | dK (kvs:List (Key×V)) | dT (kvs:List (List Key×V))
 | set (S:Int->Bool) (n:Nat)
 | ins (C dx:Addr) (fs:List (Str×V))
 | own (x:Addr)
 | xd (fs:List (Str×V))
 | met (f x:Addr)
 | rng (lo hi:Int)
 | frz (o:Obj) (u:HO)
 | tbl (ps:k7)
 | ext (φ:Heap->Prop)
abbrev Hp:=Addr->Option HO
def upd(H:Hp)(a:Addr)(o:HO):Hp:=λb=>if b=a then some o else H b
variable{H:Hp}{a:Addr}{o:HO}
def j0:upd H a o a=some o:=by unfold upd;rw[if_pos rfl]
variable{b:Addr}
def gg(h:b≠a):upd H a o b=H b:=by unfold upd;rw[if_neg h]
def m6(h:H a=some o)(h':H b=none):a≠b:=by
 intro e;subst e;rw[h] at h';cases h'
section
variable (P:Program) (w:World)
def ObjOk(H:Hp)(h:Heap)(a:Addr):HO->Prop
 | .lst xs=>xs.length<=sizeLine/\∃(its:h7) (n:Nat),Vals xs its/\h.get? a=some { cls:=.type "list",data:=.seq its.toArray n }
 | .tup xs=>xs.length<=sizeLine/\∃its:h7,Vals xs its/\IsTup h a its.toArray
 | .dK kvs=>kvs.length<=sizeLine/\(a==sysModules)=false/\∃vs,KV kvs vs/\h.DictOf (zsj P w) a vs
 | .dT kvs=>kvs.length<=sizeLine/\(a==sysModules)=false/\∃xs:List (List Key×Addr×Value),
    Paired (λ(p:List Key×V) (q:List Key×Addr×Value)=>p.1=q.1/\H q.2.1=some (.tup (p.1.map kV))/\RelV p.2 q.2.2) kvs xs /\
    ∃o es D,h.get? a=some o/\o.ExactDict/\o.data=.dict es D/\es.toList=xs.map (entryOfKey (tupleKind (zsj P w)))/\(xs.map (·.1)).Nodup
 | .set S n=>h.SetOf (intKind P w) a S n
 | .ins C dx fs=>H dx=some (.own a)/\fs.length<=1000/\dx≠a/\h.get? a=some (PySem.W.instObj C dx) /\
    ∃mA,h.Ns1 dx mA/\(∀f,RelO (fs.lookup f) (mA f))/\PySem.Within mA (fs.map (·.1))
 | .own _=>∃o,h.get? a=some o
 | .xd fs=>∃mA,h.Ns1 a mA/\∀f,RelO (fs.lookup f) (mA f)
 | .rng lo hi=>∃t u v,h.get? a=some { cls:=.type "range",data:=.fields #[.int lo t,.int hi u,.int 1 v] }
 | .frz o u=>h.get? a=some o/\ObjOk H h a u
 | .tbl ps=>h.get? a=some { cls:=.none,data:=.fields ps }
 | .met f x=>h.get? a=some (PySem.W.methodObj (.ref f) (.ref x))
 | .ext φ=>φ h/\(∃o,h.get? a=some o)/\∀h1 h2:Heap,φ h1->(∀o,h1.get? a=some o->h2.get? a=some o)->φ h2
def HOk(H:Hp)(h:Heap):Prop:=∀a o,H a=some o->ObjOk P w H h a o
end
variable{P:Program}{w:World}{h:Heap}
def ObjOk.lt(x:ObjOk P w H h a o):a<h.objs.size:=by
 cases o with
 | lst xs=>obtain⟨_,_,_,_,e⟩:=x;exact bg e
 | tup xs=>obtain⟨_,_,_,p⟩:=x;exact p.lt
 | dK kvs=>obtain⟨_,_,_,_,o,_,_,e,_⟩:=x;exact bg e
 | dT kvs=>obtain⟨_,_,_,_,o,_,_,e,_⟩:=x;exact bg e
 | set S n=>obtain⟨o,_,_,_,e,_⟩:=x;exact bg e
 | ins C dx fs=>obtain⟨_,_,_,e,_⟩:=x;exact bg e
 | own y=>obtain⟨_,e⟩:=x;exact bg e
 | xd fs=>obtain⟨_,⟨_,_,_,e,_⟩,_⟩:=x;exact bg e
 | rng lo hi=>obtain⟨_,_,_,e⟩:=x;exact bg e
 | frz ob u=>obtain⟨e,_⟩:=x;exact bg e
 | tbl ps=>exact bg (show h.get? a=some _ from x)
 | met f y=>exact bg (show h.get? a=some _ from x)
 | ext φ=>obtain⟨_,⟨_,e⟩,_⟩:=x;exact bg e
variable{α:Type}
def Paired.mapP{β:Type}{F G:α->β->Prop}{D:List α}{I:List β}(h:Paired F D I)(f:∀a b,F a b->G a b):Paired G D I:=by
 induction h with
 | nil=>exact .nil
 | cons r _ q=>exact .cons (f _ _ r) q
variable{H':Hp}{h':Heap}
def ObjOk.stay(x:ObjOk P w H h a o)(k:∀b u,(b=a\/H b=some (.own a))->h.get? b=some u->h'.get? b=some u)(J:∀b,H b=some (.own a)->H' b=some (.own a))(R:∀b xs,H b=some (.tup xs)->H' b=some (.tup xs)):ObjOk P w H' h' a o:=by
 induction o with
 | lst xs=>obtain⟨z,its,n,r,e⟩:=x;exact⟨z,its,n,r,k _ _ (.inl rfl) e⟩
 | tup xs=>obtain⟨z,its,r,D,e,c⟩:=x;exact⟨z,its,r,D,k _ _ (.inl rfl) e,c⟩
 | dK kvs=>obtain⟨z,y,vs,r,D,es,I,e,c⟩:=x;exact⟨z,y,vs,r,D,es,I,k _ _ (.inl rfl) e,c⟩
 | dT kvs =>
   obtain⟨z,y,xs,r,D,es,I,e,c⟩:=x;exact⟨z,y,xs,Paired.mapP r λp q z=>⟨z.1,R _ _ z.2.1,z.2.2⟩,D,es,I,k _ _ (.inl rfl) e,c⟩
 | set S n=>obtain⟨D,es,I,t,e,c⟩:=x;exact⟨D,es,I,t,k _ _ (.inl rfl) e,c⟩
 | ins C dx fs =>
   obtain⟨d,z,U,e,mA,⟨od,es,I,V,c⟩,r⟩:=x;exact⟨J _ d,z,U,k _ _ (.inl rfl) e,mA,⟨od,es,I,k _ _ (.inr d) V,c⟩,r⟩
 | own y=>obtain⟨D,e⟩:=x;exact⟨D,k _ _ (.inl rfl) e⟩
 | xd fs=>obtain⟨mA,⟨od,es,I,e,c⟩,r⟩:=x;exact⟨mA,⟨od,es,I,k _ _ (.inl rfl) e,c⟩,r⟩
 | rng lo hi=>obtain⟨t,u,v,e⟩:=x;exact⟨t,u,v,k _ _ (.inl rfl) e⟩
 | frz D u ih=>obtain⟨e,q⟩:=x;exact⟨k _ _ (.inl rfl) e,ih q⟩
 | tbl ps =>
   have e:h.get? a=some { cls:=.none,data:=.fields ps }:=x;show h'.get? a=some { cls:=.none,data:=.fields ps };exact k a _ (.inl rfl) e
 | met f y =>
   have e:h.get? a=some (PySem.W.methodObj (.ref f) (.ref y)):=x;show h'.get? a=some (PySem.W.methodObj (.ref f) (.ref y));exact k a _ (.inl rfl) e
 | ext φ=>obtain⟨p,⟨o,e⟩,st⟩:=x;exact⟨st _ _ p λo q=>k _ _ (.inl rfl) q,⟨o,k _ _ (.inl rfl) e⟩,st⟩
def HOk.lt(x:HOk P w H h)(e:H a=some o):a<h.objs.size:=(x a o e).lt
def HOk.fresh(x:HOk P w H h)(e:h.objs.size<=a):H a=none:=by
 cases q:H a with
 | none=>rfl
 | some u=>exact absurd (az (x.lt q) e) (ff _)
def HOk.kept(x:HOk P w H h)(k:∀b u,h.get? b=some u->h'.get? b=some u):HOk P w H h':=λa o e =>
 (x a o e).stay (λb u _ q=>k b u q) (λ_ q=>q) λ_ _ q=>q
def HOk.laid(x:HOk P w H h)(k:∀b u,h.get? b=some u->h'.get? b=some u)(J:h.objs.size<=a)(new:ObjOk P w (upd H a o) h' a o):HOk P w (upd H a o) h':=λb u e=>by
 have D:=x.fresh J;by_cases I:b=a
 ·subst I;rw[j0] at e;cases e;exact new
 ·rw[gg I] at e
  exact(x b u e).stay (λc v _ q=>k c v q) (λc q=>by rw[gg (m6 q D)];exact q) λc xs q=>by rw[gg (m6 q D)];exact q
def Rd(H:Hp)(a:Addr)(u:HO):Prop:=H a=some u\/∃o,H a=some (.frz o u)
variable{u:Value}
def Rd.ok{u:HO}(r:Rd H a u)(x:HOk P w H h):ObjOk P w H h a u:=by
 rcases r with r | ⟨o,r⟩
 ·exact x a u r
 ·obtain⟨_,q⟩:=x a _ r
  exact q
def Mut:Option HO->Prop
 | some (.lst _)=>True
 | some (.dK _)=>True
 | some (.dT _)=>True
 | some (.set _ _)=>True
 | some (.ins _ _ _)=>True
 | some (.ext _)=>True
 | _=>False
variable{x e:Addr}{o':HO}
def HOk.write(ok:HOk P w H h)(R:Mut (H x))(V:e=x\/H e=some (.own x))(k:∀b u,b≠e->h.get? b=some u->h'.get? b=some u)(U:∃u,h'.get? e=some u)(new:ObjOk P w (upd H x o') h' x o'):HOk P w (upd H x o') h':=λb u q=>by
 have I:∀c y,H c=some (.own y)->c≠x:=λc y r z=>by subst z;rw[r] at R;exact R
 have J:∀c xs,H c=some (.tup xs)->c≠x:=λc xs r z=>by subst z;rw[r] at R;exact R
 by_cases S:b=x
 ·subst S;rw[j0] at q;cases q;exact new
 ·rw[gg S] at q
  by_cases D:b=e
  ·have Y:H b=some (.own x):=by
    rcases V with z | z
    ·exact absurd (D.trans z) S
    ·rw[D];exact z
   rw[q] at Y;cases Y;obtain⟨v,Z⟩:=U;exact⟨v,by rw[D];exact Z⟩
  ·refine(ok b u q).stay (λc v hc r=>k c v ?_ r) (λc r=>by rw[gg (I c b r)];exact r) λc xs r=>by rw[gg (J c xs r)];exact r
   rcases hc with rfl | hc
   ·exact D
   ·rintro rfl
    rcases V with z | z
    ·exact I c b hc z
    ·rw[hc] at z;cases z;exact S rfl
structure Un (fs ex:ia) (H H':Hp) (h h':Heap):Prop where
 keep:∀b o,h.get? b=some o->H b=none->b∉fs->b∉ex->h'.get? b=some o
 slot:∀b o,h.get? b=some o->H b=none->b∈fs->b∉ex->∃sl,h'.get? b=some { o with slots:=sl }
 free:∀b o,h.get? b=some o->H b=none->b∉ex->H' b=none
 there:∀b o,h.get? b=some o->b∉ex->∃o',h'.get? b=some o'
 tups:∀b xs,H b=some (.tup xs)->H' b=some (.tup xs)
 frzs:∀b o u,H b=some (.frz o u)->H' b=some (.frz o u)
 tbls:∀b ps,H b=some (.tbl ps)->∃more,H' b=some (.tbl (ps++more))
variable{fs ex:ia}{H1:Hp}{h1:Heap}
def Un.any(u:Un fs ex H H1 h h1){D:Obj}(q:h.get? b=some D)(n:H b=none)(I:b∉ex):∃sl,h1.get? b=some { D with slots:=sl }:=by
 by_cases J:b∈fs
 ·exact u.slot b D q n J I
 ·exact⟨D.slots,u.keep b D q n J I⟩
def Un.kept(k:∀b u,h.get? b=some u->h'.get? b=some u):Un fs ex H H h h' :=
 ⟨λb D q _ _ _=>k b D q,λb D q _ _ _=>⟨D.slots,k b D q⟩,λ_ _ _ n _=>n,λb D q _=>⟨D,k b D q⟩,λ_ _ q=>q,λ_ _ _ q=>q,λ_ ps q=>⟨#[],by rw[q];simp⟩⟩
def Un.refl:Un fs ex H H h h:=Un.kept λ_ _ q=>q
def Un.laid(k:∀b u,h.get? b=some u->h'.get? b=some u)(I:h.objs.size<=a)(D:H a=none):Un fs ex H (upd H a o) h h' where
 keep:=λb u q _ _ _=>k b u q
 slot:=λb u q _ _ _=>⟨u.slots,k b u q⟩
 free:=λb u q n _=>by rw[gg (b6 (az (bg q) I))];exact n
 there:=λb u q _=>⟨u,k b u q⟩
 tups:=λb xs q=>by rw[gg (m6 q D)];exact q
 frzs:=λb u xs q=>by rw[gg (m6 q D)];exact q
 tbls:=λb ps q=>⟨#[],by rw[gg (m6 q D),q];simp⟩
def Un.write(I:Mut (H x))(V:e=x\/H e=some (.own x))(k:∀b u,b≠e->h.get? b=some u->h'.get? b=some u)(J:∃u,h'.get? e=some u):Un fs ex H (upd H x o) h h':=by
 have S:∀b,H b=none->b≠x:=λb n z=>by subst z;rw[n] at I;exact I
 have U:∀b,H b=none->b≠e:=λb n z=>by
  subst z;rcases V with r | r
  ·exact S b n r
  ·rw[n] at r;cases r
 have R:∀b u,H b=some u->¬Mut (some u)->b≠x:=λb u q nm z=>by subst z;rw[q] at I;exact nm I
 refine⟨λb u q n _ _=>k b u (U b n) q,λb u q n _ _=>⟨u.slots,k b u (U b n) q⟩,λb u q n _=>by rw[gg (S b n)];exact n,λb u q _=>?_,
  λb xs q=>by rw[gg (R b _ q λz=>z)];exact q,λb u xs q=>by rw[gg (R b _ q λz=>z)];exact q,λb ps q=>⟨#[],by rw[gg (R b _ q λz=>z),q];simp⟩⟩
 by_cases D:b=e
 ·subst D;exact J
 ·exact⟨u,k b u D q⟩
def trk(h:Heap)(H:Hp):ia:=(List.range h.objs.size).filter λa=>(H a).isSome
def hidT(h:Heap)(H:Hp):Heap:=PySem.W.hideAll h (trk h H)
def zsk(h:Heap)(H:Hp):(hidT h H).objs.size=h.objs.size:=PySem.W.hideAll_size _ _
variable{o:Obj}
def zu8(e:h.get? b=some o)(n:H b=none):(hidT h H).get? b=some o :=
 PySem.W.hideAll_get _ e λD=>by
  have q:(H b).isSome=true:=(ji.mp D).2;rw[n] at q;simp at q
def zyg(e:(hidT h H).get? b=some o):h.get? b=some o/\H b=none:=by
 have e':h.get? b=some o:=PySem.W.of_hideAll (trk h H) e;refine⟨e',?_⟩;cases q:H b with
 | none=>rfl
 | some x =>
   have D:b∈trk h H:=ji.mpr ⟨ju.mpr (bg e'),by simp[q]⟩;have z:(hidT h H).get? b=none:=PySem.W.hideAll_none (trk h H) D;rw[z] at e;cases e
def zyh(g h:Heap)(L:Addr):k6:=(List.range h.objs.size).filterMap λa=>if a=L\/(g.get? a).isSome=true then none else(h.get? a).map λo=>(a,o)
def rest(g h:Heap)(L d:Addr):k6:=(zyh g h L).filter λp=>decide (p.1≠d)
structure Mod (K:k4) (mg:Str->h8) (base:Heap):Prop where
 kin:K.In base
 glob:base.Ns mainGlobals mg
 blt:∃mb,base.Ns builtinsNs mb/\∀x:Str,x ≠ "__name__"->mb x=bootBuiltins x
 nolimit:base.NoLimit
structure Cx where
 prog:Program
 w:World
 K:k4
 mg:Str->h8
 base:Heap
 A:Around
 N:g9
 s₀:Shared
 H₀:Hp
 env:Env
 outer:i0
 stack:i0
 ex:ia
 fn:Str->Bool
 calm:Bool
 pn:k6
 xe:Value->Shared->Prop
def frs(l:i0):ia:=l.filterMap (·.frame)
protected abbrev Cx.fs(X:Cx):ia:=frs X.outer
def Vis(sc:Scope)(x:Str):Prop:=sc.names.lookup x=some .local\/sc.names.lookup x=some .cell\/sc.names.lookup x=some .free
def Loc(sc:Scope)(x:Str):Prop:=sc.names.lookup x=some .local\/sc.names.lookup x=some .cell
def Look(env:Env)(h:Heap)(m:Str->h8)(x:Str)(u:Value):Prop :=
 (env.kindOf x=some .local/\m x=some u)\/((env.kindOf x=some .cell\/env.kindOf x=some .free)/\∃c,env.cells.lookup x=some c/\h.IsCell c (some u))
structure Cx.Ok (X:Cx):Prop where
 mod:Mod X.K X.mg X.base
 kind:X.env.scope.kind=.function
 glob:X.env.globals=mainGlobals
 blt:X.env.builtins=builtinsNs
 above:X.s₀.heap.objs.size<=X.env.locals
 inj:∀x y c,X.env.cells.lookup x=some c->X.env.cells.lookup y=some c->x=y
 has:∀x,(X.env.kindOf x=some .cell\/X.env.kindOf x=some .free)->∃c,X.env.cells.lookup x=some c
 cab:∀x c,X.fn x=true->X.env.cells.lookup x=some c->X.s₀.heap.objs.size<=c
 hd:X.calm=true->X.A.handled=none
 frames:X.A.frames=some X.stack
 stk:X.stack=X.outer\/(X.stack=X.env::X.outer/\X.env.frame=some X.env.locals)
 exf:∀b∈X.ex,b≠X.env.locals/\∀x c,X.env.cells.lookup x=some c->c≠b
 bs:∀b o,X.base.get? b=some o->X.s₀.heap.get? b=some o/\X.H₀ b=none
 bsz:X.base.objs.size<=X.s₀.heap.objs.size
 noex:∀b o,X.base.get? b=some o->b∉X.ex
 exfs:∀b∈X.ex,b∉X.fs
 funs:X.s₀.heap.FunFrames X.base X.outer
 frf:∀b∈X.fs,X.H₀ b=none
structure Inv (X:Cx) (pins:k6) (σ:List (Option V)) (H:Hp) (s:Shared):Prop where
 ok:X.Ok
 os:s.os=X.s₀.os
 bare:AllBare s.gens
 base:Un X.fs X.ex X.H₀ H X.s₀.heap s.heap
 loc:∃m,s.heap.Ns X.env.locals m/\∀(i:Nat) (x:Str) (v:V),X.N[i]?=some x->σ[i]?=some (some v)->Vis X.env.scope x->∃u,RelV v u/\Look X.env s.heap m x u
 cell:∀x c,X.env.cells.lookup x=some c->∃v,s.heap.IsCell c v
 free:H X.env.locals=none
 freeC:∀x c,X.env.cells.lookup x=some c->H c=none
 pin:∀p∈X.pn++pins,s.heap.get? p.1=some p.2/\H p.1=none/\p.1≠X.env.locals/\p.1∉X.fs/\∀v,p.2.data≠.cell v
 hok:HOk X.prog X.w H s.heap
 len:σ.length=X.N.length
variable{X:Cx}
def Cx.Ok.nofr(ok:X.Ok)(e:X.base.get? b=some o):b∉X.fs:=λD=>by
 have:=(ok.funs.mem D).1;rw[e] at this;cases this
variable{pins:k6}{σ:List (Option V)}{s:Shared}
protected def Inv.bs(I:Inv X pins σ H s):∀b o,X.base.get? b=some o->s.heap.get? b=some o/\H b=none:=λb o e =>
 ⟨I.base.keep b o (I.ok.bs b o e).1 (I.ok.bs b o e).2 (I.ok.nofr e) (I.ok.noex b o e),I.base.free b o (I.ok.bs b o e).1 (I.ok.bs b o e).2 (I.ok.noex b o e)⟩
def Inv.bk(I:Inv X pins σ H s):∀b o,X.base.get? b=some o->s.heap.get? b=some o:=λb o e=>(I.bs b o e).1
def Inv.mod(I:Inv X pins σ H s):Mod X.K X.mg X.base:=I.ok.mod
def Inv.kIn(I:Inv X pins σ H s):X.K.In s.heap:=I.ok.mod.kin.keeps I.bk
def Inv.lt(I:Inv X pins σ H s):X.env.locals<s.heap.objs.size:=let ⟨_,D,_⟩:=I.loc;D.lt
def Inv.sz(I:Inv X pins σ H s):X.s₀.heap.objs.size<=s.heap.objs.size:=cx I.ok.above (nk I.lt)
def Inv.nofs(I:Inv X pins σ H s)(h:s.heap.objs.size<=a):a∉X.fs:=λD=>by
 obtain⟨_,o,J,_⟩:=I.ok.funs.mem D;exact absurd (az (bg J) (cx I.sz h)) (ff _)
def Inv.cne(I:Inv X pins σ H s):∀x c,X.env.cells.lookup x=some c->c≠X.env.locals:=λx c e z=>by
 obtain⟨v,o,R,S⟩:=I.cell x c e;obtain⟨m,⟨o',es,U,D,J,_⟩,_⟩:=I.loc;rw[z,D] at R;cases R;rw[J] at S;cases S
def Inv.funs(I:Inv X pins σ H s):s.heap.FunFrames X.base X.outer:=by
 have all:∀(l:i0),(∀b∈frs l,b∈X.fs)->X.s₀.heap.FunFrames X.base l->s.heap.FunFrames X.base l:=by
  intro l;induction l with
  | nil=>intro _ _;trivial
  | cons env r ih =>
    intro S U;obtain⟨V,⟨L,o,D,Y,Z,a⟩,c⟩:=U;have J:L∈X.fs:=S L (by unfold frs;rw[jk,D];exact bn);obtain⟨sl,e⟩:=I.base.slot L o Z (I.ok.frf L J) J λz=>I.ok.exfs L z J;exact⟨V,⟨L,_,D,Y,e,a⟩,ih (λb R=>S b (by unfold frs;rw[jk,D];exact ax _ R)) c⟩
 exact all X.outer (λ_ R=>R) I.ok.funs
def Inv.stack(I:Inv X pins σ H s):s.heap.FunFrames X.base X.stack:=by
 rcases I.ok.stk with e | ⟨e,hf⟩
 ·rw[e];exact I.funs
 ·rw[e]
  obtain⟨m,D,_⟩:=I.loc;refine .cons (by rw[I.ok.kind];decide) hf D ?_ I.funs;exact Heap.get?_none_of_le (cx I.ok.bsz I.ok.above)
def Inv.stkSub(I:Inv X pins σ H s):∀b∈frs X.stack,b∈X.env.locals::X.fs:=λb D=>by
 rcases I.ok.stk with e | ⟨e,hf⟩
 ·rw[e] at D;exact ax _ D
 ·rw[e] at D
  unfold frs at D;rw[jk,hf] at D;exact D
def Inv.stkFree(I:Inv X pins σ H s):∀b∈frs X.stack,H b=none:=λb hb=>by
 rcases cb.mp (I.stkSub b hb) with e | hb
 ·rw[e];exact I.free
 ·obtain⟨_,o,D,_⟩:=I.ok.funs.mem hb
  exact I.base.free b o D (I.ok.frf b hb) λz=>I.ok.exfs b z hb
variable{g':Array GenState}{t':Nat}{d':Drawn}{ch:ia}
protected def Inv.step(I:Inv X pins σ H s)(J:∀b∈ch,(b∈X.ex\/X.s₀.heap.objs.size<=b)/\b≠X.env.locals/\(∀x c,X.env.cells.lookup x=some c->c≠b)/\∀p∈X.pn++pins,p.1≠b)(keep:∀b o,b≠X.env.locals->b∉X.fs->b∉ch->s.heap.get? b=some o->H b=none->h'.get? b=some o)(Y:∀b o,b≠X.env.locals->b∈X.fs->b∉ch->s.heap.get? b=some o->H b=none->∃sl,h'.get? b=some { o with slots:=sl })(free:∀b o,b∉ch->s.heap.get? b=some o->H b=none->H' b=none)(Z:∀b o,b∉ch->s.heap.get? b=some o->∃o',h'.get? b=some o')(g:∀b xs,H b=some (.tup xs)->H' b=some (.tup xs))(h:∀b o u,H b=some (.frz o u)->H' b=some (.frz o u))(j:∀b ps,H b=some (.tbl ps)->∃more,H' b=some (.tbl (ps++more)))(L:∀m,s.heap.Ns X.env.locals m->h'.Ns X.env.locals m)(A:HOk X.prog X.w H' h')(M:AllBare g') :
  Inv X pins σ H' { s with heap:=h',gens:=g',drawn:=d',toks:=t' }:=by
 have t:∀b o,X.s₀.heap.get? b=some o->b≠X.env.locals:=λb o e=>b6 (az (bg e) I.ok.above);have U:∀b o,X.s₀.heap.get? b=some o->b∉X.ex->b∉ch:=λb o e D a=>by
  rcases(J b a).1 with z | z
  ·exact D z
  ·exact absurd (az (bg e) z) (ff _)
 have R:∀x c,X.env.cells.lookup x=some c->∀v,s.heap.IsCell c v->h'.IsCell c v:=λx c e v N=>by
  obtain⟨o,f,B⟩:=N;have S:c∉ch:=λz=>(J c z).2.2.1 x c e rfl;by_cases E:c∈X.fs
  ·obtain⟨sl,q⟩:=Y c o (I.cne x c e) E S f (I.freeC x c e)
   exact⟨_,q,B⟩
  ·exact⟨o,keep c o (I.cne x c e) E S f (I.freeC x c e),B⟩
 refine⟨I.ok,I.os,M,⟨λb o e n a D=>?_,λb o e n a D=>?_,λb o e n D=>?_,λb o e D=>?_,λb xs e=>g b xs (I.base.tups b xs e),λb o xs e=>h b o xs (I.base.frzs b o xs e),λb ps e=>?_⟩,?_,λx c e=>?_,?_,λx c e=>?_,λp F=>?_,A,I.len⟩
 ·exact keep b o (t b o e) a (U b o e D) (I.base.keep b o e n a D) (I.base.free b o e n D)
 ·obtain⟨sl,V⟩:=I.base.slot b o e n a D
  obtain⟨C,y⟩:=Y b _ (t b o e) a (U b o e D) V (I.base.free b o e n D);exact⟨C,y⟩
 ·obtain⟨o',V⟩:=I.base.there b o e D
  exact free b o' (U b o e D) V (I.base.free b o e n D)
 ·obtain⟨o',V⟩:=I.base.there b o e D
  exact Z b o' (U b o e D) V
 ·obtain⟨O,V⟩:=I.base.tbls b ps e
  obtain⟨P,y⟩:=j b _ V;exact⟨O++P,by rw[y,Array.append_assoc]⟩
 ·obtain⟨m,Q,T⟩:=I.loc
  refine⟨m,L m Q,λi x v V y W=>?_⟩;obtain⟨u,r,l⟩:=T i x v V y W;refine⟨u,r,?_⟩;rcases l with l | ⟨k,c,e,z⟩
  ·exact .inl l
  ·exact .inr ⟨k,c,e,R x c e _ z⟩
 ·obtain⟨v,z⟩:=I.cell x c e
  exact⟨v,R x c e v z⟩
 ·obtain⟨m,⟨o,_,_,f,_⟩,_⟩:=I.loc
  exact free _ o (λz=>(J _ z).2.1 rfl) f I.free
 ·obtain⟨v,o,f,B⟩:=I.cell x c e
  exact free c o (λz=>(J c z).2.2.1 x c e rfl) f (I.freeC x c e)
 ·obtain⟨e,n,G,K,d⟩:=I.pin p F
  have S:p.1∉ch:=λz=>(J p.1 z).2.2.2 p F rfl;exact⟨keep p.1 p.2 G K S e n,free p.1 p.2 S e n,G,K,d⟩
def Inv.un(I:Inv X pins σ H s)(u:Un X.fs [] H H' s.heap h')(J:HOk X.prog X.w H' h'):Inv X pins σ H' { s with heap:=h',toks:=t' }:=by
 obtain⟨m,⟨o,es,c,V,r⟩,_⟩:=id I.loc;obtain⟨sl,Y⟩:=u.any V I.free (by simp);exact I.step (g':=s.gens) (d':=s.drawn) (ch:=[]) (λ_ z=>nomatch z) (λb o _ R _ e n=>u.keep b o e n R (by simp)) (λb o _ R _ e n=>u.slot b o e n R (by simp)) (λb o _ e n=>u.free b o e n (by simp)) (λb o _ e=>u.there b o e (by simp)) u.tups u.frzs u.tbls (λd Z=>by
  obtain⟨o',S,U,D,a⟩:=Z;rw[V] at D;cases D;exact⟨_,S,U,Y,a⟩) J I.bare
def Inv.call(I:Inv X pins σ H s)(u:Un (frs X.stack) ch H H' s.heap h')(S:HOk X.prog X.w H' h')(a:AllBare g')(J:∀b∈ch,(b∈X.ex\/X.s₀.heap.objs.size<=b)/\b≠X.env.locals/\(∀x c,X.env.cells.lookup x=some c->c≠b)/\∀p∈X.pn++pins,p.1≠b) :
  Inv X pins σ H' { s with heap:=h',gens:=g',drawn:=d',toks:=t' }:=by
 obtain⟨m,⟨o,es,h,Z,r⟩,_⟩:=id I.loc;obtain⟨sl,U⟩:=u.any Z I.free λz=>(J _ z).2.1 rfl;exact I.step (ch:=ch) J (λb o U d D e n=>u.keep b o e n (λz=>(cb.mp (I.stkSub b z)).elim U d) D) (λb o _ _ D e n=>u.any e n D) (λb o D e n=>u.free b o e n D) (λb o D e=>u.there b o e D) u.tups u.frzs u.tbls (λi f=>by
  obtain⟨o',V,Y,R,g⟩:=f;rw[Z] at R;cases R;exact⟨_,V,Y,U,g⟩) S a
variable{it:Addr}
def Inv.turned(I:Inv X pins σ H s)(k:∀b o,b≠it->s.heap.get? b=some o->h'.get? b=some o)(S:H it=none)(R:it≠X.env.locals)(h1:it∈X.ex\/X.s₀.heap.objs.size<=it)(h2:∀x c,X.env.cells.lookup x=some c->c≠it)(U:∀p∈X.pn++pins,p.1≠it):Inv X pins σ H { s with heap:=h',toks:=t' }:=by
 have J:∀b u,H b=some u->b≠it:=λb u e z=>by rw[z,S] at e;cases e
 refine I.step (g':=s.gens) (d':=s.drawn) (ch:=[it]) (λb V=>?_) (λb o _ _ D e _=>k b o (λz=>D (by simp[z])) e) (λb o _ _ D e _=>⟨o.slots,k b o (λz=>D (by simp[z])) e⟩) (λ_ _ _ _ n=>n)
  (λb o D e=>⟨o,k b o (λz=>D (by simp[z])) e⟩) (λ_ _ e=>e) (λ_ _ _ e=>e) (λb ps e=>⟨#[],by rw[e];simp⟩) (λm Y=>?_) (λb u e=>?_) I.bare
 ·have e:b=it:=by simpa using V
  subst e;exact⟨h1,R,h2,U⟩
 ·obtain⟨o,es,Z,a,r⟩:=Y
  exact⟨o,es,Z,k _ o (Ne.symm R) a,r⟩
 ·refine(I.hok b u e).stay (λc v D q=>k c v ?_ q) (λ_ q=>q) λ_ _ q=>q
  rcases D with z | z
  ·rw[z];exact J b u e
  ·exact J c _ z
def Inv.tok(I:Inv X pins σ H s)(t:Nat):Inv X pins σ H { s with toks:=t }:=I.un (h':=s.heap) (t':=t) Un.refl I.hok
def Inv.kept{t':Nat}(I:Inv X pins σ H s)(k:∀b u,s.heap.get? b=some u->h'.get? b=some u):Inv X pins σ H { s with heap:=h',toks:=t' }:=I.un (Un.kept k) (I.hok.kept k)
def Inv.laid{a:Addr}{o:HO}{t':Nat}(I:Inv X pins σ H s)(k:∀b u,s.heap.get? b=some u->h'.get? b=some u)(D:s.heap.objs.size<=a)(new:ObjOk X.prog X.w (upd H a o) h' a o) :
  Inv X pins σ (upd H a o) { s with heap:=h',toks:=t' }:=I.un (Un.laid k D (I.hok.fresh D)) (I.hok.laid k D new)
def Inv.write{x e:Addr}{o:HO}{t':Nat}(I:Inv X pins σ H s)(J:Mut (H x))(R:e=x\/H e=some (.own x))(k:∀b u,b≠e->s.heap.get? b=some u->h'.get? b=some u)(D:∃u,h'.get? e=some u)(new:ObjOk X.prog X.w (upd H x o) h' x o):Inv X pins σ (upd H x o) { s with heap:=h',toks:=t' }:=I.un (Un.write J R k D) (I.hok.write J R k D new)
def Inv.pins_of{D:k6}(I:Inv X pins σ H s)(h:∀p∈D,s.heap.get? p.1=some p.2/\H p.1=none/\p.1≠X.env.locals/\p.1∉X.fs/\∀v,p.2.data≠.cell v):Inv X D σ H s :=
 ⟨I.ok,I.os,I.bare,I.base,I.loc,I.cell,I.free,I.freeC,λp J=>(cz.mp J).elim (λz=>I.pin p (du _ z)) (h p),I.hok,I.len⟩
variable{x:Str}{N:g9}{i:Nat}{j:Int}
def zmc(D:N.Nodup){j:Nat}(a:N[i]?=some x)(b:N[j]?=some x):i=j:=by
 obtain⟨h1,I⟩:=aj.mp a;obtain⟨h2,J⟩:=aj.mp b;exact(List.getElem_inj D).mp (I.trans J.symm)
variable{M:Model}{A:Around}{E:Value->Shared->Prop}{v:V}{Q:Unit->Shared->Prop}
def zkv(I:Inv X pins σ H s)(hN:X.N.Nodup)(hi:X.N[i]?=some x)(S:Loc X.env.scope x)(r:RelV v u)(h:∀s',Inv X pins (σ.set i (some v)) H s'->(∃a,Heap.SameBut a s.heap s'.heap/\(a=X.env.locals\/X.env.cells.lookup x=some a))->Q () s')(hf:X.fn x=true\/X.env.scope.names.lookup x=some .local:=by first | exact .inl rfl | exact .inr rfl | assumption):wpAny M A (storeName X.env x u) Q E s:=by
 obtain⟨m,O,hl⟩:=id I.loc;have l:(X.env.scope.kind==.class || (X.env.scope.kind==.module && X.env.locals != X.env.globals))=false:=by rw[I.ok.kind];rfl
 have Y:i<σ.length:=by rw[I.len];exact(aj.mp hi).1
 have cne:=I.cne;have J:∀ {a:Addr} {h':Heap},(∃o,s.heap.get? a=some o/\H a=none)->Heap.SameBut a s.heap h'->HOk X.prog X.w H h':=λ{a h'} ha D b ob e=>by
  obtain⟨_,_,U⟩:=ha;refine(I.hok b ob e).stay (λc G hc q=>(D.2 c ?_).trans q) (λ_ q=>q) λ_ _ q=>q;rintro rfl;rcases hc with rfl | hc
  ·rw[U] at e;cases e
  ·rw[U] at hc;cases hc
 rcases S with hk | hk
 ·refine wpAny_storeName_local hk O (λh' P D=>?_) l
  obtain⟨oL,_,_,T,_⟩:=id O;refine h _ ⟨I.ok,I.os,I.bare,⟨λb o e n Z S=>?_,λb o e n Z S=>?_,I.base.free,λb o e S=>?_,I.base.tups,I.base.frzs,I.base.tbls⟩,⟨_,P,λj y W R V e3=>?_⟩,λy c e=>?_,I.free,I.freeC,λp hp=>?_,J ⟨oL,T,I.free⟩ D,by simpa using I.len⟩ ⟨_,D,.inl rfl⟩
  ·exact(D.2 b (b6 (az (bg e) I.ok.above))).trans (I.base.keep b o e n Z S)
  ·obtain⟨sl,R⟩:=I.base.slot b o e n Z S
   exact⟨sl,(D.2 b (b6 (az (bg e) I.ok.above))).trans R⟩
  ·obtain⟨o',R⟩:=I.base.there b o e S
   exact⟨o',(D.2 b (b6 (az (bg e) I.ok.above))).trans R⟩
  ·by_cases f:j=i
   ·subst f
    rw[hi] at R;cases R;rw[d5 Y] at V;cases V;exact⟨u,r,.inl ⟨hk,by simp⟩⟩
   ·rw[db (Ne.symm f)] at V
    obtain⟨u',r',q⟩:=hl j y W R V e3;refine⟨u',r',?_⟩;rcases q with⟨k,e⟩ | ⟨k,c,e,z⟩
    ·refine .inl ⟨k,?_⟩
     have:y≠x:=λe=>f (zmc hN R (e ▸ hi));simp[this,e]
    ·exact .inr ⟨k,c,e,z.sameBut D (cne y c e)⟩
  ·obtain⟨G,z⟩:=I.cell y c e
   exact⟨G,z.sameBut D (cne y c e)⟩
  ·obtain⟨e,n,K,nf,d⟩:=I.pin p hp
   exact⟨(D.2 p.1 K).trans e,n,K,nf,d⟩
 ·have g:X.fn x=true:=by
   rcases hf with z | z
   ·exact z
   ·rw[z] at hk;cases hk
  obtain⟨c,hc⟩:=I.ok.has x (.inl hk);obtain⟨G,z⟩:=I.cell x c hc;refine wpAny_storeName_cell I.ok.kind hk hc z (λh' t D=>?_);obtain⟨oc,B,C⟩:=id z;refine h { s with heap:=h' } ⟨I.ok,I.os,I.bare,⟨λb o e n Z S=>?_,λb o e n Z S=>?_,I.base.free,λb o e S=>?_,I.base.tups,I.base.frzs,I.base.tbls⟩,⟨m,O.sameBut D (Ne.symm (cne x c hc)),λj y W R V e3=>?_⟩,λy L e=>?_,I.free,I.freeC,λp hp=>?_,J ⟨oc,B,I.freeC x c hc⟩ D,by simpa using I.len⟩ ⟨c,D,.inr hc⟩
  ·exact(D.2 b (b6 (az (bg e) (I.ok.cab x c g hc)))).trans (I.base.keep b o e n Z S)
  ·obtain⟨sl,R⟩:=I.base.slot b o e n Z S
   exact⟨sl,(D.2 b (b6 (az (bg e) (I.ok.cab x c g hc)))).trans R⟩
  ·obtain⟨o',R⟩:=I.base.there b o e S
   exact⟨o',(D.2 b (b6 (az (bg e) (I.ok.cab x c g hc)))).trans R⟩
  ·by_cases f:j=i
   ·subst f
    rw[hi] at R;cases R;rw[d5 Y] at V;cases V;exact⟨u,r,.inr ⟨.inl hk,c,hc,t⟩⟩
   ·rw[db (Ne.symm f)] at V
    obtain⟨u',r',q⟩:=hl j y W R V e3;refine⟨u',r',?_⟩;rcases q with q | ⟨k,L,e,z'⟩
    ·exact .inl q
    ·refine .inr ⟨k,L,e,z'.sameBut D ?_⟩
     rintro rfl;exact f (zmc hN R (I.ok.inj _ _ _ e hc ▸ hi))
  ·by_cases F:L=c
   ·subst F;exact⟨_,t⟩
   ·obtain⟨w2,z2⟩:=I.cell y L e
    exact⟨w2,z2.sameBut D F⟩
  ·obtain⟨e,n,K,nf,d⟩:=I.pin p hp
   refine⟨(D.2 p.1 ?_).trans e,n,K,nf,d⟩;intro q;rw[q,B] at e;have q':oc=p.2:=bq e;exact d G (by rw[<-q'];exact C)
def zkk(I:Inv X pins σ H s)(D:X.N.Nodup)(hi:X.N[i]?=some x)(J:Loc X.env.scope x)(r:RelV v u)(h:∀s',Inv X pins (σ.set i (some v)) H s'->Q () s')(R:X.fn x=true\/X.env.scope.names.lookup x=some .local:=by first | exact .inl rfl | exact .inr rfl | assumption):wpAny M A (storeName X.env x u) Q E s :=
 zkv I D hi J r (λs' S _=>h s' S) R
variable{s':Shared}
def Inv.call'(I:Inv X pins σ H s)(R:s'.os=s.os)(u:Un (frs X.stack) ch H H' s.heap s'.heap)(D:HOk X.prog X.w H' s'.heap)(S:AllBare s'.gens)(J:∀b∈ch,(b∈X.ex\/X.s₀.heap.objs.size<=b)/\b≠X.env.locals/\(∀x c,X.env.cells.lookup x=some c->c≠b)/\∀p∈X.pn++pins,p.1≠b):Inv X pins σ H' s':=by
 obtain⟨h',g',d',t',o'⟩:=s';have e:o'=s.os:=R;subst e;exact I.call (g':=g') (t':=t') (d':=d') u D S J
abbrev XK:=Value->Option Addr->Hp->Prop
abbrev St:=List (Option V)
abbrev VK:=V->Hp->Prop
abbrev TE:=St->Hp->VK->Prop
abbrev TT:=St->Hp->(Bool->Hp->Prop)->Prop
abbrev TA:=St->Hp->(k8->Hp->Prop)->Prop
structure Ends where
 nx:St->Hp->Prop
 rt:VK
 bk:St->Hp->Prop:=λ_ _=>False
 ct:St->Hp->Prop:=λ_ _=>False
abbrev TS:=Ends->St->Hp->Prop
inductive EP (X:Cx) (pins:k6) (σ:St) (Q:VK) (u:Value) (s':Shared):Prop
 | mk (v:V) (H':Hp) (i:Inv X pins σ H' s') (r:RelV v u) (q:Q v H'):EP X pins σ Q u s'
inductive TP (X:Cx) (pins:k6) (σ:St) (Q:Bool->Hp->Prop) (b:Bool) (s':Shared):Prop
 | mk (H':Hp) (i:Inv X pins σ H' s') (q:Q b H'):TP X pins σ Q b s'
inductive AP (X:Cx) (pins:k6) (σ:St) (Q:k8->Hp->Prop) (us:h7) (s':Shared):Prop
 | mk (vs:k8) (H':Hp) (i:Inv X pins σ H' s') (r:Vals vs us) (q:Q vs H'):AP X pins σ Q us s'
def SP(X:Cx)(pins:k6)(D:Ends)(f:Flow)(s':Shared):Prop :=
 match f with
 | .next=>∃I H',Inv X pins I H' s'/\D.nx I H'
 | .brk=>∃I H',Inv X pins I H' s'/\D.bk I H'
 | .cont=>∃I H',Inv X pins I H' s'/\D.ct I H'
 | .ret u=>∃v I H',Inv X pins I H' s'/\RelV v u/\D.rt v H'
def PE(X:Cx)(e:Expr)(t:TE):Prop :=
 ∀(pins:k6) (s:Shared) (σ:St) (H:Hp) (Q:VK),Inv X pins σ H s->t σ H Q->wpAny (model X.prog X.w) X.A (eval e X.env) (EP X pins σ Q) X.xe s
def PT(X:Cx)(e:Expr)(t:TT):Prop :=
 ∀(pins:k6) (s:Shared) (σ:St) (H:Hp) (Q:Bool->Hp->Prop),Inv X pins σ H s->t σ H Q->wpAny (model X.prog X.w) X.A (isTrue e X.env (eval e X.env)) (TP X pins σ Q) X.xe s
def PW(X:Cx)(e:Expr)(t:TT):Prop :=
 ∀(whole:Sem Value) (pins:k6) (s:Shared) (σ:St) (H:Hp) (Q:Bool->Hp->Prop),Inv X pins σ H s->t σ H Q->wpAny (model X.prog X.w) X.A (isTrue e X.env whole) (TP X pins σ Q) X.xe s
variable{e:Expr}{t:TA}
def PW.pt{t:TT}(h:PW X e t):PT X e t:=h _
def PA(X:Cx)(es:ka)(t:TA):Prop :=
 ∀(pos:Pos) (pins:k6) (s:Shared) (σ:St) (H:Hp) (Q:k8->Hp->Prop),Inv X pins σ H s->t σ H Q->wpAny (model X.prog X.w) X.A (spliced (backTo pos (starEach es X.env))) (AP X pins σ Q) X.xe s
def PS(X:Cx)(st:Stmt)(t:TS):Prop :=
 ∀(pins:k6) (s:Shared) (σ:St) (H:Hp) (D:Ends),Inv X pins σ H s->t D σ H->wpAny (model X.prog X.w) X.A (exec st X.env) (SP X pins D) X.xe s
def PSs(X:Cx)(st:List Stmt)(t:TS):Prop :=
 ∀(pins:k6) (s:Shared) (σ:St) (H:Hp) (D:Ends),Inv X pins σ H s->t D σ H->wpAny (model X.prog X.w) X.A (execs st X.env) (SP X pins D) X.xe s
def thn{t:Sem α}{Q D:α->Shared->Prop}(h:wpAny M A t Q E s)(I:∀a s,Q a s->D a s):wpAny M A t D E s:=wpAny_mono h I λ_ _ x=>x
section
variable {X:Cx}
def tVar(i:Nat):TE:=λσ H Q=>∃v,σ[i]?=some (some v)/\Q v H
def tC(v:V):TE:=λ_ H Q=>Q v H
def z07{i:Nat}{x:Str}{pos:Pos}(S:X.N[i]?=some x)(U:Vis X.env.scope x)(J:(x==("__debug__" : Str))=false:=by decide)(R:(x==("__classdict__" : Str))=false:=by decide):PE X (.Name x pos) (tVar i):=by
 intro pins s σ H Q I h;obtain⟨v,e,h⟩:=h;obtain⟨m,V,Y⟩:=I.loc;obtain⟨u,r,l⟩:=Y i x v S e U;have D:EP X pins σ Q u s:=⟨v,H,I,r,h⟩;rcases l with⟨hk,Z⟩ | ⟨hk,c,hc,hcell⟩
 ·exact wpAny_Name (wpAny_loadName_local I.ok.kind hk V Z D) J
 ·rcases hk with hk | hk
  ·exact wpAny_Name (wpAny_loadName_cell I.ok.kind hk hc hcell D) J
  ·exact wpAny_Name (wpAny_loadName_free I.ok.kind hk hc hcell D R) J
def yt{i j pos}:PE X (.Constant (.int i) j pos) (tC (.int i)):=λ_ _ _ H _ I h=>wpAny_Constant_int ⟨.int i,H,I.tok _,⟨_,rfl⟩,h⟩
def z4c{b j pos}:PE X (.Constant (.bool b) j pos) (tC (.bl b)):=λ_ _ _ H _ I h=>Constant_bool ⟨.bl b,H,I,rfl,h⟩
def zxj{x j pos}:PE X (.Constant (.str x) j pos) (tC (.str x)):=λ_ _ _ H _ I h=>Calls.Constant_str ⟨.str x,H,I.tok _,⟨_,rfl⟩,h⟩
def Gl(X:Cx)(x:Str):Prop:=X.env.kindOf x=some .globalImplicit
def vf{E:Value->Shared->Prop}{pins:k6}{s:Shared}{σ:St}{H:Hp}{x:Str}{u:Value}{pos:Pos}{Q:Value->Shared->Prop}(I:Inv X pins σ H s)(D:Gl X x)(J:X.mg x=some u)(h:Q u s)(R:(x==("__debug__" : Str))=false:=by decide):wpAny (model X.prog X.w) X.A (eval (.Name x pos) X.env) Q E s :=
 Calls.Name_function_global I.ok.kind D (Calls.loadGlobal_global (by rw[I.ok.glob];exact I.mod.glob.keeps I.bk) J h) R
def wj{E:Value->Shared->Prop}{pins:k6}{s:Shared}{σ:St}{H:Hp}{x:Str}{u:Value}{pos:Pos}{Q:Value->Shared->Prop}(I:Inv X pins σ H s)(D:Gl X x)(J:X.mg x=none)(R:bootBuiltins x=some u)(h:Q u s)(S:x ≠ "__name__":=by decide)(U:(x==("__debug__" : Str))=false:=by decide):wpAny (model X.prog X.w) X.A (eval (.Name x pos) X.env) Q E s:=by
 obtain⟨V,h1,h2⟩:=I.mod.blt;exact Calls.Name_function_global I.ok.kind D (Calls.loadGlobal_builtin (by rw[I.ok.glob];exact I.mod.glob.keeps I.bk) J (by rw[I.ok.blt];exact h1.keeps I.bk) ((h2 x S).trans R) h) U
def zsl{x:Str}{v:V}{u:Value}{pos:Pos}(D:Gl X x)(J:X.mg x=some u)(r:RelV v u)(R:(x==("__debug__" : Str))=false:=by decide):PE X (.Name x pos) (tC v) :=
 λ_ _ _ H _ I h=>vf I D J ⟨v,H,I,r,h⟩ R
def zsm{x:Str}{v:V}{u:Value}{pos:Pos}(D:Gl X x)(J:X.mg x=none)(R:bootBuiltins x=some u)(r:RelV v u)(S:x ≠ "__name__":=by decide)(U:(x==("__debug__" : Str))=false:=by decide):PE X (.Name x pos) (tC v) :=
 λ_ _ _ H _ I h=>wj I D J R ⟨v,H,I,r,h⟩ S U
variable {a b:Expr} {ta tb:TE} {pos:Pos}
def tB(t:TE):TT:=λσ H Q=>t σ H λx H1=>∃c,x=.bl c/\Q c H1
def z08{e:Expr}{t:TE}(h:PE X e t)(D:∀whole,isTrue e X.env whole=(do let v <-whole;standAt e.pos;holding [v] (truthy v)):=by intro _;rfl):PT X e (tB t):=by
 intro pins s σ H Q I J;refine isTrue_plain (thn (h pins s σ H _ I J) λv Y R=>?_) (D _);obtain⟨x,H1,S,U,V⟩:=R;obtain⟨d,rfl,q⟩:=V;cases U;exact wpAny_truthy_bool ⟨H1,S,q⟩
variable {tA tB':TT} {rest:ka}
def tAnd(t u:TT):TT:=λσ H Q=>t σ H λc H1=>if c=true then u σ H1 Q else Q false H1
def tOr(t u:TT):TT:=λσ H Q=>t σ H λc H1=>if c=true then Q true H1 else u σ H1 Q
def tNot(t:TT):TT:=λσ H Q=>t σ H λc H1=>Q (!c) H1
def zyi(D:PT X a tA):PW X (.BoolOp .And [a] pos) tA:=by
 intro J pins s σ H Q I h;refine isTrue_and (thn (D pins s σ H Q I h) λc R e=>?_);cases c with
 | true=>exact isTrue_and_nil e
 | false=>exact e
def z09(D:PT X a tA):PW X (.BoolOp .Or [a] pos) tA:=by
 intro J pins s σ H Q I h;refine isTrue_or (thn (D pins s σ H Q I h) λc R e=>?_);cases c with
 | false=>exact isTrue_or_nil e
 | true=>exact e
def z1a(R:PT X a tA)(S:PW X (.BoolOp .And (b::rest) pos) tB'):PW X (.BoolOp .And (a::b::rest) pos) (tAnd tA tB'):=by
 intro U pins s σ H Q I h;refine isTrue_and (thn (R pins s σ H _ I h) λc V Y=>?_);obtain⟨H1,D,J⟩:=Y;cases c with
 | true=>exact S U pins V σ H1 Q D J
 | false=>exact⟨H1,D,J⟩
def z4d(R:PT X a tA)(S:PW X (.BoolOp .Or (b::rest) pos) tB'):PW X (.BoolOp .Or (a::b::rest) pos) (tOr tA tB'):=by
 intro U pins s σ H Q I h;refine isTrue_or (thn (R pins s σ H _ I h) λc V Y=>?_);obtain⟨H1,D,J⟩:=Y;cases c with
 | true=>exact⟨H1,D,J⟩
 | false=>exact S U pins V σ H1 Q D J
def z1b(D:PT X a tA):PT X (.UnaryOp .Not a pos) (tNot tA):=by
 intro pins s σ H Q I h;refine isTrue_not (thn (D pins s σ H (λc H1=>Q (!c) H1) I h) λc R h=>?_);obtain⟨H1,J,q⟩:=h;exact⟨H1,J,q⟩
def z4e(ta tb:TE):TE:=λσ H Q=>ta σ H λx H1=>∃c,x=.bl c/\if c=true then tb σ H1 Q else Q (.bl false) H1
def z4f(ta:TE):TE:=λσ H Q=>ta σ H λx H1=>∃c,x=.bl c/\Q (.bl (!c)) H1
def z1c{op}{t:TE}(h:PE X a t):PE X (.BoolOp op [a] pos) t:=λpins s σ H Q I D=>BoolOp_one (h pins s σ H Q I D)
def z1d(R:PE X a ta)(S:PE X (.BoolOp .And (b::rest) pos) tb):PE X (.BoolOp .And (a::b::rest) pos) (z4e ta tb):=by
 intro pins s σ H Q I h;refine BoolOp_and (thn (R pins s σ H _ I h) λv U V=>?_);obtain⟨x,H1,J,Y,D⟩:=V;obtain⟨c,rfl,D⟩:=D;cases Y;refine wpAny_truthy_bool ?_;cases c with
 | true=>exact S pins U σ H1 Q J D
 | false=>exact⟨.bl false,H1,J,rfl,D⟩
def z1e(J:PE X a ta):PE X (.UnaryOp .Not a pos) (z4f ta):=by
 intro pins s σ H Q I h;refine UnaryOp_ (thn (J pins s σ H _ I h) λv V R=>?_);obtain⟨x,H1,S,U,D⟩:=R;obtain⟨c,rfl,D⟩:=D;cases U;exact not_of (wpAny_truthy_bool ⟨.bl (!c),H1,S,rfl,D⟩)
end
def SqL(K:k4)(H:Hp)(a:Addr)(xs:k8):Prop :=
 Rd H a (.lst xs) \/
  ∃(o:Obj) (its:k7) (n:Nat),K.lookup a=some o/\o.cls=.type "list"/\o.dict=none/\o.data=.seq its n/\its.size<=sizeLine/\Vals xs its.toList
def SqT(K:k4)(H:Hp)(a:Addr)(xs:k8):Prop :=
 Rd H a (.tup xs) \/
  ∃(o:Obj) (its:k7) (n:Nat),K.lookup a=some o/\o.cls=.type "tuple"/\o.data=.seq its n/\its.size<=sizeLine/\Vals xs its.toList
def absV:Value->Option V
 | .none=>some .non
 | .bool b=>some (.bl b)
 | .int i _=>some (.int i)
 | .str x _=>some (.str x)
 | .bytes b _=>some (.byt b)
 | .float b _=>some (.flt b)
 | .ref a=>some (.ref a)
 | .type n=>some (.ty n)
 | _=>none
def RelV.abs{x:V}(r:RelV x u):absV u=some x:=by
 cases x with
 | non=>cases r;rfl
 | bl _=>cases r;rfl
 | int _=>obtain⟨t,rfl⟩:=r;rfl
 | str _=>obtain⟨t,rfl⟩:=r;rfl
 | byt _=>obtain⟨t,rfl⟩:=r;rfl
 | flt _=>obtain⟨t,rfl⟩:=r;rfl
 | ref _=>cases r;rfl
 | ty _=>cases r;rfl
def RelV.inj{x y:V}{u:Value}(r:RelV x u)(q:RelV y u):x=y:=bq (r.abs.symm.trans q.abs)
def Vals.inj{xs ys:k8}{us:h7}(h:Vals xs us)(g:Vals ys us):xs=ys:=by
 induction h generalizing ys with
 | nil=>cases g;rfl
 | cons r t ih=>cases g with | cons p q=>rw[r.inj p,ih q]
variable{K:k4}
def SqT.of(h:H a=some (.tup xs)):SqT K H a xs:=.inl (.inl h)
variable{σ:St}
theorem Inv.list(I:Inv X pins σ H s)(h:SqL X.K H a xs):∃its:h7,Vals xs its/\PlainL s.heap a its.toArray/\xs.length<=sizeLine:=by
 rcases h with h | ⟨o,its,n,hk,hc,hd,hs,hz,r⟩
 ·obtain⟨z,its,n,r,e⟩:=h.ok I.hok
  exact⟨its,r,⟨_,n,e,rfl,rfl,rfl⟩,z⟩
 ·refine⟨its.toList,r,⟨o,n,I.kIn a o hk,hc,hd,by simpa using hs⟩,?_⟩
  have e:=r.length;simp only[mh] at e
  lia
theorem Inv.tuple(I:Inv X pins σ H s)(h:SqT X.K H a xs):∃its:h7,Vals xs its/\IsTup s.heap a its.toArray/\xs.length<=sizeLine:=by
 rcases h with h | ⟨o,its,n,hk,hc,hs,hz,r⟩
 ·obtain⟨z,its,r,p⟩:=h.ok I.hok
  exact⟨its,r,p,z⟩
 ·refine⟨its.toList,r,⟨o,I.kIn a o hk,hc,n,by simpa using hs⟩,?_⟩
  have e:=r.length;simp only[mh] at e
  lia
def Inv.list_inj(I:Inv X pins σ H s)(h:SqL X.K H a xs)(h':SqL X.K H a ys):xs=ys:=by
 obtain⟨its,r,⟨o,n,e,_,_,d⟩,_⟩:=I.list h;obtain⟨its',D,⟨o',J,e',_,_,d'⟩,_⟩:=I.list h';rw[e] at e';cases e';rw[d] at d';injection d' with d1 _;have:its=its':=by simpa using congrArg Array.toList d1
 subst this;exact r.inj D
def Inv.tuple_inj(I:Inv X pins σ H s)(h:SqT X.K H a xs)(h':SqT X.K H a ys):xs=ys:=by
 obtain⟨its,r,⟨o,e,_,n,d⟩,_⟩:=I.tuple h;obtain⟨its',D,⟨o',e',_,J,d'⟩,_⟩:=I.tuple h';rw[e] at e';cases e';rw[d] at d';injection d' with d1 _;have:its=its':=by simpa using congrArg Array.toList d1
 subst this;exact r.inj D
abbrev Cx.wish(X:Cx)(E:Value->Shared->Prop):Cx:={ X with xe:=E }
abbrev Cx.nox(X:Cx):Cx:=X.wish λ_ _=>False
def Cx.Ok.wish(ok:X.Ok)(E:Value->Shared->Prop):(X.wish E).Ok :=
 ⟨ok.mod,ok.kind,ok.glob,ok.blt,ok.above,ok.inj,ok.has,ok.cab,ok.hd,ok.frames,ok.stk,ok.exf,ok.bs,ok.bsz,ok.noex,ok.exfs,ok.funs,ok.frf⟩
def Cx.Ok.unwish(ok:(X.wish E).Ok):X.Ok :=
 ⟨ok.mod,ok.kind,ok.glob,ok.blt,ok.above,ok.inj,ok.has,ok.cab,ok.hd,ok.frames,ok.stk,ok.exf,ok.bs,ok.bsz,ok.noex,ok.exfs,ok.funs,ok.frf⟩
def Inv.wish(I:Inv X pins σ H s)(E:Value->Shared->Prop):Inv (X.wish E) pins σ H s:=⟨I.ok.wish E,I.os,I.bare,I.base,I.loc,I.cell,I.free,I.freeC,I.pin,I.hok,I.len⟩
def Inv.unwish(I:Inv (X.wish E) pins σ H s):Inv X pins σ H s:=⟨I.ok.unwish,I.os,I.bare,I.base,I.loc,I.cell,I.free,I.freeC,I.pin,I.hok,I.len⟩
def SP.unwish{D:Ends}{f:Flow}{s':Shared}(h:SP (X.wish E) pins D f s'):SP X pins D f s':=by
 cases f with
 | next=>obtain⟨J,H',I,q⟩:=h;exact⟨J,H',I.unwish,q⟩
 | brk=>obtain⟨J,H',I,q⟩:=h;exact⟨J,H',I.unwish,q⟩
 | cont=>obtain⟨J,H',I,q⟩:=h;exact⟨J,H',I.unwish,q⟩
 | ret u=>obtain⟨v,J,H',I,r,q⟩:=h;exact⟨v,J,H',I.unwish,r,q⟩
def PSs.nox{st:List Stmt}{t:TS}(h:PSs X.nox st t):PSs X st t:=λpins s σ H D I J =>
 wpAny_mono (h pins s σ H D (I.wish _) J) (λ_ _ q=>q.unwish) λ_ _ z=>False.elim z
section
variable {X:Cx} {st:Stmt} {rest:List Stmt} {t u:TS} {e:Expr} {te:TE} {pos:Pos}
def z4g:TS:=λD σ H=>D.nx σ H
def tSeq(t u:TS):TS:=λD σ H=>t { D with nx:=u D } σ H
def zyj:PSs X [] z4g:=λ_ _ σ H _ I h=>wpAny_execs_nil ⟨σ,H,I,h⟩
def zu9(h1:PS X st t)(h2:PSs X rest u):PSs X (st::rest) (tSeq t u):=by
 intro pins s σ H D I h;refine wpAny_execs_cons (thn (h1 pins s σ H { D with nx:=u D } I h) λf R q=>?_);cases f with
 | next =>
   obtain⟨J,H',S,q⟩:=q;exact h2 pins R J H' D S q
 | ret v=>exact q
 | brk=>exact q
 | cont=>exact q
def zyk(h1:PS X st t):PSs X [st] t:=by
 intro pins s σ H D I h;refine wpAny_execs_cons (thn (h1 pins s σ H D I h) λf J q=>?_);cases f with
 | next=>exact wpAny_execs_nil q
 | ret v=>exact q
 | brk=>exact q
 | cont=>exact q
def Inv.quiet{pins:k6}{σ:St}{H:Hp}{s:Shared}(I:Inv X pins σ H s):interactive X.env=false:=by simp[interactive,I.ok.kind]
def z4h(te:TE):TS:=λD σ H=>te σ H λ_ H1=>D.nx σ H1
def zsn(J:PE X e te)(R:swapsWith e none pos.line X.env=pure false:=by rfl):PS X (.Expr e pos) (z4h te):=by
 intro pins s σ H D I h;exact wpAny_Expr_any (thn (J pins s σ H _ I h) λv s1 ⟨x,H1,I1,r1,q1⟩=>⟨σ,H1,I1,q1⟩) I.quiet R
def tRet(te:TE):TS:=λD σ H=>te σ H D.rt
def yr(J:PE X e te):PS X (.Return (some e) pos) (tRet te):=by
 intro pins s σ H D I h;exact wpAny_Return_some (thn (J pins s σ H _ I h) λv s1 ⟨x,H1,I1,r1,q1⟩=>⟨x,σ,H1,I1,r1,q1⟩)
def tIfS(c:TT)(t u:TS):TS:=λD σ H=>c σ H λb H1=>if b=true then t D σ H1 else u D σ H1
def z4i{c:Expr}{a b:List Stmt}{J:TT}(V:PT X c J)(Y:PSs X a t)(Z:PSs X b u):PS X (.If c a b pos) (tIfS J t u):=by
 intro pins s σ H D I h;refine wpAny_If (thn (V pins s σ H _ I h) λd R e=>?_);obtain⟨H1,S,U⟩:=e;cases d with
 | true=>exact Y pins R σ H1 D S U
 | false=>exact Z pins R σ H1 D S U
end
abbrev TG:=V->St->Hp->(St->Hp->Prop)->Prop
abbrev TGs:=k8->St->Hp->(St->Hp->Prop)->Prop
def PG(X:Cx)(D:Expr)(t:TG):Prop :=
 ∀(pins:k6) (s:Shared) (σ:St) (H:Hp) (v:V) (u:Value) (Q:St->Hp->Prop),Inv X pins σ H s->RelV v u->t v σ H Q ->
  wpAny (model X.prog X.w) X.A (assign D X.env u) (λ_ s'=>∃I H',Inv X pins I H' s'/\Q I H') X.xe s
def PGs(X:Cx)(ts:ka)(t:TGs):Prop :=
 ∀(pins:k6) (s:Shared) (σ:St) (H:Hp) (vs:k8) (us:h7) (Q:St->Hp->Prop),Inv X pins σ H s->Vals vs us->t vs σ H Q ->
  wpAny (model X.prog X.w) X.A (assignInOrder ((assignEach ts X.env).map (·.2)) us) (λ_ s'=>∃D H',Inv X pins D H' s'/\Q D H') X.xe s
abbrev TSet:=V->V->V->Hp->(Hp->Prop)->Prop
def PSet(X:Cx)(t:TSet):Prop :=
 ∀(pins:k6) (s:Shared) (σ:St) (H:Hp) (o i v:V) (D I u:Value) (Q:Hp->Prop),Inv X pins σ H s->RelV o D->RelV i I->RelV v u->t o i v H Q ->
  wpAny (model X.prog X.w) X.A (setItem D I u) (λ_ s'=>∃H',Inv X pins σ H' s'/\Q H') X.xe s
abbrev TIp:=V->V->Hp->VK->Prop
def PIp(X:Cx)(op:Operator)(t:TIp):Prop :=
 ∀(pins:k6) (s:Shared) (σ:St) (H:Hp) (x y:V) (v u:Value) (Q:VK),Inv X pins σ H s->RelV x v->RelV y u->t x y H Q ->
  wpAny (model X.prog X.w) X.A (inplaceOp op v u) (EP X pins σ Q) X.xe s
def ml(i:Nat):TG:=λv σ H Q=>Q (σ.set i (some v)) H
variable{pos:Pos}
def zso(D:X.N.Nodup)(hi:X.N[i]?=some x)(J:Loc X.env.scope x)(R:X.fn x=true\/X.env.scope.names.lookup x=some .local:=by first | exact .inl rfl | exact .inr rfl | assumption):PG X (.Name x pos) (ml i):=by
 intro pins s σ H v u Q I r h;exact wpAny_assign_Name (zkk I D hi J r (λs' S=>⟨_,H,S,h⟩) R)
def gNil:TGs:=λvs σ H Q=>vs=[]/\Q σ H
def z1f(t:TG)(u:TGs):TGs:=λvs σ H Q=>∃v r,vs=v::r/\t v σ H λD H'=>u r D H' Q
def zyl:PGs X [] gNil:=by
 intro pins s σ H vs us Q I r h;obtain⟨e,h⟩:=h;subst e;cases r;exact assignInOrder_nil ⟨σ,H,I,h⟩
variable{es:ka}
def zva{t:TG}{u:TGs}(h1:PG X e t)(h2:PGs X es u)(J:(assignEach (e::es) X.env).map (·.2)=assign e X.env::(assignEach es X.env).map (·.2):=by rfl):PGs X (e::es) (z1f t u):=by
 intro pins s σ H vs us Q I r h;obtain⟨v,Z,R,h⟩:=h;subst R;cases r with
 | cons r rr =>
   rw[J];refine assignInOrder_cons (thn (h1 pins s σ H _ _ _ I r h) λ_ S U=>?_);obtain⟨D,H1,V,Y⟩:=U;exact h2 pins S D H1 _ _ Q V rr Y
def gTup(K:k4)(n:Nat)(t:TGs):TG:=λv σ H Q=>∃a xs,v=.ref a/\SqT K H a xs/\xs.length=n/\t xs σ H Q
variable{k n:Nat}
def z1g{t:TGs}(S:X.calm=true)(h:PGs X es t)(U:(assignEach es X.env).length=n:=by rfl)(D:(assignEach es X.env).findIdx? (·.1)=none:=by rfl):PG X (.Tuple es k pos) (gTup X.K n t):=by
 intro pins s σ H v u Q I r J;obtain⟨a,xs,V,Y,Z,J⟩:=J;subst V;cases r;obtain⟨its,R,c,g⟩:=I.tuple Y;refine assign_Tuple_tuple (I.ok.hd S) c (by simp[U,<-Z,R.length]) D λh' d=>?_;have f:Inv X pins σ H { s with heap:=h' }:=I.kept (t':=s.toks) λb o e=>d b o (b6 (bg e)) e;exact h pins _ σ H xs _ Q f (by simpa using R) J
def gSub(to D:TE)(t:TSet):TG:=λv σ H Q=>to σ H λo H1=>D σ H1 λi H2=>t o i v H2 λI=>Q σ I
def zqg{o i:Expr}{to S:TE}{t:TSet}(U:PE X o to)(hi:PE X i S)(V:PSet X t)(Y:∀v,assign (.Subscript o i pos) X.env v=(do
   let D <-holding [v] (eval o X.env);let J <-holding [v,D] (eval i X.env)
   standAt pos
   holding [v,D,J] (setItem D J v)
   release [v,D,J] []):=by intro _;rfl):PG X (.Subscript o i pos) (gSub to S t):=by
 intro pins s σ H v u Q I r h;rw[Y];refine wpAny_bind (wpAny_holding (thn (U pins s σ H _ I h) λD Z R=>?_));obtain⟨x,H1,a,b,c⟩:=R;refine wpAny_bind (wpAny_holding (thn (hi pins Z σ H1 _ a c) λJ s2 R=>?_));obtain⟨y,H2,d,e,f⟩:=R;refine wpAny_bind (wpAny_standAt (wpAny_bind (wpAny_holding (thn (V pins s2 σ H2 x y v D J u _ d b e r f) λ_ l R=>?_))));obtain⟨g,j,k⟩:=R;exact wpAny_release ⟨σ,g,j,k⟩
def tAsg(te:TE)(g:TG):TS:=λD σ H=>te σ H λx H1=>g x σ H1 D.nx
variable{tg:Expr}{te:TE}{g:TG}
def yq(J:PE X e te)(R:PG X tg g)(S:swapsWithSole [tg] e pos.line X.env=pure false:=by rfl)(U:swappedStores [tg] e X.env=pure none:=by rfl)(h1:(assignEach [tg] X.env).map (·.2)=[assign tg X.env]:=by rfl):PS X (.Assign [tg] e pos) (tAsg te g):=by
 intro pins s σ H D I h;refine wpAny_Assign_stores (thn (J pins s σ H _ I h) λv V Y=>?_) S U;obtain⟨x,H1,Z,a,b⟩:=Y;rw[h1];exact thn (R pins V σ H1 x v _ Z a b) λ_ s2 q=>q
variable{pos':Pos}
def zsp(J:X.N.Nodup)(hi:X.N[i]?=some x)(R:Loc X.env.scope x)(S:PE X e te)(U:swapsWith e (some (.Name x pos')) pos.line X.env=pure false:=by rfl)(V:X.fn x=true\/X.env.scope.names.lookup x=some .local:=by first | exact .inl rfl | exact .inr rfl | assumption) :
  PS X (.Assign [.Name x pos'] e pos) (tAsg te (ml i)):=by
 intro pins s σ H D I h;refine wpAny_Assign_Name (thn (S pins s σ H _ I h) λv d Y=>?_) U;obtain⟨y,H1,Z,a,b⟩:=Y;exact zkk Z J hi R a (λs2 c=>⟨_,H1,c,b⟩) V
def tAug(i:Nat)(te:TE)(I:TIp):TS:=λD σ H=>∃x,σ[i]?=some (some x)/\te σ H λy H1=>I x y H1 λz H2=>D.nx (σ.set i (some z)) H2
variable{op:Operator}
def z1h{V:TIp}(Y:X.N.Nodup)(hi:X.N[i]?=some x)(R:Loc X.env.scope x)(Z:PE X e te)(a:PIp X op V)(b:X.fn x=true\/X.env.scope.names.lookup x=some .local:=by first | exact .inl rfl | exact .inr rfl | assumption) :
  PS X (.AugAssign (.Name x pos') op e pos) (tAug i te V):=by
 intro pins s σ H D I h;obtain⟨v,d,h⟩:=h;obtain⟨m,f,g⟩:=I.loc;have S:Vis X.env.scope x:=by rcases R with k | k;exact .inl k;exact .inr (.inl k)
 obtain⟨u,r,l⟩:=g i x v hi d S;refine wpAny_AugAssign_Name ?_;have go:wpAny (model X.prog X.w) X.A (eval e X.env) (λw s₂=>wpAny (model X.prog X.w) X.A (inplaceOp op u w) (λr J=>wpAny (model X.prog X.w) X.A (storeName X.env x r) (λ_=>SP X pins D .next) X.xe J) X.xe s₂) X.xe s:=by
  refine thn (Z pins s σ H _ I h) λw j U=>?_;obtain⟨y,H1,n,o,p⟩:=U;refine thn (a pins j σ H1 v y u w _ n r o p) λz s2 U=>?_;obtain⟨F,H2,q,t,B⟩:=U;exact zkk q Y hi R t (λG C=>⟨_,H2,C,B⟩) b
 rcases l with⟨hk,E⟩ | ⟨hk,c,hc,hcell⟩
 ·exact wpAny_loadName_local I.ok.kind hk f E go
 ·rcases hk with hk | hk
  ·exact wpAny_loadName_cell I.ok.kind hk hc hcell go
  ·rcases R with k | k
   ·have:X.env.scope.names.lookup x=some .free:=hk
    rw[k] at this;cases this
   ·have:X.env.scope.names.lookup x=some .free:=hk
    rw[k] at this;cases this
def ipI(f:Int->Int->Int):TIp:=λx y H Q=>∃i j,x=.int i/\y=.int j/\Q (.int (f i j)) H
def z1i:PIp X .Add (ipI λi j=>i+j):=by
 intro pins s σ H x y v u Q I D J h;obtain⟨i,j,R,S,q⟩:=h;subst R;subst S;obtain⟨t,rfl⟩:=D;obtain⟨t',rfl⟩:=J;exact iadd_int ⟨.int _,H,I.tok _,⟨_,rfl⟩,q⟩
def z1j(c:TT)(tb:TS):TS:=λD σ H=>∃W:Nat->St->Hp->Prop,(∃m,W m σ H)/\∀m σ H,W m σ H ->
 c σ H λb H1=>if b=true then ∃N:St->Hp->Prop,(∀I H',N I H'->∃J,J<m/\W J I H')/\tb { D with nx:=N,ct:=N,bk:=D.nx } σ H1 else D.nx σ H1
variable{c:Value}{body:List Stmt}{tb:TS}
def zvb{c:Expr}{g:TT}(i:PassesOwn (model X.prog X.w) X.A X.env X.xe)(l:PT X c g)(m:PSs X body tb):PS X (.While c body [] pos) (z1j g tb):=by
 intro pins s σ H D I h;obtain⟨W,⟨o,p⟩,turn⟩:=h;refine wpAny_While (codeAny_whileLoop (λn s'=>∃R H',Inv X pins R H' s'/\W n R H') ?_ o ⟨σ,H,I,p⟩);rintro n q ⟨σ1,H1,I1,w1⟩;refine wpAny_passesOwn i (thn (l pins q σ1 H1 _ I1 (turn n σ1 H1 w1)) λb s2 r=>?_);obtain⟨H2,j,U⟩:=r;cases b with
 | true =>
   obtain⟨N,k,U⟩:=U;rw[if_pos rfl];refine wpAny_passesOwn i (thn (m pins s2 σ1 H2 _ j U) λf t V=>?_);cases f with
   | next =>
     obtain⟨J,S,Y,Z⟩:=V;obtain⟨a,d,e⟩:=k J S Z;exact⟨a,d,J,S,Y,e⟩
   | cont =>
     obtain⟨J,S,Y,Z⟩:=V;obtain⟨a,d,e⟩:=k J S Z;exact⟨a,d,J,S,Y,e⟩
   | brk=>exact V
   | ret v=>exact V
 | false =>
   rw[if_neg ce];exact wpAny_execs_nil ⟨σ1,H2,j,U⟩
structure It where
 go:Nat->Hp->Prop
 yld:Nat->Hp->V->Hp->Prop
 stop:Nat->Hp->Prop
def FpOk(X:Cx)(pins:k6)(H:Hp)(b:Addr):Prop :=
 H b=none/\b≠X.env.locals/\b∉X.fs/\(b∈X.ex\/X.s₀.heap.objs.size<=b)/\(∀x c,X.env.cells.lookup x=some c->c≠b)/\∀p∈X.pn++pins,p.1≠b
def Inv.fpOk(I:Inv X pins σ H s)(D:s.heap.objs.size<=b)(J:H' b=none):FpOk X pins H' b:=by
 refine⟨J,kt (az I.lt D),I.nofs D,.inr (cx I.sz D),λx c e z=>?_,λp R z=>?_⟩
 ·obtain⟨v,q⟩:=I.cell x c e
  exact absurd (az q.lt (by rw[z];exact D)) (ff _)
 ·exact absurd (az (bg (I.pin p R).1) (by rw[z];exact D)) (ff _)
structure u7 (Cm:Cx->Prop) (P:Program) (w:World) (K:k4) (tg:Expr) (J:It) (fp:ia) (it:Addr) (tn:Nat->Heap->Prop):Prop where
 mem:it∈fp
 obj:∀i h,tn i h->∀b∈fp,∃o,h.get? b=some o/\∀v,o.data≠.cell v
 keep:∀i h h',tn i h->(∀b∈fp,∀o,h.get? b=some o->h'.get? b=some o)->tn i h'
 item:∀(X:Cx),X.prog=P->X.w=w->X.K=K->Cm X->∀(i:Nat) (pins:k6) (s:Shared) (σ:St) (H:Hp) (E:Value->Shared->Prop),Inv X pins σ H s->(∀b∈fp,FpOk X pins H b)->tn i s.heap->J.go i H ->
  wpAny (model P w) X.A (pyNext (.ref it)) (λr s1=>∃u,r=some u /\
   wpAny (model P w) X.A (letOwnedTupleGo tg (.ref it) u) (λ_ s2=>∃x H',Inv X pins σ H' s2/\RelV x u/\J.yld i H x H'/\tn (i+1) s2.heap/\∀b∈fp,H' b=none) E s1) E s
 done:∀(X:Cx),X.prog=P->X.w=w->X.K=K->Cm X->∀(i:Nat) (pins:k6) (s:Shared) (σ:St) (H:Hp) (E:Value->Shared->Prop),Inv X pins σ H s->(∀b∈fp,FpOk X pins H b)->tn i s.heap->J.stop i H ->
  wpAny (model P w) X.A (pyNext (.ref it)) (λr s1=>r=none/\Inv X pins σ H s1) E s
 self:∀(A:Around) (i:Nat) (s:Shared) (Q:Value->Shared->Prop) (E:Value->Shared->Prop),tn i s.heap->Q (.ref it) s->wpAny (model P w) A (pyIter (.ref it)) Q E s
abbrev Turn:=u7 λX=>X.calm=true
abbrev TI:=St->Hp->(It->Hp->Prop)->Prop
def PIEC(Cm:Cx->Prop)(X:Cx)(pins:k6)(σ:St)(tg:Expr)(R:It->Hp->Prop)(D:Value)(s2:Shared):Prop :=
 ∃(it:Addr) (fp:ia) (I:Nat->Heap->Prop) (J:It) (H':Hp),D=.ref it/\Inv X pins σ H' s2/\u7 Cm X.prog X.w X.K tg J fp it I/\I 0 s2.heap/\(∀b∈fp,FpOk X pins H' b)/\R J H'
def PIC(Cm:Cx->Prop)(X:Cx)(tg iter:Expr)(wi:TI):Prop :=
 ∀(pins:k6) (s:Shared) (σ:St) (H:Hp) (R:It->Hp->Prop),Inv X pins σ H s->wi σ H R ->
  wpAny (model X.prog X.w) X.A (eval iter X.env) (λv D=>wpAny (model X.prog X.w) X.A (pyIter v) (PIEC Cm X pins σ tg R) X.xe D) X.xe s
abbrev PI:=PIC λX=>X.calm=true
variable{vs:k8}
def zvc{n:String}{vs:k7}(I:s.heap.get? it=some o)(J:o.cls=.type n)(R:o.data=.fields vs)(S:["enumerate", "zip", "dict_itemiterator", "dict_reverseitemiterator", "odict_iterator", "itertools.zip_longest", "itertools.pairwise"].contains n=false)(D:Q () s):wpAny M A (letOwnedTupleGo tg (.ref it) u) Q E s:=by
 unfold letOwnedTupleGo;cases tg <;> first
  | exact wpAny_pure D
  | (cases u <;> first
      | exact wpAny_pure D
      | (refine wpAny_bind (wpAny_load I ?_)
         rw[J,R];show wpAny M A (if (["enumerate", "zip", "dict_itemiterator", "dict_reverseitemiterator", "odict_iterator", "itertools.zip_longest", "itertools.pairwise"].contains n && vs[0]?==some (rawInt _))=true then _ else _) Q E s;rw[if_neg (by intro h;rw[S,Bool.false_and] at h;cases h)];exact wpAny_pure D))
def Itl(K:k4)(a:Addr):It :=
 ⟨λi H=>∃xs x,SqL K H a xs/\xs[i]?=some x,λi H x H'=>H'=H/\∀xs,SqL K H a xs->xs[i]?=some x,λi H=>∃xs,SqL K H a xs/\xs.length<=i⟩
def Itt(K:k4)(a:Addr):It :=
 ⟨λi H=>∃xs x,SqT K H a xs/\xs[i]?=some x,λi H x H'=>H'=H/\∀xs,SqT K H a xs->xs[i]?=some x,λi H=>∃xs,SqT K H a xs/\xs.length<=i⟩
def Itr(lo:Int)(n:Nat):It:=⟨λi _=>i<n,λi H x H'=>H'=H/\x=.int (lo+i),λi _=>n<=i⟩
theorem zsq(a it:Addr):Turn P w K tg (Itl K a) [it] it (λi h=>h.IsListIter it a i) where
 mem:=by simp
 obj:=λi h st b D=>by
  have e:b=it:=by simpa using D
  subst e;obtain⟨o,e,c,d⟩:=st;exact⟨o,e,λv z=>by rw[d] at z;cases z⟩
 keep:=λi h h' st k=>st.at λo e=>k it (by simp) o e
 item:=by
  intro X hP U V q i pins s σ H E I R st Y;subst hP U V;obtain⟨xs,x,S,Z⟩:=Y;obtain⟨its,f,p,r⟩:=I.list S;obtain⟨u,t,y⟩:=f.get Z;obtain⟨g,j,A,l,m,n⟩:=R it (by simp);refine wpAny_pyNext_list_item st p.isList (x:=u) (by simpa using t) λh' J B=>?_;have C:Inv X pins σ H { s with heap:=h' }:=I.turned (t':=s.toks) (λb o D e=>(B.2 b D).trans e) g j l m n;obtain⟨o,e,c,d⟩:=id J;exact⟨u,rfl,zvc (s:={ s with heap:=h' }) e c d (by decide) ⟨x,H,C,y,⟨rfl,λys F=>by rw[I.list_inj F S];exact Z⟩,J,λb D=>(R b D).1⟩⟩
 done:=by
  intro X hP U V q i pins s σ H E I R st Y;subst hP U V;obtain⟨xs,S,Z⟩:=Y;obtain⟨its,f,p,r⟩:=I.list S;obtain⟨g,j,A,l,m,n⟩:=R it (by simp);have L:=f.length;exact wpAny_pyNext_list_end (I.ok.hd q) st p.isList (by simp;lia) λh' G=>⟨rfl,I.turned (t':=s.toks) (λb o D e=>G b o D e) g j l m n⟩
 self:=λ_ _ _ _ _ st h=>wpAny_pyIter_listiter st h
theorem zrp(a it:Addr):Turn P w K tg (Itt K a) [it] it (λi h=>h.IsTupleIter it a i) where
 mem:=by simp
 obj:=λi h st b D=>by
  have e:b=it:=by simpa using D
  subst e;obtain⟨o,e,c,d⟩:=st;exact⟨o,e,λv z=>by rw[d] at z;cases z⟩
 keep:=λi h h' st k=>st.at λo e=>k it (by simp) o e
 item:=by
  intro X hP U V q i pins s σ H E I R st Y;subst hP U V;obtain⟨xs,x,S,Z⟩:=Y;obtain⟨its,f,p,r⟩:=I.tuple S;obtain⟨u,t,y⟩:=f.get Z;obtain⟨g,j,A,l,m,n⟩:=R it (by simp);refine wpAny_pyNext_tuple_item st (show s.heap.IsTuple a its.toArray from p) (x:=u) (by simpa using t) λh' J B=>?_;have C:Inv X pins σ H { s with heap:=h' }:=I.turned (t':=s.toks) (λb o D e=>(B.2 b D).trans e) g j l m n;obtain⟨o,e,c,d⟩:=id J;exact⟨u,rfl,zvc (s:={ s with heap:=h' }) e c d (by decide) ⟨x,H,C,y,⟨rfl,λys F=>by rw[I.tuple_inj F S];exact Z⟩,J,λb D=>(R b D).1⟩⟩
 done:=by
  intro X hP U V q i pins s σ H E I R st Y;subst hP U V;obtain⟨xs,S,Z⟩:=Y;obtain⟨its,f,p,r⟩:=I.tuple S;obtain⟨g,j,A,l,m,n⟩:=R it (by simp);have L:=f.length;exact wpAny_pyNext_tuple_end (I.ok.hd q) st (show s.heap.IsTuple a its.toArray from p) (by simp;lia) λh' G=>⟨rfl,I.turned (t':=s.toks) (λb o D e=>G b o D e) g j l m n⟩
 self:=λ_ _ _ _ _ st h=>wpAny_pyIter_tupleiter st h
theorem zic(it:Addr)(lo:Int)(n:Nat):Turn P w K tg (Itr lo n) [it] it (λi h=>IsRangeIter h it (lo+(i:Nat)*1) ((n:Int)-(i:Nat)) 1) where
 mem:=by simp
 obj:=λi h st b D=>by
  have e:b=it:=by simpa using D
  subst e;exact⟨_,st,λv z=>by
   have g:Data.fields _=Data.cell v:=z;cases g⟩
 keep:=λi h h' st k=>k it (by simp) _ st
 item:=by
  intro X hP S U V i pins s σ H E I R st Y;subst hP S U;obtain⟨Z,a,j,c,d,f⟩:=R it (by simp);have W:=Walks.range (prog:=X.prog) (w:=X.w) (I.ok.hd V) it lo 1 n;refine W.item i s _ _ Y st λv h' tk l J kk=>?_;obtain⟨t,rfl⟩:=l;have m:Inv X pins σ H { s with heap:=h',toks:=tk }:=I.turned (λb o D e=>kk b o (by simpa using D) e) Z a c d f;refine⟨_,rfl,zvc (s:={ s with heap:=h',toks:=tk }) (n:="range_iterator") J rfl rfl (by decide) ⟨.int (lo+i),H,m,⟨t,?_⟩,⟨rfl,rfl⟩,J,λb D=>(R b D).1⟩⟩;rw[Int.mul_one]
 done:=by
  intro X hP S U V i pins s σ H E I R st Y;subst hP S U;obtain⟨Z,a,j,c,d,f⟩:=R it (by simp);exact wpAny_pyNext_range_end (I.ok.hd V) st (by have:n<=i:=Y;lia) λh' p=>⟨rfl,I.turned (t':=s.toks) (λb o D e=>p b o D e) Z a c d f⟩
 self:=λ_ _ _ _ _ st h=>wpAny_pyIter_rangeiter st h
def z4j(K:k4)(tl:TE):TI:=λσ H R=>tl σ H λx H1=>∃a,x=.ref a/\(∃xs,SqL K H1 a xs)/\R (Itl K a) H1
def iTup(K:k4)(tl:TE):TI:=λσ H R=>tl σ H λx H1=>∃a,x=.ref a/\(∃xs,SqT K H1 a xs)/\R (Itt K a) H1
variable{l:Expr}{tl:TE}
def zsr(S:PE X l tl):PI X tg l (z4j X.K tl):=by
 intro pins s σ H R I h;refine thn (S pins s σ H _ I h) λv D U=>?_;obtain⟨x,H1,J,V,Y⟩:=U;obtain⟨a,e,⟨xs,Z⟩,q⟩:=Y;subst e;cases V;obtain⟨its,d,p,f⟩:=J.list Z;refine wpAny_pyIter_list p.isList ?_;refine⟨D.heap.objs.size,[D.heap.objs.size],_,_,H1,rfl,J.kept (t':=D.toks) λb o e=>ao _ e,zsq a _,⟨_,ci _ rfl,rfl,rfl⟩,λb c=>?_,q⟩;have e:b=D.heap.objs.size:=by simpa using c
 subst e;exact J.fpOk (bw _) (J.hok.fresh (bw _))
def z1k(S:PE X l tl):PI X tg l (iTup X.K tl):=by
 intro pins s σ H R I h;refine thn (S pins s σ H _ I h) λv D U=>?_;obtain⟨x,H1,J,V,Y⟩:=U;obtain⟨a,e,⟨xs,Z⟩,q⟩:=Y;subst e;cases V;obtain⟨its,d,p,f⟩:=J.tuple Z;refine wpAny_pyIter_tuple (show D.heap.IsTuple a its.toArray from p) ?_;refine⟨D.heap.objs.size,[D.heap.objs.size],_,_,H1,rfl,J.kept (t':=D.toks) λb o e=>ao _ e,zrp a _,⟨_,ci _ rfl,rfl,rfl⟩,λb c=>?_,q⟩;have e:b=D.heap.objs.size:=by simpa using c
 subst e;exact J.fpOk (bw _) (J.hok.fresh (bw _))
variable{v:Value}{Cm:Cx->Prop}
theorem zvd(hT:∀(it:Addr) (lo:Int) (n:Nat),u7 Cm X.prog X.w X.K tg (Itr lo n) [it] it (λi h=>IsRangeIter h it (lo+(i:Nat)*1) ((n:Int)-(i:Nat)) 1)){R:It->Hp->Prop}{lo hi:Int}{t u v:Tok}{tk:Nat}(I:Inv X pins σ H s)(h1:-(2 ^ 62)<=lo)(h2:lo<2 ^ 62)(J:-(2 ^ 62)<=hi)(S:hi<2 ^ 62)(q:R (Itr lo (hi-lo).toNat) H):wpAny (model X.prog X.w) X.A (pyIter (.ref s.heap.objs.size)) (PIEC Cm X pins σ tg R) E { s with heap:=s.heap.push { cls:=.type "range",data:=.fields #[.int lo t,.int hi u,.int 1 v] },toks:=tk }:=by
 refine wpAny_pyIter_range (IsRange.new ..) (small_one h1 h2 J S) ?_;have D:Inv X pins σ H { s with heap:=s.heap.push { cls:=.type "range",data:=.fields #[.int lo t,.int hi u,.int 1 v] },toks:=tk }:=I.kept λb o e=>ao _ e;refine⟨(s.heap.push { cls:=.type "range",data:=.fields #[.int lo t,.int hi u,.int 1 v] }).objs.size,[(s.heap.push { cls:=.type "range",data:=.fields #[.int lo t,.int hi u,.int 1 v] }).objs.size],_,_,H,rfl,
  D.kept (t':=tk) λb o e=>ao _ e,hT _ lo (hi-lo).toNat,?_,λb U=>?_,q⟩
 ·have V:lo+((0:Nat):Int)*1=lo:=by simp
  have Y:(((hi-lo).toNat:Nat):Int)-((0:Nat):Int)=Builtin.Range.rangeSize lo hi 1:=by rw[rangeSize_one];split <;> lia
  show IsRangeIter _ _ (lo+((0:Nat):Int)*1) ((((hi-lo).toNat:Nat):Int)-((0:Nat):Int)) 1;rw[V,Y];exact ci _ rfl
 ·have e:b=(s.heap.push { cls:=.type "range",data:=.fields #[.int lo t,.int hi u,.int 1 v] }).objs.size:=by simpa using U
  subst e;exact D.fpOk (bw _) (D.hok.fresh (bw _))
def z4k(ta:TA):TI:=λσ H R=>ta σ H λvs H1=>∃j:Int,vs=[.int j]/\-(2 ^ 62)<=j/\j<2 ^ 62/\R (Itr 0 j.toNat) H1
variable{a:Expr}{ta:TE}{p:Pos}
theorem zrq(hT:∀(it:Addr) (lo:Int) (n:Nat),u7 Cm X.prog X.w X.K tg (Itr lo n) [it] it (λi h=>IsRangeIter h it (lo+(i:Nat)*1) ((n:Int)-(i:Nat)) 1)){ta:TA}(J:Gl X "range")(S:X.mg "range" = none)(U:PA X [a] ta)(V:starEach [a] X.env=[(false,eval a X.env)]:=by rfl):PIC Cm X tg (.Call (.Name "range" p) [a] [] pos) (z4k ta):=by
 intro pins s σ H R I h;refine Call_ (wj I J S boot_range (jm (thn (U pos pins s σ H _ I h) λus d Y=>?_) V rfl));obtain⟨vs,H1,Z,b,D⟩:=Y;obtain⟨j,e,D,c,q⟩:=D;subst e;cases b with
 | cons r rr =>
   cases rr;obtain⟨t,rfl⟩:=r;exact call_range_1 (zvd hT Z (by lia) (by lia) D c (by simpa using q))
def tFor(wi:TI)(g:TG)(tb:TS):TS:=λD σ H=>wi σ H λJ H1=>∃W:Nat->Nat->St->Hp->Prop,(∃m,W 0 m σ H1)/\∀i m σ H,W i m σ H ->
 (J.stop i H/\D.nx σ H)\/(J.go i H/\∃N:St->Hp->Prop,(∀I H',N I H'->∃S,S<m/\W (i+1) S I H')/\∀x H',J.yld i H x H'->g x σ H' λR H2=>tb { D with nx:=N,ct:=N,bk:=D.nx } R H2)
def yp(fp:ia)(h:Heap):k6:=fp.filterMap λb=>(h.get? b).map λo=>(b,o)
variable{fp:ia}
def zid(D:b∈fp)(e:h.get? b=some o):(b,o)∈yp fp h:=my.mpr ⟨b,D,by rw[e];rfl⟩
def zss{p:Addr×Obj}(D:p∈yp fp h):p.1∈fp/\h.get? p.1=some p.2:=by
 obtain⟨b,I,e⟩:=my.mp D;cases q:h.get? b with
 | none=>rw[q] at e;cases e
 | some o =>
   rw[q] at e;have e':(b,o)=p:=bq e;subst e';exact⟨I,q⟩
def Inv.pinned(I:Inv X pins σ H s)(J:∀b∈fp,FpOk X pins H b)(R:∀b∈fp,∃o,s.heap.get? b=some o/\∀v,o.data≠.cell v):Inv X (pins++yp fp s.heap) σ H s :=
 I.pins_of λp S=>(cz.mp S).elim (λz=>I.pin p (bz _ z)) λz=>by
  obtain⟨D,e⟩:=zss z;obtain⟨U,V,Y,_⟩:=J p.1 D;obtain⟨o,e',d⟩:=R p.1 D;rw[e] at e';cases e';exact⟨e,U,V,Y,d⟩
def Inv.unpinned{pins pl:k6}(I:Inv X (pins++pl) σ H s):Inv X pins σ H s:=I.pins_of λp D=>I.pin p (bz _ (du _ D))
def z1l{iter:Expr}{wi:TI}(k:PassesOwn (model X.prog X.w) X.A X.env X.xe)(E:X.calm=true)(hi:PI X tg iter wi)(O:PG X tg g)(S:PSs X body tb)(P:∀x,foldedSetIterable iter X.env x=pure x:=by intro _;rfl):PS X (.For tg iter body [] pos) (tFor wi g tb):=by
 intro pins s σ H D I h;refine wpAny_For (thn (hi pins s σ H _ I h) λv s1 h1=>thn h1 λQ s2 h2=>?_) P;obtain⟨it,fp,F,J,H2,e,I2,T,q,G,W,⟨m0,w0⟩,turn⟩:=h2;subst e;have U:∀ {H':Hp},(∀b∈fp,H' b=none)->∀b∈fp,FpOk X pins H' b:=λhn b S=>⟨hn b S,(G b S).2⟩;refine codeAny_forLoop_any (λn s'=>∃i V H',Inv X pins V H' s'/\F i s'.heap/\(∀b∈fp,H' b=none)/\W i n V H') ?_ m0 ⟨0,σ,H2,I2,q,λb S=>(G b S).1,w0⟩;rintro n K ⟨i,σ3,H3,I3,st3,fr3,w3⟩;rcases turn i n σ3 H3 w3 with⟨l,qn⟩ | ⟨go,N,hN,step⟩
 ·refine wpAny_passesOwn k (thn (T.done X rfl rfl rfl E i pins K σ3 H3 X.xe I3 (U fr3) st3 l) λr s4 c=>?_)
  obtain⟨t,I4⟩:=c;subst t;exact wpAny_execs_nil ⟨σ3,H3,I4,qn⟩
 ·refine wpAny_passesOwn k (thn (T.item X rfl rfl rfl E i pins K σ3 H3 X.xe I3 (U fr3) st3 go) λr s4 c=>?_)
  obtain⟨u,t,h4⟩:=c;subst t;refine wpAny_passesOwn k (thn h4 λ_ L c=>?_);obtain⟨x,M,I5,r5,y5,j,y⟩:=c;have z:=I5.pinned (U y) (T.obj _ _ j);refine wpAny_passesOwn k (thn (O _ L σ3 M x u _ z r5 (step x M y5)) λ_ s6 c=>?_);obtain⟨B,H6,I6,q6⟩:=c;refine wpAny_passesOwn k (thn (S _ s6 B H6 _ I6 q6) λf C a=>?_);have again:∀ {R:St} {Y:Hp},Inv X (pins++yp fp L.heap) R Y C->N R Y->∃m,m<n/\∃i V H',Inv X pins V H' C/\F i C.heap/\(∀b∈fp,H' b=none)/\W i m V H':=λ{R Y} Z p=>by
   obtain⟨m',hm,w7⟩:=hN R Y p;refine⟨m',hm,i+1,R,Y,Z.unpinned,T.keep _ _ _ j λb S o e=>(Z.pin (b,o) (bz _ (bz _ (zid S e)))).1,λb S=>?_,w7⟩;obtain⟨o,e,d⟩:=T.obj _ _ j b S;exact(Z.pin (b,o) (bz _ (bz _ (zid S e)))).2.1
  cases f with
  | next=>obtain⟨R,Y,Z,p⟩:=a;exact again Z p
  | cont=>obtain⟨R,Y,Z,p⟩:=a;exact again Z p
  | brk=>obtain⟨R,Y,Z,a⟩:=a;exact⟨R,Y,Z.unpinned,a⟩
  | ret v=>obtain⟨x7,R,Y,Z,r7,a⟩:=a;exact⟨x7,R,Y,Z.unpinned,r7,a⟩
abbrev R2:=V->V->Hp->VK->Prop
def OpR(X:Cx)(f:Value->Value->Sem Value)(r:R2):Prop :=
 ∀(pins:k6) (s:Shared) (σ:St) (H:Hp) (x y:V) (v u:Value) (Q:VK),Inv X pins σ H s->RelV x v->RelV y u->r x y H Q ->
  wpAny (model X.prog X.w) X.A (f v u) (EP X pins σ Q) X.xe s
def UnR(X:Cx)(f:Value->Sem Value)(r:V->Hp->VK->Prop):Prop :=
 ∀(pins:k6) (s:Shared) (σ:St) (H:Hp) (x:V) (v:Value) (Q:VK),Inv X pins σ H s->RelV x v->r x H Q ->
  wpAny (model X.prog X.w) X.A (f v) (EP X pins σ Q) X.xe s
def nv(X:Cx)(f:Value)(r:k8->Hp->VK->Prop):Prop :=
 ∀(pins:k6) (s:Shared) (σ:St) (H:Hp) (xs:k8) (us:h7) (Q:VK),Inv X pins σ H s->Vals xs us->r xs H Q ->
  wpAny (model X.prog X.w) X.A (call f us) (EP X pins σ Q) X.xe s
def tOp(r:R2)(ta tb:TE):TE:=λσ H Q=>ta σ H λx H1=>tb σ H1 λy H2=>r x y H2 Q
def tUn(r:V->Hp->VK->Prop)(ta:TE):TE:=λσ H Q=>ta σ H λx H1=>r x H1 Q
def rI(C:Int->Int->Prop)(g:Int->Int->V):R2:=λx y H Q=>∃i j,x=.int i/\y=.int j/\C i j/\Q (g i j) H
def rI0(g:Int->Int->V):R2:=λx y H Q=>∃i j,x=.int i/\y=.int j/\Q (g i j) H
def rU(g:Int->V):V->Hp->VK->Prop:=λx H Q=>∃i,x=.int i/\Q (g i) H
variable{b:Expr}{Q:Value->Shared->Prop}{tb:TE}{f:Value->Value->Sem Value}
def binT(S:PE X a ta)(U:PE X b tb){R:V->V->Hp->Prop}(I:Inv X pins σ H s)(h:ta σ H λx H1=>tb σ H1 λy H2=>R x y H2)(Y:∀v u s2 x y H2,Inv X pins σ H2 s2->RelV x v->RelV y u->R x y H2->wpAny (model X.prog X.w) X.A (f v u) Q X.xe s2) :
  wpAny (model X.prog X.w) X.A (eval a X.env) (λv D=>wpAny (model X.prog X.w) X.A (eval b X.env) (λu s₂=>wpAny (model X.prog X.w) X.A (f v u) Q X.xe s₂) X.xe D) X.xe s:=by
 refine thn (S pins s σ H _ I h) λv Z J=>?_;obtain⟨x,H1,c,d,e⟩:=J;refine thn (U pins Z σ H1 _ c e) λu s2 J=>?_;obtain⟨y,H2,g,i,j⟩:=J;exact Y v u s2 x y H2 g d i j
variable{r:R2}
def zym(D:OpR X (binaryOp op) r)(J:PE X a ta)(R:PE X b tb):PE X (.BinOp a op b pos) (tOp r ta tb):=by
 intro pins s σ H Q I h;exact wpAny_BinOp (binT J R I h λv u s2 x y H2 S U V q=>D pins s2 σ H2 x y v u Q S U V q)
variable{op:CmpOp}
def z1m{op:UnaryOp}{r:V->Hp->VK->Prop}(D:UnR X (unaryOp op) r)(J:PE X a ta):PE X (.UnaryOp op a pos) (tUn r ta):=by
 intro pins s σ H Q I h;exact UnaryOp_ (thn (J pins s σ H _ I h) λv s1 ⟨x,H1,I1,r1,q1⟩=>D pins s1 σ H1 x v Q I1 r1 q1)
variable{g:Int->Int->Int}{C:Addr}
def opI{C:Int->Int->Prop}(rule:∀(i j:Int) (t u:Tok) (s:Shared) (Q:Value->Shared->Prop) (E:Value->Shared->Prop),C i j->Q (.int (g i j) s.toks) { s with toks:=s.toks+1 }->wpAny (model X.prog X.w) X.A (f (.int i t) (.int j u)) Q E s) :
  OpR X f (rI C λi j=>.int (g i j)):=by
 intro pins s σ H x y v u Q I D J h;obtain⟨i,j,rfl,rfl,R,q⟩:=h;obtain⟨t,rfl⟩:=D;obtain⟨t',rfl⟩:=J;exact rule i j t t' s _ _ R ⟨.int (g i j),H,I.tok _,⟨_,rfl⟩,q⟩
def opI0(rule:∀(i j:Int) (t u:Tok) (s:Shared) (Q:Value->Shared->Prop) (E:Value->Shared->Prop),Q (.int (g i j) s.toks) { s with toks:=s.toks+1 }->wpAny (model X.prog X.w) X.A (f (.int i t) (.int j u)) Q E s) :
  OpR X f (rI0 λi j=>.int (g i j)):=by
 intro pins s σ H x y v u Q I D J h;obtain⟨i,j,rfl,rfl,q⟩:=h;obtain⟨t,rfl⟩:=D;obtain⟨t',rfl⟩:=J;exact rule i j t t' s _ _ ⟨.int (g i j),H,I.tok _,⟨_,rfl⟩,q⟩
def opB0{g:Int->Int->Bool}(rule:∀(i j:Int) (t u:Tok) (s:Shared) (Q:Value->Shared->Prop) (E:Value->Shared->Prop),Q (.bool (g i j)) s->wpAny (model X.prog X.w) X.A (f (.int i t) (.int j u)) Q E s) :
  OpR X f (rI0 λi j=>.bl (g i j)):=by
 intro pins s σ H x y v u Q I D J h;obtain⟨i,j,rfl,rfl,q⟩:=h;obtain⟨t,rfl⟩:=D;obtain⟨t',rfl⟩:=J;exact rule i j t t' s _ _ ⟨.bl (g i j),H,I,rfl,q⟩
def CDiv(i j:Int):Prop:=0<j/\j<1073741824
def CPow(i j:Int):Prop:=0<=j/\j<=1000000/\i.natAbs<2 ^ 64
def CMul(i j:Int):Prop:=(-(2 ^ 64)<i/\i<2 ^ 64)\/(-(2 ^ 64)<j/\j<2 ^ 64)
variable{i:Int}
def CMul.ok(h:CMul i j):IntMulOk i j:=by
 rcases h with⟨h1,h2⟩ | ⟨h1,h2⟩
 ·exact .of_left (intBits_le_64 h1 h2)
 ·exact .of_right (intBits_le_64 h1 h2)
def z1n:OpR X (binaryOp .Add) (rI0 λi j=>.int (i+j)):=opI0 λ_ _ _ _ _ _ _ q=>add_int q
def z1o:OpR X (binaryOp .Sub) (rI0 λi j=>.int (i-j)):=opI0 λ_ _ _ _ _ _ _ q=>sub_int q
def z1p:OpR X (binaryOp .Mult) (rI CMul λi j=>.int (i*j)):=opI λ_ _ _ _ _ _ _ D q=>mul_int q D.ok
theorem zyn:OpR X (binaryOp .FloorDiv) (rI CDiv λi j=>.int (i / j)):=opI λi j _ _ _ _ _ D q=>by
 have h1:(0:Int)<j:=D.1;have h2:j<1073741824:=D.2;exact floordiv_int (by lia) (by rw[Int.fdiv_eq_ediv_of_nonneg i (by lia)];exact q) (.inl (PyProof.noPylong_small (by lia)))
theorem z1q:OpR X (binaryOp .Mod) (rI (λ_ j=>0<j) λi j=>.int (i % j)):=opI λi j _ _ _ _ _ D q=>by
 have h1:(0:Int)<j:=D;exact mod_int' (by lia) (by rw[Int.fmod_eq_emod_of_nonneg i (by lia)];exact q)
def z1r:OpR X (binaryOp .Pow) (rI CPow λi j=>.int (i ^ j.toNat)):=opI λ_ _ _ _ _ _ _ D q=>pow_int_small D.1 D.2.1 D.2.2 q
variable{f:Addr}
def unI{f:Value->Sem Value}{g:Int->Int}(rule:∀(i:Int) (t:Tok) (s:Shared) (Q:Value->Shared->Prop) (E:Value->Shared->Prop),Q (.int (g i) s.toks) { s with toks:=s.toks+1 }->wpAny (model X.prog X.w) X.A (f (.int i t)) Q E s) :
  UnR X f (rU λi=>.int (g i)):=by
 intro pins s σ H x v Q I D h;obtain⟨i,rfl,q⟩:=h;obtain⟨t,rfl⟩:=D;exact rule i t s _ _ ⟨.int (g i),H,I.tok _,⟨_,rfl⟩,q⟩
def zxk:UnR X (unaryOp .USub) (rU λi=>.int (-i)):=unI λ_ _ _ _ _ q=>neg_int q
def scal:V->V->Bool
 | .non,.non=>true | .non,.int _=>true | .int _,.non=>true | .non,.bl _=>true | .bl _,.non=>true | .non,.str _=>true | .str _,.non=>true
 | .int _,.int _=>true | .bl _,.bl _=>true | .str _,.str _=>true | .byt _,.byt _=>true
 | .int _,.str _=>true | .str _,.int _=>true | .bl _,.str _=>true | .str _,.bl _=>true
 | _,_=>false
def rEq:R2:=λx y H Q=>scal x y=true/\Q (.bl (decide (x=y))) H
def rNe:R2:=λx y H Q=>scal x y=true/\Q (.bl (!decide (x=y))) H
def zst:decide (V.int i=V.int j)=(i==j):=by
 rw[kz];simp
def zxl{i j:Bool}:decide (V.bl i=V.bl j)=(i==j):=by
 rw[kz];simp
def zsu{i j:Str}:decide (V.str i=V.str j)=(i==j):=by
 rw[kz];simp
def zsv{i j:Array UInt8}:decide (V.byt i=V.byt j)=(i.toList==j.toList):=by
 rw[kz];cases i;cases j;simp
def jy{Q:VK}{k k':Bool}(I:Inv X pins σ H s)(q:Q (.bl k) H)(e:k=k'):EP X pins σ Q (.bool k') s:=by
 subst e;exact⟨.bl k,H,I,rfl,q⟩
def z1s:OpR X (compareOp .Eq) rEq:=by
 intro pins s σ H x y v u Q I R D h;obtain⟨J,q⟩:=h;cases x with
 | non =>
   cases R;cases y with
   | non=>cases D;exact PySem.EqNone.eq_none_none (jy I q (by simp))
   | bl j=>cases D;exact PySem.EqNone.eq_none_bool (jy I q (by simp))
   | int j=>obtain⟨t',rfl⟩:=D;exact PySem.EqNone.eq_none_int (jy I q (by simp))
   | str j=>obtain⟨t',rfl⟩:=D;exact PySem.EqNone.eq_none_str (jy I q (by simp))
   | _=>exact absurd (show false=true from J) ce
 | bl i =>
   cases R;cases y with
   | non=>cases D;exact PySem.EqNone.eq_bool_none (jy I q (by simp))
   | bl j=>cases D;exact eq_bool (jy I q zxl)
   | str j=>obtain⟨t',rfl⟩:=D;exact PySem.EqMixed.eq_bool_str (jy I q (by simp))
   | _=>exact absurd (show false=true from J) ce
 | int i =>
   obtain⟨t,rfl⟩:=R;cases y with
   | non=>cases D;exact PySem.EqNone.eq_int_none (jy I q (by simp))
   | int j=>obtain⟨t',rfl⟩:=D;exact eq_int (jy I q zst)
   | str j=>obtain⟨t',rfl⟩:=D;exact PySem.EqMixed.eq_int_str (jy I q (by simp))
   | _=>exact absurd (show false=true from J) ce
 | str i =>
   obtain⟨t,rfl⟩:=R;cases y with
   | non=>cases D;exact PySem.EqNone.eq_str_none (jy I q (by simp))
   | bl j=>cases D;exact PySem.EqMixed.eq_str_bool (jy I q (by simp))
   | int j=>obtain⟨t',rfl⟩:=D;exact PySem.EqMixed.eq_str_int (jy I q (by simp))
   | str j=>obtain⟨t',rfl⟩:=D;exact eq_str (jy I q zsu)
   | _=>exact absurd (show false=true from J) ce
 | byt i =>
   obtain⟨t,rfl⟩:=R;cases y with
   | byt j=>obtain⟨t',rfl⟩:=D;exact PySem.W.eq_bytes (jy I q zsv)
   | _=>exact absurd (show false=true from J) ce
 | _=>cases y <;> exact absurd (show false=true from J) ce
def z4l:OpR X (compareOp .NotEq) rNe:=by
 intro pins s σ H x y v u Q I R D h;obtain⟨J,q⟩:=h;cases x with
 | non =>
   cases R;cases y with
   | non=>cases D;exact PySem.EqNone.ne_none_none (jy I q (by simp))
   | bl j=>cases D;exact PySem.EqNone.ne_none_bool (jy I q (by simp))
   | int j=>obtain⟨t',rfl⟩:=D;exact PySem.EqNone.ne_none_int (jy I q (by simp))
   | str j=>obtain⟨t',rfl⟩:=D;exact PySem.EqNone.ne_none_str (jy I q (by simp))
   | _=>exact absurd (show false=true from J) ce
 | bl i =>
   cases R;cases y with
   | non=>cases D;exact PySem.EqNone.ne_bool_none (jy I q (by simp))
   | bl j=>cases D;exact ne_bool (jy I q (congrArg not zxl))
   | str j=>obtain⟨t',rfl⟩:=D;exact PySem.EqMixed.ne_bool_str (jy I q (by simp))
   | _=>exact absurd (show false=true from J) ce
 | int i =>
   obtain⟨t,rfl⟩:=R;cases y with
   | non=>cases D;exact PySem.EqNone.ne_int_none (jy I q (by simp))
   | int j=>obtain⟨t',rfl⟩:=D;exact ne_int (jy I q (congrArg not zst))
   | str j=>obtain⟨t',rfl⟩:=D;exact PySem.EqMixed.ne_int_str (jy I q (by simp))
   | _=>exact absurd (show false=true from J) ce
 | str i =>
   obtain⟨t,rfl⟩:=R;cases y with
   | non=>cases D;exact PySem.EqNone.ne_str_none (jy I q (by simp))
   | bl j=>cases D;exact PySem.EqMixed.ne_str_bool (jy I q (by simp))
   | int j=>obtain⟨t',rfl⟩:=D;exact PySem.EqMixed.ne_str_int (jy I q (by simp))
   | str j=>obtain⟨t',rfl⟩:=D;exact ne_str (jy I q (congrArg not zsu))
   | _=>exact absurd (show false=true from J) ce
 | byt i =>
   obtain⟨t,rfl⟩:=R;cases y with
   | byt j=>obtain⟨t',rfl⟩:=D;exact PySem.W.ne_bytes (jy I q (congrArg not zsv))
   | _=>exact absurd (show false=true from J) ce
 | _=>cases y <;> exact absurd (show false=true from J) ce
def z1t:OpR X (compareOp .Lt) (rI0 λi j=>.bl (decide (i<j))):=opB0 λ_ _ _ _ _ _ _ q=>lt_int q
def z4m:OpR X (compareOp .LtE) (rI0 λi j=>.bl (decide (i<=j))):=opB0 λ_ _ _ _ _ _ _ q=>le_int q
def z1u:OpR X (compareOp .Gt) (rI0 λi j=>.bl (decide (j<i))):=opB0 λ_ _ _ _ _ _ _ q=>gt_int q
def z4n:OpR X (compareOp .GtE) (rI0 λi j=>.bl (decide (j<=i))):=opB0 λ_ _ _ _ _ _ _ q=>ge_int q
def sf(b:Expr)(h:op≠.In:=by decide)(h2:op≠.NotIn:=by decide):behindInMarks op b=false:=by
 have D:(op==CmpOp.In)=false:=by cases op <;> first | rfl | exact absurd rfl h
 have I:(op==CmpOp.NotIn)=false:=by cases op <;> first | rfl | exact absurd rfl h2
 cases b <;> simp[behindInMarks,D,I]
def zyo(D:OpR X (compareOp op) r)(J:PE X a ta)(R:PE X b tb)(S:behindInMarks op b=false):PE X (.Compare a [op] [b] pos) (tOp r ta tb):=by
 intro pins s σ H Q I h;exact wpAny_Compare1 (binT J R I h λv u s2 x y H2 U V Y q=>D pins s2 σ H2 x y v u Q U V Y q) S
def z1v(t:TE):TT:=λσ H Q=>t σ H λx H'=>∃k,x=.bl k/\Q k H'
def zyp(D:OpR X (compareOp op) r)(J:PE X a ta)(R:PE X b tb)(S:behindInMarks op b=false):PT X (.Compare a [op] [b] pos) (z1v (tOp r ta tb)):=by
 intro pins s σ H Q I h;refine wpAny_isTrue_Compare1 (thn (J pins s σ H _ I h) λv s1 ⟨x,H1,I1,r1,q1⟩=>thn (R pins s1 σ H1 _ I1 q1) λu s2 ⟨y,H2,I2,r2,q2⟩ =>
  thn (D pins s2 σ H2 x y v u _ I2 r1 r2 q2) λc s3 ⟨z,H3,I3,r3,k,e,q3⟩=>?_) S
 subst e;cases r3;exact wpAny_truthy_bool ⟨H3,I3,q3⟩
def yo:(sizeLine:Nat)<2 ^ 63:=by rw[sizeLine_eq];decide
variable{x:V}
def u6(r:Vals [x] us):∃u,us=[u]/\RelV x u:=by
 cases r with
 | cons r1 r2=>cases r2;exact⟨_,rfl,r1⟩
variable{y:V}
def zyq(r:Vals [x,y] us):∃u D,us=[u,D]/\RelV x u/\RelV y D:=by
 cases r with
 | cons r1 r2 =>
   cases r2 with
   | cons r3 r4=>cases r4;exact⟨_,_,rfl,r1,r3⟩
def zsw(J:X.calm=true):nv X (.builtin "max") (λxs H Q=>∃i j,xs=[.int i,.int j]/\Q (.int (if j > i then j else i)) H):=by
 intro pins s σ H xs us Q I r h;obtain⟨i,j,rfl,q⟩:=h;obtain⟨u,R,rfl,⟨t,rfl⟩,⟨t',rfl⟩⟩:=zyq r;refine max_two_ints (I.ok.hd J) λh' tk k=>⟨_,H,I.kept k,?_,q⟩;by_cases D:j > i
 ·rw[if_pos D,if_pos D];exact⟨_,rfl⟩
 ·rw[if_neg D,if_neg D];exact⟨_,rfl⟩
def zsx:nv X (.type "int") (λxs H Q=>(∃i,xs=[.int i]/\Q (.int i) H)\/∃k,xs=[.bl k]/\Q (.int (if k then 1 else 0)) H):=by
 intro pins s σ H xs us Q I r h;rcases h with⟨i,rfl,q⟩ | ⟨k,rfl,q⟩
 ·obtain⟨u,rfl,t,rfl⟩:=u6 r
  exact call_int_int ⟨.int i,H,I,⟨_,rfl⟩,q⟩
 ·obtain⟨u,rfl,D⟩:=u6 r
  cases D;exact call_int_bool ⟨.int (if k then 1 else 0),H,I.tok _,⟨_,rfl⟩,q⟩
structure ObjM (h:Heap) (x dx C:Addr) (mA:Str->h8):Prop where
 obj:h.get? x=some (PySem.W.instObj C dx)
 ns:h.Ns1 dx mA
 ne:dx≠x
variable{dx:Addr}{mA:Str->h8}
def zsy(n:h.Ns1 dx mA):∃od,h.get? dx=some od/\∀name,PySem.W.lookIn name od=some (mA name):=by
 obtain⟨o,es,Y,I,J,R,_,S⟩:=n;refine⟨o,I,λname=>?_⟩;have e:=S name;unfold nsFind findBy at e;rw[<-Array.find?_toList] at e;unfold PySem.W.lookIn;rw[J];dsimp only;split
 ·rename_i y q
  rw[q] at e;exact congrArg some e
 ·rename_i q
  rw[q] at e;have a:es.toList.any (·.refKey)=false:=by
   rw[List.any_eq_false];intro y U;obtain⟨z,t,D⟩:=R y (Array.mem_toList_iff.mp U);simp[DictEntry.refKey,D]
  have V:¬es.toList.any (·.refKey)=true:=by rw[a];exact ce
  rw[if_neg V];exact congrArg some e
variable{x:Addr}
def ObjM.look(I:ObjM h x dx C mA):∃od,PySem.W.InstAt h x (PySem.W.instObj C dx) C (some od)/\∀name,PySem.W.lookIn name od=some (mA name) :=
 let ⟨od,D,J⟩:=zsy I.ns
 ⟨od,⟨I.obj,rfl,rfl,D⟩,J⟩
variable{prog:Program}{name:Str}
def zyr{D:Bool}(X:K.In s.heap)(I:ObjM s.heap x dx C mA)(S:PySem.W.plainGet K C name=true)(U:PySem.W.hasDictIn K C=true)(V:PySem.W.findIn K (.ref C) name=some none)(Y:mA name=some v)(R:PySem.W.handedIn v=true)(h:Q v { s with toks:=s.toks+1 }) :
  wpAny (model prog w) A (getAttr (.ref x) name D) Q E s:=by
 obtain⟨od,J,Z⟩:=I.look;exact PySem.W.get_value X J (me S).1 (PySem.W.findObj_own U V rfl (by rw[Z,Y])) R h
def zve{pl:Sem Bool}{Q:Value×h7->Shared->Prop}(X:K.In s.heap)(I:ObjM s.heap x dx C mA)(D:PySem.W.plainGet K C name=true)(R:PySem.W.findIn K (.ref C) name=some (some (.ref f)))(S:PySem.W.isFn K (.ref f)=true)(U:mA name=none)(h:Q (.ref f,[.ref x]) s) :
  wpAny (model prog w) A (getMethod (.ref x) name pl) Q E s:=by
 obtain⟨od,J,V⟩:=I.look;exact PySem.W.method_fn X J (me D).1 (me D).2 R (beq_iff_eq.mp S) (by show(PySem.W.lookIn name od).map (·.isSome)=some false;rw[V,U];rfl) h
theorem zys{Z:g9}{Q:Unit->Shared->Prop}(X:K.In s.heap)(I:ObjM s.heap x dx C mA)(c:PySem.W.findIn K (.ref C) "__setattr__" = some (some (.builtin "object.__setattr__")))(d:PySem.W.plainOver K C=true)(e:PySem.W.takerIn K C name=some none)(f:PySem.W.hasDictIn K C=true)(g:PySem.Within mA Z)(i:Z.length<=sizeLine)(h:∀h',ObjM h' x dx C (λy=>if y=name then some v else mA y)->Heap.SameBut dx s.heap h'->Q () { s with heap:=h',toks:=s.toks+2 }) :
  wpAny (model prog w) A (setAttr (.ref x) name v) Q E s:=by
 obtain⟨od,J,n⟩:=I.look;refine PySem.W.set_plain X J c (PySem.W.osa_open (s:={ s with toks:=s.toks+1 }) (r:=none) X J d e λb=>?_);obtain⟨o,j,S⟩:=PySem.W.any_some f;have k:s.heap.get? x=some ⟨.ref C,some dx,.plain,#[]⟩:=I.obj;refine wpAny_bind (wpAny_pure (wpAny_bind (wpAny_bind (wpAny_loadPart k (wpAny_bind (PySem.W.Looks.here (s:={ s with toks:=s.toks+1 }) (PySem.W.looks_clsIn X j) ?_))))));rw[S];refine wpAny_pure (a:=some dx) (wpAny_bind (wpAny_pure (wpAny_bind ?_)));refine wpAny_nsSet1 (s:={ s with toks:=s.toks+1 }) I.ns λh' D R=>?_;obtain⟨p,l,m,U,V,Y⟩:=D.count (PySem.Within.cons name v g);refine wpAny_bind (wpAny_lookBehind U (by rw[V];exact pastItsLine_dict (cx Y (by rw[ak];lia))) ?_);exact wpAny_pure (h _ ⟨(R.2 _ (Ne.symm I.ne)).trans I.obj,D,I.ne⟩ R)
variable{kw:List (Str×Value)}
def zvf{R:Result->Shared->Prop}{vs:h7}(X:K.In s.heap)(I:PySem.W.makesIn K C=true)(hi:PySem.W.findIn K (.ref C) "__init__" = some (some (.ref f)))(J:PySem.W.typeIn K (.ref f)=some (.type "function"))(h:codeAny (model prog w) (A.under (.builtin "type.__call__" ⟨.ref C::vs,kw⟩)) (.call (.ref f) ⟨.ref (s.heap.objs.size+1)::vs,kw⟩) (PySem.W.InitBack (s.heap.objs.size+1) R)
   { s with heap:=(s.heap.push PySem.W.emptyDict).push (PySem.W.instObj C s.heap.objs.size) }) :
  codeAny (model prog w) A (.call (.ref C) ⟨vs,kw⟩) R s:=by
 obtain⟨S,g,d,t,os⟩:=s;exact PySem.W.make_core (PySem.W.makes_of X I) (PySem.W.looks_findIn X hi) (λD=>PySem.W.bind_fn X D J) (.inl rfl) h
def putF(f:Str)(v:V):List (Str×V)->List (Str×V)
 | []=>[(f,v)]
 | (g,x)::r=>if g=f then(g,v)::r else(g,x)::putF f v r
def zkw(f g:Str)(v:V):∀fs:List (Str×V),(putF f v fs).lookup g=if g=f then some v else fs.lookup g
 | []=>by
   show List.lookup g [(f,v)]=_;by_cases h:g=f
   ·have D:(g==f)=true:=beq_iff_eq.mpr h
    simp only[List.lookup,D,if_pos h]
   ·have D:(g==f)=false:=beq_eq_false_iff_ne.mpr h
    simp only[List.lookup,D,if_neg h]
 | (k,x)::r=>by
   have J:=zkw f g v r;rw[show putF f v ((k,x)::r)=(if k=f then(k,v)::r else(k,x)::putF f v r) from rfl];by_cases I:k=f
   ·rw[if_pos I]
    by_cases h:g=k
    ·have D:(g==k)=true:=beq_iff_eq.mpr h
     simp only[List.lookup,D,if_pos (h.trans I)]
    ·have D:(g==k)=false:=beq_eq_false_iff_ne.mpr h
     simp only[List.lookup,D,if_neg (λe:g=f=>h (e.trans I.symm))]
   ·rw[if_neg I]
    by_cases h:g=k
    ·have D:(g==k)=true:=beq_iff_eq.mpr h
     simp only[List.lookup,D,if_neg (λe:g=f=>I (h.symm.trans e))]
    ·have D:(g==k)=false:=beq_eq_false_iff_ne.mpr h
     simp only[List.lookup,D];exact J
def zkx(f:Str)(v:V):∀fs:List (Str×V),f∈(putF f v fs).map (·.1)/\∀g,g∈fs.map (·.1)->g∈(putF f v fs).map (·.1)
 | []=>⟨by simp[putF],λg h=>by simp at h⟩
 | (k,x)::r=>by
   obtain⟨I,J⟩:=zkx f v r;rw[show putF f v ((k,x)::r)=(if k=f then(k,v)::r else(k,x)::putF f v r) from rfl];by_cases D:k=f
   ·rw[if_pos D]
    subst D;exact⟨by simp,λg h=>by simpa using h⟩
   ·rw[if_neg D]
    refine⟨?_,λg h=>?_⟩
    ·rw[cf]
     exact ax _ I
    ·rw[cf] at h ⊢
     rcases cb.mp h with e | e
     ·exact cb.mpr (.inl e)
     ·exact ax _ (J g e)
theorem zky(f:Str)(v:V):∀fs:List (Str×V),(putF f v fs).length<=fs.length+1
 | []=>by simp[putF]
 | (k,x)::r=>by
   have I:=zky f v r;rw[show putF f v ((k,x)::r)=(if k=f then(k,v)::r else(k,x)::putF f v r) from rfl];by_cases D:k=f
   ·rw[if_pos D,ak,ak];lia
   ·rw[if_neg D,ak,ak];lia
variable{o:h8}{v:V}
def RelO.some_of(r:RelO (some v) o):∃u,o=some u/\RelV v u:=by
 cases o with
 | none=>exact(show False from r).elim
 | some u=>exact⟨u,rfl,r⟩
def RelO.none_of(r:RelO none o):o=none:=by
 cases o with
 | none=>rfl
 | some u=>exact(show False from r).elim
def zsz(r:RelV v u):PySem.W.handedIn u=true:=by
 cases v with
 | non=>cases (show u=Value.none from r);rfl
 | bl b=>cases (show u=Value.bool b from r);rfl
 | int i=>obtain⟨t,e⟩:=(show ∃t,u=Value.int i t from r);cases e;rfl
 | str x=>obtain⟨t,e⟩:=(show ∃t,u=Value.str x t from r);cases e;rfl
 | byt b=>obtain⟨t,e⟩:=(show ∃t,u=Value.bytes b t from r);cases e;rfl
 | flt b=>obtain⟨t,e⟩:=(show ∃t,u=Value.float b t from r);cases e;rfl
 | ref a=>cases (show u=Value.ref a from r);rfl
 | ty n=>cases (show u=Value.type n from r);rfl
variable{a:Addr}{fs:List (Str×V)}
def zmd(D:HOk P w H h)(e:H a=some (.ins C dx fs)):∃mA,ObjM h a dx C mA/\(∀f,RelO (fs.lookup f) (mA f))/\PySem.Within mA (fs.map (·.1))/\fs.length<=1000/\H dx=some (.own a):=by
 obtain⟨d,z,I,J,mA,n,r,q⟩:=(show ObjOk P w H h a (.ins C dx fs) from D a _ e);exact⟨mA,⟨J,n,I⟩,r,q,z,d⟩
structure Cls (K:k4) (C:Addr):Prop where
 pg:PySem.W.plainGet K C Str.empty=true
 hd:PySem.W.hasDictIn K C=true
 po:PySem.W.plainOver K C=true
 sa:PySem.W.findIn K (.ref C) "__setattr__" = some (some (.builtin "object.__setattr__"))
def Cls.get(c:Cls K C)(f:Str):PySem.W.plainGet K C f=true:=c.pg
def NoAttr(K:k4)(C:Addr)(f:Str):Prop:=PySem.W.findIn K (.ref C) f=some none
variable{f:Str}
def NoAttr.taker(n:NoAttr K C f):PySem.W.takerIn K C f=some none:=by
 unfold PySem.W.takerIn;rw[show PySem.W.findIn K (.ref C) f=some none from n];rfl
structure Con (K:k4) (C:Addr) (f:Str) (v:V) (u:Value):Prop where
 at_:PySem.W.findIn K (.ref C) f=some (some u)
 rel:RelV v u
 get:PySem.W.specialIn K u "__get__" = some none
 cp:PySem.W.copiedNames.contains f=false
structure Meth (K:k4) (C:Addr) (m:Str) (f:Addr):Prop where
 at_:PySem.W.findIn K (.ref C) m=some (some (.ref f))
 fn:PySem.W.isFn K (.ref f)=true
 kp:PySem.W.keepIn K (.ref f)=true
variable{b:Bool}
def zrr(I:Inv X pins σ H s)(e:H a=some (.ins C dx fs))(c:Cls X.K C)(n:NoAttr X.K C f)(l:fs.lookup f=some v)(h:∀u s',Inv X pins σ H s'->RelV v u->Q u s'):wpAny (model X.prog X.w) A (getAttr (.ref a) f b) Q E s:=by
 obtain⟨mA,O,r,_,_,_⟩:=zmd I.hok e;obtain⟨u,J,D⟩:=RelO.some_of (v:=v) (o:=mA f) (by rw[<-l];exact r f);exact zyr I.kIn O (c.get f) c.hd n J (zsz D) (h u _ (I.tok _) D)
def zly{m:Str}{g:Addr}{pl:Sem Bool}{Q:Value×h7->Shared->Prop}(I:Inv X pins σ H s)(e:H a=some (.ins C dx fs))(c:Cls X.K C)(k:Meth X.K C m g)(l:fs.lookup m=none)(h:Q (.ref g,[.ref a]) s):wpAny (model X.prog X.w) A (getMethod (.ref a) m pl) Q E s:=by
 obtain⟨mA,O,r,_,_,_⟩:=zmd I.hok e;have D:mA m=none:=RelO.none_of (by rw[<-l];exact r m);exact zve I.kIn O (c.get m) k.at_ k.fn D h
theorem zrs{Q:Unit->Shared->Prop}(I:Inv X pins σ H s)(e:H a=some (.ins C dx fs))(c:Cls X.K C)(n:NoAttr X.K C f)(Z:fs.length<1000)(J:RelV y u)(h:∀s',Inv X pins σ (upd H a (.ins C dx (putF f y fs))) s'->Q () s'):wpAny (model X.prog X.w) A (setAttr (.ref a) f u) Q E s:=by
 obtain⟨mA,O,r,wi,_,D⟩:=zmd I.hok e;have R:(fs.map (·.1)).length<=sizeLine:=by rw[ah,sizeLine_eq];lia
 refine zys I.kIn O c.sa c.po n.taker c.hd wi R λh' O' S=>h _ ?_;have U:∃o,h'.get? dx=some o:=let ⟨o,_,_,e',_⟩:=O'.ns;⟨o,e'⟩;refine I.write (x:=a) (e:=dx) (by rw[e];exact True.intro) (.inr D) (λb q V z=>(S.2 b V).trans z) U ?_;refine⟨by rw[gg O.ne];exact D,?_,O.ne,O'.obj,_,O'.ns,λg=>?_,λg Y=>?_⟩
 ·have:=zky f y fs;lia
 ·show RelO ((putF f y fs).lookup g) (if g=f then some u else mA g)
  rw[zkw];by_cases q:g=f
  ·rw[if_pos q,if_pos q];exact J
  ·rw[if_neg q,if_neg q];exact r g
 ·by_cases q:g=f
  ·rw[q];exact(zkx f y fs).1
  ·refine(zkx f y fs).2 g (wi g λz=>Y ?_)
   show(if g=f then some u else mA g)=none;rw[if_neg q];exact z
def Inv.made(I:Inv X pins σ H s):Inv X pins σ (upd (upd H s.heap.objs.size (.own (s.heap.objs.size+1))) (s.heap.objs.size+1) (.ins C s.heap.objs.size []))
  { s with heap:=(s.heap.push PySem.W.emptyDict).push (PySem.W.instObj C s.heap.objs.size) }:=by
 have D:(s.heap.push PySem.W.emptyDict).get? s.heap.objs.size=some PySem.W.emptyDict:=ci s.heap rfl;have R:((s.heap.push PySem.W.emptyDict).push (PySem.W.instObj C s.heap.objs.size)).get? (s.heap.objs.size+1)=some (PySem.W.instObj C s.heap.objs.size):=by
  have:=ci (s.heap.push PySem.W.emptyDict) (o:=PySem.W.instObj C s.heap.objs.size) rfl;rwa [ij] at this
 have S:(s.heap.push PySem.W.emptyDict).Ns s.heap.objs.size (λ_=>none):=⟨PySem.W.emptyDict,#[],_,D,rfl,(λe U=>absurd U (by simp)),λ_=>rfl⟩;have V:=I.laid (a:=s.heap.objs.size) (o:=.own (s.heap.objs.size+1)) (h':=s.heap.push PySem.W.emptyDict) (t':=s.toks) (λb u q=>ao _ q) (bw _) ⟨_,D⟩;refine V.laid (a:=s.heap.objs.size+1) (o:=.ins C s.heap.objs.size []) (t':=s.toks) (λb u q=>ao _ q) (Nat.le_of_eq (ij _ _)) ?_;have J:s.heap.objs.size≠s.heap.objs.size+1:=b6 (ek _);refine⟨by rw[gg J,j0],fu _,J,R,λ_=>none,(Heap.Ns1.of_empty S).at λo q=>ao _ q,λ_=>True.intro,λy Y=>absurd rfl Y⟩
def zyt{env:Env}(I:attributeBase e f env (eval e env)=eval e env)(h:wpAny (model prog w) A (eval e env) (λo D=>wpAny (model prog w) A (getAttr o f true) Q E D) E s):wpAny (model prog w) A (eval (.Attribute e f pos) env) Q E s :=
 Attribute_any_ h (by rw[arm_eval_Attribute,I])
def tFld(K:k4)(ta:TE)(f:Str):TE:=λσ H Q=>ta σ H λx H1=>∃a C dx fs v,x=.ref a/\H1 a=some (.ins C dx fs)/\Cls K C/\NoAttr K C f/\fs.lookup f=some v/\Q v H1
def sFld(K:k4)(ta tv:TE)(f:Str):TS:=λD σ H=>tv σ H λy H1=>ta σ H1 λx H2=>∃a C dx fs,x=.ref a/\H2 a=some (.ins C dx fs)/\Cls K C/\NoAttr K C f/\fs.length<1000 /\
 D.nx σ (upd H2 a (.ins C dx (putF f y fs)))
def zxm(D:PE X e ta)(J:attributeBase e f X.env (eval e X.env)=eval e X.env):PE X (.Attribute e f pos) (tFld X.K ta f):=by
 intro pins s σ H Q I h;refine zyt J (thn (D pins s σ H _ I h) λu Z R=>?_);obtain⟨x,H1,S,U,a,C,dx,fs,v,ex,ea,c,n,l,q⟩:=R;subst ex;obtain rfl:u=Value.ref a:=U;exact zrr S ea c n l λb s2 V Y=>⟨v,H1,V,Y,q⟩
variable{o value:Expr}{tv:TE}
def z1w(R:PE X o ta)(S:PE X value tv)(U:swapsWith value (some (.Attribute o f pos')) pos.line X.env=pure false):PS X (.Assign [.Attribute o f pos'] value pos) (sFld X.K ta tv f):=by
 intro pins s σ H D I h;refine plainObj_wpAny_Assign_Attribute (thn (S pins s σ H _ I h) λu V J=>?_) U;obtain⟨y,H1,Y,Z,q⟩:=J;refine thn (R pins V σ H1 _ Y q) λb s2 J=>?_;obtain⟨x,H2,d,e,a,C,dx,fs,ex,ea,c,n,l,g⟩:=J;subst ex;obtain rfl:b=Value.ref a:=e;exact zrs d ea c n l Z λj i=>⟨σ,_,i,g⟩
inductive TyOf (K:k4) (H:Hp):V->Value->Prop where
 | non:TyOf K H .non (.type "NoneType")
 | bl (x:Bool):TyOf K H (.bl x) (.type "bool")
 | int (i:Int):TyOf K H (.int i) (.type "int")
 | str (x:Str):TyOf K H (.str x) (.type "str")
 | flt (x:UInt64):TyOf K H (.flt x) (.type "float")
 | lst {a:Addr} {xs:k8} (e:H a=some (.lst xs)):TyOf K H (.ref a) (.type "list")
 | frz {a:Addr} {o:Obj} {xs:k8} (e:H a=some (.frz o (.lst xs))):TyOf K H (.ref a) (.type "list")
 | tup {a:Addr} {xs:k8} (e:H a=some (.tup xs)):TyOf K H (.ref a) (.type "tuple")
 | dK {a:Addr} {kvs:List (Key×V)} (e:H a=some (.dK kvs)):TyOf K H (.ref a) (.type "dict")
 | dT {a:Addr} {kvs:List (List Key×V)} (e:H a=some (.dT kvs)):TyOf K H (.ref a) (.type "dict")
 | ins {a C dx:Addr} {fs:List (Str×V)} (e:H a=some (.ins C dx fs)) (cl:Cls K C) (ha:PySem.W.findIn K (.ref C) "__class__" = some (some (.builtin "object.__class__")))
    (hn:PySem.W.specialIn K (.builtin "object.__class__") "__get__" = some (some (.builtin "getset_descriptor.__get__"))) (htk:PySem.W.takesIn K (.builtin "object.__class__")=some true)
    (hm:PySem.W.mroIn K C (.type "object")=some true):TyOf K H (.ref a) (.ref C)
variable{x:Str}
def zs0{x:V}{t:Value}(I:Inv X pins σ H s)(D:RelV x u)(R:TyOf X.K H x t)(e:PySem.W.kitOne X.K t c=some b)(h:∀tk,Q (.bool b) { s with toks:=tk }) :
  wpAny (model X.prog X.w) A (call (.builtin "isinstance") [u,c]) Q E s:=by
 cases R with
 | non=>cases (show u=Value.none from D);exact d6 PySem.W.kitx_none I.kIn True.intro e (λz=>nomatch z) h
 | bl y=>cases (show u=Value.bool y from D);exact d6 PySem.W.kitx_bool I.kIn True.intro e (λz=>nomatch z) h
 | int i=>obtain⟨t,q⟩:=(show ∃t,u=Value.int i t from D);cases q;exact d6 PySem.W.kitx_int I.kIn True.intro e (λz=>nomatch z) h
 | str y=>obtain⟨t,q⟩:=(show ∃t,u=Value.str y t from D);cases q;exact d6 PySem.W.kitx_str I.kIn True.intro e (λz=>nomatch z) h
 | flt y=>obtain⟨t,q⟩:=(show ∃t,u=Value.float y t from D);cases q;exact d6 PySem.W.kitx_float I.kIn True.intro e (λz=>nomatch z) h
 | @lst a xs ea =>
   cases (show u=Value.ref a from D);obtain⟨_,_,n,_,h1⟩:=(show ObjOk X.prog X.w H s.heap a (.lst xs) from I.hok a _ ea);exact d6 nh I.kIn ⟨_,h1,rfl⟩ e (λz=>nomatch z) h
 | @frz a ob xs ea =>
   cases (show u=Value.ref a from D);obtain⟨_,_,_,n,_,h1⟩:=(show ObjOk X.prog X.w H s.heap a (.frz ob (.lst xs)) from I.hok a _ ea);exact d6 nh I.kIn ⟨_,h1,rfl⟩ e (λz=>nomatch z) h
 | @tup a xs ea =>
   cases (show u=Value.ref a from D);obtain⟨_,_,_,p⟩:=(show ObjOk X.prog X.w H s.heap a (.tup xs) from I.hok a _ ea);obtain⟨o,h1,h2,_⟩:=p;exact d6 PySem.W.kitx_tuple I.kIn ⟨o,h1,h2⟩ e (λz=>nomatch z) h
 | @dK a kvs ea =>
   cases (show u=Value.ref a from D);obtain⟨_,_,vs,_,p⟩:=(show ObjOk X.prog X.w H s.heap a (.dK kvs) from I.hok a _ ea);obtain⟨o,es,S,h1,h2,_⟩:=p;exact d6 PySem.W.kitx_dict I.kIn ⟨o,h1,h2.1⟩ e (λz=>nomatch z) h
 | @dT a kvs ea =>
   cases (show u=Value.ref a from D);obtain⟨_,_,xs,_,o,es,S,h1,h2,_⟩:=(show ObjOk X.prog X.w H s.heap a (.dT kvs) from I.hok a _ ea);exact d6 PySem.W.kitx_dict I.kIn ⟨o,h1,h2.1⟩ e (λz=>nomatch z) h
 | @ins a C dx fs ea cl ha hn htk hm =>
   cases (show u=Value.ref a from D);obtain⟨mA,O,_⟩:=zmd I.hok ea;obtain⟨od,J,_⟩:=O.look;exact d6 (PySem.W.kitx_own (cl.get _) cl.hd ha hn htk hm) I.kIn J e (λz=>nomatch z) h
structure Room (k:Nat) (A:Around):Prop where
 hd:A.handled=none
 dp:A.depth+3*k+5<recursionLimit
 un:A.units+16*k+200<cLine
theorem Room.mono{j:Nat}(r:Room k A)(h:j<=k):Room j A:=⟨r.hd,by have:=r.dp;lia,by have:=r.un;lia⟩
theorem Room.deeper(r:Room (k+1) A)(env:Env):Room k (A.deeper env) :=
 ⟨r.hd,by have:=r.dp;show A.depth+1+3*k+5<_;lia,by have:=r.un;show A.units+3+16*k+200<_;lia⟩
def zrt:(A.under (.builtin "type.__call__" ⟨.ref C::us,kw⟩)).depth=A.depth+1:=by
 first | rfl | simp[Around.under,Code.weight,Code.isCreation,Code.isGuard,Code.isCaller,Code.frames,Code.isFrame,guardIds]
def zru:(A.under (.builtin "type.__call__" ⟨.ref C::us,kw⟩)).units=A.units+1:=by
 first | rfl | simp[Around.under,Code.cUnits,Code.frames,Code.isFrame]
theorem Room.make(r:Room (k+1) A)(C:Addr)(us:h7)(kw:List (Str×Value)):Room k (A.under (.builtin "type.__call__" ⟨.ref C::us,kw⟩)) :=
 ⟨r.hd,by have:=r.dp;rw[zrt];lia,by have:=r.un;rw[zru];lia⟩
theorem Room.depth(r:Room k A):A.depth<recursionLimit:=by have:=r.dp;lia
def tNil:TA:=λ_ H Q=>Q [] H
def z1x(ta:TE)(tr:TA):TA:=λσ H Q=>ta σ H λx H1=>tr σ H1 λxs H2=>Q (x::xs) H2
def pq:PA X [] tNil:=λ_ _ _ _ H Q I h=>Calls.spliced_nil ⟨[],H,I,.nil,h⟩
def mn(D:PE X e te)(J:PA X es t)(R:starEach (e::es) X.env=(false,eval e X.env)::starEach es X.env:=by rfl):PA X (e::es) (z1x te t):=by
 intro pos pins s σ H Q I h;rw[R];show wpAny _ _ (spliced ((false,eval e X.env)::backTo pos (starEach es X.env))) _ _ s;refine Calls.spliced_cons (thn (D pins s σ H _ I h) λu S U=>?_);obtain⟨x,H1,V,Y,Z⟩:=U;exact thn (J pos pins S σ H1 _ V Z) λus s2 ⟨xs,H2,I2,r2,q2⟩=>⟨x::xs,H2,I2,.cons Y r2,q2⟩
def tTup(t:TA):TE:=λσ H Q=>t σ H λxs H1=>xs.length<=sizeLine/\∀p,H1 p=none->Q (.ref p) (upd H1 p (.tup xs))
def tLst(t:TA):TE:=λσ H Q=>t σ H λxs H1=>xs.length<=sizeLine/\∀p,H1 p=none->Q (.ref p) (upd H1 p (.lst xs))
def z1y{x1}(h:PA X es t):PE X (.Tuple es x1 pos) (tTup t):=by
 intro pins s σ H Q I R;refine wpAny_Tuple_spliced (thn (h pos pins s σ H _ I R) λus D S=>?_);obtain⟨xs,H1,J,r,z,q⟩:=S;refine⟨by rw[<-r.length];exact z,?_⟩;have U:H1 D.heap.objs.size=none:=J.hok.fresh (bw _);refine⟨.ref D.heap.objs.size,upd H1 D.heap.objs.size (.tup xs),J.laid (t':=D.toks) (λb u e=>ao _ e) (bw _) ?_,rfl,q _ U⟩;exact⟨z,us,r,⟨_,ci _ rfl,rfl,_,rfl⟩⟩
def zxn(h:PA X es t):PE X (.List es pos) (tLst t):=by
 intro pins s σ H Q I R;refine wpAny_List_spliced (thn (h pos pins s σ H _ I R) λus D S=>?_);obtain⟨xs,H1,J,r,z,q⟩:=S;refine⟨by rw[<-r.length];exact z,?_⟩;have U:H1 D.heap.objs.size=none:=J.hok.fresh (bw _);refine⟨.ref D.heap.objs.size,upd H1 D.heap.objs.size (.lst xs),J.laid (t':=D.toks) (λb u e=>ao _ e) (bw _) ?_,rfl,q _ U⟩;exact⟨z,us,0,r,ci _ rfl⟩
abbrev Sp:=k8->Hp->VK->XK->Prop
abbrev CXT:=i0->Hp->Shared->XK->Value->Shared->Prop
structure Env0 (P:Program) (w:World) (K:k4) (mg:Str->h8) (base:Heap) (A:Around) (outer:i0) (s:Shared) (H:Hp):Prop where
 frames:A.frames=some outer
 mod:Mod K mg base
 bs:∀b o,base.get? b=some o->s.heap.get? b=some o/\H b=none
 bsz:base.objs.size<=s.heap.objs.size
 funs:s.heap.FunFrames base outer
 frf:∀b∈frs outer,H b=none
 hok:HOk P w H s.heap
 bare:AllBare s.gens
def CE(outer:i0)(P:Program)(w:World)(H:Hp)(s:Shared)(Q:VK)(u:Value)(s':Shared):Prop :=
 ∃v H',s'.os=s.os/\AllBare s'.gens/\Un (frs outer) [] H H' s.heap s'.heap/\HOk P w H' s'.heap/\RelV v u/\Q v H'
def CR(CX:CXT)(outer:i0)(P:Program)(w:World)(H:Hp)(s:Shared)(Q:VK)(E:XK)(r:Result)(s':Shared):Prop :=
 match r with
 | .ok (.ret u)=>CE outer P w H s Q u s'
 | .ok _=>False
 | .error e=>CX outer H s E e s'
structure FnOk (P:Program) (w:World) (K:k4) (mg:Str->h8) (base:Heap) (CX:CXT) (k:Nat) (f:Addr) (fd:FuncData) (ps:g9) (sp:Sp):Prop where
 len:∀vs H Q E,sp vs H Q E->vs.length=ps.length
 run:∀(A:Around) (outer:i0) (s:Shared) (H:Hp) (args:Args) (us:h7) (vs:k8) (Q:VK) (E:XK),Room k A->Env0 P w K mg base A outer s H->BindsTo s fd args (ps.zip us)->Vals vs us->sp vs H Q E ->
  codeAny (model P w) A (.call (.ref f) args) (CR CX outer P w H s Q E) s
variable{f:Addr}{mg:Str->h8}{base:Heap}{CX:CXT}{fd:FuncData}{ps:g9}{sp:Sp}
theorem FnOk.imp{D:Sp}(F:FnOk P w K mg base CX k f fd ps sp)(h:∀vs H Q E,D vs H Q E->sp vs H Q E):FnOk P w K mg base CX k f fd ps D :=
 ⟨λvs H Q E q=>F.len vs H Q E (h _ _ _ _ q),λA outer s H args us vs Q E I J R S U=>F.run A outer s H args us vs Q E I J R S (h _ _ _ _ U)⟩
variable{outer:i0}
def Env0.make(e:Env0 P w K mg base A outer s H)(C:Addr)(us:h7)(kw:List (Str×Value)) :
  Env0 P w K mg base (A.under (.builtin "type.__call__" ⟨.ref C::us,kw⟩)) outer s H:=⟨by first | exact e.frames | (simpa[Around.under,Code.envs,Code.isFrame,pushEnvs] using e.frames),e.mod,e.bs,e.bsz,e.funs,e.frf,e.hok,e.bare⟩
protected def Inv.env0(I:Inv X pins σ H s):Env0 X.prog X.w X.K X.mg X.base X.A X.stack s H :=
 ⟨I.ok.frames,I.ok.mod,I.bs,cx I.ok.bsz I.sz,I.stack,I.stkFree,I.hok,I.bare⟩
variable{Q:VK}
def Inv.after(I:Inv X pins σ H s)(h:CE X.stack X.prog X.w H s Q u s'):EP X pins σ Q u s':=by
 obtain⟨v,H',os,D,un,J,r,q⟩:=h;obtain⟨S,g,d,t,R⟩:=s';obtain rfl:R=s.os:=os;exact⟨v,H',I.call (h':=S) (g':=g) (d':=d) (t':=t) (ch:=[]) un J D (λb z=>absurd z (by simp)),r,q⟩
def zvg(sp:Sp)(dvs:k8)(E:XK)(t:TA):TE:=λσ H Q=>t σ H λvs H1=>sp (vs++dvs) H1 Q E
def Binds(K:k4)(fd:FuncData)(ps:g9)(ds:h7):Prop :=
 ∀(s:Shared) (us:h7),K.In s.heap->(us++ds).length=ps.length->BindsTo s fd ⟨us,[]⟩ (ps.zip (us++ds))
def Binds.all(h:∀us:h7,us.length=ps.length->bindArgs fd ⟨us,[]⟩=pure (ps.zip us)):Binds K fd ps []:=λs us _ D=>by
 rw[dc] at D ⊢;exact .of_eq (h us D)
def zs1(CX:CXT)(X:Cx)(E:XK):Prop:=∀(pins:k6) (σ:St) (H:Hp) (s:Shared) (e:Value) (s':Shared),Inv X pins σ H s->CX X.stack H s E e s'->X.xe e s'
variable{E:XK}{dvs:k8}{ds:h7}
theorem z1z(F:FnOk X.prog X.w X.K X.mg X.base CX k f fd ps sp)(R:Room k X.A)(S:Binds X.K fd ps ds)(U:Vals dvs ds)(V:zs1 CX X E)(I:Inv X pins σ H s)(r:Vals vs us)(h:sp (vs++dvs) H Q E):wpAny (model X.prog X.w) X.A (call (.ref f) us) (EP X pins σ Q) X.xe s:=by
 have J:Vals (vs++dvs) (us++ds):=r.append U;have Y:(us++ds).length=ps.length:=by rw[<-J.length];exact F.len _ _ _ _ h
 refine wpAny_call (codeAny_mono (F.run X.A X.stack s H ⟨us,[]⟩ (us++ds) (vs++dvs) Q E R I.env0 (S s us I.kIn Y) J h) λr s' D=>?_);cases r with
 | error e=>exact V pins σ H s e s' I D
 | ok fl =>
   cases fl with
   | ret u=>exact I.after D
   | next=>exact False.elim D
   | brk=>exact False.elim D
   | cont=>exact False.elim D
def zo9(F:FnOk X.prog X.w X.K X.mg X.base CX k f fd ps sp)(S:Room k X.A)(U:Gl X x)(V:X.mg x=some (.ref f))(Y:PySem.W.keepIn X.K (.ref f)=true)(Z:Binds X.K fd ps ds)(a:Vals dvs ds)(b:zs1 CX X E)(c:PA X (e::es) t)(D:(x==("__debug__" : Str))=false:=by decide)(d:starEach (e::es) X.env=(false,eval e X.env)::starEach es X.env:=by rfl)(J:(backTo pos (starEach es X.env)).any (·.1)=false:=by rfl) :
  PE X (.Call (.Name x p) (e::es) [] pos) (zvg sp dvs E t):=by
 intro pins s σ H Q I h;refine wpAny_Call_Name_kw (vf I U V ?_ D);refine im (h₀:=X.base) I.ok.mod.kin Y (thn (c pos pins s σ H _ I h) λus i g=>?_) d J;obtain⟨vs,H1,R,r,q⟩:=g;refine⟨R.kIn,?_⟩;exact z1z F S Z a b R r q
structure Mk (K:k4) (C f:Addr):Prop where
 makes:PySem.W.makesIn K C=true
 init:PySem.W.findIn K (.ref C) "__init__" = some (some (.ref f))
 fn:PySem.W.isFn K (.ref f)=true
 kp:PySem.W.keepIn K (.ref C)=true
def PK(X:Cx)(kws:List Keyword)(t:TA):Prop :=
 ∀(pos:Pos) (pins:k6) (s:Shared) (σ:St) (H:Hp) (Q:k8->Hp->Prop),Inv X pins σ H s->t σ H Q->wpAny (model X.prog X.w) X.A (evalAll ((backToKw pos (keywordEach kws X.env)).map (·.2))) (AP X pins σ Q) X.xe s
section
variable {X:Cx} {CX:CXT} {k:Nat} {f C:Addr} {fd:FuncData} {ps ks:g9} {sp:Sp} {E:XK} {x m:Str} {p pos apos kpos:Pos} {e o:Expr} {es:ka} {kws:List Keyword} {te ta:TE} {t tk:TA} {nm:kb}
def z10:PK X [] tNil:=λ_ _ _ _ H Q I h=>wpAny_evalAll_nil ⟨[],H,I,.nil,h⟩
def zyu(D:PE X e te)(J:PK X kws t):PK X (⟨nm,e,kpos⟩::kws) (z1x te t):=by
 intro pos pins s σ H Q I h;show wpAny _ _ (evalAll ((do let v <-eval e X.env;standAt pos;pure v)::(backToKw pos (keywordEach kws X.env)).map (·.2))) _ _ s;refine wpAny_evalAll_cons (wpAny_bind (thn (D pins s σ H _ I h) λu R S=>?_));obtain⟨x,H1,U,V,Y⟩:=S;refine wpAny_bind (wpAny_standAt (wpAny_pure ?_));exact thn (J pos pins R σ H1 _ U Y) λus s2 ⟨xs,H2,I2,r2,q2⟩=>⟨x::xs,H2,I2,.cons V r2,q2⟩
structure z5u (K:k4) (fd:FuncData) (ps ks:g9) (g:h7->h7->h7) (gV:k8->k8->k8):Prop where
 to:∀(s:Shared) (us ws:h7),K.In s.heap->(g us ws).length=ps.length->BindsTo s fd ⟨us,ks.zip ws⟩ (ps.zip (g us ws))
 rel:∀ {vs:k8} {us:h7} {zs:k8} {ws:h7},Vals vs us->Vals zs ws->Vals (gV vs zs) (g us ws)
variable {g:h7->h7->h7} {gV:k8->k8->k8}
end
structure pz (N P:g9) (sc:Scope):Prop where
 kind:sc.kind=.function
 co:sc.isCoroutine=false
 gen:sc.isGenerator=false
 nd:N.Nodup
 pre:N.take P.length=P
 par:∀x∈P,sc.names.lookup x=some .local\/sc.names.lookup x=some .cell
 nofree:∀y∈sc.names,y.2≠.free
def znt{kindOf:Str->Option NameKind}{x:Str}:∀ {D:List (Str×Value)} {m:Str->h8},(∀v,(x,v)∉D)->bindL kindOf D m x=m x
 | [],_,_=>rfl
 | (n,v)::r,m,h=>by
   unfold bindL;rw[znt λw I=>h w (ax _ I)];split
   ·have:x≠n:=by rintro rfl;exact h v bn
    simp[this]
   ·rfl
def znu{kindOf:Str->Option NameKind}{x:Str}:∀ {D:List (Str×Value)} {m:Str->h8},(∀v,(x,v)∉D)->bindC kindOf D m x=m x
 | [],_,_=>rfl
 | (n,v)::r,m,h=>by
   unfold bindC;rw[znu λw I=>h w (ax _ I)];split
   ·rfl
   ·have:x≠n:=by rintro rfl;exact h v bn
    simp[this]
def znv{kindOf:Str->Option NameKind}{x:Str}{v:Value}:∀ {P:g9} {vs:h7} {i:Nat} {m:Str->h8},P.Nodup->P[i]?=some x->vs[i]?=some v->kindOf x=some .local ->
  bindL kindOf (P.zip vs) m x=some v
 | [],_,_,_,_,h,_,_=>by simp at h
 | _::_,[],_,_,_,_,h,_=>by simp at h
 | p::P,w::vs,0,m,nd,h1,h2,hk=>by
   simp at h1 h2;subst h1;subst h2;show bindL kindOf ((p,w)::P.zip vs) m p=_;unfold bindL;rw[znt λv D=>(bx.mp nd).1 (jh D).1,if_pos hk];simp
 | p::P,w::vs,i+1,m,nd,h1,h2,hk=>by
   show bindL kindOf ((p,w)::P.zip vs) m x=_;unfold bindL;exact znv (i:=i) (bx.mp nd).2 (by simpa using h1) (by simpa using h2) hk
def znw{kindOf:Str->Option NameKind}{x:Str}{v:Value}:∀ {P:g9} {vs:h7} {i:Nat} {m:Str->h8},P.Nodup->P[i]?=some x->vs[i]?=some v->kindOf x≠some .local ->
  bindC kindOf (P.zip vs) m x=some v
 | [],_,_,_,_,h,_,_=>by simp at h
 | _::_,[],_,_,_,_,h,_=>by simp at h
 | p::P,w::vs,0,m,nd,h1,h2,hk=>by
   simp at h1 h2;subst h1;subst h2;show bindC kindOf ((p,w)::P.zip vs) m p=_;unfold bindC;rw[znu λv D=>(bx.mp nd).1 (jh D).1,if_neg hk];simp
 | p::P,w::vs,i+1,m,nd,h1,h2,hk=>by
   show bindC kindOf ((p,w)::P.zip vs) m x=_;unfold bindC;exact znw (i:=i) (bx.mp nd).2 (by simpa using h1) (by simpa using h2) hk
def start(N:g9)(vs:k8):St:=vs.map some++List.replicate (N.length-vs.length) none
def cxOf(CX:CXT)(P:Program)(w:World)(K:k4)(mg:Str->h8)(base:Heap)(N:g9)(qual:Str)(scope:Scope)(f:Addr)(I:Value)(A:Around)(outer:i0)(s:Shared)(H:Hp)(E:XK):Cx where
 prog:=P
 w:=w
 K:=K
 mg:=mg
 base:=base
 A:=A.deeper (envOfC qual scope s.heap.objs.size f I)
 N:=N
 s₀:=s
 H₀:=H
 env:=envOfC qual scope s.heap.objs.size f I
 outer:=outer
 stack:=envOfC qual scope s.heap.objs.size f I::outer
 ex:=[]
 calm:=true
 fn:=λ_=>true
 pn:=[]
 xe:=λe s'=>wpAny (model P w) (A.deeper (envOfC qual scope s.heap.objs.size f I)) (leaving (envOfC qual scope s.heap.objs.size f I) e) (λ_ D=>CX outer H s E e D) (λe' D=>CX outer H s E e' D) s'
def zqh{sc:Scope}(h:sc.names.lookup x=some .cell):∃c,(cellsFrom n sc.names []).lookup x=some c:=by
 have q:=kr sc.names n [] (.inl h);exact j5.mp q
variable{qual:Str}{scope:Scope}
theorem znx{U:Value}{V:Shared}(S:pz N ps scope)(d:A.handled=none)(D:Env0 P w K mg base A outer s H)(m:vs.length=ps.length)(r:Vals vs us)(x:InCallC s s.heap.objs.size (bindL (envOfC qual scope s.heap.objs.size f U).kindOf (ps.zip us) λ_=>none) (cellsFrom (s.heap.objs.size+1) scope.names []) (bindC (envOfC qual scope s.heap.objs.size f U).kindOf (ps.zip us) λ_=>none) V) :
  Inv (cxOf CX P w K mg base N qual scope f U A outer s H E) [] (start N vs) H V:=by
 have g:ps.length<=N.length:=by have:=congrArg List.length S.pre;rw[dm] at this;lia
 obtain⟨h1,tk,rfl,Y⟩:=x.done;have I:∀b:Addr,b∉(cxOf CX P w K mg base N qual scope f U A outer s H E).ex:=λb z=>absurd (show b∈([]:ia) from z) (by simp);refine⟨⟨D.mod,S.kind,rfl,rfl,bw _,λy z c h1 h2=>?_,λy hy=>?_,λy c _ h=>?_,λ_=>d,Around.frames_deeper D.frames,.inr ⟨rfl,rfl⟩,λb z=>absurd z (I b),D.bs,D.bsz,λb _ _=>I b,λb z=>absurd z (I b),D.funs,D.frf⟩,
  rfl,D.bare,Un.kept Y,⟨_,x.toInCall.ns,λi y v h1 h2 o=>?_⟩,λy c h=>⟨_,x.cell y c h⟩,D.hok.fresh (bw _),λy c h=>?_,λp J=>absurd (show p∈([]:k6) from J) (by simp),D.hok.kept Y,?_⟩
 ·exact name_of_addr x.apart (d7 h1) (d7 h2)
 ·have hy:scope.names.lookup y=some .cell\/scope.names.lookup y=some .free:=hy
  rcases hy with hy | hy
  ·exact zqh hy
  ·exact absurd rfl (S.nofree _ (d7 hy))
 ·exact nk (x.above y c (d7 h))
 ·have hi:i<vs.length:=by
   unfold start at h2;by_cases hi:i<vs.length
   ·exact hi
   ·rw[df (by simpa using hi)] at h2
    rw[z0] at h2;split at h2 <;> cases h2
  have j:vs[i]?=some v:=by
   unfold start at h2;rw[aw (by simpa using hi),b7] at h2;cases e:vs[i]? with
   | none=>rw[e] at h2;cases h2
   | some a=>rw[e] at h2;cases h2;rfl
  obtain⟨u,Z,l⟩:=r.get j;have J:ps[i]?=some y:=by
   rw[<-S.pre,List.getElem?_take_of_lt (by lia)];exact h1
  have R:ps.Nodup:=by rw[<-S.pre];exact S.nd.sublist (List.take_sublist _ _)
  refine⟨u,l,?_⟩;rcases S.par y (bi J) with k | k
  ·exact .inl ⟨k,znv R J Z k⟩
  ·obtain⟨c,e⟩:=zqh (n:=s.heap.objs.size+1) k
   refine .inr ⟨.inl k,c,e,?_⟩;have q:=x.cell y c e;rw[znw R J Z (by show scope.names.lookup y≠_;rw[k];decide)] at q;exact q
 ·exact D.hok.fresh (nk (x.above y c (d7 h)))
 ·unfold start
  show _=N.length;rw[am,ah,d8]
  lia
def z4o{D:Arguments}{m kV a p cdv ct oc:Value}{an od:Option Addr}{osl:Array h8}(C:K.lookup f=some ⟨oc,od,.func (PySem.W.fnOf name qual D body scope m kV a p an cdv ct),osl⟩)(h:PySem.W.codeIn K cdv qual=true)(S:pz N ps scope)(len:∀vs H Q E,sp vs H Q E->vs.length=ps.length)(U:∀(A:Around) (outer:i0) (s:Shared) (H:Hp) (vs:k8) (Q:VK) (E:XK),Room k (A.deeper (envOfC qual scope s.heap.objs.size f cdv))->sp vs H Q E ->
   ∃t,PSs (cxOf CX P w K mg base N qual scope f cdv A outer s H E) body t/\t { nx:=λ_ H'=>Q .non H',rt:=Q } (start N vs) H) :
  FnOk P w K mg base CX (k+1) f (PySem.W.fnOf name qual D body scope m kV a p an cdv ct) ps sp:=by
 refine⟨len,λA outer s H args us vs Q E i c F r d=>?_⟩;have G:=len _ _ _ _ d;have z:K.In s.heap:=c.mod.kin.keeps λb o e=>(c.bs b o e).1;have j:s.heap.NoLimit:=c.mod.nolimit.keeps λb o e=>(c.bs b o e).1;have Y:∀y∈ps.zip us,scope.names.lookup y.1=some .local\/(scope.names.lookup y.1=some .cell/\((cellsFrom (s.heap.objs.size+1) scope.names []).lookup y.1).isSome=true):=λ⟨n,v⟩ hy=>by
  rcases S.par n (jh hy).1 with q | q
  ·exact .inl q
  ·exact .inr ⟨q,kr _ _ _ (.inl q)⟩
 refine codeAny_call_function i.depth (z _ _ C) rfl S.co S.gen rfl (PySem.W.codeRec_of z h) (F _ _ _ _ ?_);refine wpAny_newFunctionEnv_cells S.kind Y λenv L B x=>?_;subst L;refine⟨j.keeps x.toInCall.keep,codeAny_func ?_⟩;obtain⟨t,M,O⟩:=U A outer s H vs Q E (i.deeper _) d;have I:Inv (cxOf CX P w K mg base N qual scope f cdv A outer s H E) [] (start N vs) H B:=znx S i.hd c G r x;refine wpAny_mono (M [] B (start N vs) H _ I O) (λfl s' Z=>?_) λe s' Z=>Z;have g:∀ {R:St} {H':Hp} {v:V} {u:Value},Inv (cxOf CX P w K mg base N qual scope f cdv A outer s H E) [] R H' s'->RelV v u->Q v H'->CE outer P w H s Q u s' :=
  λ{R H' v u} J l q=>⟨v,H',J.os,J.bare,J.base,J.hok,l,q⟩
 cases fl with
 | ret u =>
   obtain⟨v,R,H',J,l,q⟩:=Z;exact g J l q
 | next =>
   obtain⟨R,H',J,q⟩:=Z;exact g (v:=V.non) (u:=Value.none) J rfl q
 | brk =>
   obtain⟨_,_,_,q⟩:=Z;exact False.elim q
 | cont =>
   obtain⟨_,_,_,q⟩:=Z;exact False.elim q
def tCB(r:k8->Hp->VK->Prop)(t:TA):TE:=λσ H Q=>t σ H λvs H1=>r vs H1 Q
variable{r:k8->Hp->VK->Prop}{id:String}
def yx(R:nv X (.builtin id) r)(S:Gl X x)(U:X.mg x=none)(V:bootBuiltins x=some (.builtin id))(Y:PA X (e::es) t)(Z:x ≠ "__name__":=by decide)(D:(x==("__debug__" : Str))=false:=by decide)(a:starEach (e::es) X.env=(false,eval e X.env)::starEach es X.env:=by rfl)(J:(backTo pos (starEach es X.env)).any (·.1)=false:=by rfl):PE X (.Call (.Name x p) (e::es) [] pos) (tCB r t):=by
 intro pins s σ H Q I h;refine wpAny_Call_Name_kw (wj I S U V ?_ Z D);exact PyProof.Rows.callWith_builtin1 (thn (Y pos pins s σ H _ I h) λus s1 ⟨vs,H1,I1,r1,q1⟩=>R pins s1 σ H1 vs us Q I1 r1 q1) a J
variable{T:String}
def zny(R:nv X (.type T) r)(S:Gl X x)(U:X.mg x=none)(V:bootBuiltins x=some (.type T))(Y:PA X (e::es) t)(Z:x ≠ "__name__":=by decide)(D:(x==("__debug__" : Str))=false:=by decide)(a:starEach (e::es) X.env=(false,eval e X.env)::starEach es X.env:=by rfl)(J:(backTo pos (starEach es X.env)).any (·.1)=false:=by rfl):PE X (.Call (.Name x p) (e::es) [] pos) (tCB r t):=by
 intro pins s σ H Q I h;refine wpAny_Call_Name_kw (wj I S U V ?_ Z D);exact jm (thn (Y pos pins s σ H _ I h) λus s1 ⟨vs,H1,I1,r1,q1⟩=>R pins s1 σ H1 vs us Q I1 r1 q1) a J
end L2
namespace HT
open PySem PyProof.Rows
section
open PySem.SeqAt
open PySem.AutoSeq1 (wpAny_loadPart')
open PySem.MeetsSeq PySem.MeetsSeq2 PySem.MeetsSeq3
end
variable{t:Addr}{Q E:Value->Shared->Prop}{prog:Program}{w:World}{A:Around}{s:Shared}
def cat_tup{b:Addr}{vs ws:h7}(g:IsTup s.heap t vs.toArray)(h:IsTup s.heap b ws.toArray)(Z:vs≠[])(h1:ws=[]->Q (.ref t) s)(h2:ws≠[]->Q (.ref s.heap.objs.size) { s with heap:=s.heap.push { cls:=.type "tuple",data:=.seq (vs++ws).toArray } })(Y:vs.length+ws.length<=sizeLine):wpAny (model prog w) A (binaryOp .Add (.ref t) (.ref b)) Q E s:=by
 obtain⟨⟨cls,dd,data,sl⟩,U,a,n,c⟩:=id g;obtain⟨⟨d,I,data2,J⟩,D,R,f,S⟩:=id h;simp only at a c R S;subst a c R S;have e:vs.toArray++ws.toArray=(vs++ws).toArray:=by simp
 by_cases V:ws=[]
 ·exact concat_meets ⟨_,U,rfl⟩ ⟨_,D,rfl⟩ noFill_tuple_add seq_tuple_add PySem.F.slot_tuple_add zz (x9 _ _)
   (tuple_addW1 t b vs.toArray ws.toArray n f dd I sl J (by simpa using Z) (by simp[V])) ⟨U,D,h1 V⟩
 ·refine concat_meets ⟨_,U,rfl⟩ ⟨_,D,rfl⟩ noFill_tuple_add seq_tuple_add PySem.F.slot_tuple_add zz (x9 _ _)
   (tuple_addW2 t b vs.toArray ws.toArray n f dd I sl J (by simpa using Z) (by simpa using V) (by rw[bc,bc];exact Y)) ⟨U,D,?_⟩
  rw[e];exact h2 V
def sIx(n d:Nat):kf->Nat
 | none=>d
 | some v=>if v<0 then(v+(n:Int)).toNat else min v.toNat n
def sIx_none(n d:Nat):sIx n d none=d:=rfl
theorem sIx_nat(n d k:Nat):sIx n d (some (k:Int))=min k n:=by
 show(if (k:Int)<0 then((k:Int)+(n:Int)).toNat else min (k:Int).toNat n)=min k n;rw[if_neg (by lia),gq]
theorem z11(n d:Nat)(I:d<=n)(o:kf):sIx n d o<=n:=by
 cases o with
 | none=>exact I
 | some v =>
   show(if v<0 then(v+(n:Int)).toNat else min v.toNat n)<=n;by_cases D:v<0
   ·rw[if_pos D];lia
   ·rw[if_neg D];exact Nat.min_le_right _ _
theorem zs2(v:Int)(n d:Nat):(if v<0 then max (v+(n:Int)) 0 else min v (n:Int))=((sIx n d (some v):Nat):Int):=by
 show(if v<0 then max (v+(n:Int)) 0 else min v (n:Int))=(((if v<0 then(v+(n:Int)).toNat else min v.toNat n):Nat):Int);by_cases D:v<0
 ·simp only[if_pos D];lia
 ·simp only[if_neg D];lia
theorem zrv(lo hi:kf)(n:Nat):Builtin.Slice.sliceAdjust lo hi 1 (n:Int)=(((sIx n 0 lo:Nat):Int),((sIx n n hi:Nat):Int)):=by
 have h1:¬((1:Int)<0):=by lia
 unfold Builtin.Slice.sliceAdjust;simp only[h1,if_false];refine Prod.ext ?_ ?_
 ·cases lo with
  | none=>rfl
  | some v=>exact zs2 v n 0
 ·cases hi with
  | none=>rfl
  | some v=>exact zs2 v n n
theorem zrw(i j:Nat):Builtin.Slice.slicePlaces (i:Int) (j:Int) 1=j-i:=by
 unfold Builtin.Slice.slicePlaces;have h1:(1:Int) > 0:=by lia
 simp only[h1,if_true,Int.ediv_one];split <;> lia
def zlz{v:Value}{o:kf}{Q:kf->Shared->Prop}(p:IsPart v o)(h:Q o s):wpAny (model prog w) A (Builtin.Slice.slicePartIndex v) Q E s:=by
 cases p with
 | none=>exact slicePart_none h
 | int i t=>exact slicePart_int h
variable{sl:Addr}{vl vu:Value}{lo hi:kf}
def zkf{n:Nat}{Q:Int×Int×Nat->Shared->Prop}(J:s.heap.IsSliceOf sl vl vu .none)(pl:IsPart vl lo)(R:IsPart vu hi)(h:Q (((sIx n 0 lo:Nat):Int),1,sIx n n hi-sIx n 0 lo) s):wpAny (model prog w) A (Builtin.Slice.sliceApplied (.ref sl) (pure (n:Int))) Q E s:=by
 obtain⟨os,D,S,I⟩:=id J;unfold Builtin.Slice.sliceApplied Builtin.Slice.sliceFields;refine wpAny_bind (wpAny_bind (wpAny_field D I (x:=vl) rfl (wpAny_bind (wpAny_field D I (x:=vu) rfl (wpAny_bind (wpAny_field D I (x:=.none) rfl (wpAny_pure ?_)))))));refine wpAny_bind (slicePart_none ?_);show wpAny _ _ (if ((1:Int)==0)=true then _ else _) _ _ s;rw[if_neg (by decide)];refine wpAny_bind (zlz pl (wpAny_bind (zlz R (wpAny_bind (wpAny_pure ?_)))));show wpAny _ _ (match Builtin.Slice.sliceAdjust lo hi 1 (n:Int) with | (lo,hi)=>pure (lo,(1:Int),Builtin.Slice.slicePlaces lo hi 1)) _ _ s;rw[zrv lo hi n];show wpAny _ _ (pure (((sIx n 0 lo:Nat):Int),(1:Int),Builtin.Slice.slicePlaces ((sIx n 0 lo:Nat):Int) ((sIx n n hi:Nat):Int) 1)) _ _ s;rw[zrw];exact wpAny_pure h
theorem zvh(xs:k7)(i k:Nat):((List.range k).filterMap λ(m:Nat)=>xs[((i:Int)+(m:Int)*1).toNat]?).toArray=((xs.toList.drop i).take k).toArray:=by
 have e:(λ(m:Nat)=>xs[((i:Int)+(m:Int)*1).toNat]?)=λm=>xs[i+m]?:=by
  funext m;have:((i:Int)+(m:Int)*1).toNat=i+m:=by lia
  rw[this]
 rw[e];have:=pick_run xs i k;rw[List.filterMap_map] at this;have D:((λx=>xs[x]?) ∘ λx=>i+x)=λm=>xs[i+m]?:=rfl;rw[D] at this;rw[this]
theorem getItem_tuple_cut{D:k7}(J:IsTup s.heap t D)(Y:s.heap.IsSliceOf sl vl vu .none)(pl:IsPart vl lo)(Z:IsPart vu hi)(a:¬(sIx D.size 0 lo=0/\sIx D.size D.size hi=D.size))(h:Q (.ref s.heap.objs.size) { s with heap:=s.heap.push { cls:=.type "tuple",data:=.seq ((D.toList.drop (sIx D.size 0 lo)).take (sIx D.size D.size hi-sIx D.size 0 lo)).toArray } })(b:D.size<=sizeLine):wpAny (model prog w) A (getItem (.ref t) (.ref sl)) Q E s:=by
 have I:sizeOk (.seq ((D.toList.drop (sIx D.size 0 lo)).take (sIx D.size D.size hi-sIx D.size 0 lo)).toArray):=by
  show((D.toList.drop (sIx D.size 0 lo)).take (sIx D.size D.size hi-sIx D.size 0 lo)).toArray.size<=sizeLine;rw[bc,dm,em,mh]
  lia
 have d:sIx D.size D.size hi<=D.size:=z11 _ _ (bw _) hi;obtain⟨os,R,S,c⟩:=id Y;have U:s.TypeIs (.ref sl) "slice":=⟨os,R,S⟩;unfold getItem;try with_reducible refine wpAny_holding ?_
 first | refine wpAny_bind (wpAny_pure ?_) | skip
 refine wpAny_bind (wpAny_sequenceKey J.typeIs (by decide) ?_);refine wpAny_bind (wpAny_callSpecial?_slot (name:=Str.ofString "__getitem__") J.typeIs i6
  (wpAny_call_entry i6 J.typeIs entry_tuple_getitem ?_ (args_tuple_getitem _ _)))
 show wpAny _ _ (Builtin.Tuple.tupleItemsOf (.ref t) >>= _) _ _ s;refine wpAny_bind (tupleItemsOf_ J ?_);refine wpAny_bind (wpAny_typeOf U ?_);rw[if_pos (by decide)];refine wpAny_bind (zkf Y pl Z ?_);have V:¬((((sIx D.size 0 lo:Nat):Int)==0 && (1:Int)==1 && (sIx D.size D.size hi-sIx D.size 0 lo)==D.size)=true):=by
  intro q;rw[dr,dr] at q;have e:((sIx D.size 0 lo:Nat):Int)=0:=eq_of_beq q.1.1;have f:sIx D.size D.size hi-sIx D.size 0 lo=D.size:=eq_of_beq q.2;exact a ⟨by lia,by lia⟩
 show wpAny _ _ (if (((sIx D.size 0 lo:Nat):Int)==0 && (1:Int)==1 && (sIx D.size D.size hi-sIx D.size 0 lo)==D.size)=true then _ else _) _ _ s;rw[if_neg V,zvh];first
  | exact wpAny_bind (m:=Builtin.Tuple.tupleExact _) (wpAny_newObj_type (wpAny_pure ⟨_,rfl,wpAny_pure h⟩) I)
  | exact wpAny_bind (m:=Builtin.Tuple.tupleExact _) (wpAny_newObj_type (wpAny_bind (wpAny_pure (wpAny_pure ⟨_,rfl,wpAny_pure h⟩))) I)
  | exact wpAny_bind (wpAny_bind (m:=Builtin.Tuple.tupleExact _) (wpAny_newObj_type (wpAny_pure (wpAny_pure ⟨_,rfl,wpAny_pure h⟩)) I))
  | exact wpAny_bind (wpAny_bind (m:=Builtin.Tuple.tupleExact _) (wpAny_newObj_type (wpAny_pure ⟨_,rfl,wpAny_pure h⟩) I))
end HT
namespace L2
open PySem PySem.Spec PyProof.Rows
abbrev TO:=St->Hp->(kf->Hp->Prop)->Prop
def PO(X:Cx)(e:Option Expr)(t:TO):Prop :=
 ∀(pins:k6) (s:Shared) (σ:St) (H:Hp) (Q:kf->Hp->Prop),Inv X pins σ H s->t σ H Q ->
  wpAny (model X.prog X.w) X.A (evalPart e X.env) (λu s'=>∃o H',Inv X pins σ H' s'/\IsPart u o/\Q o H') X.xe s
def zyv:TO:=λ_ H Q=>Q none H
def z4p(t:TE):TO:=λσ H Q=>t σ H λx H1=>∃i,x=.int i/\Q (some i) H1
def zrx{D:ik}:∀ {us:h7},Vals (D.map V.int) us->IntsAre us D:=by
 induction D with
 | nil=>intro us r;rw[di] at r;cases r;exact .nil
 | cons n D ih =>
   intro us r;rw[cf] at r;cases r with
   | cons r1 r2 =>
     obtain⟨t,e⟩:=r1;subst e;exact .cons n t (ih r2)
variable{X:Cx}
def zyw:PO X none zyv:=by
 intro pins s σ H Q I h;rw[evalPart_none];exact wpAny_pure ⟨none,H,I,.none,h⟩
variable{e:Expr}{te:TE}
def zyx(h:PE X e te):PO X (some e) (z4p te):=by
 intro pins s σ H Q I D;rw[evalPart_some];refine thn (h pins s σ H _ I D) λu V J=>?_;obtain⟨x,H1,R,S,U⟩:=J;obtain⟨i,rfl,q⟩:=U;obtain⟨t,rfl⟩:=S;exact⟨some i,H1,R,.int i t,q⟩
variable{lo hi:Option Expr}
def SlR(X:Cx)(r:V->kf->kf->Hp->VK->Prop):Prop :=
 ∀(pins:k6) (s:Shared) (σ:St) (H:Hp) (x:V) (v vl vu:Value) (lo hi:kf) (sl:Addr) (Q:VK),Inv X pins σ H s->RelV x v->s.heap.IsSliceOf sl vl vu .none->IsPart vl lo->IsPart vu hi->r x lo hi H Q ->
  ∃T id,typeLookup (.type T) "__getitem__" = pure (some (.builtin id))/\s.TypeIs v T/\wpAny (model X.prog X.w) X.A (getItem v (.ref sl)) (EP X pins σ Q) X.xe s
def tSl(r:V->kf->kf->Hp->VK->Prop)(te:TE)(tl th:TO):TE:=λσ H Q=>te σ H λx H1=>tl σ H1 λl H2=>th σ H2 λu D=>r x l u D Q
variable{r:R2}{tl th:TO}{pos p2:Pos}
def zqi{r:V->kf->kf->Hp->VK->Prop}(S:SlR X r)(U:PE X e te)(Y:PO X lo tl)(Z:PO X hi th):PE X (.Subscript e (.Slice lo hi none p2) pos) (tSl r te tl th):=by
 intro pins s σ H Q I h;refine Subscript_ (thn (U pins s σ H _ I h) λv a J=>?_);obtain⟨x,H1,c,d,f⟩:=J;refine wpAny_Slice (thn (Y pins a σ H1 _ c f) λvl s2 J=>?_);obtain⟨l,H2,g,pl,i⟩:=J;refine thn (Z pins s2 σ H2 _ g i) λvu D J=>?_;obtain⟨u,R,j,k,m⟩:=J;rw[evalPart_none];refine wpAny_pure ?_;have n:Inv X pins σ R { D with heap:=D.heap.push { cls:=.type "slice",data:=.fields #[vl,vu,.none] } }:=j.kept (t':=D.toks) λb t q=>ao _ q;obtain⟨T,id,hT,o,p⟩:=S pins { D with heap:=D.heap.push { cls:=.type "slice",data:=.fields #[vl,vu,.none] } } σ R x v vl vu l u D.heap.objs.size Q n d (Heap.IsSliceOf.new ..) pl k m;show wpAny (model X.prog X.w) X.A (subscriptTail e (.Slice lo hi none p2) v (.ref D.heap.objs.size)) (EP X pins σ Q) X.xe { D with heap:=D.heap.push { cls:=.type "slice",data:=.fields #[vl,vu,.none] } };exact tail_any (ops:=[.ref D.heap.objs.size,v]) o hT p (by with_unfolding_all rfl)
def cutV(xs:k8)(lo hi:kf):k8:=(xs.drop (HT.sIx xs.length 0 lo)).take (HT.sIx xs.length xs.length hi-HT.sIx xs.length 0 lo)
theorem zkz(xs:k8)(lo hi:kf):(cutV xs lo hi).length<=xs.length:=by
 unfold cutV;rw[dm,em]
 lia
def rSlT(K:k4):V->kf->kf->Hp->VK->Prop:=λx lo hi H Q=>∃a xs,x=.ref a/\SqT K H a xs /\
 ¬(HT.sIx xs.length 0 lo=0/\HT.sIx xs.length xs.length hi=xs.length)/\∀p,H p=none->Q (.ref p) (upd H p (.tup (cutV xs lo hi)))
def z12:SlR X (rSlT X.K):=by
 intro pins s σ H x v vl vu lo hi sl Q I S U pl V h;obtain⟨a,xs,rfl,Y,Z,q⟩:=h;cases S;obtain⟨its,r,J,R⟩:=I.tuple Y;have D:its.toArray.size=xs.length:=by rw[bc];exact r.length.symm
 refine⟨"tuple",_,i6.lookup,J.typeIs,?_⟩;refine HT.getItem_tuple_cut J U pl V (by rw[D];exact Z) ?_ (by rw[D];exact R);rw[D];refine⟨.ref s.heap.objs.size,_,I.laid (t':=s.toks) (o:=.tup (cutV xs lo hi)) (λb c q=>ao _ q) (bw _) ?_,rfl,q _ (I.hok.fresh (bw _))⟩;exact⟨cx (zkz xs lo hi) R,_,(r.drop (HT.sIx xs.length 0 lo)).take (HT.sIx xs.length xs.length hi-HT.sIx xs.length 0 lo),IsTup.new _ _⟩
def z13(K:k4):R2:=λx y H Q=>∃a b xs ys,x=.ref a/\y=.ref b/\SqT K H a xs/\SqT K H b ys/\xs≠[]/\xs.length+ys.length<=sizeLine /\
 (ys=[]->Q (.ref a) H)/\(ys≠[]->∀p,H p=none->Q (.ref p) (upd H p (.tup (xs++ys))))
variable{xs:k8}{us:h7}
def Vals.nil_iff(r:Vals xs us):us=[]↔xs=[]:=by
 cases r with
 | nil=>simp
 | cons _ _=>simp
def zyy:OpR X (binaryOp .Add) (z13 X.K):=by
 intro pins s σ H x y v u Q I U V h;obtain⟨a,b,xs,ys,rfl,rfl,Y,Z,c,R,d,e⟩:=h;cases U;cases V;obtain⟨its,J,p1,_⟩:=I.tuple Y;obtain⟨S,D,p2,_⟩:=I.tuple Z;refine HT.cat_tup p1 p2 (λz=>c (J.nil_iff.mp z)) (λz=>⟨.ref a,H,I,rfl,d (D.nil_iff.mp z)⟩) (λz=>?_) (by rw[<-J.length,<-D.length];exact R);refine⟨.ref s.heap.objs.size,_,I.laid (t':=s.toks) (o:=.tup (xs++ys)) (λb f q=>ao _ q) (bw _) ?_,rfl,e (λw=>z (D.nil_iff.mpr w)) _ (I.hok.fresh (bw _))⟩;exact⟨by rw[am];exact R,_,J.append D,IsTup.new _ _⟩
def ixN(n:Nat)(i:Int):Option Nat:=if 0<=i then(if i<n then some i.toNat else none) else if -(n:Int)<=i then some (i+n).toNat else none
variable{α:Type}
def atI(xs:List α)(i:Int):Option α:=(ixN xs.length i).bind λj=>xs[j]?
variable{n j:Nat}{i:Int}
theorem zpa(h:ixN n i=some j):seqIndex? i n=some j/\j<n/\-(n:Int)<=i/\i<n:=by
 unfold ixN at h;by_cases D:0<=i
 ·rw[if_pos D] at h
  by_cases h1:i<n
  ·rw[if_pos h1] at h
   have e:i.toNat=j:=bq h;exact⟨by rw[seqIndex_of D h1,e],by lia,by lia,h1⟩
  ·rw[if_neg h1] at h;cases h
 ·rw[if_neg D] at h
  by_cases h1:-(n:Int)<=i
  ·rw[if_pos h1] at h
   have e:(i+n).toNat=j:=bq h;exact⟨by rw[seqIndex_neg (by lia) h1,e],by lia,h1,by lia⟩
  ·rw[if_neg h1] at h;cases h
def zpb{xs:List α}{v:α}(h:atI xs i=some v):∃j,seqIndex? i xs.length=some j/\xs[j]?=some v/\j<xs.length/\-(xs.length:Int)<=i/\i<xs.length:=by
 unfold atI at h;cases e:ixN xs.length i with
 | none=>rw[e] at h;cases h
 | some j =>
   rw[e] at h;obtain⟨h1,h2,D,I⟩:=zpa e;exact⟨j,h1,h,h2,D,I⟩
theorem zs3{xs:List α}{v:α}(h:xs[j]?=some v):atI xs (j:Int)=some v:=by
 have D:j<xs.length:=(aj.mp h).1;have e:ixN xs.length (j:Int)=some j:=by
  unfold ixN;rw[if_pos (by lia),if_pos (by lia)];simp
 unfold atI;rw[e];exact h
theorem zvi(xs:List α)(v:α):atI (xs++[v]) (-1)=some v:=by
 have D:(xs++[v]).length=xs.length+1:=by simp
 have e:ixN (xs++[v]).length (-1)=some xs.length:=by
  unfold ixN;rw[D,if_neg (by decide),if_pos (by lia)];congr 1
  lia
 unfold atI;rw[e];show(xs++[v])[xs.length]?=some v;simp
def vi(b:Expr):Prop:=∀o i,subscripted b false o i=operate [o,i] (getItem o i)
def IxR(X:Cx)(r:R2):Prop :=
 ∀(value D:Expr) (pins:k6) (s:Shared) (σ:St) (H:Hp) (x y:V) (v u:Value) (Q:VK),Inv X pins σ H s->RelV x v->RelV y u->r x y H Q ->
  subscripted D false v u=operate [v,u] (getItem v u)->wpAny (model X.prog X.w) X.A (subscriptTail value D v u) (EP X pins σ Q) X.xe s
def MtR(X:Cx)(id:String)(r:V->k8->Hp->VK->Prop):Prop :=
 ∀(pins:k6) (s:Shared) (σ:St) (H:Hp) (x:V) (xs:k8) (v:Value) (us:h7) (Q:VK),Inv X pins σ H s->RelV x v->Vals xs us->r x xs H Q ->
  wpAny (model X.prog X.w) X.A (call (.builtin id) (v::us)) (EP X pins σ Q) X.xe s
def IxR.or{J:R2}(h:IxR X r)(h':IxR X J):IxR X (λx y H Q=>r x y H Q\/J x y H Q):=by
 intro value D pins s σ H x y v u Q I R S q U;rcases q with q | q
 ·exact h value D pins s σ H x y v u Q I R S q U
 ·exact h' value D pins s σ H x y v u Q I R S q U
variable{a b:Expr}{ta tb:TE}
def yi(D:IxR X r)(J:PE X a ta)(R:PE X b tb)(S:vi b):PE X (.Subscript a b pos) (tOp r ta tb):=by
 intro pins s σ H Q I h;exact Subscript_ (binT J R I h λv u s2 x y H2 U V Y q=>D a b pins s2 σ H2 x y v u Q U V Y q (S _ _))
def rIxL(K:k4):R2:=λx y H Q=>∃p xs i v,x=.ref p/\y=.int i/\SqL K H p xs/\atI xs i=some v/\Q v H
def rIxT(K:k4):R2:=λx y H Q=>∃p xs i v,x=.ref p/\y=.int i/\SqT K H p xs/\atI xs i=some v/\Q v H
def rIxS:R2:=λx y H Q=>∃z i c,x=.str z/\y=.int i/\z.length<=sizeLine/\atI z.cps.toList i=some c/\Q (.str ⟨#[c]⟩) H
theorem zme:IxR X (rIxL X.K):=by
 intro value J pins s σ H x y v u Q I Z a h U;obtain⟨p,xs,i,z,rfl,rfl,b,c,q⟩:=h;cases Z;obtain⟨t,rfl⟩:=a;obtain⟨its,r,pl,g⟩:=I.list b;obtain⟨j,h1,h2,k,d,e⟩:=zpb c;obtain⟨w,V,R⟩:=r.get h2;have f:=r.length;have l:=yo;have D:EP X pins σ Q w s:=⟨z,H,I,R,q⟩;by_cases Y:0<=i
 ·have S:i.toNat=j:=by
   rw[seqIndex_of Y e] at h1;exact bq h1
  exact item_listR pl.isList Y (by lia) (by rw[S];simpa using V) D U
 ·have S:(i+(its.toArray.size:Int)).toNat=j:=by
   rw[seqIndex_neg (by lia) d] at h1;rw[bc,<-f];exact bq h1
  exact subscriptTail_builtinR (x:=w) pl.isList.typeIs slot_list_getitem.lookup
   (wpAny_getItem_list_neg (Q:=λr s'=>r=w/\EP X pins σ Q r s') pl.isList (by lia) (by rw[bc] <;> lia) (by lia) (by rw[S];simpa using V) ⟨rfl,D⟩) U
theorem z14:IxR X (rIxT X.K):=by
 intro value D pins s σ H x y v u Q I S U h V;obtain⟨p,xs,i,z,rfl,rfl,Y,Z,q⟩:=h;cases S;obtain⟨t,rfl⟩:=U;obtain⟨its,r,pl,c⟩:=I.tuple Y;obtain⟨j,h1,h2,d,e,f⟩:=zpb Z;obtain⟨w,a,J⟩:=r.get h2;have b:=r.length;have g:=yo;have R:EP X pins σ Q w s:=⟨z,H,I,J,q⟩;exact subscriptTail_builtinR (x:=w) pl.typeIs slot_tuple_getitem.lookup
  (getItem_tuple (j:=j) (Q:=λr s'=>r=w/\EP X pins σ Q r s') pl (by lia) (by lia) (by rw[bc,<-b];exact h1) (by simpa using a) ⟨rfl,R⟩) V
theorem z15:IxR X rIxS:=by
 intro value D pins s σ H x y v u Q I J R h S;obtain⟨z,i,c,rfl,rfl,d,U,q⟩:=h;obtain⟨t,rfl⟩:=J;obtain⟨t',rfl⟩:=R;obtain⟨j,h1,h2,e,V,Y⟩:=zpb U;have Z:z.cps.toList.length=z.length:=by simp[Str.length]
 rw[Z] at h1 V Y;have f:=yo;exact tail_any (typeIs_str s z t) slot_str_getitem.lookup (getItem_str (c:=c) (by
  have a:decide (i < -(2 ^ 63:Int))=false:=decide_eq_false (by lia);have b:decide (i >= 2 ^ 63)=false:=decide_eq_false (by lia);rw[a,b,Bool.or_false]) (by rw[h1];simpa using h2) ⟨.str ⟨#[c]⟩,H,I.tok _,⟨_,rfl⟩,q⟩) S
def rIx(K:k4):R2:=λx y H Q=>rIxL K x y H Q\/rIxT K x y H Q\/rIxS x y H Q
def zxo:IxR X (rIx X.K):=zme.or (z14.or z15)
def zry(its:h7)(n j:Nat)(u:Value):Obj.mapSeq (·.setIfInBounds j u) { cls:=.type "list",data:=.seq its.toArray n }={ cls:=.type "list",data:=.seq (its.set j u).toArray n }:=by
 simp[Obj.mapSeq]
def Inv.lst{pins:k6}{σ:St}{H:Hp}{s:Shared}{p:Addr}{xs:k8}(I:Inv X pins σ H s)(h:H p=some (.lst xs)) :
  ∃(its:h7) (n:Nat),Vals xs its/\s.heap.get? p=some { cls:=.type "list",data:=.seq its.toArray n }/\xs.length<=sizeLine:=by
 obtain⟨z,its,n,r,e⟩:=I.hok p _ h;exact⟨its,n,r,e,z⟩
variable{pins:k6}{σ:St}{H:Hp}{s:Shared}{ys:k8}{its its':h7}
def Inv.lstUpd{p:Addr}{D:Nat}{f:Obj->Obj}(I:Inv X pins σ H s)(h:H p=some (.lst xs))(R:s.heap.get? p=some { cls:=.type "list",data:=.seq its.toArray n })(J:f { cls:=.type "list",data:=.seq its.toArray n }={ cls:=.type "list",data:=.seq its'.toArray D })(r:Vals ys its')(S:ys.length<=sizeLine)(t:Nat) :
  Inv X pins σ (upd H p (.lst ys)) { s with heap:=s.heap.update p f,toks:=t }:=by
 have e:(s.heap.update p f).get? p=some { cls:=.type "list",data:=.seq its'.toArray D }:=by
  rw[fj f R (by rw[J] <;> rfl),J]
 refine I.write (x:=p) (e:=p) (by rw[h];trivial) (.inl rfl) (λb u U q=>(cj _ _ (Ne.symm U)).trans q) ⟨_,e⟩ ?_;exact⟨S,its',D,r,e⟩
def z4q:V->V->V->Hp->(Hp->Prop)->Prop:=λo i v H Q=>∃p xs k j,o=.ref p/\i=.int k/\H p=some (.lst xs)/\ixN xs.length k=some j/\Q (upd H p (.lst (xs.set j v)))
theorem zkl:PSet X z4q:=by
 intro pins s σ H o i v e f u Q I ro a b h;obtain⟨p,xs,k,j,rfl,rfl,S,c,q⟩:=h;cases ro;obtain⟨t,rfl⟩:=a;obtain⟨its,n,r,D,d⟩:=I.lst S;obtain⟨h1,h2,U,V⟩:=zpa c;have J:=r.length;have g:=yo;have Y:Inv X pins σ (upd H p (.lst (xs.set j v))) { s with heap:=s.heap.update p (Obj.mapSeq (·.setIfInBounds j u)) } :=
  I.lstUpd S D (zry its n j u) (r.set b j) (by rw[dn];exact d) s.toks
 by_cases Z:0<=k
 ·have R:k.toNat=j:=by
   rw[seqIndex_of Z V] at h1;exact bq h1
  exact PySem.W.ki_setAt D Z (by lia) (by rw[bc,<-J];exact V) (by rw[R];exact⟨_,Y,q⟩)
 ·have R:(k+(its.toArray.size:Int)).toNat=j:=by
   rw[seqIndex_neg (by lia) U] at h1;rw[bc,<-J];exact bq h1
  exact PySem.W.ki_setBack D (by lia) (by rw[bc,<-J];exact U) (by lia) (by rw[R];exact⟨_,Y,q⟩)
theorem znz(lo hi:kf)(n:Nat):(sliceBounds lo hi none n).1=((HT.sIx n 0 lo:Nat):Int)/\(sliceBounds lo hi none n).2.1=((HT.sIx n n hi:Nat):Int)/\(sliceBounds lo hi none n).2.2=1:=by
 refine⟨?_,?_,rfl⟩
 ·cases lo with
  | none=>simp[sliceBounds,HT.sIx]
  | some i =>
    simp only[sliceBounds,HT.sIx,Option.getD_none,show(1:Int) > 0 by decide,if_true];by_cases h:i<0
    ·simp only[h,if_true] <;> lia
    ·simp only[h,if_false] <;> lia
 ·cases hi with
  | none=>simp[sliceBounds,HT.sIx]
  | some i =>
    simp only[sliceBounds,HT.sIx,Option.getD_none,show(1:Int) > 0 by decide,if_true];by_cases h:i<0
    ·simp only[h,if_true] <;> lia
    ·simp only[h,if_false] <;> lia
def zmf(its:h7)(lo hi:kf):slicePick its.toArray lo hi none=((its.drop (HT.sIx its.length 0 lo)).take (HT.sIx its.length its.length hi-HT.sIx its.length 0 lo)).toArray:=by
 obtain⟨h1,h2,D⟩:=znz lo hi its.toArray.size;unfold slicePick;rw[h1,h2,D];simp only[sliceRange_one,pick_run,bc] <;> rfl
def rSlL(K:k4):V->kf->kf->Hp->VK->Prop:=λx lo hi H Q=>∃a xs,x=.ref a/\SqL K H a xs/\∀p,H p=none->Q (.ref p) (upd H p (.lst (cutV xs lo hi)))
theorem zyz:SlR X (rSlL X.K):=by
 intro pins s σ H x v vl vu lo hi sl Q I R S pl U h;obtain⟨a,xs,rfl,V,q⟩:=h;cases R;obtain⟨its,r,J,Y⟩:=I.list V;have D:=r.length;refine⟨"list",_,slot_list_getitem.lookup,J.isList.typeIs,?_⟩;refine wpAny_getItem_list_slice J.isList S pl U .none (by simp) ?_ (by rw[bc] <;> lia);rw[zmf,<-D];refine⟨.ref s.heap.objs.size,_,I.laid (t':=s.toks) (o:=.lst (cutV xs lo hi)) (λb Z q=>ao _ q) (bw _) ?_,rfl,q _ (I.hok.fresh (bw _))⟩;exact⟨cx (zkz xs lo hi) Y,_,0,(r.drop (HT.sIx xs.length 0 lo)).take (HT.sIx xs.length xs.length hi-HT.sIx xs.length 0 lo),ci _ rfl⟩
theorem zhu:nv X (.builtin "len") (λxs H Q=>∃p ys,xs=[.ref p]/\(SqL X.K H p ys\/SqT X.K H p ys)/\Q (.int ys.length) H):=by
 intro pins s σ H xs us Q I r h;obtain⟨p,ys,rfl,hq,q⟩:=h;obtain⟨u,rfl,R⟩:=u6 r;cases R;have U:=yo;rcases hq with hq | hq
 ·obtain⟨its,J,pl,S⟩:=I.list hq
  have D:=J.length;exact Calls.call_len_list pl.isList (by simp only[bc] <;> lia) ⟨.int ys.length,H,I.tok _,⟨s.toks+1,by rw[bc,D]⟩,q⟩
 ·obtain⟨its,J,pl,S⟩:=I.tuple hq
  have D:=J.length;exact len_tuple pl (by simp only[bc] <;> lia) ⟨.int ys.length,H,I.tok _,⟨s.toks+1,by rw[bc,D]⟩,q⟩
theorem zn0:nv X (.type "list") (λxs H Q=>∃p ys,xs=[.ref p]/\(SqL X.K H p ys\/SqT X.K H p ys)/\∀l,H l=none->Q (.ref l) (upd H l (.lst ys))):=by
 intro pins s σ H xs us Q I r h;obtain⟨p,ys,rfl,hq,q⟩:=h;obtain⟨u,rfl,a⟩:=u6 r;cases a;have R:∀(its:h7),Vals ys its->ys.length<=sizeLine->∀(h':Heap) (D:Nat),(∀b o',s.heap.get? b=some o'->h'.get? b=some o') ->
   h'.get? s.heap.objs.size=some { cls:=.type "list",dict:=none,data:=.seq its.toArray D,slots:=#[] }->EP X pins σ Q (.ref s.heap.objs.size) { s with heap:=h' }:=λits J S h' D kp e =>
  ⟨.ref s.heap.objs.size,_,I.laid (t':=s.toks) kp (bw _) (show ObjOk X.prog X.w _ h' _ (.lst ys) from⟨S,its,D,J,e⟩),rfl,q _ (I.hok.fresh (bw _))⟩
 rcases hq with hq | hq
 ·obtain⟨its,J,pl,S⟩:=I.list hq
  have U:=J.length;obtain⟨o,V,Y,n,Z⟩:=pl.isList;exact call_list_seq p (.inl rfl) V Y Z (λh' D kp e=>R its J S h' D kp e) (by simp only[bc] <;> lia)
 ·obtain⟨its,J,pl,S⟩:=I.tuple hq
  have U:=J.length;obtain⟨o,V,Y,n,Z⟩:=pl;exact call_list_seq p (.inr rfl) V Y Z (λh' D kp e=>R its J S h' D kp e) (by simp only[bc] <;> lia)
theorem zmg:nv X (.type "tuple") (λxs H Q=>∃p ys,xs=[.ref p]/\((SqL X.K H p ys/\∀l,H l=none->Q (.ref l) (upd H l (.tup ys)))\/(SqT X.K H p ys/\Q (.ref p) H))):=by
 intro pins s σ H xs us Q I r h;obtain⟨p,ys,rfl,h⟩:=h;obtain⟨u,rfl,V⟩:=u6 r;cases V;rcases h with⟨D,q⟩ | ⟨D,q⟩
 ·obtain⟨its,J,pl,R⟩:=I.list D
  have S:=J.length;refine call_tuple_list pl.isList (λh' kp=>?_) (by simp only[bc] <;> lia);have U:Inv X pins σ H { s with heap:=h' }:=I.kept (t':=s.toks) kp;have Y:Inv X pins σ (upd H h'.objs.size (.tup ys)) { s with heap:=h'.push { cls:=.type "tuple",data:=.seq its.toArray } } :=
   U.laid (t':=s.toks) (λb o e=>ao _ e) (bw _) (show ObjOk X.prog X.w _ _ _ (.tup ys) from⟨R,its,J,IsTup.new _ _⟩)
  exact⟨.ref h'.objs.size,_,Y,rfl,q _ (U.hok.fresh (bw _))⟩
 ·obtain⟨its,J,pl,R⟩:=I.tuple D
  exact call_tuple_same pl ⟨.ref p,H,I,rfl,q⟩
def tyV(K:k4)(T:String)(x:V)(H:Hp):Prop:=match x with
 | .str _=>T = "str"
 | .int _=>T = "int"
 | .ref p=>(T = "list"/\∃xs,SqL K H p xs)\/(T = "tuple"/\∃o,K.lookup p=some o/\o.cls=.type "tuple"/\o.dict=none) \/
    (T = "dict"/\((∃D,H p=some (.dK D))\/∃D,H p=some (.dT D)))\/(T = "set"/\∃S n,H p=some (.set S n))
 | _=>False
variable{T:String}{x:V}
def zxp{v:Value}(I:Inv X pins σ H s)(r:RelV x v)(J:tyV X.K T x H) :
  s.TypeIs v T/\∀a,v=.ref a->∃Y,s.heap.get? a=some Y/\Y.dict=none:=by
 cases x with
 | str z =>
   obtain⟨t,rfl⟩:=r;cases (show T = "str" from J);exact⟨typeIs_str s z t,λ_ e=>nomatch e⟩
 | int i =>
   obtain⟨t,rfl⟩:=r;cases (show T = "int" from J);exact⟨typeIs_int s i t,λ_ e=>nomatch e⟩
 | ref p =>
   cases r;rcases J with⟨rfl,xs,Z⟩ | ⟨rfl,o,D,hc,R⟩ | ⟨rfl,D⟩ | ⟨rfl,S,n,D⟩
   ·obtain⟨its,_,pl,_⟩:=I.list Z
    refine⟨pl.isList.typeIs,λa e=>?_⟩;cases e;obtain⟨o,n,e,c,R,_⟩:=pl;exact⟨o,e,R⟩
   ·refine⟨⟨o,I.kIn p o D,hc⟩,λa e=>?_⟩
    cases e;exact⟨o,I.kIn _ o D,R⟩
   ·have z:∃o,s.heap.get? p=some o/\o.ExactDict:=by
     rcases D with⟨U,D⟩ | ⟨U,D⟩
     ·obtain⟨_,_,_,_,o,_,_,e,ex,_⟩:=I.hok p _ D
      exact⟨o,e,ex⟩
     ·obtain⟨_,_,_,_,o,_,_,e,ex,_⟩:=I.hok p _ D
      exact⟨o,e,ex⟩
    obtain⟨o,e,ex⟩:=z;refine⟨⟨o,e,ex.1⟩,λa V=>?_⟩;cases V;exact⟨o,e,ex.2.1⟩
   ·obtain⟨o,_,_,_,e,ex,_⟩:=I.hok p _ D
    refine⟨⟨o,e,ex.1⟩,λa V=>?_⟩;cases V;exact⟨o,e,ex.2.1⟩
 | _=>exact False.elim J
def tBM0(K:k4)(T:String)(r:V->k8->Hp->VK->Prop)(to:TE):TE:=λσ H Q=>to σ H λx H1=>tyV K T x H1/\r x [] H1 Q
def tBM(K:k4)(T:String)(r:V->k8->Hp->VK->Prop)(to:TE)(t:TA):TE:=λσ H Q=>to σ H λx H1=>tyV K T x H1/\t σ H1 λxs H2=>r x xs H2 Q
variable{r:V->k8->Hp->VK->Prop}{o:Expr}{to:TE}{name:Str}{apos cpos:Pos}{id:String}
def zxq(Y:PlainAttrs T)(R:Slot T name id)(S:typeOf (.builtin id)=pure (.type "method_descriptor"))(Z:MtR X id r)(a:PE X o to)(D:attributeBase o name X.env (eval o X.env)=eval o X.env:=by rfl)(J:(apos.endLine==cpos.line)=true:=by rfl):PE X (.Call (.Attribute o name apos) [] [] cpos) (tBM0 X.K T r to):=by
 intro pins s σ H Q I h;refine wpAny_Call_method0_late D J (thn (a pins s σ H _ I h) λv b c=>?_);obtain⟨x,H1,U,V,d,e⟩:=c;obtain⟨h1,h2⟩:=zxp U V d;exact⟨T,id,Y,R,S,h1,h2,Calls.callWith_builtin rfl (PySem.evalArgs_none (Z pins b σ H1 x [] v [] Q U V .nil e))⟩
variable{es:ka}{t:TA}
def zvj(a:PlainAttrs T)(S:Slot T name id)(V:typeOf (.builtin id)=pure (.type "method_descriptor"))(b:MtR X id r)(c:PE X o to)(d:PA X (e::es) t)(J:attributeBase o name X.env (eval o X.env)=eval o X.env:=by rfl)(U:((backTo cpos (starEach (e::es) X.env)).all (λx=>!x.1) && (backToKw cpos (keywordEach [] X.env)).all (λx=>x.1.isSome)
   && decide ((e::es).length+([]:List Keyword).length+(if ([]:List Keyword).isEmpty then 0 else 1)<30))=true:=by rfl)(R:(apos.endLine==cpos.line)=true:=by rfl)(f:starEach (e::es) X.env=(false,eval e X.env)::starEach es X.env:=by rfl)(D:(backTo cpos (starEach es X.env)).any (·.1)=false:=by rfl) :
  PE X (.Call (.Attribute o name apos) (e::es) [] cpos) (tBM X.K T r to t):=by
 intro pins s σ H Q I h;refine wpAny_Call_method_late J U R rfl (thn (c pins s σ H _ I h) λv g i=>?_);obtain⟨x,H1,Y,Z,j,k⟩:=i;obtain⟨h1,h2⟩:=zxp Y Z j;refine⟨T,id,a,S,V,h1,h2,?_⟩;have hA:=d cpos pins g σ H1 _ Y k;rw[f] at hA ⊢;refine Calls.callWith_builtin (by show(false || (backTo cpos (starEach es X.env)).any (·.1))=false;rw[D] <;> rfl) (Calls.evalArgs_plain ?_);exact thn hA λus s2 ⟨vs,H2,I2,r2,q2⟩=>b pins s2 σ H2 x vs v us Q I2 Z r2 q2
def MtM(X:Cx)(id:String)(r:V->k8->Hp->VK->Prop):Prop :=
 ∀(pins:k6) (s:Shared) (σ:St) (H:Hp) (x:V) (xs:k8) (v:Value) (us:h7) (Q:VK),Inv X pins σ H s->RelV x v->Vals xs us->r x xs H Q ->
  wpAny (model X.prog X.w) X.A (call (.builtin id) (v::us)) (EP X pins σ Q) X.xe s
def VInv:k8->h7->Prop
 | [],us=>us=[]
 | x::xs,us=>∃u t,us=u::t/\RelV x u/\Vals xs t
def Vals.inv(h:Vals xs us):VInv xs us:=by
 cases h with
 | nil=>exact rfl
 | cons r t=>exact⟨_,_,rfl,r,t⟩
def Vals.one(h:Vals [x] us):∃u,us=[u]/\RelV x u:=by
 obtain⟨u,t,e,r,q⟩:=h.inv;exact⟨u,(show t=[] from q.inv) ▸ e,r⟩
def Vals.two{y:V}(h:Vals [x,y] us):∃u v,us=[u,v]/\RelV x u/\RelV y v:=by
 obtain⟨u,t,e,r,q⟩:=h.inv;obtain⟨v,f,q⟩:=q.one;exact⟨u,v,f ▸ e,r,q⟩
def Vals.zero:∀ {us:h7},Vals [] us->us=[]
 | _,.nil=>rfl
def Vals.dropLast(h:Vals xs us):Vals xs.dropLast us.dropLast:=by
 induction h with
 | nil=>exact .nil
 | cons r t ih =>
   cases t with
   | nil=>exact .nil
   | cons q t'=>exact .cons r ih
def Vals.rep{xs:k8}{us:h7}(h:Vals xs us):∀k:Nat,Vals (List.replicate k xs).flatten (List.replicate k us).flatten
 | 0=>.nil
 | k+1=>by
   rw[ib,ib,cg,cg];exact Vals.append h (Vals.rep h k)
theorem zrz(l:List α):l.eraseIdx (l.length-1)=l.dropLast:=by
 induction l with
 | nil=>rfl
 | cons a r ih =>
   cases r with
   | nil=>rfl
   | cons b r =>
     have e:(a::b::r).length-1=((b::r).length-1)+1:=by
      have h1:(a::b::r).length=r.length+2:=rfl;have h2:(b::r).length=r.length+1:=rfl
      lia
     rw[e,List.eraseIdx_cons_succ,ih];all_goals rfl
def zn1(its:h7):∀(k:Nat) (D:h7),
  List.foldl (λI J=>I++J) D.toArray (List.replicate k its.toArray)=(D++(List.replicate k its).flatten).toArray
 | 0,D=>by simp
 | k+1,D=>by
   have e:D.toArray++its.toArray=(D++its).toArray:=by simp
   have R:(D++its)++(List.replicate k its).flatten=D++(List.replicate (k+1) its).flatten:=by
    rw[ib,cg,d4]
   rw[<-R,<-zn1 its k (D++its),<-e,ib,List.foldl_cons]
variable{t':Nat}{l:Addr}
def Inv.lset{f:k7->k7}(I:Inv X pins σ H s)(D:H l=some (.lst xs))(e:s.heap.get? l=some { cls:=.type "list",data:=.seq its.toArray n })(J:f its.toArray=its'.toArray)(R:Vals ys its')(S:ys.length<=sizeLine) :
  Inv X pins σ (upd H l (.lst ys)) { s with heap:=s.heap.update l (Obj.mapSeq f),toks:=t' }:=by
 have q:=PySem.IsL.update e f;rw[J] at q;refine I.write (x:=l) (e:=l) (by rw[D];exact trivial) (.inl rfl) (λY u U V=>(cj s.heap (Obj.mapSeq f) (Ne.symm U)).trans V) ⟨_,q⟩ ?_;exact⟨S,its',_,R,q⟩
def Inv.lnew(I:Inv X pins σ H s)(D:Vals ys its)(J:ys.length<=sizeLine) :
  Inv X pins σ (upd H s.heap.objs.size (.lst ys)) { s with heap:=s.heap.push { cls:=.type "list",data:=.seq its.toArray },toks:=t' } :=
 I.laid (λ_ _ q=>ao _ q) (bw _) ⟨J,its,0,D,ci _ rfl⟩
def Inv.fresh(I:Inv X pins σ H s):H s.heap.objs.size=none:=I.hok.fresh (bw _)
def Inv.lstM(I:Inv X pins σ H s)(D:H l=some (.lst xs)):xs.length<=sizeLine/\∃(its:h7) (n:Nat),Vals xs its/\xs.length=its.length/\s.heap.get? l=some { cls:=.type "list",data:=.seq its.toArray n }:=by
 obtain⟨z,its,n,r,e⟩:=I.hok l _ D;exact⟨z,its,n,r,r.length,e⟩
theorem zqj(h:n<=sizeLine):Builtin.List.listTooLong n=false:=by
 unfold Builtin.List.listTooLong;exact decide_eq_false (by lia)
def zy0:V->k8->Hp->VK->Prop:=λx vs H Q=>∃l xs y,x=.ref l/\vs=[y]/\H l=some (.lst xs)/\xs.length<sizeLine/\Q .non (upd H l (.lst (xs++[y])))
theorem zn2:MtM X "list.append" zy0:=by
 intro pins s σ H x vs v us Q I J R h;obtain⟨l,xs,y,rfl,rfl,D,U,q⟩:=h;cases J;obtain⟨u,rfl,S⟩:=R.one;obtain⟨z,its,n,r,V,e⟩:=I.lstM D;refine call_meets F.slot_list_append ⟨_,e,rfl⟩ F.entry_list_append (F.args_list_append_2 _ _) (PySem.list_append l its.toArray n u (by rw[bc];lia)) ⟨e,?_⟩;refine⟨.non,_,I.lset (its':=its++[u]) D e (by simp) (r.append (.cons S .nil)) ?_,rfl,q⟩;rw[am,i8]
 lia
def zy1:V->k8->Hp->VK->Prop:=λx vs H Q=>∃l b xs D,x=.ref l/\vs=[.ref b]/\H l=some (.lst xs)/\H b=some (.lst D)/\xs.length+D.length<=sizeLine/\Q .non (upd H l (.lst (xs++D)))
theorem zs5:MtM X "list.extend" zy1:=by
 intro pins s σ H x vs v us Q I U V h;obtain⟨l,b,xs,g,rfl,rfl,S,Y,i,q⟩:=h;cases U;obtain⟨u,rfl,Z⟩:=V.one;cases Z;obtain⟨z,its,n,r,j,e⟩:=I.lstM S;obtain⟨k,D,a,c,d,f⟩:=I.lstM Y;have R:its.toArray.size+D.toArray.size<=sizeLine:=by rw[bc,bc];lia
 have J:¬(!its.toArray.isEmpty && Builtin.List.listTooLong (its.toArray.size+D.toArray.size))=true:=by
  rw[zqj R,Bool.and_false];exact ce
 refine call_meets F.slot_list_extend ⟨_,e,rfl⟩ F.entry_list_extend (F.args_list_extend_2 _ _)
  (AutoSeq1.list_extend_list_list_0 l its.toArray n b D.toArray a J (by rw[bc];lia) (by lia)) ⟨e,f,?_⟩
 refine⟨.non,_,I.lset (its':=its++D) S e (by simp) (r.append c) ?_,rfl,q⟩;rw[am]
 lia
def rPop:V->k8->Hp->VK->Prop:=λx vs H Q=>∃l xs y,x=.ref l/\vs=[]/\H l=some (.lst xs)/\xs[xs.length-1]?=some y/\Q y (upd H l (.lst xs.dropLast))
theorem zxr:MtM X "list.pop" rPop:=by
 intro pins s σ H x vs v us Q I S U h;obtain⟨l,xs,y,rfl,rfl,R,V,q⟩:=h;cases S;have D:=U.zero;subst D;obtain⟨z,its,n,r,Y,e⟩:=I.lstM R;obtain⟨u,Z,a⟩:=r.get V;have J:its.toArray[its.toArray.size-1]?=some u:=by
  show its.toArray[its.length-1]?=some u;rw[<-Array.getElem?_toList,<-Y];exact Z
 refine call_meets F.slot_list_pop ⟨_,e,rfl⟩ F.entry_list_pop (F.args_list_pop_1 _) (MeetsSeq.list_pop_last l its.toArray n u J (by rw[bc];lia)) ⟨e,?_⟩;refine⟨y,_,I.lset (its':=its.dropLast) R e ?_ r.dropLast ?_,a,q⟩
 ·show its.toArray.eraseIdxIfInBounds (its.toArray.size-1)=its.dropLast.toArray
  rw[bc,List.eraseIdxIfInBounds_toArray,zrz]
 ·rw[List.length_dropLast]
  lia
def rRep:R2:=λx y H Q=>∃l k xs,x=.ref l/\y=.int k/\H l=some (.lst xs)/\-(2 ^ 63)<=k/\k<2 ^ 63/\xs.length*k.toNat<=sizeLine /\
 ∀p,H p=none->Q (.ref p) (upd H p (.lst (List.replicate k.toNat xs).flatten))
def zy2(xs:List α)(k:Nat):(List.replicate k xs).flatten.length=k*xs.length:=by
 induction k with
 | zero=>simp
 | succ k ih=>rw[ib,cg,am,ih,Nat.succ_mul,Nat.add_comm]
theorem z16:OpR X (binaryOp .Mult) rRep:=by
 intro pins s σ H x y v u Q I c d h;obtain⟨l,k,xs,rfl,rfl,f,h1,h2,b,q⟩:=h;cases c;obtain⟨t,rfl⟩:=d;obtain⟨z,its,n,r,g,e⟩:=I.lstM f;have J:its.toArray.size*k.toNat<=sizeLine:=by rw[bc,<-g];exact b
 have R:¬its.toArray.size*k.toNat > (2 ^ 63-1) / 8:=by
  have:(sizeLine:Nat)<=(2 ^ 63-1) / 8:=by decide
  lia
 have S:¬(!Builtin.List.listFitsIndex k)=true:=by
  rw[fitsIndex_both h1 h2];exact ce
 have D:¬Builtin.List.listTooLong (its.toArray.size*k.toNat)=true:=by
  rw[zqj J];exact ce
 have V:List.foldl (λY Z=>Y++Z) #[] (List.replicate (if its.toArray.isEmpty=true then 0 else k.toNat) its.toArray)=(List.replicate k.toNat its).flatten.toArray:=by
  have i:∀m:Nat,List.foldl (λY Z=>Y++Z) #[] (List.replicate m its.toArray)=(List.replicate m its).flatten.toArray:=λm=>by
   have:=zn1 its m [];rw[ky] at this;exact this
  rw[i];cases its with
  | nil=>simp
  | cons a r'=>rw[if_neg (by simp)]
 refine wpAny_binaryOp_repeat_ref (T:="list") (U:="int") (by decide) ⟨_,e,rfl⟩ (λs'=>typeIs_int s' k t) noFill_list_mul F.fills_int_mul F.slot_int_rmul repeat_list F.slot_int_index.lookup
  (call_meets F.slot_int_rmul (typeIs_int s k t) F.entry_int_rmul (F.args_int_rmul_2 _ _) (int___rmul___int_list k t l its.toArray n)
    ⟨e,rfl,⟨_,e,rfl⟩,call_meets F.slot_list_mul ⟨_,e,rfl⟩ F.entry_list_mul (F.args_list_mul_2 _ _) (AutoListH.list___mul___list_int_3 l its.toArray n k t S R D) ⟨e,?_⟩⟩)
 rw[V];exact⟨.ref _,_,I.lnew (t':=s.toks) (r.rep k.toNat) (by rw[zy2,Nat.mul_comm];exact b),rfl,q _ I.fresh⟩
end L2
namespace Att
open PySem PySem.W PySem.Calls PyProof.Rows
variable{P:Params}{h:Heap}
def zk0:∀(D:ik) (vs:h7),WellAll P h vs (D.map WData.int)->IntsAre vs D:=by
 intro D;induction D with
 | nil =>
   intro vs w;rw[di] at w;cases w;exact .nil
 | cons n D ih =>
   intro vs w;rw[cf] at w;cases w with
   | cons a b =>
     cases a;exact .cons _ _ (ih _ b)
variable{l:OpenLaw}{n:Nat}
theorem zs6(b:l.most=some n){args:List WData}{I:h7}(J:l.row.toRowW.claim.pre args=true)(V:WellAll P h I args) :
  ∃a vs D,I=[Value.ref a]/\args=[WData.list (D.map WData.int)]/\h.get? a=some { cls:=.type "list",data:=.seq vs.toArray }/\IntsAre vs D/\D.length<=n:=by
 have Y:WShape.hasAll [] args [.list .int]=true:=(pre_splitW J).1;have Z:l.pre.holds [] { args:=args }=true:=(pre_splitW J).2;obtain⟨d,r,rfl,h1,h2⟩:=hasAllW_cons Y;obtain rfl:=hasAllW_nil h2;obtain⟨xs,rfl,c⟩:=hasW_list h1;obtain⟨D,rfl⟩:=items_int c;have R:D.length<=n:=by
  unfold OpenLaw.pre at Z;have S:(WTm.not (.lt (.lit (.int (n:Int))) (.len (.arg 0)))).holds [] { args:=[.list (D.map .int)] }=true:=by
   have S:=(holds_andW Z).1;rw[b] at S;exact S
  have U:=condW_of S (w_not (w_lt w_lit (w_len_list (w_arg rfl))));rw[ah] at U;refine ke λq=>?_;have e:(n:Int)<((D.length:Nat):Int):=by lia
  first
   | (rw[decide_eq_true e] at U;exact absurd U (by decide))
   | (simp at U;lia)
 cases V with
 | cons w1 w2 =>
   cases w2;cases w1 with
   | list ho hall=>exact⟨_,_,D,rfl,rfl,ho,zk0 D _ hall,R⟩
def zs7(l:OpenLaw)(args:List WData):l.row.toRowW.claim.post args (.bool true) args=true :=
 postW_of (r:=l.row.toRowW) (X:=(true==true))
  (show WShape.has [] (.bool true) .bool=true by first | rfl | decide | simp[WShape.has,WShape.arms,WShape.armsAll])
  (show(WTm.eq .res (.lit (.bool true))).value [] { args:=args,res:=some (.bool true),after:=args }=some (.bool (true==true)) from w_eq_bool (w_res rfl) w_lit) rfl
def attach_call{q:Program}{I:g9}{k:(Str->h8)->Heap->Prop}{m:World->Heap->Prop}{d:DefRec}(u:l.most=some n)(c:d.params.defaults=[])(call:∀(w:World) (s₀ D:Shared) (mg e:Str->h8) (fa:Addr) (o:Obj) (g Z J:Value) (a:Addr) (vs:h7) (b:ik),
   Ground q I [] k w s₀ mg e D.heap->m w D.heap ->
   D.heap.get? fa=some o->o.data=.func (docDef d.name d.params d.body d.scope g Z J)->D.heap.CodeRec Z d.name->mg d.name=some (.ref fa) ->
   D.heap.get? a=some { cls:=.type "list",data:=.seq vs.toArray }->IntsAre vs b->b.length<=n->D.gens=#[] ->
   codeAny (model l.prog w) callerA (.call (.ref fa) ⟨[.ref a],[]⟩) (λr s'=>r=.ok (.ret (.bool true))/\OldK D.heap s'.heap/\s'.os=D.os/\AllBare s'.gens) D) :
  WalkO q I k m l.row.toRowW d [] (λf vs=>PySem.call f vs):=by
 intro w s₀ D mg e G Y fa o g Z J v kV x y h p i z args s as S t A j B;obtain rfl:v=.none:=Dflts.none p c;obtain rfl:kV=.none:=Dflts.noKw p;obtain⟨a,vs,b,rfl,rfl,U,R,V⟩:=zs6 u S j;refine enter_call (codeAny_mono (call w s₀ D mg e fa o g Z J a vs b G Y x (fd_plain y) h i U R V z) λr s' C=>?_);obtain⟨rfl,h2,E,F⟩:=C;exact⟨.inl ⟨.bool true,.bool true,[],rfl,λ_=>rfl,.bool true,zs7 l _,λ_=>⟨List.Pairwise.nil,λ_ H=>(nomatch H)⟩⟩,h2,E,F⟩
end Att
namespace L2
open PySem PySem.Spec PyProof.Rows
def zn3:∀ {vs:h7} {D:ik},IntsAre vs D->Vals (D.map V.int) vs
 | _,_,.nil=>.nil
 | _,_,.cons n t h=>.cons ⟨t,rfl⟩ (zn3 h)
def Only(H:Hp):Prop:=∀b,H b=none\/∃o xs,H b=some (.frz o (.lst xs))
variable{K:k4}{k:Nat}{a:Addr}{x:Str}{vs:h7}
def zvk{P:Program}{w:World}{mg A:Str->h8}{CX:CXT}{fa:Addr}{fd:FuncData}{sp:Sp}{D:Shared}{Y:ik}(L:K.In D.heap)(Z:D.heap.Ns mainGlobals mg)(J:D.heap.Ns builtinsNs A)(B:∀x:Str,x ≠ "__name__"->A x=bootBuiltins x)(c:D.heap.NoLimit)(T:D.gens=#[])(y:D.heap.get? a=some { cls:=.type "list",data:=.seq vs.toArray })(hi:IntsAre vs Y)(M:Y.length<=sizeLine)(W:Room k callerA)(F:∀base:Heap,K.In base->base.Ns mainGlobals mg->FnOk P w K mg base CX k fa fd [x] sp)(U:∀(s:Shared) (u:Value),BindsTo s fd ⟨[u],[]⟩ [(x,u)])(C:∀H:Hp,Only H->SqL K H a (Y.map V.int)->sp [.ref a] H (λv _=>v=.bl true) λ_ _ _=>False)(E:∀H e s',CX [] H D (λ_ _ _=>False) e s'->False) :
  codeAny (model P w) callerA (.call (.ref fa) ⟨[.ref a],[]⟩) (λr s'=>r=.ok (.ret (.bool true))/\OldK D.heap s'.heap/\s'.os=D.os/\AllBare s'.gens) D:=by
 have N:=zn3 hi;have f:=hi.length;have S:∀H:Hp,Only H->SqL K H a (Y.map V.int)->HOk P w H D.heap->(∀b,H b≠none->b=a)->(H a≠none->K.lookup a=none) ->
   codeAny (model P w) callerA (.call (.ref fa) ⟨[.ref a],[]⟩) (λr s'=>r=.ok (.ret (.bool true))/\OldK D.heap s'.heap/\s'.os=D.os/\AllBare s'.gens) D:=by
  intro H O X g hA hK;have I:∀ {b:Addr} {o:Obj},D.heap.get? b=some o->H b=none->(hidT D.heap H).get? b=some o:=λe n=>zu8 e n;have G:∀ {b:Addr} {o:Obj} {es:Array DictEntry} {i:Nat},D.heap.get? b=some o->o.data=.dict es i->H b=none:=λ{b o es i} e d=>by
   cases q:H b with
   | none=>rfl
   | some u =>
     have e':b=a:=hA b (by rw[q];simp);subst e';rw[y] at e;cases e;have d':Data.seq vs.toArray _=Data.dict es i:=d;cases d'
  have R:∀ {b:Addr} {m:Str->h8},D.heap.Ns b m->(hidT D.heap H).Ns b m:=λ{b m} ⟨o,es,i,e,d,r⟩=>⟨o,es,i,I e (G e d),d,r⟩;have j:K.In (hidT D.heap H):=λb o e=>I (L b o e) (by
   cases q:H b with
   | none=>rfl
   | some u =>
     have e':b=a:=hA b (by rw[q];simp);subst e';rw[hK (by rw[q];simp)] at e;cases e)
  have hM:Mod K mg (hidT D.heap H):=⟨j,R Z,⟨A,R J,B⟩,let ⟨mc,h1,h2⟩:=c;⟨mc,R h1,h2⟩⟩;have e0:Env0 P w K mg (hidT D.heap H) callerA [] D H:=⟨rfl,hM,λb o e=>zyg e,Nat.le_of_eq (zsk _ _),trivial,λb J=>absurd (show b∈([]:ia) from J) (by simp),g,.of_eq T⟩;refine codeAny_mono ((F _ j (R Z)).run callerA [] D H ⟨[.ref a],[]⟩ [.ref a] [.ref a] _ _ W e0 (U D (.ref a)) (.cons rfl .nil) (C H O X)) λr s' h=>?_;cases r with
  | error e=>exact(E H e s' h).elim
  | ok fl =>
    cases fl with
    | next=>exact False.elim h
    | brk=>exact False.elim h
    | cont=>exact False.elim h
    | ret u =>
      obtain⟨v,H',os,l,un,p,r',q⟩:=h;have q':v=.bl true:=q;subst q';obtain rfl:u=Value.bool true:=r';refine⟨rfl,OldK.of_keep λb o e=>?_,os,l⟩;cases q:H b with
      | none=>exact un.keep b o e q (by intro z;exact absurd (show b∈([]:ia) from z) (by simp)) (by simp)
      | some u =>
        rcases O b with z | ⟨ob,xs,z⟩
        ·rw[q] at z;cases z
        ·have z2:=un.frzs b ob _ z
         obtain⟨Q,_⟩:=g b _ z;obtain⟨e2,_⟩:=p b _ z2;rw[e] at Q;cases Q;exact e2
 cases hk:K.lookup a with
 | some o =>
   have e:=L a o hk;rw[y] at e;cases e;refine S (λ_=>none) (λ_=>.inl rfl) (.inr ⟨_,vs.toArray,_,hk,rfl,rfl,rfl,by rw[bc,f];exact M,by simpa using N⟩) (λb u z=>by have t:(none:Option HO)=some u:=z;cases t) (λb z=>absurd rfl z) λz=>absurd rfl z
 | none =>
   refine S (λb=>if b=a then some (.frz { cls:=.type "list",data:=.seq vs.toArray } (.lst (Y.map V.int))) else none) (λb=>?_) (.inl (.inr ⟨{ cls:=.type "list",data:=.seq vs.toArray },if_pos rfl⟩)) (λb u z=>?_) (λb z=>?_) λ_=>hk
   ·by_cases J:b=a
    ·exact .inr ⟨_,_,if_pos J⟩
    ·exact .inl (if_neg J)
   ·by_cases J:b=a
    ·have t:=(if_pos J).symm.trans z
     cases t;subst J;exact⟨y,by rw[ah];exact M,vs,_,N,y⟩
    ·have t:=(if_neg J).symm.trans z
     cases t
   ·by_cases J:b=a
    ·exact J
    ·exact absurd (if_neg J) z
variable{l:Addr}{d:D}
def zy3{l:PySem.W.OpenLaw}{n:Nat}{q:Program}{I:g9}{t:(Str->h8)->Heap->Prop}{p:World->Heap->Prop}{d:DefRec}{K:Params->k4}{CX:World->CXT}{sp:World->Sp}(y:l.most=some n)(Z:n<=sizeLine)(c:d.params.defaults=[])(z:Room k callerA)(A:∀(w:World) (h:Heap),p w h->(K w.params).In h)(F:∀(w:World) (mg:Str->h8) (fa:Addr) (h:Heap),(K w.params).In h->h.Ns mainGlobals mg->mg d.name=some (.ref fa) ->
   ∃fd:FuncData,(∀(s:Shared) (u:Value),BindsTo s fd ⟨[u],[]⟩ [(x,u)]) /\
    ∀base:Heap,(K w.params).In base->base.Ns mainGlobals mg->FnOk l.prog w (K w.params) mg base (CX w) k fa fd [x] (sp w))(i:∀(w:World) (H:Hp) (a:Addr) (U:ik),U.length<=n->Only H->SqL (K w.params) H a (U.map V.int)->sp w [.ref a] H (λv _=>v=.bl true) λ_ _ _=>False)(j:∀(w:World) (H:Hp) (s:Shared) (e:Value) (s':Shared),CX w [] H s (λ_ _ _=>False) e s'->False) :
  PySem.W.WalkO q I t p l.row.toRowW d [] (λf vs=>PySem.call f vs):=by
 refine Att.attach_call y c λw s₀ R mg P fa o Q X B a vs U G Y ho hd C m S J D E=>?_;have r:=A w _ Y;obtain⟨fd,L,M⟩:=F w mg fa _ r G.T.g m;exact zvk r G.T.g G.T.b G.T.builtins G.T.nolimit E S J (cx D Z) z M L (λH N O=>i w H a U D N O) λH e s'=>j w H R e s'
def sj(s:Stmt):Arguments:=match s with
 | .FunctionDef _ a _ _ _ _ _ _ _ _=>a
 | _=>{ posonlyargs:=[],args:=[],vararg:=none,kwonlyargs:=[],kw_defaults:=[],kwarg:=none,defaults:=[] }
def lg(s:Stmt):List Stmt:=match s with
 | .FunctionDef _ _ b _ _ _ _ _ _ _=>b
 | _=>[]
def fx(s:Stmt):Scope:=match s with
 | .FunctionDef _ _ _ _ _ _ sc _ _ _=>sc
 | _=>{ kind:=.function,names:=[],isGenerator:=false,isCoroutine:=false }
abbrev CX0:CXT:=λ_ _ _ _ _ _=>False
abbrev E0:XK:=λ_ _ _=>False
variable{X:Cx}
def zy4:zs1 CX0 X E0:=λ_ _ _ _ _ _ _ h=>h.elim
structure Fun (K:k4) (x qual:Str) (st:Stmt) (f:Addr) (fd:FuncData):Prop where
 ex:∃(oc:Value) (od:Option Addr) (kV doc pm:Value) (an:Option Addr) (cdv ct:Value) (osl:Array h8),
  fd=PySem.W.fnOf x qual (sj st) (lg st) (fx st) .none kV doc pm an cdv ct/\K.lookup f=some ⟨oc,od,.func fd,osl⟩/\PySem.W.codeIn K cdv qual=true
 kp:PySem.W.keepIn K (.ref f)=true
variable{f:FE}
def zs8{qual:Str}{st:Stmt}{f:Addr}{oc:Value}{od an:Option Addr}{osl:Array h8}{kV D I cdv ct:Value}(l:K.lookup f=some ⟨oc,od,.func (PySem.W.fnOf x qual (sj st) (lg st) (fx st) .none kV D I an cdv ct),osl⟩)(c:PySem.W.codeIn K cdv qual=true)(k:PySem.W.keepIn K (.ref f)=true):Fun K x qual st f (PySem.W.fnOf x qual (sj st) (lg st) (fx st) .none kV D I an cdv ct):=⟨⟨oc,od,kV,D,I,an,cdv,ct,osl,rfl,l,c⟩,k⟩
def Same(H H':Hp):Prop:=∀b o,H b=some o->H' b=some o
def Same.refl(H:Hp):Same H H:=λ_ _ h=>h
variable{H H1 H2:Hp}
def Same.trans(a:Same H H1)(b:Same H1 H2):Same H H2:=λc o h=>b c o (a c o h)
variable{H':Hp}
def Same.free(e:Same H H')(h:H' l=Option.none):H l=Option.none:=by
 cases q:H l with
 | none=>rfl
 | some o =>
   rw[e l o q] at h;cases h
def zi1{env:Env}:∀(names:List (Str×NameKind)) (D:List (Str×Addr)),
  (∀y∈names,y.2=.free->∃c,env.cells.lookup y.1=some c)->(∀y c,D.lookup y=some c->env.cells.lookup y=some c) ->
  ∃cl,(forIn names D λ(x:Str×NameKind) (cs:List (Str×Addr))=>if (x.2==NameKind.free)=true then(do let c <-cellOf env x.1;pure (ForInStep.yield ((x.1,c)::cs)):Sem _) else pure (ForInStep.yield cs))=pure cl /\
   (∀y c,cl.lookup y=some c->env.cells.lookup y=some c)/\(∀y c,D.lookup y=some c->∃J,cl.lookup y=some J)/\∀y∈names,y.2=.free->∃c,cl.lookup y.1=some c
 | [],D,_,ha=>⟨D,rfl,ha,λy c e=>⟨c,e⟩,λ_ h=>nomatch h⟩
 | (n,k)::r,D,hn,ha=>by
   by_cases S:k=.free
   ·subst S
    obtain⟨c,V⟩:=hn (n,.free) bn rfl;obtain⟨cl,e,h1,h2,U⟩:=zi1 r ((n,c)::D) (λy hy=>hn y (ax _ hy)) (λy J e=>by
     rw[cq] at e;cases hq:y==n with
     | true=>rw[hq] at e;cases e;rw[eq_of_beq hq];exact V
     | false=>rw[hq] at e;exact ha y J e)
    have I:List.lookup n ((n,c)::D)=some c:=by simp[cq]
    refine⟨cl,?_,h1,λy J e'=>?_,λy hy R=>?_⟩
    ·rw[List.forIn_cons]
     have Y:cellOf env n=pure c:=by unfold cellOf;rw[V]
     simp only[beq_self_eq_true,if_true,Y,pure_bind];exact e
    ·cases hq:y==n with
     | true=>rw[eq_of_beq hq];exact h2 n c I
     | false=>exact h2 y J (by rw[cq,hq];exact e')
    ·rcases cb.mp hy with rfl | hy
     ·exact h2 n c I
     ·exact U y hy R
   ·obtain⟨cl,e,h1,h2,U⟩:=zi1 r D (λy hy=>hn y (ax _ hy)) ha
    refine⟨cl,?_,h1,h2,λy hy R=>?_⟩
    ·rw[List.forIn_cons]
     have Z:(k==NameKind.free)=false:=by cases k <;> first | rfl | exact absurd rfl S
     simp only[Z,bj,if_false,pure_bind];exact e
    ·rcases cb.mp hy with rfl | hy
     ·exact absurd R S
     ·exact U y hy R
variable{sc:Scope}{env:DE0}
def zl0{env:Env}(h:∀y∈sc.names,y.2=.free->∃c,env.cells.lookup y.1=some c) :
  ∃cl,closureFor sc env=pure cl/\(∀y c,cl.lookup y=some c->env.cells.lookup y=some c)/\∀y∈sc.names,y.2=.free->∃c,cl.lookup y.1=some c:=by
 obtain⟨cl,e,h1,_,D⟩:=zi1 (env:=env) sc.names [] h (λy c e=>by simp at e);refine⟨cl,?_,h1,D⟩;unfold closureFor;rw[show(pure cl:Sem _)=(pure cl >>= λcs=>pure cs) by rw[pure_bind],<-e]
def zdp{env:Env}:∀ {names:List (Str×NameKind)} {x:Str} {k:NameKind},
  (names.map λ(n,k)=>if (k==NameKind.free && env.scope.kind==.function && env.kindOf n==some .cell) then(n,NameKind.cell) else(n,k)).lookup x=some k ->
  names.lookup x=some k\/(names.lookup x=some .free/\k=.cell)
 | (n,k0)::r,x,k,h=>by
   have I:=@zdp env r x k;have h:List.lookup x ((if (k0==NameKind.free && env.scope.kind==.function && env.kindOf n==some .cell)=true then(n,NameKind.cell) else(n,k0))::_)=_:=h;cases hx:x==n with
   | true =>
     by_cases D:(k0==NameKind.free && env.scope.kind==.function && env.kindOf n==some .cell)=true
     ·rw[if_pos D] at h
      simp only[cq,hx] at h ⊢;simp only[dr,beq_iff_eq] at D;cases h;exact .inr ⟨by rw[D.1.1],rfl⟩
     ·rw[if_neg D] at h
      simp only[cq,hx] at h ⊢;exact .inl h
   | false =>
     by_cases D:(k0==NameKind.free && env.scope.kind==.function && env.kindOf n==some .cell)=true
     ·rw[if_pos D] at h
      simp only[cq,hx] at h ⊢;exact I h
     ·rw[if_neg D] at h
      simp only[cq,hx] at h ⊢;exact I h
def zcj{env:Env}:∀ {names:List (Str×NameKind)} {x:Str},names.lookup x=some .free ->
  (names.map λ(n,k)=>if (k==NameKind.free && env.scope.kind==.function && env.kindOf n==some .cell) then(n,NameKind.cell) else(n,k)).lookup x=some .cell \/
  (names.map λ(n,k)=>if (k==NameKind.free && env.scope.kind==.function && env.kindOf n==some .cell) then(n,NameKind.cell) else(n,k)).lookup x=some .free
 | (n,k0)::r,x,h=>by
   have I:=@zcj env r x;show List.lookup x ((if (k0==NameKind.free && env.scope.kind==.function && env.kindOf n==some .cell)=true then(n,NameKind.cell) else(n,k0))::_)=_\/List.lookup x ((if (k0==NameKind.free && env.scope.kind==.function && env.kindOf n==some .cell)=true then(n,NameKind.cell) else(n,k0))::_)=_;cases hx:x==n with
   | true =>
     simp only[cq,hx] at h;cases h;by_cases D:(NameKind.free==NameKind.free && env.scope.kind==.function && env.kindOf n==some .cell)=true
     ·rw[if_pos D];simp only[cq,hx];exact .inl trivial
     ·rw[if_neg D];simp only[cq,hx];exact .inr trivial
   | false =>
     simp only[cq,hx] at h;by_cases D:(k0==NameKind.free && env.scope.kind==.function && env.kindOf n==some .cell)=true
     ·rw[if_pos D];simp only[cq,hx];exact I h
     ·rw[if_neg D];simp only[cq,hx];exact I h
def ip(X:Cx)(x:Str)(N':g9)(sc:Scope)(cl:List (Str×Addr))(C:Addr)(s₂:Shared)(H₂:Hp)(fp:ia):Cx :=
 { X with N:=x::N',s₀:=s₂,H₀:=H₂,env:=compEnvC sc cl C X.env,outer:=X.stack,stack:=X.stack,ex:=fp,fn:=λ_=>false,pn:=[],xe:=λ_ _=>False }
def PIfs(X:Cx)(ifs:ka)(tt:TT):Prop :=
 ∀(pins:k6) (s:Shared) (σ:St) (H:Hp) (Q:Bool->Hp->Prop),Inv X pins σ H s->tt σ H Q ->
  wpAny (model X.prog X.w) X.A (forIn ifs true λc r=>if r=true then do let ok <-isTrue c X.env (eval c X.env);pure (ForInStep.yield ok) else pure (ForInStep.yield r)) (TP X pins σ Q) X.xe s
def tYes:TT:=λ_ H Q=>Q true H
def zvl:PIfs X [] tYes:=λ_ _ _ H _ I h=>wpAny_tests_nil ⟨H,I,h⟩
def zvm{c:Expr}{D:TT}(h:PT X c D):PIfs X [c] D:=λpins s σ H Q I q=>wpAny_tests_one (h pins s σ H Q I q)
def wg(wi:TI)(ix:ic)(tt:TT)(te:TE):TE:=λσ H Q=>wi σ H λJ H1=>∃W:Nat->Nat->Hp->k8->Prop,(∃m,W 0 m H1 [])/\∀i m H ys,W i m H ys ->
 (J.stop i H/\ys.length<=sizeLine/\∀D,H D=none->Q (.ref D) (upd H D (.lst ys))) \/
 (J.go i H/\∀x H',J.yld i H x H'->tt (some x::ix.map (λj=>σ.getD j none)) H' λb H2 =>
   if b=true then te (some x::ix.map (λj=>σ.getD j none)) H2 λv R=>ys.length<sizeLine/\∃I,I<m/\W (i+1) I R (ys++[v]) else ∃I,I<m/\W (i+1) I H2 ys)
abbrev lobj(ys:h7):Obj:={ cls:=.type "list",data:=.seq ys.toArray ys.length }
variable{pins:k6}{σ:St}{s2:Shared}{fp:ia}{cl:List (Str×Addr)}{h₁:Heap}{m₁:Str->h8}{ix:ic}{N':g9}
def zs9{tk:Nat}(n:N'=ix.map λi=>X.N.getD i ("" : Str))(H:sc.kind=.function)(U:∀y∈sc.names,y.2≠.cell)(V:∀y∈sc.names,y.2=.free->X.env.kindOf y.1=some .cell\/X.env.kindOf y.1=some .free)(r:∀y∈N',sc.names.lookup y=some .free)(h1:∀y c,cl.lookup y=some c->X.env.cells.lookup y=some c)(G:∀y∈sc.names,y.2=.free->∃c,cl.lookup y.1=some c)(I:Inv X pins σ H2 s2)(l:∀b∈fp,FpOk X pins H2 b)(s:∀b∈fp,∃o,s2.heap.get? b=some o)(S:∀b o,s2.heap.get? b=some o->h₁.get? b=some o)(t:h₁.Ns (s2.heap.objs.size+1) m₁)(K:h₁.get? s2.heap.objs.size=some (lobj [])) :
  Inv (ip X x N' sc cl (s2.heap.objs.size+1) s2 H2 fp) [(s2.heap.objs.size,lobj [])] (none::ix.map (λj=>σ.getD j none)) H2 { s2 with heap:=h₁,toks:=tk }:=by
 have A:∀b∈fp,b<s2.heap.objs.size:=λb R=>by obtain⟨o,e⟩:=s b R;exact bg e
 have Z:∀b,s2.heap.objs.size<=b->b∉frs X.stack:=λb R z=>by
  rcases cb.mp (I.stkSub b z) with e | z
  ·exact absurd (az I.lt (e ▸ R)) (ff _)
  ·exact I.nofs R z
 refine⟨⟨I.ok.mod,H,I.ok.glob,I.ok.blt,qa _,λy z c J D=>I.ok.inj y z c (h1 _ _ J) (h1 _ _ D),λy L=>?_,λy c z _=>(by cases z),I.ok.hd,I.ok.frames,.inl rfl,λb R=>⟨?_,λy c e=>?_⟩,I.bs,cx I.ok.bsz I.sz,λb o e R=>?_,λb R z=>?_,I.stack,I.stkFree⟩,
  rfl,I.bare,Un.kept S,⟨m₁,t,λi y v J D W=>?_⟩,λy c e=>?_,I.hok.fresh (qa _),λy c e=>I.freeC y c (h1 y c e),λp B=>?_,I.hok.kept S,?_⟩
 ·have C:(relabel sc X.env).names.lookup y=some .cell\/(relabel sc X.env).names.lookup y=some .free:=L
  have M:sc.names.lookup y=some .free:=by
   rcases C with q | q
   ·rcases zdp q with q | ⟨q,_⟩
    ·exact absurd rfl (U _ (d7 q))
    ·exact q
   ·rcases zdp q with q | ⟨_,q⟩
    ·exact q
    ·cases q
  exact G (y,.free) (d7 M) rfl
 ·exact b6 (fz (A b R))
 ·exact(l b R).2.2.2.2.1 y c (h1 y c e)
 ·rcases(l b R).2.2.2.1 with z | z
  ·exact I.ok.noex b o e z
  ·exact absurd (az (bg e) (cx I.ok.bsz z)) (ff _)
 ·have z:b∈frs X.stack:=z
  rcases cb.mp (I.stkSub b z) with e | z
  ·exact(l b R).2.1 e
  ·exact(l b R).2.2.1 z
 ·cases i with
  | zero=>simp at D
  | succ j =>
    have J:N'[j]?=some y:=by simpa[ip] using J
    have D:(ix.map (λj=>σ.getD j none))[j]?=some (some v):=by simpa using D
    rw[n,b7] at J;rw[b7] at D;cases q:ix[j]? with
    | none=>rw[q] at J;cases J
    | some k =>
      rw[q] at J D;have J:X.N.getD k "" = y:=bq J;have D:σ.getD k none=some v:=bq D;have a:σ[k]?=some (some v):=by
       rw[dg] at D;cases q2:σ[k]? with
       | none=>rw[q2] at D;cases D
       | some z=>rw[q2] at D;rw[show z=some v from D]
      have d:k<X.N.length:=by rw[<-I.len];exact(aj.mp a).1
      have E:X.N[k]?=some y:=by
       rw[dg,ay d] at J;rw[ay d];exact congrArg some J
      have F:y∈N':=by
       rw[n,<-J];exact fg.mpr ⟨k,bi q,rfl⟩
      have Y:=r y F;have f:=V (y,.free) (d7 Y) rfl;have g:Vis X.env.scope y:=by
       rcases f with z | z
       ·exact .inr (.inl z)
       ·exact .inr (.inr z)
      obtain⟨m,hn,O⟩:=I.loc;obtain⟨u,P,Q⟩:=O k y v E a g;refine⟨u,P,.inr ⟨?_,?_⟩⟩
      ·exact zcj Y
      ·rcases Q with⟨z,_⟩ | ⟨_,c,hc,hcv⟩
       ·rcases f with w | w <;> rw[show X.env.kindOf y=_ from w] at z <;> cases z
       ·obtain⟨T,h⟩:=G (y,.free) (d7 Y) rfl
        have:=h1 y T h;rw[hc] at this;cases this;exact⟨c,h,hcv.keeps S⟩
 ·obtain⟨v,q⟩:=I.cell y c (h1 y c e)
  exact⟨v,q.keeps S⟩
 ·have B:p∈[(s2.heap.objs.size,lobj [])]:=B
  rw[cy.mp B];exact⟨K,I.hok.fresh (bw _),b6 (ek _),Z _ (bw _),λv z=>by cases z⟩
 ·simp[ip,n]
variable{ys:k8}{y:Str}
def Vals.snoc{y:V}{u:Value}(h:Vals ys vs)(r:RelV y u):Vals (ys++[y]) (vs++[u]):=Vals.append h (.cons r .nil)
def zta(vs:h7)(u:Value):({ cls:=.type "list",data:=.seq (vs.toArray.push u) (vs.length+1) }:Obj)=lobj (vs++[u]):=LCg.lst_snoc vs u
def zqk{d:St}{U:Shared}{h':Heap}(I:Inv X pins σ H2 s2)(i:∀b∈fp,FpOk X pins H2 b)(j:∀b∈fp,∃o,s2.heap.get? b=some o)(J:Inv (ip X x N' sc cl (s2.heap.objs.size+1) s2 H2 fp) [(s2.heap.objs.size,lobj vs)] d H' U)(k:Vals ys vs)(l:ys.length<=sizeLine)(Z:Heap.SameBut (s2.heap.objs.size+1) U.heap h') :
  Inv X pins σ (upd H' s2.heap.objs.size (.lst ys)) { U with heap:=h' }:=by
 have h:=J.pin (s2.heap.objs.size,lobj vs) (bz _ bn);have V:H' s2.heap.objs.size=none:=h.2.1;have Y:H' (s2.heap.objs.size+1)=none:=J.free;have R:Un (frs X.stack) fp H2 H' s2.heap U.heap:=J.base;have a:∀b o,s2.heap.get? b=some o->b≠s2.heap.objs.size/\b≠s2.heap.objs.size+1:=λb o e=>by
  have:=bg e;exact⟨b6 this,b6 (fz this)⟩
 have m:∀b,s2.heap.objs.size<=b->H2 b=none:=λb D=>I.hok.fresh D;have f:∀b o,H2 b=some o->b≠s2.heap.objs.size:=λb o e z=>by rw[z,m _ (bw _)] at e;cases e
 have p:Un (frs X.stack) fp H2 (upd H' s2.heap.objs.size (.lst ys)) s2.heap h':=by
  refine⟨λb o e n D S=>(Z.2 b (a b o e).2).trans (R.keep b o e n D S),λb o e n D S=>?_,λb o e n S=>?_,λb o e S=>?_,λb xs e=>?_,λb o u e=>?_,λb ps e=>?_⟩
  ·obtain⟨sl,q⟩:=R.slot b o e n D S
   exact⟨sl,(Z.2 b (a b o e).2).trans q⟩
  ·rw[gg (a b o e).1];exact R.free b o e n S
  ·obtain⟨o',q⟩:=R.there b o e S
   exact⟨o',(Z.2 b (a b o e).2).trans q⟩
  ·rw[gg (f b _ e)];exact R.tups b xs e
  ·rw[gg (f b _ e)];exact R.frzs b o u e
  ·rw[gg (f b _ e)];exact R.tbls b ps e
 have kk:∀b u,b≠s2.heap.objs.size+1->U.heap.get? b=some u->h'.get? b=some u:=λb u D q=>(Z.2 b D).trans q;have g:HOk X.prog X.w (upd H' s2.heap.objs.size (.lst ys)) h':=λb u e=>by
  by_cases D:b=s2.heap.objs.size
  ·subst D
   rw[j0] at e;cases e;exact⟨l,vs,vs.length,k,kk _ _ (b6 (ek _)) h.1⟩
  ·rw[gg D] at e
   have r:b≠s2.heap.objs.size+1:=λz=>by rw[z,Y] at e;cases e
   refine(J.hok b u e).stay (λc v hc q=>kk c v ?_ q) (λc q=>?_) λc xs q=>?_
   ·rcases hc with rfl | hc
    ·exact r
    ·intro z;rw[z,Y] at hc;cases hc
   ·rw[gg (λz=>by rw[z,V] at q;cases q)];exact q
   ·rw[gg (λz=>by rw[z,V] at q;cases q)];exact q
 refine I.call' (s':={ U with heap:=h' }) (ch:=fp) J.os p g J.bare λb D=>?_;obtain⟨_,s,_,t,y,A⟩:=i b D;exact⟨t,s,y,A⟩
variable{Q:Unit->Shared->Prop}{W:Addr->Prop}{Cm:Cx->Prop}{px pos:Pos}{iter elt:Expr}{ifs:ka}{tt:TT}{te:TE}
theorem zn4{it:Addr}{G:Nat->Heap->Prop}{J:It}{Q:VK}{R:Result->Shared->Prop}{m0:Nat}{W:Nat->Nat->Hp->k8->Prop}(hc:∀cl C s₂ H₂ fp pins σ,Inv X pins σ H₂ s₂->(∀b∈fp,FpOk X pins H₂ b)->Cm (ip X x N' sc cl C s₂ H₂ fp))(a5:∀cl C s₂ H₂ fp,Cm (ip X x N' sc cl C s₂ H₂ fp)->PIfs (ip X x N' sc cl C s₂ H₂ fp) ifs tt)(a6:∀cl C s₂ H₂ fp,Cm (ip X x N' sc cl C s₂ H₂ fp)->PE (ip X x N' sc cl C s₂ H₂ fp) elt te)(hN:N'=ix.map λi=>X.N.getD i ("" : Str))(a7:(x::N').Nodup)(hk:sc.kind=.function)(hx:sc.names.lookup x=some .local)(L:∀y∈sc.names,y.2≠.cell)(a4:∀y∈sc.names,y.2=.local->sc.names.lookup y.1=some .local)(M:∀y∈sc.names,y.2=.free->X.env.kindOf y.1=some .cell\/X.env.kindOf y.1=some .free)(a8:∀y∈N',sc.names.lookup y=some .free)(h1:∀y c,cl.lookup y=some c->X.env.cells.lookup y=some c)(h3:∀y∈sc.names,y.2=.free->∃c,cl.lookup y.1=some c)(f:Inv X pins σ H2 s2)(T:u7 Cm X.prog X.w X.K (.Name x px) J fp it G)(aa:G 0 s2.heap)(t:∀b∈fp,FpOk X pins H2 b)(w0:W 0 m0 H2 [])(turn:∀i m H ys,W i m H ys ->
   (J.stop i H/\ys.length<=sizeLine/\∀D,H D=none->Q (.ref D) (upd H D (.lst ys))) \/
   (J.go i H/\∀x H',J.yld i H x H'->tt (some x::ix.map (λj=>σ.getD j none)) H' λb H2 =>
     if b=true then te (some x::ix.map (λj=>σ.getD j none)) H2 λv H3=>ys.length<sizeLine/\∃g,g<m/\W (i+1) g H3 (ys++[v]) else ∃g,g<m/\W (i+1) g H2 ys))(ab:∀b o,s2.heap.get? b=some o->h₁.get? b=some o)(h:h₁.Ns (s2.heap.objs.size+1) m₁)(ag:h₁.get? s2.heap.objs.size=some (lobj []))(hR:∀s5 B ys vs k,Inv (ip X x N' sc cl (s2.heap.objs.size+1) s2 H2 fp) [(s2.heap.objs.size,lobj vs)] k B s5->Vals ys vs->ys.length<=sizeLine->(∀D,B D=none->Q (.ref D) (upd B D (.lst ys)))->R (.ok .next) s5) :
  codeAny (model X.prog X.w) X.A (.compStart (.ListComp elt [⟨.Name x px,iter,ifs,0⟩] sc pos) 0 (.ref it) (.ref s2.heap.objs.size) (compEnvC sc cl (s2.heap.objs.size+1) X.env)) R { s2 with heap:=h₁,toks:=s2.toks+([]:List (Str×Value)).length }:=by
 have al:∀b∈fp,∃o,s2.heap.get? b=some o:=λb I=>by obtain⟨o,e,_⟩:=T.obj _ _ aa b I;exact⟨o,e⟩
 have O:∀b∈fp,b<s2.heap.objs.size:=λb I=>by obtain⟨o,e⟩:=al b I;exact bg e
 have I3:=zs9 (x:=x) (tk:=s2.toks+([]:List (Str×Value)).length) hN hk L M a8 h1 h3 f t al ab h ag;have an:G 0 h₁:=T.keep _ _ _ aa λb I o e=>ab b o e;generalize U:ip X x N' sc cl (s2.heap.objs.size+1) s2 H2 fp=X' at I3;have eP:X'.prog=X.prog:=by rw[<-U];rfl
 have eW:X'.w=X.w:=by rw[<-U];rfl
 have eK:X'.K=X.K:=by rw[<-U];rfl
 have eA:X'.A=X.A:=by rw[<-U];rfl
 have E:X'.env=compEnvC sc cl (s2.heap.objs.size+1) X.env:=by rw[<-U];rfl
 have eC:Cm X':=by rw[<-U];exact hc _ _ _ _ _ _ _ f t
 have ap:X'.pn=[]:=by rw[<-U];rfl
 have ar:X'.xe=λ_ _=>False:=by rw[<-U];rfl
 have a0:X'.fs=frs X.stack:=by rw[<-U];rfl
 have a9:X'.ex=fp:=by rw[<-U];rfl
 have eN:X'.N=x::N':=by rw[<-U];rfl
 have eS:X'.s₀=s2:=by rw[<-U];rfl
 have ba:∀b∈fp,b∉frs X.stack:=λb I z=>by
  rcases cb.mp (f.stkSub b z) with e | z
  ·exact(t b I).2.1 e
  ·exact(t b I).2.2.1 z
 have a1:s2.heap.objs.size∉frs X.stack:=λz=>by
  rcases cb.mp (f.stkSub _ z) with e | z
  ·exact absurd (e ▸ f.lt) (ff _)
  ·exact f.nofs (bw _) z
 have Z:∀ {H':Hp} {vs:h7},(∀b∈fp,H' b=none)->∀b∈fp,FpOk X' [(s2.heap.objs.size,lobj vs)] H' b:=λ{H' vs} hn b I=>by
  refine⟨hn b I,?_,?_,.inl (by rw[a9];exact I),λy c e=>?_,λp l=>?_⟩
  ·rw[E];exact b6 (fz (O b I))
  ·rw[a0];exact ba b I
  ·rw[E] at e;exact(t b I).2.2.2.2.1 y c (h1 y c e)
  ·rw[ap] at l
   rw[cy.mp (show p∈[(s2.heap.objs.size,lobj vs)] from l)];exact kt (O b I)
 have loop:∀S:Shared,S={ s2 with heap:=h₁,toks:=s2.toks+([]:List (Str×Value)).length } ->
   codeAny (model X.prog X.w) X.A (.compLoop (.ListComp elt [⟨.Name x px,iter,ifs,0⟩] sc pos) 0 (.ref it) (.ref s2.heap.objs.size) (compEnvC sc cl (s2.heap.objs.size+1) X.env))
    (R) S:=by
  rintro S rfl;refine codeAny_compLoop_tests (λn s'=>∃i Y H' ys vs,Inv X' [(s2.heap.objs.size,lobj vs)] (Y::ix.map (λj=>σ.getD j none)) H' s'/\Vals ys vs/\G i s'.heap/\(∀b∈fp,H' b=none)/\W i n H' ys) ?_ m0
   ⟨0,none,H2,[],[],I3,.nil,an,λb I=>(t b I).1,w0⟩
  rintro n s4 ⟨i,Y,B,ys,vs,I4,hv4,st4,fr4,w4⟩;rcases turn i n B ys w4 with⟨a2,hl,qn⟩ | ⟨go,step⟩
  ·have D:=T.done X' eP eW eK eC i _ s4 _ B (notedBy (model X.prog X.w) X.A (compEnvC sc cl (s2.heap.objs.size+1) X.env) λe s'=>R (.error e) s') I4 (Z fr4) st4 a2
   rw[eA] at D;refine thn D λr s5 s=>?_;obtain⟨hr,I5⟩:=s;subst hr;exact hR s5 B ys vs _ (U ▸ I5) hv4 hl qn
  ·have D:=T.item X' eP eW eK eC i _ s4 _ B (notedBy (model X.prog X.w) X.A (compEnvC sc cl (s2.heap.objs.size+1) X.env) λe s'=>R (.error e) s') I4 (Z fr4) st4 go
   rw[eA] at D;refine thn D λr s5 s=>?_;obtain⟨u,hr,h5⟩:=s;subst hr;have bb:wpAny (model X.prog X.w) X.A (letOwnedTupleGo (.Name x px) (.ref it) u >>= λ_=>assign (.Name x px) (compEnvC sc cl (s2.heap.objs.size+1) X.env) u) (λ_ s₂ =>
     wpAny (model X.prog X.w) X.A (forIn ifs true λc r=>if r=true then do let ok <-isTrue c (compEnvC sc cl (s2.heap.objs.size+1) X.env) (eval c (compEnvC sc cl (s2.heap.objs.size+1) X.env));pure (ForInStep.yield ok) else pure (ForInStep.yield r)) (λok S =>
      if ok=true then wpAny (model X.prog X.w) X.A (eval elt (compEnvC sc cl (s2.heap.objs.size+1) X.env)) (λx a3 =>
       wpAny (model X.prog X.w) X.A (call (.builtin "list.append") [.ref s2.heap.objs.size,x]) (λ_ F=>∃m,m<n/\∃i Y H' ys vs,Inv X' [(s2.heap.objs.size,lobj vs)] (Y::ix.map (λj=>σ.getD j none)) H' F/\Vals ys vs/\G i F.heap/\(∀b∈fp,H' b=none)/\W i m H' ys)
        (notedBy (model X.prog X.w) X.A (compEnvC sc cl (s2.heap.objs.size+1) X.env) λe s'=>R (.error e) s') a3)
       (notedBy (model X.prog X.w) X.A (compEnvC sc cl (s2.heap.objs.size+1) X.env) λe s'=>R (.error e) s') S
      else ∃m,m<n/\∃i Y H' ys vs,Inv X' [(s2.heap.objs.size,lobj vs)] (Y::ix.map (λj=>σ.getD j none)) H' S/\Vals ys vs/\G i S.heap/\(∀b∈fp,H' b=none)/\W i m H' ys)
      (notedBy (model X.prog X.w) X.A (compEnvC sc cl (s2.heap.objs.size+1) X.env) λe s'=>R (.error e) s') s₂)
     (notedBy (model X.prog X.w) X.A (compEnvC sc cl (s2.heap.objs.size+1) X.env) λe s'=>R (.error e) s') s5:=by
    refine wpAny_bind (thn h5 λ_ s6 s=>?_);obtain⟨z,H6,I6,r6,y6,P,bd⟩:=s;have be:=I6.pinned (Z bd) (T.obj _ _ P);have q6:=step z H6 y6;refine wpAny_assign_Name (?_:wpAny _ _ (storeName (compEnvC sc cl (s2.heap.objs.size+1) X.env) x u) _ _ s6);rw[<-E];refine zkk (i:=0) be (by rw[eN];exact a7) (by rw[eN];rfl) (.inl (by rw[E];exact lookup_relabel_local hx)) r6 (λs7 I7=>?_) (.inr (by rw[E];exact lookup_relabel_local hx));have t7:=(U ▸ a5 cl (s2.heap.objs.size+1) s2 H2 fp (hc _ _ _ _ _ _ _ f t):PIfs X' ifs tt) _ s7 _ H6 _ I7 q6;rw[eP,eW,eA] at t7;refine wpAny_mono t7 (λb s8 s=>?_) (λe s' z=>by rw[ar] at z;exact z.elim);obtain⟨H8,I8,q8⟩:=s;have a:∀ {s':Shared} {H':Hp} {k:St},Inv X' ([(s2.heap.objs.size,lobj vs)]++yp fp s6.heap) k H' s'->G (i+1) s'.heap/\∀b∈fp,H' b=none:=λ{s' H' k} J'=>by
     refine⟨T.keep _ _ _ P λb I o e=>(J'.pin (b,o) (bz _ (bz _ (zid I e)))).1,λb I=>?_⟩;obtain⟨o,e,d⟩:=T.obj _ _ P b I;exact(J'.pin (b,o) (bz _ (bz _ (zid I e)))).2.1
    cases b with
    | false =>
      rw[if_neg ce] at q8 ⊢;obtain⟨g,hm,w8⟩:=q8;obtain⟨k1,k2⟩:=a I8;exact⟨g,hm,i+1,some z,H8,ys,vs,I8.unpinned,hv4,k1,k2,w8⟩
    | true =>
      rw[if_pos rfl] at q8 ⊢;have t8:=(U ▸ a6 cl (s2.heap.objs.size+1) s2 H2 fp (hc _ _ _ _ _ _ _ f t):PE X' elt te) _ s8 _ H8 _ I8 q8;rw[eP,eW,eA] at t8;refine wpAny_mono t8 (λv s9 s=>?_) (λe s' z=>by rw[ar] at z;exact z.elim);obtain⟨y,H9,I9,r9,bo,g,hm,w9⟩:=s;have pD:=I9.pin (s2.heap.objs.size,lobj vs) (bz _ (du _ bn));obtain⟨k1,k2⟩:=a I9;have bp:=hv4.length;refine append_at (D:=s2.heap.objs.size) (its:=vs.toArray) (n:=vs.length) pD.1 (λh' sb hD=>?_) (by rw[bc];lia);have bk:Inv X' [] (some z::ix.map (λj=>σ.getD j none)) H9 s9:=I9.pins_of λp l=>nomatch l;have cne:∀y c,X'.env.cells.lookup y=some c->c≠s2.heap.objs.size:=λy c e=>by
       rw[E] at e;obtain⟨v',q⟩:=f.cell y c (h1 y c e);exact b6 q.lt
      have bl:Inv X' [] (some z::ix.map (λj=>σ.getD j none)) H9 { s9 with heap:=h' }:=bk.turned (t':=s9.toks) (it:=s2.heap.objs.size) (λb o I e=>(sb.2 b I).trans e) pD.2.1 (by rw[E];exact b6 (ek _)) (.inr (by rw[eS];exact bw _)) cne (λp l=>by rw[ap] at l;exact nomatch l);have bm:Inv X' [(s2.heap.objs.size,lobj (vs++[v]))] (some z::ix.map (λj=>σ.getD j none)) H9 { s9 with heap:=h' }:=bl.pins_of λp l=>by
       rw[cy.mp l];exact⟨hD.trans (congrArg some (zta vs v)),pD.2.1,by rw[E];exact b6 (ek _),by rw[a0];exact a1,λv' z'=>by cases z'⟩
      exact⟨g,hm,i+1,some z,H9,ys++[y],vs++[v],bm,hv4.snoc r9,T.keep _ _ _ k1 (λb I o e=>(sb.2 b (b6 (O b I))).trans e),k2,w9⟩
   exact bb
 exact codeAny_compStart_list (loop _ rfl) (T.self X.A 0 _ _ _ an (loop _ rfl))
variable{h:Heap}
def Heap.SameBut.rf(e:∃o,h.get? a=some o):Heap.SameBut a h h:=by
 first | exact⟨rfl,λ_ _=>rfl⟩ | exact⟨e,λ_ _=>rfl⟩
structure ztb (X:Cx) (x:Str) (N':g9) (ix:ic) (sc:Scope):Prop where
 nm:N'=ix.map λi=>X.N.getD i ("" : Str)
 nd:(x::N').Nodup
 kind:sc.kind=.function
 hx:sc.names.lookup x=some .local
 cell:∀y∈sc.names,y.2≠.cell
 names:∀y∈sc.names,y.2=.local->sc.names.lookup y.1=some .local
 free:∀y∈sc.names,y.2=.free->X.env.kindOf y.1=some .cell\/X.env.kindOf y.1=some .free
 fv:∀y∈N',sc.names.lookup y=some .free
variable{wi:TI}
def zpc(c:ztb X x N' ix sc)(p:∀cl C s₂ H₂ fp pins σ,Inv X pins σ H₂ s₂->(∀b∈fp,FpOk X pins H₂ b)->Cm (ip X x N' sc cl C s₂ H₂ fp))(hi:PIC Cm X (.Name x px) iter wi)(Y:∀cl C s₂ H₂ fp,Cm (ip X x N' sc cl C s₂ H₂ fp)->PIfs (ip X x N' sc cl C s₂ H₂ fp) ifs tt)(Z:∀cl C s₂ H₂ fp,Cm (ip X x N' sc cl C s₂ H₂ fp)->PE (ip X x N' sc cl C s₂ H₂ fp) elt te)(q:∀v,foldedSetIterable iter X.env v=pure v:=by intro _;rfl) :
  PE X (.ListComp elt [⟨.Name x px,iter,ifs,0⟩] sc pos) (wg wi ix tt te):=by
 intro pins s σ H Q I h;obtain⟨cl,a,h1,r⟩:=zl0 (sc:=sc) (env:=X.env) (λy d t=>I.ok.has y.1 (c.free y d t));rw[eval_ListComp];refine wpAny_comprehension_free (use:=none) rfl q a c.kind c.names (thn (hi pins s σ H _ I h) λv L u=>thn u λw s2 h2=>?_);obtain⟨it,fp,M,J,H2,rfl,m,T,S,n,W,⟨N,z⟩,turn⟩:=h2;refine wpAny_newObj_type (wpAny_newFunctionEnv c.cell (by intro y d;simp at d) (λh₁ R D=>?_) c.kind);dsimp only at R D ⊢;have U:(s2.heap.push { cls:=.type "list",dict:=none,data:=.seq ([]:h7).toArray }).objs.size=s2.heap.objs.size+1:=ij ..;rw[U] at R D ⊢;have f:∀b o,s2.heap.get? b=some o->h₁.get? b=some o:=λb o e=>D.extBut b o (b6 (fz (bg e))) (ao _ (ao _ e));have V:h₁.get? s2.heap.objs.size=some (lobj []):=D.extBut _ _ (b6 (ek _)) (ao _ (ci _ rfl));have g:∀b∈fp,∃o,s2.heap.get? b=some o:=λb A=>by obtain⟨o,e,_⟩:=T.obj _ _ S b A;exact⟨o,e⟩
 refine zn4 p Y Z c.nm c.nd c.kind c.hx c.cell c.names c.free c.fv h1 r m T S n z turn f R V λO P ys vs B i j E F=>?_;obtain⟨G,k,_⟩:=i.loc;refine⟨G,k,λh' K=>?_⟩;have l:=(i.pin (s2.heap.objs.size,lobj vs) (bz _ bn)).2.1;exact⟨.ref s2.heap.objs.size,_,zqk m n g i j E K,rfl,F _ l⟩
variable{i:Nat}
def zmh{py spos:Pos}(c:ztb X x N' ix sc)(hc:∀cl C s₂ H₂ fp pins σ,Inv X pins σ H₂ s₂->(∀b∈fp,FpOk X pins H₂ b)->Cm (ip X x N' sc cl C s₂ H₂ fp))(k:X.N.Nodup)(l:X.N[i]?=some y)(n:Loc X.env.scope y)(hi:PIC Cm X (.Name x px) iter wi)(q:∀cl C s₂ H₂ fp,Cm (ip X x N' sc cl C s₂ H₂ fp)->PIfs (ip X x N' sc cl C s₂ H₂ fp) ifs tt)(r:∀cl C s₂ H₂ fp,Cm (ip X x N' sc cl C s₂ H₂ fp)->PE (ip X x N' sc cl C s₂ H₂ fp) elt te)(t:swapsWith (.ListComp elt [⟨.Name x px,iter,ifs,0⟩] sc pos) (some (.Name y py)) spos.line X.env=pure true)(u:X.fn y=true\/X.env.scope.names.lookup y=some .local:=by first | exact .inl rfl | exact .inr rfl | assumption)(hs:∀v,foldedSetIterable iter X.env v=pure v:=by intro _;rfl) :
  PS X (.Assign [.Name y py] (.ListComp elt [⟨.Name x px,iter,ifs,0⟩] sc pos) spos) (tAsg (wg wi ix tt te) (ml i)):=by
 intro pins s σ H Dn I h;have h:wg wi ix tt te σ H λv H1=>Dn.nx (σ.set i (some v)) H1:=h;obtain⟨cl,w,h1,h3⟩:=zl0 (sc:=sc) (env:=X.env) (λy B u=>I.ok.has y.1 (c.free y B u));rw[exec_Assign_Name_used _ _ _ _ t];refine wpAny_bind (wpAny_standAt (wpAny_bind ?_));show wpAny _ X.A (do let _ <-comprehension (.ListComp elt [⟨.Name x px,iter,ifs,0⟩] sc pos) sc X.env _ (newList []) false (eval iter X.env) (some (assign (.Name y py) X.env))) _ _ s;refine wpAny_bind (wpAny_mono (wpAny_comprehension_free (use:=some (assign (.Name y py) X.env)) (Q:=λ_ s'=>SP X pins Dn .next s') rfl hs w c.kind c.names
  (thn (hi pins s σ H _ I h) λv s1 g1=>thn g1 λaa s2 h2=>?_)) (λ_ s' hq=>wpAny_pure (wpAny_pure hq)) λ_ _ e=>e)
 obtain⟨it,fp,tn,J,H2,rfl,V,T,Y,P,W,⟨m0,w0⟩,turn⟩:=h2;refine wpAny_newObj_type (wpAny_newFunctionEnv c.cell (by intro y B;simp at B) (λh₁ R D=>?_) c.kind);dsimp only at R D ⊢;have Z:(s2.heap.push { cls:=.type "list",dict:=none,data:=.seq ([]:h7).toArray }).objs.size=s2.heap.objs.size+1:=ij ..;rw[Z] at R D ⊢;have E:∀b o,s2.heap.get? b=some o->h₁.get? b=some o:=λb o e=>D.extBut b o (b6 (fz (bg e))) (ao _ (ao _ e));have d:h₁.get? s2.heap.objs.size=some (lobj []):=D.extBut _ _ (b6 (ek _)) (ao _ (ci _ rfl));have F:∀b∈fp,∃o,s2.heap.get? b=some o:=λb G=>by obtain⟨o,e,_⟩:=T.obj _ _ Y b G;exact⟨o,e⟩
 refine zn4 (Q:=λv H1=>Dn.nx (σ.set i (some v)) H1) hc q r c.nm c.nd c.kind c.hx c.cell c.names c.free c.fv h1 h3 V T Y P w0 turn E R d λf H4 ys vs ab g K hl qn=>?_;obtain⟨m5,S,_⟩:=g.loc;have S:f.heap.Ns (s2.heap.objs.size+1) m5:=S;have L:=(g.pin (s2.heap.objs.size,lobj vs) (bz _ bn)).2.1;have oC:∃o,f.heap.get? (s2.heap.objs.size+1)=some o:=let ⟨o,_,_,e,_⟩:=S;⟨o,e⟩;have I6:Inv X pins σ (upd H4 s2.heap.objs.size (.lst ys)) { f with heap:=f.heap }:=zqk V P F g K hl (Heap.SameBut.rf oC);show wpAny _ X.A (assign (.Name y py) X.env (.ref s2.heap.objs.size)) _ _ f;have HC:upd H4 s2.heap.objs.size (.lst ys) (s2.heap.objs.size+1)=none:=by rw[gg (kt (ek _))];exact g.free
 have U:∀a o,s2.heap.get? a=some o->s2.heap.objs.size+1≠a:=λa o e=>kt (fz (bg e));have oL:∃o,s2.heap.get? X.env.locals=some o:=let ⟨m,hn,_⟩:=V.loc;let ⟨o,_,_,e,_⟩:=hn;⟨o,e⟩;have cL:s2.heap.objs.size+1≠X.env.locals:=let ⟨o,e⟩:=oL;U _ o e;have cC:∀z j,X.env.cells.lookup z=some j->j≠s2.heap.objs.size+1:=λz j e=>by
  obtain⟨v',o,e',_⟩:=V.cell z j e;exact Ne.symm (U _ o e')
 refine wpAny_assign_Name (zkv (v:=.ref s2.heap.objs.size) I6 k l n rfl (λs7 I7 zq=>?_) u);obtain⟨a,sb,ha⟩:=zq;have M:s2.heap.objs.size+1≠a:=by
  rcases ha with rfl | ha
  ·exact cL
  ·exact Ne.symm (cC _ _ ha)
 refine⟨m5,S.sameBut sb M,λh' O=>?_⟩;refine⟨_,_,I7.turned (t':=s7.toks) (it:=s2.heap.objs.size+1) (λb o G e=>(O.2 b G).trans e) HC cL (.inr ?_) cC (λp hp=>?_),qn _ L⟩
 ·exact nj V.sz
 ·exact Ne.symm (U _ _ (V.pin p hp).1)
def zy5(X:Cx)(xs N':g9)(sc:Scope)(cl:List (Str×Addr))(C:Addr)(s₂:Shared)(H₂:Hp)(fp:ia):Cx :=
 { X with N:=xs++N',s₀:=s₂,H₀:=H₂,env:=compEnvC sc cl C X.env,outer:=X.stack,stack:=X.stack,ex:=fp,fn:=λ_=>false,pn:=[],xe:=λ_ _=>False }
structure z4r (X:Cx) (xs N':g9) (ix:ic) (sc:Scope):Prop where
 nm:N'=ix.map λi=>X.N.getD i ("" : Str)
 nd:(xs++N').Nodup
 kind:sc.kind=.function
 hx:∀y∈xs,sc.names.lookup y=some .local
 cell:∀y∈sc.names,y.2≠.cell
 names:∀y∈sc.names,y.2=.local->sc.names.lookup y.1=some .local
 free:∀y∈sc.names,y.2=.free->X.env.kindOf y.1=some .cell\/X.env.kindOf y.1=some .free
 fv:∀y∈N',sc.names.lookup y=some .free
inductive D where
 | non | bl (b:Bool) | int (i:Int) | str (s:Str) | tup (ds:List D) | lst (ds:List D)
 | dct (ks:ik) (ds:List D)
 | exc (a:Addr)
abbrev k9:=List D
abbrev la:=Option D
inductive Im where
 | t (vs:k8) | d (kvs:List (Key×V))
@[reducible] noncomputable def Im.out:Im->HO | .t vs=>.tup vs | .d kvs=>.dK kvs
def dkv(ks:ik)(vs:k8):List (Key×V):=ks.zipWith (λk v=>(Sum.inl k,v)) vs
def KL(K:k4)(a:Addr)(xs:k8):Prop :=
 ∃(o:Obj) (its:k7) (n:Nat),K.lookup a=some o/\o.cls=.type "list"/\o.dict=none/\o.data=.seq its n/\its.size<=sizeLine/\Vals xs its.toList
mutual
inductive Rep (K:k4) (H:Hp) (O:Addr->Prop):D->V->Prop
 | non:Rep K H O .non .non
 | bl (b:Bool):Rep K H O (.bl b) (.bl b)
 | int (i:Int):Rep K H O (.int i) (.int i)
 | str (s:Str):Rep K H O (.str s) (.str s)
 | tup {a:Addr} {vs:k8} {ds:k9}:H a=some (.tup vs)->Reps K H O ds vs->Rep K H O (.tup ds) (.ref a)
 | lst {a:Addr} {vs:k8} {ds:k9}:O a->Rd H a (.lst vs)->Reps K H O ds vs->Rep K H O (.lst ds) (.ref a)
 | klst {a:Addr} {vs:k8} {ds:k9}:KL K a vs->Reps K H O ds vs->Rep K H O (.lst ds) (.ref a)
 | dct {a:Addr} {ks:ik} {vs:k8} {ds:k9}:H a=some (.dK (dkv ks vs))->Reps K H O ds vs->Rep K H O (.dct ks ds) (.ref a)
 | exc (a:Addr):Rep K H O (.exc a) (.ref a)
inductive Reps (K:k4) (H:Hp) (O:Addr->Prop):k9->k8->Prop
 | nil:Reps K H O [] []
 | cons {d:D} {v:V} {ds:k9} {vs:k8}:Rep K H O d v->Reps K H O ds vs->Reps K H O (d::ds) (v::vs)
end
variable{vs:k8}{ds:k9}{O:Addr->Prop}
def Reps.ind{P:k9->k8->Prop}(n:P [] [])(c:∀ {d v ds vs},Rep K H O d v->Reps K H O ds vs->P ds vs->P (d::ds) (v::vs)):Reps K H O ds vs->P ds vs :=
 Reps.rec (motive_1:=λ_ _ _=>True) (motive_2:=λds vs _=>P ds vs) ⟨⟩ (λ_=>⟨⟩) (λ_=>⟨⟩) (λ_=>⟨⟩) (λ_ _ _=>⟨⟩) (λ_ _ _ _=>⟨⟩) (λ_ _ _=>⟨⟩) (λ_ _ _=>⟨⟩) (λ_=>⟨⟩) n λr t _=>c r t
variable{v:V}{O':Addr->Prop}
def Rep.mono(D:∀a (u:Im),H a=some u.out->H' a=some u.out)(I:∀a vs,O a->Rd H a (.lst vs)->O' a/\Rd H' a (.lst vs)):Rep K H O d v->Rep K H' O' d v :=
 Rep.rec (motive_1:=λd v _=>Rep K H' O' d v) (motive_2:=λds vs _=>Reps K H' O' ds vs) .non .bl .int .str (λh _=>.tup (D _ (.t _) h)) (λo h _=>.lst (I _ _ o h).1 (I _ _ o h).2) (λh _=>.klst h) (λh _=>.dct (D _ (.d _) h)) .exc .nil λ_ _=>.cons
def Reps.mono(I:∀a (u:Im),H a=some u.out->H' a=some u.out)(J:∀a vs,O a->Rd H a (.lst vs)->O' a/\Rd H' a (.lst vs)){ds:k9}{vs:k8}:Reps K H O ds vs->Reps K H' O' ds vs:=Reps.ind .nil λr _=>.cons (r.mono I J)
def Reps.length{ds:k9}{vs:k8}:Reps K H O ds vs->ds.length=vs.length:=Reps.ind (P:=λds vs=>ds.length=vs.length) rfl λ_ _=>congrArg Nat.succ
def Reps.get(h:Reps K H O ds vs):ds[i]?=some d->∃v,vs[i]?=some v/\Rep K H O d v :=
 Reps.ind (P:=λds vs=>∀ {i:Nat},ds[i]?=some d->∃v,vs[i]?=some v/\Rep K H O d v) nofun (λr _ q i e=>match i with
  | 0=>⟨_,rfl,bq e ▸ r⟩
  | i+1=>q (i:=i) e) h
def Reps.append{es:k9}{ws:k8}(h:Reps K H O ds vs)(s:Reps K H O es ws):Reps K H O (ds++es) (vs++ws):=Reps.ind (P:=λds vs=>Reps K H O (ds++es) (vs++ws)) s (λr _=>.cons r) h
def Reps.take{ds:k9}{vs:k8}(n:Nat)(h:Reps K H O ds vs):Reps K H O (ds.take n) (vs.take n) :=
 Reps.ind (P:=λds vs=>∀n,Reps K H O (ds.take n) (vs.take n)) (λn=>by cases n <;> exact .nil) (λr _ q n=>by cases n;exact .nil;exact .cons r (q _)) h n
def Reps.drop{ds:k9}{vs:k8}(n:Nat)(h:Reps K H O ds vs):Reps K H O (ds.drop n) (vs.drop n) :=
 Reps.ind (P:=λds vs=>∀n,Reps K H O (ds.drop n) (vs.drop n)) (λn=>by cases n <;> exact .nil) (λr t q n=>by cases n;exact .cons r t;exact q _) h n
def Reps.set{d:D}{v:V}(r:Rep K H O d v){ds:k9}{vs:k8}(i:Nat)(h:Reps K H O ds vs):Reps K H O (ds.set i d) (vs.set i v) :=
 Reps.ind (P:=λds vs=>∀i,Reps K H O (ds.set i d) (vs.set i v)) (λ_=>.nil) (λp t q n=>by cases n;exact .cons r t;exact .cons p (q _)) h i
def Reps.dropLast(h:Reps K H O ds vs):Reps K H O ds.dropLast vs.dropLast:=by
 rw[lj,lj,h.length];exact h.take _
def Rep.int_{i:Int}(h:Rep K H O (.int i) v):v=.int i:=by cases h;rfl
def Rep.bl_{i:Bool}(h:Rep K H O (.bl i) v):v=.bl i:=by cases h;rfl
def Rep.str_{i:Str}(h:Rep K H O (.str i) v):v=.str i:=by cases h;rfl
def Rep.exc_(h:Rep K H O (.exc a) v):v=.ref a:=by cases h;rfl
def Rep.non_(h:Rep K H O .non v):v=.non:=by cases h;rfl
def Rep.tup_(h:Rep K H O (.tup ds) v):∃a vs,v=.ref a/\H a=some (.tup vs)/\Reps K H O ds vs:=by cases h with | tup a b=>exact⟨_,_,rfl,a,b⟩
def LsOk(K:k4)(H:Hp)(O:Addr->Prop)(a:Addr)(vs:k8):Prop:=(O a/\Rd H a (.lst vs))\/KL K a vs
def LsOk.sq(h:LsOk K H O a vs):SqL K H a vs:=h.elim (λz=>.inl z.2) .inr
def Rep.lst_(h:Rep K H O (.lst ds) v):∃a vs,v=.ref a/\LsOk K H O a vs/\Reps K H O ds vs:=by
 cases h with
 | lst o a b=>exact⟨_,_,rfl,.inl ⟨o,a⟩,b⟩
 | klst a b=>exact⟨_,_,rfl,.inr a,b⟩
inductive Mo where
 | l (vs:k8) | i (C dx:Addr) (fs:List (Str×V))
@[reducible] noncomputable def Mo.out:Mo->HO | .l vs=>.lst vs | .i C dx fs=>.ins C dx fs
inductive Pt where
 | d (d:D) | o (ds:k9)
abbrev ll:=List Pt
inductive AK where
 | ls | ins (b:Bool) (c:Str) (fs:g9)
inductive Sl where
 | sh (d:D) | ow (ds:k9) | o2 (dss:List k9) | ag (k:AK) (r:Option Nat) (ps:ll) | al (r j:Nat) | ro (k:AK) (ps:ll)
abbrev ln:=Option Sl
structure Gd where
 g:Addr->Prop
 r:Nat->ia
instance:CoeFun Gd (λ_=>Addr->Prop):=⟨Gd.g⟩
abbrev gd(g:Addr->Prop):Gd:=⟨g,λ_=>[]⟩
abbrev DE0:=List ln
def Ow(G:Gd)(W:Addr->Prop):Addr->Prop:=λa=>G a/\¬W a
def Inn(K:k4)(G:Gd)(W:Addr->Prop)(H:Hp)(dss:List k9)(ls:ia):Prop :=
 ls.length=dss.length/\∀(j:Nat) (ds:k9) (a:Addr),dss[j]?=some ds->ls[j]?=some a->W a/\∃vs,H a=some (.lst vs)/\Reps K H (Ow G W) ds vs
inductive PtsOk (K:k4) (G:Gd) (W:Addr->Prop) (H:Hp):ll->ia->k8->Prop
 | nil:PtsOk K G W H [] [] []
 | d {d:D} {v:V} {ps:ll} {as:ia} {us:k8}:Rep K H (Ow G W) d v->PtsOk K G W H ps as us->PtsOk K G W H (.d d::ps) as (v::us)
 | o {ds:k9} {a:Addr} {vs:k8} {ps:ll} {as:ia} {us:k8}:W a->H a=some (.lst vs)->Reps K H (Ow G W) ds vs->PtsOk K G W H ps as us->PtsOk K G W H (.o ds::ps) (a::as) (.ref a::us)
inductive PtsRo (K:k4) (G:Gd) (W:Addr->Prop) (H:Hp):ll->k8->Prop
 | nil:PtsRo K G W H [] []
 | d {d:D} {v:V} {ps:ll} {us:k8}:Rep K H (Ow G W) d v->PtsRo K G W H ps us->PtsRo K G W H (.d d::ps) (v::us)
 | o {ds:k9} {a:Addr} {vs:k8} {ps:ll} {us:k8}:¬W a->H a=some (.lst vs)->Reps K H (Ow G W) ds vs->PtsRo K G W H ps us->PtsRo K G W H (.o ds::ps) (.ref a::us)
def AkOk(K:k4)(H:Hp):AK->Addr->k8->Prop
 | .ls,p,us=>H p=some (.lst us)
 | .ins _ c fs,p,us=>∃C dx,PySem.W.nsIn K mainGlobals c=some (some (.ref C))/\H p=some (.ins C dx (fs.zip us))/\fs.length=us.length
def Lab:AK->ia->Addr->ia->Prop
 | .ins true _ _,l,p,_=>l=[p]
 | _,l,p,as=>l=p::as
inductive OwOk (K:k4) (G:Gd) (W:Addr->Prop) (H:Hp) (ds:k9) (v:V):Prop
 | mk (l:Addr) (vs:k8) (e:v=.ref l) (w:W l) (h:H l=some (.lst vs)) (r:Reps K H (Ow G W) ds vs):OwOk K G W H ds v
inductive O2Ok (K:k4) (G:Gd) (W:Addr->Prop) (H:Hp) (dss:List k9) (v:V):Prop
 | mk (l:Addr) (ls:ia) (e:v=.ref l) (w:W l) (h:H l=some (.lst (ls.map V.ref))) (n:(l::ls).Nodup) (r:Inn K G W H dss ls):O2Ok K G W H dss v
inductive AgOk (K:k4) (G:Gd) (W:Addr->Prop) (H:Hp) (k:AK) (r:Option Nat) (ps:ll) (v:V):Prop
 | mk (p:Addr) (as:ia) (us:k8) (e:v=.ref p) (w:W p) (n:(p::as).Nodup) (l:∀n,r=some n->Lab k (G.r n) p as) (h:AkOk K H k p us) (q:PtsOk K G W H ps as us):AgOk K G W H k r ps v
def SlOk(K:k4)(G:Gd)(W:Addr->Prop)(H:Hp):Sl->V->Prop
 | .sh d,v=>Rep K H (Ow G W) d v
 | .ow ds,v=>OwOk K G W H ds v
 | .o2 dss,v=>O2Ok K G W H dss v
 | .ag k r ps,v=>AgOk K G W H k r ps v
 | .al r j,v=>∃p as a,G.r r=p::as/\as[j]?=some a/\v=.ref a
 | .ro k ps,v=>∃(p:Addr) (us:k8),v=.ref p/\¬W p/\AkOk K H k p us/\PtsRo K G W H ps us
def zvn:ll->k8->Addr->Prop:=λps us a=>∃(j:Nat) (ds:k9),ps[j]?=some (.o ds)/\us[j]?=some (.ref a)
def AkH(H:Hp):AK->Addr->k8->Prop
 | .ls,p,us=>H p=some (.lst us)
 | .ins _ _ fs,p,us=>fs.length=us.length/\∃C dx,H p=some (.ins C dx (fs.zip us))
def Owns(H:Hp):Sl->V->Addr->Prop
 | .sh _,_,_=>False
 | .ow _,v,a=>v=.ref a
 | .o2 _,v,a=>v=.ref a\/∃(l:Addr) (ls:ia),v=.ref l/\H l=some (.lst (ls.map V.ref))/\a∈ls
 | .ag k _ ps,v,a=>v=.ref a\/∃(p:Addr) (us:k8),v=.ref p/\AkH H k p us/\zvn ps us a
 | .al _ _,_,_=>False
 | .ro _ _,_,_=>False
structure Ok (K:k4) (G:Gd) (H0:Hp) (W:Addr->Prop) (env:DE0) (σ:St) (H:Hp):Prop where
 stay:Same H0 H
 good:∀a,H0 a=none->G a
 wl:∀l,W l->H0 l=none/\∃m:Mo,H l=some m.out
 slot:∀(i:Nat) (s:Sl),env[i]?=some (some s)->∃v,σ[i]?=some (some v)/\SlOk K G W H s v
 uniq:∀(i j:Nat) (s s':Sl) (v v':V) (a:Addr),env[i]?=some (some s)->env[j]?=some (some s')->σ[i]?=some (some v)->σ[j]?=some (some v')->Owns H s v a->Owns H s' v' a->i=j
 len:env.length=σ.length
variable{ls:ia}
def vk{D:ia}(h:ls.map V.ref=D.map V.ref):ls=D:=by
 induction ls generalizing D with
 | nil=>cases D with | nil=>rfl | cons b r=>cases h
 | cons a t ih=>cases D with | nil=>cases h | cons b r=>simp[List.cons.injEq,V.ref.injEq] at h;rw[h.1,ih h.2]
variable{G:Gd}{ps:ll}{as:ia}{us:k8}
def PtsOk.own(h:PtsOk K G W H ps as us)(ha:a∈as):W a/\∃vs,H a=some (.lst vs):=by
 induction h with
 | nil=>cases ha
 | d _ _ ih=>exact ih ha
 | o hW hl _ _ ih =>
   rcases cb.mp ha with rfl | ha
   ·exact⟨hW,_,hl⟩
   ·exact ih ha
def PtsOk.parts_iff(h:PtsOk K G W H ps as us):zvn ps us a↔a∈as:=by
 induction h with
 | nil=>exact⟨λ⟨j,ds,e,_⟩=>by simp at e,λz=>by cases z⟩
 | d _ _ ih =>
   rw[<-ih];constructor
   ·rintro⟨j,ds,I,D⟩
    cases j with
    | zero=>simp at I
    | succ j=>exact⟨j,ds,by simpa using I,by simpa using D⟩
   ·rintro⟨j,ds,I,D⟩
    exact⟨j+1,ds,by simpa using I,by simpa using D⟩
 | o _ _ _ _ ih =>
   rw[cb,<-ih];constructor
   ·rintro⟨j,ds,I,D⟩
    cases j with
    | zero=>simp at D;exact .inl D.symm
    | succ j=>exact .inr ⟨j,ds,by simpa using I,by simpa using D⟩
   ·rintro(rfl | ⟨j,ds,I,D⟩)
    ·exact⟨0,_,rfl,rfl⟩
    ·exact⟨j+1,ds,by simpa using I,by simpa using D⟩
variable{G':Gd}{W':Addr->Prop}
protected def PtsOk.step(h:PtsOk K G W H ps as us)(k:∀a vs,a∈as->H a=some (.lst vs)->W' a/\H' a=some (.lst vs))(r:∀d v,Rep K H (Ow G W) d v->Rep K H' (Ow G' W') d v)(rs:∀ds vs,Reps K H (Ow G W) ds vs->Reps K H' (Ow G' W') ds vs):PtsOk K G' W' H' ps as us:=by
 induction h with
 | nil=>exact .nil
 | d q _ ih=>exact .d (r _ _ q) (ih k)
 | o hW hl q _ ih =>
   obtain⟨D,I⟩:=k _ _ bn hl;exact .o D I (rs _ _ q) (ih λa vs J=>k a vs (ax _ J))
protected def PtsRo.step(h:PtsRo K G W H ps us)(k:∀a vs,¬W a->H a=some (.lst vs)->¬W' a/\H' a=some (.lst vs))(r:∀d v,Rep K H (Ow G W) d v->Rep K H' (Ow G' W') d v)(rs:∀ds vs,Reps K H (Ow G W) ds vs->Reps K H' (Ow G' W') ds vs):PtsRo K G' W' H' ps us:=by
 induction h with
 | nil=>exact .nil
 | d q _ ih=>exact .d (r _ _ q) ih
 | o hW hl q _ ih=>obtain⟨D,I⟩:=k _ _ hW hl;exact .o D I (rs _ _ q) ih
variable{j:Nat}
def PtsRo.get(h:PtsRo K G W H ps us)(e:ps[j]?=some (.o ds)):∃a vs,us[j]?=some (.ref a)/\¬W a/\H a=some (.lst vs)/\Reps K H (Ow G W) ds vs:=by
 induction h generalizing j with
 | nil=>simp at e
 | d _ _ ih =>
   cases j with
   | zero=>simp at e
   | succ j=>obtain⟨a,vs,h1,h2⟩:=ih (j:=j) (by simpa using e);exact⟨a,vs,by simpa using h1,h2⟩
 | @o _ a vs _ _ hW hl r _ ih =>
   cases j with
   | zero=>simp at e;subst e;exact⟨a,vs,rfl,hW,hl,r⟩
   | succ j=>obtain⟨a,vs,h1,h2⟩:=ih (j:=j) (by simpa using e);exact⟨a,vs,by simpa using h1,h2⟩
def PtsRo.getD(h:PtsRo K G W H ps us)(e:ps[j]?=some (.d d)):∃v,us[j]?=some v/\Rep K H (Ow G W) d v:=by
 induction h generalizing j with
 | nil=>simp at e
 | d q _ ih =>
   cases j with
   | zero=>simp at e;subst e;exact⟨_,rfl,q⟩
   | succ j=>obtain⟨a,h1,h2⟩:=ih (j:=j) (by simpa using e);exact⟨a,by simpa using h1,h2⟩
 | o _ _ _ _ ih =>
   cases j with
   | zero=>simp at e
   | succ j=>obtain⟨a,h1,h2⟩:=ih (j:=j) (by simpa using e);exact⟨a,by simpa using h1,h2⟩
variable{k:AK}{p:Addr}
theorem vd{D:k8}(h:AkOk K H k p us)(h':AkH H k p D):D=us:=by
 cases k with
 | ls=>have h:H p=_:=h;have h':H p=_:=h';rw[h] at h';cases h';rfl
 | ins b c fs =>
   obtain⟨C,dx,_,I,R⟩:=h;obtain⟨l',S,J,e⟩:=h';rw[I] at e;have e:fs.zip us=fs.zip D:=by injection e with e;injection e
   have:=congrArg (List.map Prod.snd) e;rw[List.map_snd_zip (by lia),List.map_snd_zip (by lia)] at this;exact this.symm
protected def AkOk.o{K:k4}{H:Hp}{k:AK}{p:Addr}{us:k8}(h:AkOk K H k p us):AkH H k p us:=by
 cases k with
 | ls=>exact h
 | ins b c fs=>obtain⟨C,dx,_,D,I⟩:=h;exact⟨I,C,dx,D⟩
def AkOk.mo(h:AkOk K H k p us):∃m:Mo,H p=some m.out/\∀H',H' p=some m.out->AkOk K H' k p us:=by
 cases k with
 | ls=>exact⟨.l us,h,λH' e=>e⟩
 | ins b c fs=>obtain⟨C,dx,D,I,J⟩:=h;exact⟨.i C dx (fs.zip us),I,λH' e=>⟨C,dx,D,e,J⟩⟩
variable{s:Sl}
def SlOk.owns(h:SlOk K G W H s v)(o:Owns H s v a):W a:=by
 cases s with
 | sh d=>exact o.elim
 | ow ds=>obtain⟨l,vs,e,D,_⟩:=h;rw[show v=.ref a from o] at e;cases e;exact D
 | o2 dss =>
   obtain⟨l,ls,e,D,S,U,hi⟩:=h;rcases o with o | ⟨l',ls',e',hl',ha⟩
   ·rw[o] at e;cases e;exact D
   ·rw[e] at e';cases e'
    rw[S] at hl';have:=vk (by simpa using hl');subst this;obtain⟨j,J,V⟩:=mf ha;have I:j<dss.length:=by rw[<-hi.1];exact J
    exact(hi.2 j dss[j] a (by simp[I]) (by simp[J,V])).1
 | ag k r ps =>
   obtain⟨p,as,us,e,D,U,Z,Y,R⟩:=h;rcases o with o | ⟨p',us',e',hk',ha⟩
   ·rw[o] at e;cases e;exact D
   ·rw[e] at e';cases e'
    rw[vd Y hk'] at ha;exact(R.own (R.parts_iff.mp ha)).1
 | al _ _=>exact o.elim
 | ro _ _=>exact o.elim
def SlOk.back(h:SlOk K G W H s v)(k:∀l,v=.ref l->W l->∀m:Mo,H l=some m.out->H' l=some m.out)(o:Owns H' s v a):Owns H s v a:=by
 cases s with
 | sh d=>exact o.elim
 | ow ds=>exact o
 | o2 dss =>
   obtain⟨l,ls,e,D,I,R,hi⟩:=h;rcases o with o | ⟨l',ls',e',hl',ha⟩
   ·exact .inl o
   ·rw[e] at e';cases e'
    rw[k l e D (.l _) I] at hl';have:=vk (by simpa using hl');subst this;exact .inr ⟨l,ls,e,I,ha⟩
 | ag q r ps =>
   obtain⟨p,as,us,e,D,R,V,J,Y⟩:=h;rcases o with o | ⟨p',us',e',hk',ha⟩
   ·exact .inl o
   ·rw[e] at e';cases e'
    obtain⟨m,S,U⟩:=J.mo;rw[vd (U H' (k p e D m S)) hk'] at ha;exact .inr ⟨p,us,e,J.o,ha⟩
 | al _ _=>exact o.elim
 | ro _ _=>exact o.elim
structure Step (W:Addr->Prop) (H:Hp) (W':Addr->Prop) (H':Hp):Prop where
 keep:∀b o,H b=some o->¬W b->H' b=some o
 ws:∀l,W' l->W l\/H l=none
def Step.refl:Step W H W H:=⟨λ_ _ e _=>e,λ_ h=>.inl h⟩
def Step.trans{W1 D:Addr->Prop}(a:Step W H W1 H1)(b:Step W1 H1 D H2):Step W H D H2 where
 keep:=λc o e n=>b.keep c o (a.keep c o e n) λz=>(a.ws c z).elim n λq=>by rw[q] at e;cases e
 ws:=λl h=>by
  rcases b.ws l h with z | z
  ·exact a.ws l z
  ·by_cases n:W l
   ·exact .inl n
   ·cases e:H l with
    | none=>exact .inr rfl
    | some o=>rw[a.keep l o e n] at z;cases z
def Step.same(h:Same H H'):Step W H W H':=⟨λb o e _=>h b o e,λ_ h=>.inl h⟩
variable{H0:Hp}
def Ok.wkeep(ok:Ok K G H0 W env σ H)(st:Step W H W' H'):∀b o,H b=some o->(∀m:Mo,o≠m.out)->H' b=some o:=λb o e n =>
 st.keep b o e λz=>by obtain⟨_,m,q⟩:=ok.wl b z;rw[e] at q;exact n m (bq q)
def Rd.keep{u:HO}(h:Rd H a u)(k:∀o,H a=some o->H' a=some o):Rd H' a u:=by
 rcases h with h | ⟨o,h⟩
 ·exact .inl (k _ h)
 ·exact .inr ⟨o,k _ h⟩
def Ok.tstep(ok:Ok K G H0 W env σ H)(st:Step W H W' H'):∀a vs,H a=some (.tup vs)->H' a=some (.tup vs):=λ_ _ h=>ok.wkeep st _ _ h λm z=>by cases m <;> cases z
def Ok.istep(ok:Ok K G H0 W env σ H)(st:Step W H W' H'):∀a (u:Im),H a=some u.out->H' a=some u.out:=λ_ u h=>ok.wkeep st _ _ h λm z=>by cases u <;> cases m <;> cases z
def Ok.lstep(ok:Ok K G H0 W env σ H)(st:Step W H W' H'):∀a vs,Ow G W a->Rd H a (.lst vs)->Ow G W' a/\Rd H' a (.lst vs):=λa vs o h=>by
 refine⟨⟨o.1,λz=>?_⟩,h.keep λu e=>st.keep a u e o.2⟩;rcases st.ws a z with q | q
 ·exact o.2 q
 ·rcases h with h | ⟨_,h⟩ <;> rw[q] at h <;> cases h
def Ok.lsstep(ok:Ok K G H0 W env σ H)(st:Step W H W' H')(h:LsOk K H (Ow G W) a vs):LsOk K H' (Ow G W') a vs:=h.elim (λz=>.inl (ok.lstep st a vs z.1 z.2)) .inr
def Ok.rep(ok:Ok K G H0 W env σ H)(st:Step W H W' H')(r:Rep K H (Ow G W) d v):Rep K H' (Ow G W') d v:=r.mono (ok.istep st) (ok.lstep st)
def Ok.reps(ok:Ok K G H0 W env σ H)(st:Step W H W' H'){d:k9}{v:k8}(r:Reps K H (Ow G W) d v):Reps K H' (Ow G W') d v:=r.mono (ok.istep st) (ok.lstep st)
def Ok.slstep(ok:Ok K G H0 W env σ H)(st:Step W H W' H')(h:SlOk K G W H s v)(k:∀a (m:Mo),Owns H s v a->H a=some m.out->W' a/\H' a=some m.out):SlOk K G W' H' s v:=by
 cases s with
 | sh d=>exact ok.rep st h
 | ow ds =>
   obtain⟨l,vs,e,I,R,r⟩:=h;obtain⟨h1,h2⟩:=k l (.l vs) e R;exact⟨l,vs,e,h1,h2,ok.reps st r⟩
 | o2 dss =>
   obtain⟨l,ls,e,I,R,Y,hi⟩:=h;obtain⟨h1,h2⟩:=k l (.l _) (.inl e) R;have f:∀a vs,a∈ls->H a=some (.lst vs)->W' a/\H' a=some (.lst vs):=λa vs J D=>k a (.l vs) (.inr ⟨l,ls,e,R,J⟩) D;refine⟨l,ls,e,h1,h2,Y,hi.1,λj ds a g D=>?_⟩;obtain⟨_,vs,J,i⟩:=hi.2 j ds a g D;obtain⟨k1,k2⟩:=f a vs (bi D) J;exact⟨k1,vs,k2,ok.reps st i⟩
 | ag q r ps =>
   obtain⟨p,as,us,e,I,Y,t,S,U⟩:=h;obtain⟨m,V,Z⟩:=S.mo;obtain⟨h1,h2⟩:=k p m (.inl e) V;exact⟨p,as,us,e,h1,Y,t,Z H' h2,U.step (λa vs J D=>k a (.l vs) (.inr ⟨p,us,e,S.o,U.parts_iff.mpr J⟩) D) (λ_ _ r=>ok.rep st r) λ_ _ r=>ok.reps st r⟩
 | al _ _=>exact h
 | ro q ps =>
   obtain⟨p,us,e,I,S,U⟩:=h;have b:∀a o,¬W a->H a=some o->¬W' a:=λa o n e z=>(st.ws a z).elim n λy=>by rw[y] at e;cases e
   obtain⟨m,V,Z⟩:=S.mo;exact⟨p,us,e,b p _ I V,Z H' (st.keep p _ V I),U.step (λa vs c D=>⟨b a _ c D,st.keep a _ D c⟩) (λ_ _ r=>ok.rep st r) λ_ _ r=>ok.reps st r⟩
def Ok.same(ok:Ok K G H0 W env σ H)(s:Same H H'):Ok K G H0 W env σ H':=by
 have st:Step W H W H':=Step.same s;have bk:∀ {i:Nat} {sl:Sl} {v:V} {a:Addr},env[i]?=some (some sl)->σ[i]?=some (some v)->Owns H' sl v a->Owns H sl v a:=λ{i sl v a} e I o=>by
  obtain⟨Z,D,h⟩:=ok.slot i sl e;rw[I] at D;cases D;exact h.back (λl _ _ vs q=>s l _ q) o
 refine⟨ok.stay.trans s,ok.good,λl h=>?_,λi sl e=>?_,λi j S s2 v1 v2 a I D J R U Y=>ok.uniq i j S s2 v1 v2 a I D J R (bk I J U) (bk D R Y),ok.len⟩
 ·obtain⟨a,vs,b⟩:=ok.wl l h
  exact⟨a,vs,s _ _ b⟩
 ·obtain⟨v,I,h⟩:=ok.slot i sl e
  exact⟨v,I,ok.slstep st h λa vs o D=>⟨h.owns o,s _ _ D⟩⟩
def oh{o:HO}(h:H a=none):Same H (upd H a o):=λb u e=>by rw[gg (m6 e h)];exact e
def addW(W:Addr->Prop)(l:Addr):Addr->Prop:=λa=>W a\/a=l
def Ok.fresh0(ok:Ok K G H0 W env σ H)(s:Same H H')(D:H l=none)(I:H' l=some (.lst vs)) :
  ¬W l/\H0 l=none/\Ok K G H0 (addW W l) env σ H'/\Step W H (addW W l) H':=by
 have R:H0 l=none:=ok.stay.free D;have S:¬W l:=λz=>by obtain⟨_,vs,q⟩:=ok.wl l z;rw[D] at q;cases q
 have st:Step W H (addW W l) H':=⟨λb o e _=>s b o e,λa z=>z.elim .inl λq=>.inr (by rw[q];exact D)⟩;have J:=ok.same s;refine⟨S,R,⟨ok.stay.trans s,ok.good,λa z=>?_,λi sl e=>?_,J.uniq,ok.len⟩,st⟩
 ·rcases z with z | rfl
  ·obtain⟨q,us,b⟩:=ok.wl a z
   exact⟨q,us,s _ _ b⟩
  ·exact⟨R,.l vs,I⟩
 ·obtain⟨v,U,h⟩:=ok.slot i sl e
  exact⟨v,U,ok.slstep st h λa vs o V=>⟨.inl (h.owns o),s _ _ V⟩⟩
def Ok.fresh(ok:Ok K G H0 W env σ H)(s:Same H H')(D:H l=none)(I:H' l=some (.lst vs))(r:Reps K H' (λa=>(Ow G W a\/H a=none)/\a≠l) ds vs) :
  ¬W l/\H0 l=none/\Ok K G H0 (addW W l) env σ H'/\Reps K H' (Ow G (addW W l)) ds vs/\Step W H (addW W l) H':=by
 have R:H0 l=none:=ok.stay.free D;have S:¬W l:=λz=>by obtain⟨_,vs,q⟩:=ok.wl l z;rw[D] at q;cases q
 have st:Step W H (addW W l) H':=⟨λb o e _=>s b o e,λa z=>z.elim .inl λq=>.inr (by rw[q];exact D)⟩;have U:∀a,W a->H a≠none:=λa z q=>by obtain⟨_,vs,e⟩:=ok.wl a z;rw[q] at e;cases e
 have J:=ok.same s;refine⟨S,R,⟨ok.stay.trans s,ok.good,λa z=>?_,λi sl e=>?_,J.uniq,ok.len⟩,r.mono (λ_ _ h=>h) λa us o h=>⟨⟨?_,?_⟩,h⟩,st⟩
 ·rcases z with z | rfl
  ·obtain⟨q,us,b⟩:=ok.wl a z
   exact⟨q,us,s _ _ b⟩
  ·exact⟨R,.l vs,I⟩
 ·obtain⟨v,V,h⟩:=ok.slot i sl e
  exact⟨v,V,ok.slstep st h λa vs o Y=>⟨.inl (h.owns o),s _ _ Y⟩⟩
 ·rcases o.1 with q | q
  ·exact q.1
  ·exact ok.good a (ok.stay.free q)
 ·rintro(z | z)
  ·rcases o.1 with q | q
   ·exact q.2 z
   ·exact U a z q
  ·exact o.2 z
def Ok.noOwn(ok:Ok K G H0 W env σ H)(I:¬W l):∀(j:Nat) (s:Sl) (v:V),env[j]?=some (some s)->σ[j]?=some (some v)->¬Owns H s v l:=λj s v e J o=>by
 obtain⟨R,D,h⟩:=ok.slot j s e;rw[J] at D;cases D;exact I (h.owns o)
variable{α:Type}
def zmi{N:List α}(D:N.Nodup){x:α}(a:N[i]?=some x)(b:N[j]?=some x):i=j:=by
 obtain⟨h1,I⟩:=aj.mp a;obtain⟨h2,J⟩:=aj.mp b;exact(List.getElem_inj D).mp (I.trans J.symm)
theorem m4{xs:List α}{x y:α}(h:(xs.set i x)[j]?=some y):(i=j/\y=x/\i<xs.length)\/(i≠j/\xs[j]?=some y):=by
 by_cases D:i=j
 ·subst D
  by_cases hi:i<xs.length
  ·rw[d5 hi] at h;cases h;exact .inl ⟨rfl,rfl,hi⟩
  ·rw[cr (by rw[dn];lia)] at h;cases h
 ·rw[db D] at h;exact .inr ⟨D,h⟩
def Ok.put(ok:Ok K G H0 W env σ H)(h:SlOk K G W H s v)(Z:∀(j:Nat) (s':Sl) (b:V) (a:Addr),env[j]?=some (some s')->σ[j]?=some (some b)->Owns H s v a->¬Owns H s' b a) :
  Ok K G H0 W (env.set i (some s)) (σ.set i (some v)) H:=by
 refine⟨ok.stay,ok.good,ok.wl,λj sl e=>?_,λj k c s2 v1 v2 a S d D I U Y=>?_,by rw[dn,dn,ok.len]⟩
 ·rcases m4 e with⟨rfl,q,hi⟩ | ⟨hj,q⟩
  ·cases q
   exact⟨v,d5 (by rw[<-ok.len];exact hi),h⟩
  ·obtain⟨u,S,r⟩:=ok.slot j sl q
   exact⟨u,by rw[db hj];exact S,r⟩
 ·rcases m4 S with⟨a1,b1,c1⟩ | ⟨a1,b1⟩ <;> rcases m4 d with⟨J,R,f⟩ | ⟨J,R⟩
  ·rw[<-a1,<-J]
  ·subst a1
   cases b1;rw[d5 (by rw[<-ok.len];exact c1)] at D;cases D;rw[db J] at I;exact absurd Y (Z k s2 v2 a R I U)
  ·subst J
   cases R;rw[d5 (by rw[<-ok.len];exact f)] at I;cases I;rw[db a1] at D;exact absurd U (Z j c v1 a b1 D Y)
  ·rw[db a1] at D
   rw[db J] at I;exact ok.uniq j k c s2 v1 v2 a b1 R D I U Y
def Ok.set(ok:Ok K G H0 W env σ H)(r:Rep K H (Ow G W) d v):Ok K G H0 W (env.set i (some (.sh d))) (σ.set i (some v)) H :=
 ok.put (s:=.sh d) r λ_ _ _ _ _ _ o=>o.elim
def Ok.setO(ok:Ok K G H0 W env σ H)(D:W l)(I:H l=some (.lst vs))(r:Reps K H (Ow G W) ds vs)(J:∀(j:Nat) (s:Sl) (v:V),env[j]?=some (some s)->σ[j]?=some (some v)->¬Owns H s v l) :
  Ok K G H0 W (env.set i (some (.ow ds))) (σ.set i (some (.ref l))) H :=
 ok.put (s:=.ow ds) ⟨l,vs,rfl,D,I,r⟩ λj s' R a e S o=>by
  have:l=a:=by have o:V.ref l=V.ref a:=o;simpa using o
  subst this;exact J j s' R e S
def Ok.let(ok:Ok K G H0 W env σ H)(e:env[i]?=some (some s))(U:σ[i]?=some (some v))(W':Addr->Prop)(I:∀a,W' a↔W a/\¬Owns H s v a)(r:Rep K H (Ow G W') d v) :
  Step W H W' H/\Ok K G H0 W' (env.set i (some (.sh d))) σ H:=by
 have st:Step W H W' H:=⟨λb o q _=>q,λa z=>.inl ((I a).mp z).1⟩;refine⟨st,⟨ok.stay,ok.good,λa z=>ok.wl a ((I a).mp z).1,λj sl q=>?_,λj k c s2 v1 v2 a f J g l V Y=>?_,by rw[dn,ok.len]⟩⟩
 ·rcases m4 q with⟨rfl,D,_⟩ | ⟨hj,D⟩
  ·cases D
   exact⟨v,U,r⟩
  ·obtain⟨u,Z,h⟩:=ok.slot j sl D
   exact⟨u,Z,ok.slstep st h λa vs o J=>⟨(I a).mpr ⟨h.owns o,λz=>hj (ok.uniq i j s sl v u a e D U Z z o)⟩,J⟩⟩
 ·rcases m4 f with⟨_,R,_⟩ | ⟨a1,R⟩
  ·cases R;exact V.elim
  ·rcases m4 J with⟨_,S,_⟩ | ⟨a2,S⟩
   ·cases S;exact Y.elim
   ·exact ok.uniq j k c s2 v1 v2 a R S g l V Y
def Ok.share(ok:Ok K G H0 W env σ H)(e:env[i]?=some (some (.ow ds))) :
  ∃W' v,σ[i]?=some (some v)/\Step W H W' H/\Ok K G H0 W' (env.set i (some (.sh (.lst ds)))) σ H/\Rep K H (Ow G W') (.lst ds) v:=by
 obtain⟨v,I,l,vs,rfl,R,S,r⟩:=ok.slot i _ e;have J:Rep K H (Ow G λa=>W a/\¬Owns H (.ow ds) (.ref l) a) (.lst ds) (.ref l) :=
  .lst ⟨ok.good l (ok.wl l R).1,λz=>z.2 rfl⟩ (.inl S) (r.mono (λ_ _ h=>h) λa us o h=>⟨⟨o.1,λz=>o.2 z.1⟩,h⟩)
 obtain⟨st,D⟩:=ok.let e I _ (λa=>Iff.rfl) J;exact⟨_,.ref l,I,st,D,J⟩
def zmj:∀ {dss:List k9} {ls:ia},Inn K G W H dss ls->(∀a,a∈ls->W a->G a/\¬W' a)->(∀ds vs,Reps K H (Ow G W) ds vs->Reps K H (Ow G W') ds vs)->Reps K H (Ow G W') (dss.map D.lst) (ls.map V.ref)
 | [],[],_,_,_=>.nil
 | ds::dss,a::ls,h,g,r=>by
   obtain⟨R,vs,S,U⟩:=h.2 0 ds a rfl rfl;refine .cons (.lst (g a bn R) (.inl S) (r _ _ U)) (zmj (dss:=dss) (ls:=ls) ⟨Nat.succ.inj h.1,λj ds' I Y Z=>h.2 (j+1) ds' I (by simpa using Y) (by simpa using Z)⟩ (λI J=>g I (ax _ J)) r)
variable{dss:List k9}
def Ok.share2(ok:Ok K G H0 W env σ H)(e:env[i]?=some (some (.o2 dss))) :
  ∃W' v,σ[i]?=some (some v)/\Step W H W' H/\Ok K G H0 W' (env.set i (some (.sh (.lst (dss.map D.lst))))) σ H/\Rep K H (Ow G W') (.lst (dss.map D.lst)) v:=by
 obtain⟨v,J,l,ls,rfl,U,R,Z,hi⟩:=ok.slot i _ e;have S:Rep K H (Ow G λa=>W a/\¬Owns H (.o2 dss) (.ref l) a) (.lst (dss.map D.lst)) (.ref l) :=
  .lst ⟨ok.good l (ok.wl l U).1,λz=>z.2 (.inl rfl)⟩ (.inl R) (zmj hi (λa V Y=>⟨ok.good a (ok.wl a Y).1,λz=>z.2 (.inr ⟨l,ls,rfl,R,V⟩)⟩) λds vs r=>r.mono (λ_ _ h=>h) λa us o h=>⟨⟨o.1,λz=>o.2 z.1⟩,h⟩)
 obtain⟨st,I⟩:=ok.let e J _ (λa=>Iff.rfl) S;exact⟨_,.ref l,J,st,I,S⟩
def Ok.chg(ok:Ok K G H0 W env σ H){s':Sl}(J:Mo)(e:env[i]?=some (some s))(f:σ[i]?=some (some v))(t:Owns H s v a)(w:SlOk K G W (upd H a J.out) s' v)(g:∀b,Owns (upd H a J.out) s' v b->Owns H s v b):Ok K G H0 W (env.set i (some s')) σ (upd H a J.out)/\Step W H W (upd H a J.out):=by
 have Y:W a:=by obtain⟨L,Z,h⟩:=ok.slot i s e;rw[f] at Z;cases Z;exact h.owns t
 have st:Step W H W (upd H a J.out):=⟨λb o q n=>by rw[gg (λz:b=a=>n (by rw[z];exact Y))];exact q,λb z=>.inl z⟩;have r:∀ {j:Nat} {sl:Sl} {u:V} {b:Addr},i≠j->env[j]?=some (some sl)->σ[j]?=some (some u)->Owns H sl u b->b≠a:=λ{j sl u b} hj q D o z=>by
  subst z;exact hj (ok.uniq i j s sl v u b e q f D t o)
 have bk:∀ {j:Nat} {sl:Sl} {u:V} {b:Addr},i≠j->env[j]?=some (some sl)->σ[j]?=some (some u)->Owns (upd H a J.out) sl u b->Owns H sl u b:=λ{j sl u b} hj q D o=>by
  obtain⟨M,R,h⟩:=ok.slot j sl q;rw[D] at R;cases R;cases sl with
  | sh d=>exact o.elim
  | ow ds=>exact o
  | o2 dss=>exact h.back (λl S _ vs U=>by rw[gg (r hj q D (.inl S))];exact U) o
  | ag k p ps=>exact h.back (λl S _ vs U=>by rw[gg (r hj q D (.inl S))];exact U) o
  | al _ _=>exact o.elim
  | ro _ _=>exact o.elim
 refine⟨⟨λb o q=>?_,ok.good,λb z=>?_,λj sl q=>?_,λj k N s2 v1 v2 b D R S U x o2=>?_,by rw[dn,ok.len]⟩,st⟩
 ·rw[gg (λz=>by rw[z,(ok.wl a Y).1] at q;cases q)];exact ok.stay b o q
 ·obtain⟨q,us,g⟩:=ok.wl b z
  by_cases h:b=a
  ·exact⟨q,J,by rw[h,j0]⟩
  ·exact⟨q,us,by rw[gg h];exact g⟩
 ·rcases m4 q with⟨rfl,I,_⟩ | ⟨hj,I⟩
  ·cases I
   exact⟨v,f,w⟩
  ·obtain⟨u,Z,h⟩:=ok.slot j sl I
   exact⟨u,Z,ok.slstep st h λb vs o R=>⟨h.owns o,by rw[gg (r hj I Z o)];exact R⟩⟩
 ·have back:∀ {m:Nat} {sl:Sl} {u:V},(env.set i (some s'))[m]?=some (some sl)->σ[m]?=some (some u)->Owns (upd H a J.out) sl u b->∃c,env[m]?=some (some c)/\Owns H c u b:=λ{m sl u} q D o=>by
   rcases m4 q with⟨rfl,I,_⟩ | ⟨hj,I⟩
   ·cases I
    rw[f] at D;cases D;exact⟨s,e,g b o⟩
   ·exact⟨sl,I,bk hj I D o⟩
  obtain⟨y,A,B⟩:=back D S x;obtain⟨C,E,F⟩:=back R U o2;exact ok.uniq j k y C v1 v2 b A E S U B F
variable{ds':k9}{vs':k8}
def Ok.turn(ok:Ok K G H0 W env σ H)(e:env[i]?=some (some (.ow ds)))(I:σ[i]?=some (some (.ref l)))(r:Reps K H (Ow G W) ds' vs') :
  Ok K G H0 W (env.set i (some (.ow ds'))) σ (upd H l (.lst vs'))/\Step W H W (upd H l (.lst vs')):=by
 obtain⟨v,D,l',vs,rfl,J,R,_⟩:=ok.slot i _ e;rw[I] at D;cases D;have st:Step W H W (upd H l (.lst vs')):=⟨λb o q n=>by rw[gg (λz:b=l=>n (by rw[z];exact J))];exact q,λb z=>.inl z⟩;exact ok.chg (.l vs') e I (show Owns H (.ow ds) (.ref l) l from rfl) ⟨l,vs',rfl,J,j0,ok.reps st r⟩ λb o=>o
def Ok.turn2(ok:Ok K G H0 W env σ H)(e:env[i]?=some (some (.o2 dss)))(m:σ[i]?=some (some (.ref l)))(S:H l=some (.lst (ls.map V.ref)))(s:dss[j]?=some ds)(U:ls[j]?=some a)(r:Reps K H (Ow G W) ds' vs'):Ok K G H0 W (env.set i (some (.o2 (dss.set j ds')))) σ (upd H a (.lst vs'))/\Step W H W (upd H a (.lst vs')):=by
 obtain⟨v,D,l',Z,rfl,t,I,c,hi⟩:=ok.slot i _ e;rw[m] at D;cases D;rw[S] at I;have:=vk (by simpa using I);subst this;have p:a∈ls:=bi U;have J:W a:=(hi.2 j ds a s U).1;have st:Step W H W (upd H a (.lst vs')):=⟨λb o q n=>by rw[gg (λz:b=a=>n (by rw[z];exact J))];exact q,λb z=>.inl z⟩;have d:l≠a:=λz=>by subst z;exact(bx.mp c).1 p
 have R:upd H a (.lst vs') l=some (.lst (ls.map V.ref)):=by rw[gg d];exact S
 refine ok.chg (.l vs') e m (.inr ⟨l,ls,rfl,S,p⟩) ⟨l,ls,rfl,t,R,c,by rw[dn];exact hi.1,λk es b u Y=>?_⟩ λb o=>?_
 ·rcases m4 u with⟨rfl,z,_⟩ | ⟨hk,q'⟩
  ·cases z
   rw[U] at Y;cases Y;exact⟨J,vs',j0,ok.reps st r⟩
  ·obtain⟨f,us,g,w⟩:=hi.2 k es b q' Y
   refine⟨f,us,?_,ok.reps st w⟩;have h:b≠a:=λz=>hk (by
    subst z;exact zmi (bx.mp c).2 U Y)
   rw[gg h];exact g
 ·rcases o with o | ⟨l',Z,z,q,g⟩
  ·exact .inl o
  ·cases z
   rw[R] at q;have:=vk (by simpa using q);subst this;exact .inr ⟨l,ls,rfl,S,g⟩
def PtsOk.get(h:PtsOk K G W H ps as us)(e:ps[j]?=some (.o ds)):∃a vs,us[j]?=some (.ref a)/\a∈as/\W a/\H a=some (.lst vs)/\Reps K H (Ow G W) ds vs:=by
 induction h generalizing j with
 | nil=>simp at e
 | d _ _ ih =>
   cases j with
   | zero=>simp at e
   | succ j=>obtain⟨a,vs,h1,h2⟩:=ih (j:=j) (by simpa using e);exact⟨a,vs,by simpa using h1,h2⟩
 | @o _ a vs _ _ _ hW hl r _ ih =>
   cases j with
   | zero=>simp at e;subst e;exact⟨a,vs,rfl,bn,hW,hl,r⟩
   | succ j=>obtain⟨a,vs,h1,h2,D⟩:=ih (j:=j) (by simpa using e);exact⟨a,vs,by simpa using h1,ax _ h2,D⟩
def PtsOk.getD(h:PtsOk K G W H ps as us)(e:ps[j]?=some (.d d)):∃v,us[j]?=some v/\Rep K H (Ow G W) d v:=by
 induction h generalizing j with
 | nil=>simp at e
 | d q _ ih =>
   cases j with
   | zero=>simp at e;subst e;exact⟨_,rfl,q⟩
   | succ j=>obtain⟨a,h1,h2⟩:=ih (j:=j) (by simpa using e);exact⟨a,by simpa using h1,h2⟩
 | o _ _ _ _ ih =>
   cases j with
   | zero=>simp at e
   | succ j=>obtain⟨a,h1,h2⟩:=ih (j:=j) (by simpa using e);exact⟨a,by simpa using h1,h2⟩
def PtsOk.set(st:Step W H W (upd H a (.lst vs')))(ok:Ok K G H0 W env σ H)(h:PtsOk K G W H ps as us)(I:as.Nodup)(e:ps[j]?=some (.o ds))(D:us[j]?=some (.ref a))(r:Reps K H (Ow G W) ds' vs') :
  PtsOk K G W (upd H a (.lst vs')) (ps.set j (.o ds')) as us:=by
 induction h generalizing j with
 | nil=>simp at e
 | d q t ih =>
   cases j with
   | zero=>simp at e
   | succ j=>exact .d (ok.rep st q) (ih I (by simpa using e) (by simpa using D))
 | @o es b vs ps' as' us' hW hl q t ih =>
   cases j with
   | zero =>
     simp at D;subst D;refine .o hW j0 (ok.reps st r) (t.step (λb vs J D=>⟨(t.own J).1,?_⟩) (λ_ _ r=>ok.rep st r) λ_ _ r=>ok.reps st r);rw[gg (λz:b=_=>by subst z;exact(bx.mp I).1 J)];exact D
   | succ j =>
     have R:a∈as':=t.parts_iff.mp ⟨j,ds,e,D⟩;have S:b≠a:=λz=>by subst z;exact(bx.mp I).1 R
     exact .o hW (by rw[gg S];exact hl) (ok.reps st q) (ih (bx.mp I).2 e D)
variable{b:Expr}
def ztc{b:Addr}(e:ps[j]?=some (.o ds))(h:zvn (ps.set j (.o ds')) us b):zvn ps us b:=by
 obtain⟨i,es,h1,h2⟩:=h;rcases m4 h1 with⟨rfl,_,_⟩ | ⟨_,z⟩
 ·exact⟨j,ds,e,h2⟩
 ·exact⟨i,es,z,h2⟩
variable{r:Option Nat}
def Ok.turnP(ok:Ok K G H0 W env σ H)(e:env[i]?=some (some (.ag k r ps)))(g:σ[i]?=some (some (.ref p)))(J:AkOk K H k p us)(R:ps[j]?=some (.o ds))(S:us[j]?=some (.ref a))(s:Reps K H (Ow G W) ds' vs') :
  Ok K G H0 W (env.set i (some (.ag k r (ps.set j (.o ds'))))) σ (upd H a (.lst vs'))/\Step W H W (upd H a (.lst vs')):=by
 obtain⟨v,D,p',as,U,rfl,t,V,u,Y,Z⟩:=ok.slot i _ e;rw[g] at D;cases D;have:=vd Y J.o;subst this;have h:a∈as:=Z.parts_iff.mp ⟨j,ds,R,S⟩;have c:=(Z.own h).1;have st:Step W H W (upd H a (.lst vs')):=⟨λb o q n=>by rw[gg (λz:b=a=>n (by rw[z];exact c))];exact q,λb z=>.inl z⟩;have d:p≠a:=λz=>by subst z;exact(bx.mp V).1 h
 have f:=PtsOk.set st ok Z (bx.mp V).2 R S s;obtain⟨m,w,x⟩:=J.mo;have I:AkOk K (upd H a (.lst vs')) k p us:=x _ (by rw[gg d];exact w);refine ok.chg (.l vs') e g (.inr ⟨p,us,rfl,J.o,j,ds,R,S⟩) ⟨p,as,us,rfl,t,V,u,I,f⟩ λb o=>?_;rcases o with o | ⟨p',U,z,q,hb⟩
 ·exact .inl o
 ·cases z
  rw[vd I q] at hb;exact .inr ⟨p,us,rfl,J.o,ztc R hb⟩
def Ok.turnD(ok:Ok K G H0 W env σ H){d':D}{I:V}(e:env[i]?=some (some (.ag .ls r ps)))(k:σ[i]?=some (some (.ref p)))(s:H p=some (.lst us))(w:ps[j]?=some (.d d))(x:Rep K H (Ow G W) d' I) :
  Ok K G H0 W (env.set i (some (.ag .ls r (ps.set j (.d d'))))) σ (upd H p (.lst (us.set j I)))/\Step W H W (upd H p (.lst (us.set j I))):=by
 obtain⟨v,S,p',as,R,rfl,Y,u,y,J,c⟩:=ok.slot i _ e;rw[k] at S;cases S;have J:H p=some (.lst R):=J;rw[s] at J;cases J;have st:Step W H W (upd H p (.lst (us.set j I))):=⟨λb o q n=>by rw[gg (λz:b=p=>n (by rw[z];exact Y))];exact q,λb z=>.inl z⟩;have f:=ok.rep st x;have g:PtsOk K G W (upd H p (.lst (us.set j I))) ps as us:=c.step (λb vs Z A=>⟨(c.own Z).1,by rw[gg (λz:b=p=>by subst z;exact(bx.mp u).1 Z)];exact A⟩) (λ_ _ r=>ok.rep st r) λ_ _ r=>ok.reps st r;have go:∀ {a:ll} {bs:ia} {ws:k8} (m:Nat),PtsOk K G W (upd H p (.lst (us.set j I))) a bs ws->a[m]?=some (.d d)->PtsOk K G W (upd H p (.lst (us.set j I))) (a.set m (.d d')) bs (ws.set m I):=by
  intro a bs ws m h;induction h generalizing m with
  | nil=>intro e;simp at e
  | d q t ih =>
    intro e;cases m with
    | zero=>exact .d f t
    | succ m=>exact .d q (ih m (by simpa using e))
  | o Y hl q t ih =>
    intro e;cases m with
    | zero=>simp at e
    | succ m=>exact .o Y hl q (ih m (by simpa using e))
 have U:=go j g w;refine ok.chg (.l (us.set j I)) e k (.inl rfl) ⟨p,as,us.set j I,rfl,Y,u,y,j0,U⟩ λb o=>?_;rcases o with o | ⟨p',R,z,q,Z⟩
 ·exact .inl o
 ·cases z
  have q:upd H p (.lst (us.set j I)) p=some (.lst R):=q;rw[j0] at q;cases q;exact .inr ⟨p,us,rfl,s,c.parts_iff.mpr (U.parts_iff.mp Z)⟩
structure At (X:Cx) (i:Nat) (x:Str):Prop where
 n:X.N[i]?=some x
 v:Vis X.env.scope x
 d:(x==("__debug__" : Str))=false
 c:(x==("__classdict__" : Str))=false
def At.pe(h:At X i x):PE X (.Name x pos) (tVar i):=z07 h.n h.v h.d h.c
structure To (X:Cx) (i:Nat) (x:Str):Prop where
 nd:X.N.Nodup
 n:X.N[i]?=some x
 l:Loc X.env.scope x
 f:X.fn x=true\/X.env.scope.names.lookup x=some .local
structure Bn (X:Cx) (x:Str):Prop where
 g:Gl X x
 m:X.mg x=none
structure Ats (N cs:g9) (X:Cx):Prop where
 n:X.N=N
 get:∀i x,N[i]?=some x->At X i x
 ck:∀u∈cs,X.env.kindOf u=some .cell\/X.env.kindOf u=some .free
structure Tos (N:g9) (X:Cx):Prop where
 to:∀i x,N[i]?=some x->To X i x
variable{N cs:g9}
protected def Ats.a(h:Ats N cs X)(e:N[i]?=some x):At X i x:=h.get i x e
protected def Tos.t(h:Tos N X)(e:N[i]?=some x):To X i x:=h.to i x e
def Ats.nox(h:Ats N cs X):Ats N cs X.nox:=⟨h.n,λi x e=>let z:=h.get i x e;⟨z.n,z.v,z.d,z.c⟩,h.ck⟩
def Tos.nox(h:Tos N X):Tos N X.nox:=⟨λi x e=>let z:=h.to i x e;⟨z.nd,z.n,z.l,z.f⟩⟩
def okN(x:Str):Bool:=!(x==("__debug__" : Str)) && !(x==("__classdict__" : Str))
def se(h:okN x=true):(x==("__debug__" : Str))=false/\(x==("__classdict__" : Str))=false:=by
 unfold okN at h;rwa [dr,j2,j2] at h
def ud{o:Option NameKind}{k:NameKind}(h:(o==some k)=true):o=some k:=by
 cases o with
 | none=>cases h
 | some a=>cases a <;> cases k <;> first | rfl | cases h
def subN(N:g9)(ix:ic):g9:=ix.map λi=>N.getD i ("" : Str)
def pk(N cs:g9)(ix:ic)(y:Str)(sc:Scope):Bool:=decide ((y::subN N ix).Nodup) && decide (sc.kind=.function) && (sc.names.lookup y==some .local) && decide (∀z∈sc.names,z.2≠.cell) && decide (∀z∈sc.names,z.2=.local->sc.names.lookup z.1=some .local) && decide (∀z∈sc.names,z.2=.free->z.1∈subN N ix) && (subN N ix).all (λu=>(sc.names.lookup u==some .free) && cs.elem u) && (y::subN N ix).all okN
def gl_d(h:X.env.scope.names.lookup x=some .globalImplicit):Gl X x:=h
variable{s:Shared}{C:Addr}
def z17(h:sc.names.lookup x=some .local):Vis (ip X y N' sc cl C s H fp).env.scope x:=.inl (lookup_relabel_local h)
def z18(h:sc.names.lookup x=some .free):Vis (ip X y N' sc cl C s H fp).env.scope x:=.inr (zcj h)
def vh(hA:Ats N cs X)(h:pk N cs ix y sc=true):ztb X y (subN N ix) ix sc:=by
 unfold pk at h;simp only[dr,decide_eq_true_eq,f9] at h;obtain⟨⟨⟨⟨⟨⟨⟨h1,h2⟩,I⟩,J⟩,R⟩,S⟩,D⟩,_⟩:=h;exact⟨by rw[hA.n];rfl,h1,h2,ud I,J,R,λz U V=>hA.ck z.1 (List.mem_of_elem_eq_true (D z.1 (S z U V)).2),λu Y=>ud (D u Y).1⟩
variable{s₂:Shared}{H₂:Hp}
def sv(h:pk N cs ix y sc=true):Ats (y::subN N ix) (subN N ix) (ip X y (subN N ix) sc cl C s₂ H₂ fp):=by
 unfold pk at h;simp only[dr,decide_eq_true_eq,f9] at h;obtain⟨⟨⟨⟨⟨⟨⟨h1,h2⟩,J⟩,S⟩,U⟩,V⟩,D⟩,I⟩:=h;refine⟨rfl,λi x e=>⟨e,?_,(se (I x (bi e))).1,(se (I x (bi e))).2⟩,λu R=>?_⟩
 ·rcases cb.mp (bi e) with rfl | hm
  ·exact z17 (ud J)
  ·exact z18 (ud (D x hm).1)
 ·exact zcj (env:=X.env) (ud (D u R).1)
abbrev FE:=DE0->Option (D×DE0)
abbrev FT:=DE0->Option (Bool×DE0)
abbrev FA:=DE0->Option (k9×DE0)
inductive DP (K:k4) (G:Gd) (H0:Hp) {β:Type} (f:DE0->Option (β×DE0)) (P:(Addr->Prop)->DE0->β->DE0->Prop) (σ:St) (H:Hp):Prop
 | mk (W:Addr->Prop) (env:DE0) (d:β) (env':DE0) (ok:Ok K G H0 W env σ H) (q:f env=some (d,env')) (k:P W env d env'):DP K G H0 f P σ H
def tD(K:k4)(G:Gd)(H0:Hp)(f:FE):TE:=λσ H Q=>DP K G H0 f (λW env d env' =>
 ∀W' v H',Step W H W' H'->Ok K G H0 W' env' σ H'->Rep K H' (Ow G W') d v->Q v H') σ H
def tDT(K:k4)(G:Gd)(H0:Hp)(f:FT):TT:=λσ H Q=>DP K G H0 f (λW env b env' =>
 ∀W' H',Step W H W' H'->Ok K G H0 W' env' σ H'->Q b H') σ H
def tDA(K:k4)(G:Gd)(H0:Hp)(f:FA):TA:=λσ H Q=>DP K G H0 f (λW env ds env' =>
 ∀W' vs H',Step W H W' H'->Ok K G H0 W' env' σ H'->Reps K H' (Ow G W') ds vs->Q vs H') σ H
def tDF(K:k4)(G:Gd)(H0:Hp)(f:FA):TE:=λσ H Q=>DP K G H0 f (λW env ds env' =>
 ∀W' l vs H',Step W H (addW W' l) H'->Ok K G H0 W' env' σ H'->Ok K G H0 (addW W' l) env' σ H'->¬W' l->H' l=some (.lst vs)->Reps K H' (Ow G (addW W' l)) ds vs->Q (.ref l) H') σ H
structure DEx (X:Cx) (G:Gd) (H0:Hp) (e:Expr) (f:FE):Prop where
 out:PE X e (tD X.K G H0 f)
structure DTx (X:Cx) (G:Gd) (H0:Hp) (e:Expr) (f:FT):Prop where
 out:PT X e (tDT X.K G H0 f)
structure DAx (X:Cx) (G:Gd) (H0:Hp) (es:ka) (f:FA):Prop where
 out:PA X es (tDA X.K G H0 f)
structure DFx (X:Cx) (G:Gd) (H0:Hp) (e:Expr) (f:FA):Prop where
 out:PE X e (tDF X.K G H0 f)
variable{e:Expr}{t:TE}
def PE.imp{t':TE}(h:PE X e t)(i:∀σ H Q,t' σ H Q->t σ H Q):PE X e t':=λpins s σ H Q I q=>h pins s σ H Q I (i σ H Q q)
def PT.imp{t t':TT}(h:PT X e t)(i:∀σ H Q,t' σ H Q->t σ H Q):PT X e t':=λpins s σ H Q I q=>h pins s σ H Q I (i σ H Q q)
def PA.imp{e:ka}{t t':TA}(h:PA X e t)(i:∀σ H Q,t' σ H Q->t σ H Q):PA X e t':=λpos pins s σ H Q I q=>h pos pins s σ H Q I (i σ H Q q)
@[simp] noncomputable def fVar(i:Nat):FE:=λe=>match e[i]? with
 | some (some (.sh d))=>some (d,e)
 | some (some (.ow ds))=>some (.lst ds,e.set i (some (.sh (.lst ds))))
 | some (some (.o2 dss))=>some (.lst (dss.map D.lst),e.set i (some (.sh (.lst (dss.map D.lst)))))
 | _=>none
@[simp] noncomputable def fC(d:D):FE:=λe=>some (d,e)
@[simp] noncomputable def fBin(op:D->D->la)(f g:FE):FE:=λe=>(f e).bind λr=>(g r.2).bind λq=>(op r.1 q.1).map λd=>(d,q.2)
@[simp] noncomputable def fUn(op:D->la)(f:FE):FE:=λe=>(f e).bind λr=>(op r.1).map λd=>(d,r.2)
@[simp] noncomputable def fAnd(f g:FT):FT:=λe=>(f e).bind λr=>if r.1=true then g r.2 else some (false,r.2)
@[simp] noncomputable def fOr(f g:FT):FT:=λe=>(f e).bind λr=>if r.1=true then some (true,r.2) else g r.2
@[simp] noncomputable def fNot(f:FT):FT:=λe=>(f e).map λr=>(!r.1,r.2)
@[simp] noncomputable def fTst(f:FE):FT:=λe=>(f e).bind λr=>match r.1 with | .bl b=>some (b,r.2) | _=>none
@[simp] noncomputable def wf(f g:FE):FE:=λe=>(f e).bind λr=>match r.1 with | .bl true=>g r.2 | .bl false=>some (.bl false,r.2) | _=>none
@[simp] noncomputable def zy6(f:FE):FE:=λe=>(f e).bind λr=>match r.1 with | .bl b=>some (.bl (!b),r.2) | _=>none
@[simp] noncomputable def fNil:FA:=λe=>some ([],e)
@[simp] noncomputable def au(f:FE)(g:FA):FA:=λe=>(f e).bind λr=>(g r.2).bind λq=>some (r.1::q.1,q.2)
@[simp] noncomputable def fTup(g:FA):FE:=λe=>(g e).bind λr=>if r.1.length<=64 then some (.tup r.1,r.2) else none
@[simp] noncomputable def fo(g:FA):FA:=λe=>(g e).bind λr=>if r.1.length<=64 then some (r.1,r.2) else none
@[simp] noncomputable def fLst(g:FA):FE:=λe=>(g e).map λr=>(.lst r.1,r.2)
@[simp] noncomputable def gz:D->D->la | .int i,.int j=>some (.int (i+j)) | _,_=>none
@[simp] noncomputable def dSub:D->D->la | .int i,.int j=>some (.int (i-j)) | _,_=>none
def kq(i:Int):Prop:=-(2 ^ 64)<i/\i<2 ^ 64
noncomputable instance (i:Int):Decidable (kq i):=Classical.propDecidable _
def Few(n:Nat):Prop:=n<=2 ^ 20
noncomputable instance (n:Nat):Decidable (Few n):=Classical.propDecidable _
def Bnd(lo hi i:Int):Prop:=lo<=i/\i<hi
noncomputable instance (lo hi i:Int):Decidable (Bnd lo hi i):=Classical.propDecidable _
def dMul:D->D->la | .int i,.int j=>if kq i\/kq j then some (.int (i*j)) else none | _,_=>none
def dMod:D->D->la | .int i,.int j=>if 0<j then some (.int (i % j)) else none | _,_=>none
def dDiv:D->D->la | .int i,.int j=>if Bnd 1 1073741824 j then some (.int (i / j)) else none | _,_=>none
@[simp] noncomputable def dNeg:D->la | .int i=>some (.int (-i)) | _=>none
@[simp] noncomputable def dLt:D->D->la | .int i,.int j=>some (.bl (decide (i<j))) | _,_=>none
@[simp] noncomputable def dLe:D->D->la | .int i,.int j=>some (.bl (decide (i<=j))) | _,_=>none
@[simp] noncomputable def dGt:D->D->la | .int i,.int j=>some (.bl (decide (j<i))) | _,_=>none
@[simp] noncomputable def dGe:D->D->la | .int i,.int j=>some (.bl (decide (j<=i))) | _,_=>none
@[simp] noncomputable def dEq:D->D->la
 | .int i,.int j=>some (.bl (decide (i=j))) | .str i,.str j=>some (.bl (decide (i=j))) | .bl i,.bl j=>some (.bl (decide (i=j))) | _,_=>none
@[simp] noncomputable def dNe:D->D->la
 | .int i,.int j=>some (.bl (!decide (i=j))) | .str i,.str j=>some (.bl (!decide (i=j))) | .bl i,.bl j=>some (.bl (!decide (i=j))) | _,_=>none
@[simp] noncomputable def dIx:D->D->la | .tup ds,.int i=>atI ds i | .lst ds,.int i=>atI ds i | _,_=>none
def OpD(X:Cx)(G:Gd)(H0:Hp)(r:R2)(op:D->D->la):Prop :=
 ∀W env σ H x y d1 d2 d (Q:VK),Ok X.K G H0 W env σ H->Rep X.K H (Ow G W) d1 x->Rep X.K H (Ow G W) d2 y->op d1 d2=some d ->
  (∀v H',Step W H W H'->Ok X.K G H0 W env σ H'->Rep X.K H' (Ow G W) d v->Q v H')->r x y H Q
variable{r:R2}{op:D->D->la}{g:FE}
def zvo(S:OpD X G H0 r op):∀σ H Q,tD X.K G H0 (fBin op f g) σ H Q->tOp r (tD X.K G H0 f) (tD X.K G H0 g) σ H Q:=by
 rintro σ H Q ⟨W,env,d,env',ok,e,k⟩;cases e1:f env with
 | none=>simp[e1] at e
 | some r1 =>
   cases e2:g r1.2 with
   | none=>simp[e1,e2] at e
   | some r2 =>
     have e:(op r1.1 r2.1).map (λd=>(d,r2.2))=some (d,env'):=by simpa[fBin,e1,e2] using e
     cases e3:op r1.1 r2.1 with
     | none=>rw[e3] at e;cases e
     | some d' =>
       rw[e3] at e;have U:(d',r2.2)=(d,env'):=bq e;cases U;refine⟨W,env,r1.1,r1.2,ok,e1,λW1 v1 H1 V D p1=>⟨W1,r1.2,r2.1,r2.2,D,e2,λR v2 H2 s2 I p2=>?_⟩⟩;exact S R _ σ H2 v1 v2 _ _ _ Q I (D.rep s2 p1) p2 e3 λv Y Z J a=>k R v Y ((V.trans s2).trans Z) J a
variable{a:Expr}{p:D->D->la}
def vb{op:Operator}(D:OpR X (binaryOp op) r)(I:OpD X G H0 r p)(J:DEx X G H0 a f)(R:DEx X G H0 b g):DEx X G H0 (.BinOp a op b pos) (fBin p f g) :=
 ⟨(zym D J.out R.out).imp (zvo I)⟩
def ztd{op:CmpOp}(D:OpR X (compareOp op) r)(I:OpD X G H0 r p)(J:DEx X G H0 a f)(R:DEx X G H0 b g)(S:behindInMarks op b=false):DEx X G H0 (.Compare a [op] [b] pos) (fBin p f g) :=
 ⟨(zyo D J.out R.out S).imp (zvo I)⟩
def z19(D:IxR X r)(I:OpD X G H0 r p)(J:DEx X G H0 a f)(R:DEx X G H0 b g)(S:vi b):DEx X G H0 (.Subscript a b pos) (fBin p f g) :=
 ⟨(yi D J.out R.out S).imp (zvo I)⟩
def z2a(h:∀σ H Q,tD X.K G H0 f σ H Q->t σ H Q):∀σ H Q,tDT X.K G H0 (fTst f) σ H Q->z1v t σ H Q:=by
 rintro σ H Q ⟨W,env,b,env',ok,e,k⟩;refine h σ H _ ?_;cases e1:f env with
 | none=>simp[e1] at e
 | some r1 =>
   obtain⟨d,D⟩:=r1;cases d with
   | bl b' =>
     have e:some (b',D)=some (b,env'):=by simpa[fTst,e1] using e
     cases e;exact⟨W,env,_,_,ok,e1,λW1 v1 H1 J I p1=>⟨_,p1.bl_,k W1 H1 J I⟩⟩
   | _=>simp[e1] at e
def wo{op:CmpOp}(D:OpR X (compareOp op) r)(I:OpD X G H0 r p)(J:DEx X G H0 a f)(R:DEx X G H0 b g)(S:behindInMarks op b=false):DTx X G H0 (.Compare a [op] [b] pos) (fTst (fBin p f g)) :=
 ⟨(zyp D J.out R.out S).imp (z2a (zvo I))⟩
variable{g:Int->Int->Int}
def od_I{C:Int->Int->Prop}(h:∀D I d,op D I=some d->∃i j,D=.int i/\I=.int j/\C i j/\d=.int (g i j)):OpD X G H0 (rI C λi j=>.int (g i j)) op:=by
 intro W env σ H x y D I d Q ok p1 p2 e k;obtain⟨i,j,rfl,rfl,J,rfl⟩:=h _ _ _ e;exact⟨i,j,p1.int_,p2.int_,J,k _ H Step.refl ok (.int _)⟩
def z2b(h:∀D I d,op D I=some d->∃i j,D=.int i/\I=.int j/\d=.int (g i j)):OpD X G H0 (rI0 λi j=>.int (g i j)) op:=by
 intro W env σ H x y D I d Q ok p1 p2 e k;obtain⟨i,j,rfl,rfl,rfl⟩:=h _ _ _ e;exact⟨i,j,p1.int_,p2.int_,k _ H Step.refl ok (.int _)⟩
variable{g:FE}
def zvp{g:Int->Int->Bool}(h:∀D I d,op D I=some d->∃i j,D=.int i/\I=.int j/\d=.bl (g i j)):OpD X G H0 (rI0 λi j=>.bl (g i j)) op:=by
 intro W env σ H x y D I d Q ok p1 p2 e k;obtain⟨i,j,rfl,rfl,rfl⟩:=h _ _ _ e;exact⟨i,j,p1.int_,p2.int_,k _ H Step.refl ok (.bl _)⟩
def z2c:OpD X G H0 (rI0 λi j=>.int (i+j)) gz:=z2b λD I d e=>by
 cases D <;> try (cases e;done)
 all_goals cases I <;> first | (cases e;done) | exact⟨_,_,rfl,rfl,(bq e).symm⟩
def z2d:OpD X G H0 (rI0 λi j=>.int (i-j)) dSub:=z2b λD I d e=>by
 cases D <;> try (cases e;done)
 all_goals cases I <;> first | (cases e;done) | exact⟨_,_,rfl,rfl,(bq e).symm⟩
def z2e:OpD X G H0 (rI CMul λi j=>.int (i*j)) dMul:=od_I λD I d e=>by
 cases D <;> try (cases e;done)
 all_goals cases I <;> first
  | (cases e;done)
  | (rename_i i j
     by_cases h:kq i\/kq j
     ·simp only[dMul,if_pos h] at e;exact⟨_,_,rfl,rfl,h,(bq e).symm⟩
     ·simp only[dMul,if_neg h] at e;cases e)
def z2f:OpD X G H0 (rI (λ_ j=>0<j) λi j=>.int (i % j)) dMod:=od_I λD I d e=>by
 cases D <;> try (cases e;done)
 all_goals cases I <;> first
  | (cases e;done)
  | (rename_i i j
     by_cases h:0<j
     ·simp only[dMod,if_pos h] at e;exact⟨_,_,rfl,rfl,h,(bq e).symm⟩
     ·simp only[dMod,if_neg h] at e;cases e)
theorem z2g:OpD X G H0 (rI CDiv λi j=>.int (i / j)) dDiv:=od_I λD I d e=>by
 cases D <;> try (cases e;done)
 all_goals cases I <;> first
  | (cases e;done)
  | (rename_i i j
     by_cases h:Bnd 1 1073741824 j
     ·simp only[dDiv,if_pos h] at e;exact⟨_,_,rfl,rfl,⟨by have:=h.1;lia,h.2⟩,(bq e).symm⟩
     ·simp only[dDiv,if_neg h] at e;cases e)
def z2h:OpD X G H0 (rI0 λi j=>.bl (decide (i<j))) dLt:=zvp λD I d e=>by
 cases D <;> try (cases e;done)
 all_goals cases I <;> first | (cases e;done) | exact⟨_,_,rfl,rfl,(bq e).symm⟩
def z4s:OpD X G H0 (rI0 λi j=>.bl (decide (i<=j))) dLe:=zvp λD I d e=>by
 cases D <;> try (cases e;done)
 all_goals cases I <;> first | (cases e;done) | exact⟨_,_,rfl,rfl,(bq e).symm⟩
def z2i:OpD X G H0 (rI0 λi j=>.bl (decide (j<i))) dGt:=zvp λD I d e=>by
 cases D <;> try (cases e;done)
 all_goals cases I <;> first | (cases e;done) | exact⟨_,_,rfl,rfl,(bq e).symm⟩
def z4t:OpD X G H0 (rI0 λi j=>.bl (decide (j<=i))) dGe:=zvp λD I d e=>by
 cases D <;> try (cases e;done)
 all_goals cases I <;> first | (cases e;done) | exact⟨_,_,rfl,rfl,(bq e).symm⟩
def zxs(i j:Int):decide (V.int i=V.int j)=decide (i=j):=by simp
def zxt(i j:Str):decide (V.str i=V.str j)=decide (i=j):=by simp
def z2j(i j:Bool):decide (V.bl i=V.bl j)=decide (i=j):=by simp
def z2k:OpD X G H0 rEq dEq:=by
 intro W env σ H x y D I d Q ok p1 p2 e k;cases D <;> try (cases e;done)
 all_goals cases I <;> first
  | (cases e;done)
  | (cases p1.int_;cases p2.int_;cases e;refine⟨rfl,?_⟩;rw[zxs];exact k _ H Step.refl ok (.bl _))
  | (cases p1.str_;cases p2.str_;cases e;refine⟨rfl,?_⟩;rw[zxt];exact k _ H Step.refl ok (.bl _))
  | (cases p1.bl_;cases p2.bl_;cases e;refine⟨rfl,?_⟩;rw[z2j];exact k _ H Step.refl ok (.bl _))
def z4u:OpD X G H0 rNe dNe:=by
 intro W env σ H x y D I d Q ok p1 p2 e k;cases D <;> try (cases e;done)
 all_goals cases I <;> first
  | (cases e;done)
  | (cases p1.int_;cases p2.int_;cases e;refine⟨rfl,?_⟩;rw[zxs];exact k _ H Step.refl ok (.bl _))
  | (cases p1.str_;cases p2.str_;cases e;refine⟨rfl,?_⟩;rw[zxt];exact k _ H Step.refl ok (.bl _))
  | (cases p1.bl_;cases p2.bl_;cases e;refine⟨rfl,?_⟩;rw[z2j];exact k _ H Step.refl ok (.bl _))
def wu{i:Int}(r:Reps K H O ds vs)(h:atI ds i=some d):∃v,atI vs i=some v/\Rep K H O d v:=by
 unfold atI at h ⊢;rw[<-r.length];cases q:ixN ds.length i with
 | none=>rw[q] at h;cases h
 | some j=>rw[q] at h;exact r.get h
def z4v:OpD X G H0 (rIx X.K) dIx:=by
 intro W env σ H x y J R d Q ok p1 p2 e k;cases J <;> first
  | (cases e;done)
  | (cases R <;> first
      | (cases e;done)
      | (cases p2
         first
          | (obtain⟨a, vs, rfl, h, r⟩ := p1.tup_
             obtain⟨v,D,I⟩:=wu r e;exact .inr (.inl ⟨a,vs,_,v,rfl,rfl,SqT.of h,D,k _ H Step.refl ok I⟩))
          | (obtain⟨a, vs, rfl, h, r⟩ := p1.lst_
             obtain⟨v,D,I⟩:=wu r e;exact .inl ⟨a,vs,_,v,rfl,rfl,h.sq,D,k _ H Step.refl ok I⟩)))
def jx(D:DEx X G H0 a f)(I:DEx X G H0 b g):DEx X G H0 (.BinOp a .Add b pos) (fBin gz f g):=vb z1n z2c D I
def jz(D:DEx X G H0 a f)(I:DEx X G H0 b g):DEx X G H0 (.BinOp a .Sub b pos) (fBin dSub f g):=vb z1o z2d D I
def m8(D:DEx X G H0 a f)(I:DEx X G H0 b g):DEx X G H0 (.BinOp a .Mult b pos) (fBin dMul f g):=vb z1p z2e D I
def l9(D:DEx X G H0 a f)(I:DEx X G H0 b g):DEx X G H0 (.BinOp a .Mod b pos) (fBin dMod f g):=vb z1q z2f D I
def sd(D:DEx X G H0 a f)(I:DEx X G H0 b g):DEx X G H0 (.BinOp a .FloorDiv b pos) (fBin dDiv f g):=vb zyn z2g D I
def z4w(D:DEx X G H0 a f)(I:DEx X G H0 b g):DEx X G H0 (.Compare a [.Lt] [b] pos) (fBin dLt f g):=ztd z1t z2h D I (sf _)
def z4x(D:DEx X G H0 a f)(I:DEx X G H0 b g):DEx X G H0 (.Compare a [.Gt] [b] pos) (fBin dGt f g):=ztd z1u z2i D I (sf _)
def zvq(D:DEx X G H0 a f)(I:DEx X G H0 b g):DEx X G H0 (.Compare a [.Eq] [b] pos) (fBin dEq f g):=ztd z1s z2k D I (sf _)
def mj(D:DEx X G H0 a f)(I:DEx X G H0 b g):DTx X G H0 (.Compare a [.Lt] [b] pos) (fTst (fBin dLt f g)):=wo z1t z2h D I (sf _)
def z2l(D:DEx X G H0 a f)(I:DEx X G H0 b g):DTx X G H0 (.Compare a [.LtE] [b] pos) (fTst (fBin dLe f g)):=wo z4m z4s D I (sf _)
def lm(D:DEx X G H0 a f)(I:DEx X G H0 b g):DTx X G H0 (.Compare a [.Gt] [b] pos) (fTst (fBin dGt f g)):=wo z1u z2i D I (sf _)
def u5(D:DEx X G H0 a f)(I:DEx X G H0 b g):DTx X G H0 (.Compare a [.GtE] [b] pos) (fTst (fBin dGe f g)):=wo z4n z4t D I (sf _)
def jd(D:DEx X G H0 a f)(I:DEx X G H0 b g):DTx X G H0 (.Compare a [.Eq] [b] pos) (fTst (fBin dEq f g)):=wo z1s z2k D I (sf _)
def uc(D:DEx X G H0 a f)(I:DEx X G H0 b g):DTx X G H0 (.Compare a [.NotEq] [b] pos) (fTst (fBin dNe f g)):=wo z4l z4u D I (sf _)
def jw(D:DEx X G H0 a f)(I:DEx X G H0 b g)(J:vi b:=by intro _ _;rfl):DEx X G H0 (.Subscript a b pos) (fBin dIx f g):=z19 zxo z4v D I J
def bf{Nn Cn:g9}(an:Ats Nn Cn X)(J:Nn[i]?=some x:=by rfl):DEx X G H0 (.Name x pos) (fVar i):=⟨((an.a J).pe).imp λσ H Q R=>by
 obtain⟨W,env,d,env',ok,e,k⟩:=R;unfold fVar at e;cases q:env[i]? with
 | none=>rw[q] at e;cases e
 | some o =>
   cases o with
   | none=>rw[q] at e;cases e
   | some sl =>
     cases sl with
     | sh d' =>
       rw[q] at e;cases e;obtain⟨v,I,r⟩:=ok.slot i _ q;exact⟨v,I,k W v H Step.refl ok r⟩
     | ow ds =>
       rw[q] at e;cases e;obtain⟨W',v,I,st,D,r⟩:=ok.share q;exact⟨v,I,k W' v H st D r⟩
     | o2 dss =>
       rw[q] at e;cases e;obtain⟨W',v,I,st,D,r⟩:=ok.share2 q;exact⟨v,I,k W' v H st D r⟩
     | ag _ _ _=>rw[q] at e;cases e
     | al _ _=>rw[q] at e;cases e
     | ro _ _=>rw[q] at e;cases e⟩
def de_c(h:PE X e (tC v))(r:∀H O,Rep X.K H O d v):DEx X G H0 e (fC d):=⟨h.imp λσ H Q D=>by
 obtain⟨W,env,d',env',ok,q,k⟩:=D;cases q;exact k W v H Step.refl ok (r _ _)⟩
def b8{i:Int}:DEx X G H0 (.Constant (.int i) j pos) (fC (.int i)):=de_c yt λ_ _=>.int _
def kv{i:Bool}:DEx X G H0 (.Constant (.bool i) j pos) (fC (.bl i)):=de_c z4c λ_ _=>.bl _
def f7{i:Str}:DEx X G H0 (.Constant (.str i) j pos) (fC (.str i)):=de_c zxj λ_ _=>.str _
def qk(R:DEx X G H0 a f):DEx X G H0 (.UnaryOp .USub a pos) (fUn dNeg f):=⟨(z1m zxk R.out).imp λσ H Q S=>by
 obtain⟨W,env,d',env',ok,q,k⟩:=S;cases e1:f env with
 | none=>simp[e1] at q
 | some r =>
   obtain⟨d,I⟩:=r;cases d with
   | int i =>
     have q:some (D.int (-i),I)=some (d',env'):=by simpa[fUn,e1,dNeg] using q
     cases q;exact⟨W,env,_,_,ok,e1,λW1 v1 H1 U J p1=>⟨i,p1.int_,k W1 _ H1 U J (.int _)⟩⟩
   | _=>simp[e1] at q⟩
section
variable {X:Cx} {G:Gd} {H0:Hp} {a b c e:Expr} {es rest:ka} {f g:FE} {F:FA} {p q:FT} {pos:Pos}
structure DWx (X:Cx) (G:Gd) (H0:Hp) (e:Expr) (f:FT):Prop where
 out:PW X e (tDT X.K G H0 f)
def PW.imp{X:Cx}{e:Expr}{t t':TT}(h:PW X e t)(i:∀σ H Q,t' σ H Q->t σ H Q):PW X e t':=λw pins s σ H Q I q=>h w pins s σ H Q I (i σ H Q q)
def dt_w(h:DWx X G H0 e p):DTx X G H0 e p:=⟨PW.pt h.out⟩
def og(h:DTx X G H0 a p):DWx X G H0 (.BoolOp .And [a] pos) p:=⟨zyi h.out⟩
def lu(h:DTx X G H0 a p):DWx X G H0 (.BoolOp .Or [a] pos) p:=⟨z09 h.out⟩
def n6(h:DTx X G H0 a p)(h2:DWx X G H0 (.BoolOp .And (b::rest) pos) q):DWx X G H0 (.BoolOp .And (a::b::rest) pos) (fAnd p q):=⟨(z1a h.out h2.out).imp λσ H Q S=>by
 obtain⟨W,env,d,env',ok,e,k⟩:=S;cases e1:p env with
 | none=>simp[e1] at e
 | some r =>
   obtain⟨t,D⟩:=r;refine⟨W,env,t,D,ok,e1,λW1 H1 R I=>?_⟩;cases t with
   | true =>
     exact⟨W1,D,d,env',I,by simpa[fAnd,e1] using e,λU H2 s2 J=>k U H2 (R.trans s2) J⟩
   | false =>
     have e:some (false,D)=some (d,env'):=by simpa[fAnd,e1] using e
     cases e;exact k W1 H1 R I⟩
def kj(h:DTx X G H0 a p)(h2:DWx X G H0 (.BoolOp .Or (b::rest) pos) q):DWx X G H0 (.BoolOp .Or (a::b::rest) pos) (fOr p q):=⟨(z4d h.out h2.out).imp λσ H Q S=>by
 obtain⟨W,env,d,env',ok,e,k⟩:=S;cases e1:p env with
 | none=>simp[e1] at e
 | some r =>
   obtain⟨t,D⟩:=r;refine⟨W,env,t,D,ok,e1,λW1 H1 R I=>?_⟩;cases t with
   | false =>
     exact⟨W1,D,d,env',I,by simpa[fOr,e1] using e,λU H2 s2 J=>k U H2 (R.trans s2) J⟩
   | true =>
     have e:some (true,D)=some (d,env'):=by simpa[fOr,e1] using e
     cases e;exact k W1 H1 R I⟩
def lq(h:DTx X G H0 a p):DTx X G H0 (.UnaryOp .Not a pos) (fNot p):=⟨(z1b h.out).imp λσ H Q I=>by
 obtain⟨W,env,d,env',ok,e,k⟩:=I;cases e1:p env with
 | none=>simp[e1] at e
 | some r =>
   have e:some (!r.1,r.2)=some (d,env'):=by simpa[fNot,e1] using e
   cases e;exact⟨W,env,_,_,ok,e1,λW1 H1 J D=>k W1 H1 J D⟩⟩
def km(h:DEx X G H0 a f)(D:∀whole,isTrue a X.env whole=(do let v <-whole;standAt a.pos;holding [v] (truthy v)):=by intro _;rfl):DTx X G H0 a (fTst f):=⟨(z08 h.out D).imp (z2a λ_ _ _ z=>z)⟩
def zxu{op:BoolOp}(h:DEx X G H0 a f):DEx X G H0 (.BoolOp op [a] pos) f:=⟨z1c h.out⟩
def zxv(h:DEx X G H0 a f)(h2:DEx X G H0 (.BoolOp .And (b::rest) pos) g):DEx X G H0 (.BoolOp .And (a::b::rest) pos) (wf f g):=⟨(z1d h.out h2.out).imp λσ H Q U=>by
 obtain⟨W,env,d,env',ok,e,k⟩:=U;cases e1:f env with
 | none=>simp[e1] at e
 | some r =>
   obtain⟨t,I⟩:=r;refine⟨W,env,t,I,ok,e1,λW1 v1 H1 S J p1=>?_⟩;cases t with
   | bl t =>
     refine⟨t,p1.bl_,?_⟩;cases t with
     | true =>
       exact⟨W1,I,d,env',J,by simpa[wf,e1] using e,λV v2 H2 s2 R p2=>k V v2 H2 (S.trans s2) R p2⟩
     | false =>
       have e:some (D.bl false,I)=some (d,env'):=by simpa[wf,e1] using e
       cases e;exact k W1 _ H1 S J (.bl _)
   | _=>simp[e1] at e⟩
def z2m(h:DEx X G H0 a f):DEx X G H0 (.UnaryOp .Not a pos) (zy6 f):=⟨(z1e h.out).imp λσ H Q R=>by
 obtain⟨W,env,d,env',ok,e,k⟩:=R;cases e1:f env with
 | none=>simp[e1] at e
 | some r =>
   obtain⟨t,I⟩:=r;refine⟨W,env,t,I,ok,e1,λW1 v1 H1 S J p1=>?_⟩;cases t with
   | bl t =>
     have e:some (D.bl (!t),I)=some (d,env'):=by simpa[zy6,e1] using e
     cases e;exact⟨t,p1.bl_,k W1 _ H1 S J (.bl _)⟩
   | _=>simp[e1] at e⟩
def cw  : DAx X G H0 [] fNil:=⟨pq.imp λσ H Q D=>by
 obtain⟨W,env,ds,env',ok,e,k⟩:=D;cases e;exact k W [] H Step.refl ok .nil⟩
def bh(R:DEx X G H0 e f)(S:DAx X G H0 es F)(U:starEach (e::es) X.env=(false,eval e X.env)::starEach es X.env:=by rfl):DAx X G H0 (e::es) (au f F):=⟨(mn R.out S.out U).imp λσ H Q V=>by
 obtain⟨W,env,ds,env',ok,q,k⟩:=V;cases e1:f env with
 | none=>simp[e1] at q
 | some r =>
   obtain⟨d,D⟩:=r;cases e2:F D with
   | none=>simp[e1,e2] at q
   | some r2 =>
     have q:some (d::r2.1,r2.2)=some (ds,env'):=by simpa[au,e1,e2] using q
     cases q;exact⟨W,env,d,D,ok,e1,λW1 v1 H1 Y I p1=>⟨W1,D,_,_,I,e2,λZ vs H2 s2 J p2=>k Z _ H2 (Y.trans s2) J (.cons (I.rep s2 p1) p2)⟩⟩⟩
def le64{n:Nat}(h:n<=64):n<=sizeLine:=cx h (by rw[sizeLine_eq];decide)
def j3{k1}(h:DAx X G H0 es F):DEx X G H0 (.Tuple es k1 pos) (fTup F):=⟨(z1y h.out).imp λσ H Q S=>by
 obtain⟨W,env,d,env',ok,q,k⟩:=S;cases e1:F env with
 | none=>simp[e1] at q
 | some r =>
   obtain⟨ds,I⟩:=r;by_cases R:ds.length<=64
   ·have q:some (D.tup ds,I)=some (d,env'):=by simpa[fTup,e1,R] using q
    cases q;refine⟨W,env,ds,_,ok,e1,λW1 vs H1 U J p1=>⟨by rw[<-p1.length];exact le64 R,λl V=>?_⟩⟩;have sm:Same H1 (upd H1 l (.tup vs)):=oh V;have st:Step W1 H1 W1 (upd H1 l (.tup vs)):=Step.same sm;exact k W1 _ _ (U.trans st) (J.same sm) (.tup j0 (J.reps st p1))
   ·simp[e1,R] at q⟩
def ue{W:Addr->Prop}{env:DE0}{σ:St}{H:Hp}{l:Addr}{vs:k8}{ds:k9}(ok:Ok X.K G H0 W env σ H)(r:Reps X.K H (Ow G W) ds vs)(I:H l=none) :
  Step W H (addW W l) (upd H l (.lst vs))/\Ok X.K G H0 W env σ (upd H l (.lst vs))/\Ok X.K G H0 (addW W l) env σ (upd H l (.lst vs))/\¬W l/\upd H l (.lst vs) l=some (.lst vs)/\Reps X.K (upd H l (.lst vs)) (Ow G (addW W l)) ds vs:=by
 have sm:Same H (upd H l (.lst vs)):=oh I;obtain⟨h1,h2,J,R,S⟩:=ok.fresh (l:=l) (vs:=vs) (ds:=ds) sm I j0 ((r.mono (O':=λa=>(Ow G W a\/H a=none)/\a≠l) (λ_ _ h=>sm _ _ h) λa us o h=>⟨⟨.inl o,λz=>by
  subst z;have h2:Rd H a (.lst us):=h;rcases h2 with h2 | ⟨_,h2⟩ <;> rw[I] at h2 <;> cases h2⟩,h.keep λo e=>sm _ o e⟩))
 exact⟨S,ok.same sm,J,h1,j0,R⟩
def ig(h:DAx X G H0 es F):DFx X G H0 (.List es pos) (fo F):=⟨(zxn h.out).imp λσ H Q R=>by
 obtain⟨W,env,d,env',ok,q,k⟩:=R;cases e1:F env with
 | none=>simp[e1] at q
 | some r =>
   obtain⟨ds,D⟩:=r;by_cases I:ds.length<=64
   ·have q:some (ds,D)=some (d,env'):=by simpa[fo,e1,I] using q
    cases q;refine⟨W,env,_,_,ok,e1,λW1 vs H1 S J p1=>⟨by rw[<-p1.length];exact le64 I,λl U=>?_⟩⟩;obtain⟨h1,h2,V,Y,Z,a⟩:=ue J p1 U;exact k W1 l vs _ (S.trans h1) h2 V Y Z a
   ·simp[e1,I] at q⟩
def fq(h:DFx X G H0 e F):DEx X G H0 e (fLst F):=⟨h.out.imp λσ H Q S=>by
 obtain⟨W,env,d,env',ok,q,k⟩:=S;cases e1:F env with
 | none=>simp[e1] at q
 | some r =>
   have q:some (D.lst r.1,r.2)=some (d,env'):=by simpa[fLst,e1] using q
   cases q;refine⟨W,env,_,_,ok,e1,λW1 l vs H1 R I J U V Y=>k W1 _ H1 ⟨R.keep,λa z=>R.ws a (.inl z)⟩ I (.lst ⟨I.good l (J.wl l (.inr rfl)).1,U⟩ (.inl V) (Y.mono (λ_ _ h=>h) λa us o h=>⟨⟨o.1,λz=>o.2 (.inl z)⟩,h⟩))⟩⟩
def Cal(P:Program)(w:World)(K:k4)(mg:Str->h8)(base:Heap)(CX:CXT)(x:Str)(k:Nat)(sp:Sp):Prop :=
 ∃fa fd ps,FnOk P w K mg base CX k fa fd ps sp/\mg x=some (.ref fa)/\PySem.W.keepIn K (.ref fa)=true/\Binds K fd ps []/\(x==("__debug__" : Str))=false
def dSp(K:k4)(m:k9->la):Sp:=λvs H Q _=>∃O ds d,Reps K H O ds vs/\m ds=some d/\∀v H',Same H H'->Rep K H' (λa=>O a\/H a=none) d v->Q v H'
def fSp(K:k4)(m:k9->Option k9):Sp:=λvs H Q _=>∃O ds rs,Reps K H O ds vs/\m ds=some rs/\∀l us H',Same H H'->H l=none->H' l=some (.lst us)->Reps K H' (λa=>(O a\/H a=none)/\a≠l) rs us->Q (.ref l) H'
@[simp] noncomputable def dw(m:k9->la)(F:FA):FE:=λe=>(F e).bind λr=>(m r.1).map λd=>(d,r.2)
@[simp] noncomputable def i3(m:k9->Option k9)(F:FA):FA:=λe=>(F e).bind λr=>(m r.1).map λd=>(d,r.2)
def z2n{m:k9->la}{E:XK}:∀σ H Q,tD X.K G H0 (dw m F) σ H Q->zvg (dSp X.K m) [] E (tDA X.K G H0 F) σ H Q:=λσ H Q R=>by
 obtain⟨W,env,d,env',ok,q,k⟩:=R;cases e1:F env with
 | none=>simp[e1] at q
 | some r =>
   obtain⟨ds,J⟩:=r;cases e2:m ds with
   | none=>simp[e1,e2] at q
   | some d' =>
     have q:some (d',J)=some (d,env'):=by simpa[dw,e1,e2] using q
     cases q;refine⟨W,env,ds,_,ok,e1,λW1 vs H1 S I p1=>?_⟩;show dSp X.K m (vs++[]) H1 Q E;rw[dc];refine⟨Ow G W1,ds,_,p1,e2,λv H2 sm U=>?_⟩;refine k W1 v H2 (S.trans (Step.same sm)) (I.same sm) (U.mono (λ_ _ h=>h) λa us o h=>⟨?_,h⟩);rcases o with o | o
     ·exact o
     ·exact⟨I.good a (I.stay.free o),λz=>by obtain⟨_,us,q⟩:=I.wl a z;rw[o] at q;cases q⟩
def zy7{m:k9->Option k9}{E:XK}:∀σ H Q,tDF X.K G H0 (i3 m F) σ H Q->zvg (fSp X.K m) [] E (tDA X.K G H0 F) σ H Q:=λσ H Q S=>by
 obtain⟨W,env,d,env',ok,q,k⟩:=S;cases e1:F env with
 | none=>simp[e1] at q
 | some r =>
   obtain⟨ds,I⟩:=r;cases e2:m ds with
   | none=>simp[e1,e2] at q
   | some d' =>
     have q:some (d',I)=some (d,env'):=by simpa[i3,e1,e2] using q
     cases q;refine⟨W,env,ds,_,ok,e1,λW1 vs H1 U J p1=>?_⟩;show fSp X.K m (vs++[]) H1 Q E;rw[dc];refine⟨Ow G W1,ds,_,p1,e2,λl us H2 sm V R Y=>?_⟩;obtain⟨h1,h2,Z,a,b⟩:=J.fresh sm V R Y;exact k W1 l us H2 (U.trans b) (J.same sm) Z h1 R a
variable {CX:CXT} {k:Nat} {fa:Addr} {fd:FuncData} {ps:g9} {m:k9->la} {mF:k9->Option k9} {x:Str} {p':Pos} {E:XK}
def fy{jr:Nat}(c:Cal X.prog X.w X.K X.mg X.base CX0 x k (dSp X.K m))(R:Room jr X.A)(S:DAx X G H0 (e::es) F)(D:k<=jr:=by decide)(U:Gl X x:=by walk_at "g")(V:starEach (e::es) X.env=(false,eval e X.env)::starEach es X.env:=by rfl)(I:(backTo pos (starEach es X.env)).any (·.1)=false:=by rfl) :
  DEx X G H0 (.Call (.Name x p') (e::es) [] pos) (dw m F):=let ⟨_,_,_,Y,Z,a,b,J⟩:=c;⟨(zo9 Y (R.mono D) U Z a b .nil zy4 S.out J V I).imp z2n⟩
def zpe{jr:Nat}(c:Cal X.prog X.w X.K X.mg X.base CX0 x k (fSp X.K mF))(R:Room jr X.A)(S:DAx X G H0 (e::es) F)(D:k<=jr:=by decide)(U:Gl X x:=by walk_at "g")(V:starEach (e::es) X.env=(false,eval e X.env)::starEach es X.env:=by rfl)(I:(backTo pos (starEach es X.env)).any (·.1)=false:=by rfl) :
  DFx X G H0 (.Call (.Name x p') (e::es) [] pos) (i3 mF F):=let ⟨_,_,_,Y,Z,a,b,J⟩:=c;⟨(zo9 Y (R.mono D) U Z a b .nil zy4 S.out J V I).imp zy7⟩
end
section
variable {X:Cx} {G:Gd} {H0:Hp} {a b c e:Expr} {es rest:ka} {f g:FE} {F:FA} {p q:FT} {pos p':Pos} {x:Str}
def ub(X:Cx)(G:Gd)(H0:Hp)(r:k8->Hp->VK->Prop)(op:k9->la):Prop :=
 ∀W env σ H vs ds d (Q:VK),Ok X.K G H0 W env σ H->Reps X.K H (Ow G W) ds vs->op ds=some d ->
  (∀v H',Step W H W H'->Ok X.K G H0 W env σ H'->Rep X.K H' (Ow G W) d v->Q v H')->r vs H Q
def zte(X:Cx)(G:Gd)(H0:Hp)(r:k8->Hp->VK->Prop)(op:k9->Option k9):Prop :=
 ∀W env σ H vs ds rs (Q:VK),Ok X.K G H0 W env σ H->Reps X.K H (Ow G W) ds vs->op ds=some rs ->
  (∀l us H',Step W H (addW W l) H'->Ok X.K G H0 W env σ H'->Ok X.K G H0 (addW W l) env σ H'->¬W l->H' l=some (.lst us)->Reps X.K H' (Ow G (addW W l)) rs us->Q (.ref l) H')->r vs H Q
def z2o{r:k8->Hp->VK->Prop}{op:k9->la}(S:ub X G H0 r op):∀σ H Q,tD X.K G H0 (dw op F) σ H Q->tCB r (tDA X.K G H0 F) σ H Q:=λσ H Q U=>by
 obtain⟨W,env,d,env',ok,q,k⟩:=U;cases e1:F env with
 | none=>simp[e1] at q
 | some z =>
   obtain⟨ds,I⟩:=z;cases e2:op ds with
   | none=>simp[e1,e2] at q
   | some d' =>
     have q:some (d',I)=some (d,env'):=by simpa[dw,e1,e2] using q
     cases q;exact⟨W,env,ds,_,ok,e1,λW1 vs H1 Y J p1=>S W1 _ σ H1 vs ds _ Q J p1 e2 λv H2 s2 R p2=>k W1 v H2 (Y.trans s2) R p2⟩
def z2p{r:k8->Hp->VK->Prop}{op:k9->Option k9}(U:zte X G H0 r op):∀σ H Q,tDF X.K G H0 (i3 op F) σ H Q->tCB r (tDA X.K G H0 F) σ H Q:=λσ H Q Y=>by
 obtain⟨W,env,d,env',ok,q,k⟩:=Y;cases e1:F env with
 | none=>simp[e1] at q
 | some z =>
   obtain⟨ds,I⟩:=z;cases e2:op ds with
   | none=>simp[e1,e2] at q
   | some d' =>
     have q:some (d',I)=some (d,env'):=by simpa[i3,e1,e2] using q
     cases q;exact⟨W,env,ds,_,ok,e1,λW1 vs H1 Z J p1=>U W1 _ σ H1 vs ds _ Q J p1 e2 λl us H2 s2 R S a b c=>k W1 l us H2 (Z.trans s2) R S a b c⟩
variable {id T:String} {r:k8->Hp->VK->Prop} {op:k9->la} {opF:k9->Option k9}
def zmk(J:nv X (.builtin id) r)(R:ub X G H0 r op)(S:Gl X x)(U:X.mg x=none)(V:bootBuiltins x=some (.builtin id))(Y:DAx X G H0 (e::es) F)(Z:x ≠ "__name__":=by decide)(D:(x==("__debug__" : Str))=false:=by decide)(a:starEach (e::es) X.env=(false,eval e X.env)::starEach es X.env:=by rfl)(I:(backTo pos (starEach es X.env)).any (·.1)=false:=by rfl):DEx X G H0 (.Call (.Name x p') (e::es) [] pos) (dw op F):=⟨(yx J S U V Y.out Z D a I).imp (z2o R)⟩
def zql(J:nv X (.type T) r)(R:ub X G H0 r op)(S:Gl X x)(U:X.mg x=none)(V:bootBuiltins x=some (.type T))(Y:DAx X G H0 (e::es) F)(Z:x ≠ "__name__":=by decide)(D:(x==("__debug__" : Str))=false:=by decide)(a:starEach (e::es) X.env=(false,eval e X.env)::starEach es X.env:=by rfl)(I:(backTo pos (starEach es X.env)).any (·.1)=false:=by rfl):DEx X G H0 (.Call (.Name x p') (e::es) [] pos) (dw op F):=⟨(zny J S U V Y.out Z D a I).imp (z2o R)⟩
def zvr(J:nv X (.type T) r)(R:zte X G H0 r opF)(S:Gl X x)(U:X.mg x=none)(V:bootBuiltins x=some (.type T))(Y:DAx X G H0 (e::es) F)(Z:x ≠ "__name__":=by decide)(D:(x==("__debug__" : Str))=false:=by decide)(a:starEach (e::es) X.env=(false,eval e X.env)::starEach es X.env:=by rfl)(I:(backTo pos (starEach es X.env)).any (·.1)=false:=by rfl):DFx X G H0 (.Call (.Name x p') (e::es) [] pos) (i3 opF F):=⟨(zny J S U V Y.out Z D a I).imp (z2p R)⟩
def qf{K:k4}{H:Hp}{O:Addr->Prop}{d:D}{vs:k8}(h:Reps K H O [d] vs):∃v,vs=[v]/\Rep K H O d v:=by
 cases h with | cons r t=>cases t;exact⟨_,rfl,r⟩
def z4y{K:k4}{H:Hp}{O:Addr->Prop}{d d':D}{vs:k8}(h:Reps K H O [d,d'] vs):∃v I,vs=[v,I]/\Rep K H O d v/\Rep K H O d' I:=by
 cases h with | cons r t=>cases t with | cons r' t=>cases t;exact⟨_,_,rfl,r,r'⟩
@[simp] noncomputable def bLen:k9->la | [.tup ds]=>some (.int ds.length) | [.lst ds]=>some (.int ds.length) | _=>none
def z2q:ub X G H0 (λxs H Q=>∃p ys,xs=[.ref p]/\(SqL X.K H p ys\/SqT X.K H p ys)/\Q (.int ys.length) H) bLen:=by
 intro W env σ H vs ds d Q ok r e k;unfold bLen at e;split at e
 ·rename_i ds
  cases e;obtain⟨v,rfl,D⟩:=qf r;have r:=D;obtain⟨a,us,rfl,h,r⟩:=r.tup_;exact⟨a,us,rfl,.inr (SqT.of h),by rw[<-r.length];exact k _ H Step.refl ok (.int _)⟩
 ·rename_i ds
  cases e;obtain⟨v,rfl,D⟩:=qf r;have r:=D;obtain⟨a,us,rfl,h,r⟩:=r.lst_;exact⟨a,us,rfl,.inl h.sq,by rw[<-r.length];exact k _ H Step.refl ok (.int _)⟩
 ·cases e
def r8(I:DAx X G H0 [e] F)(D:Bn X "len":=by walk_at "b")(J:starEach [e] X.env=(false,eval e X.env)::starEach [] X.env:=by rfl):DEx X G H0 (.Call (.Name "len" p') [e] [] pos) (dw bLen F) :=
 zmk zhu z2q D.g D.m ut I (by decide) (by decide) J rfl
@[simp] noncomputable def bInt:k9->la | [.int i]=>some (.int i) | [.bl k]=>some (.int (if k then 1 else 0)) | _=>none
def z2r:ub X G H0 (λxs H Q=>(∃i,xs=[.int i]/\Q (.int i) H)\/∃k,xs=[.bl k]/\Q (.int (if k then 1 else 0)) H) bInt:=by
 intro W env σ H vs ds d Q ok r e k;unfold bInt at e;split at e
 ·cases e
  obtain⟨v,rfl,D⟩:=qf r;have r:=D;exact .inl ⟨_,by rw[r.int_],k _ H Step.refl ok (.int _)⟩
 ·cases e
  obtain⟨v,rfl,D⟩:=qf r;have r:=D;exact .inr ⟨_,by rw[r.bl_],k _ H Step.refl ok (.int _)⟩
 ·cases e
def ztf:bootBuiltins "int" = some (.type "int"):=by decide +kernel
def zy8(I:DAx X G H0 [e] F)(D:Bn X "int":=by walk_at "b")(J:starEach [e] X.env=(false,eval e X.env)::starEach [] X.env:=by rfl):DEx X G H0 (.Call (.Name "int" p') [e] [] pos) (dw bInt F) :=
 zql zsx z2r D.g D.m ztf I (by decide) (by decide) J rfl
@[simp] noncomputable def bMax:k9->la | [.int i,.int j]=>some (.int (if j > i then j else i)) | _=>none
def z2s:ub X G H0 (λxs H Q=>∃i j,xs=[.int i,.int j]/\Q (.int (if j > i then j else i)) H) bMax:=by
 intro W env σ H vs ds d Q ok r e k;unfold bMax at e;split at e
 ·cases e
  obtain⟨v,J,rfl,D,I⟩:=z4y r;have r:=D;exact⟨_,_,by rw[r.int_,I.int_],k _ H Step.refl ok (.int _)⟩
 ·cases e
def zxw(J:DAx X G H0 [a,b] F)(R:X.calm=true:=by rfl)(I:Bn X "max":=by walk_at "b")(S:starEach [a,b] X.env=(false,eval a X.env)::starEach [b] X.env:=by rfl)(D:(backTo pos (starEach [b] X.env)).any (·.1)=false:=by rfl):DEx X G H0 (.Call (.Name "max" p') [a,b] [] pos) (dw bMax F) :=
 zmk (zsw R) z2s I.g I.m boot_max J (by decide) (by decide) S D
def ints?:k9->Option ik
 | []=>some []
 | .int i::r=>(ints? r).map (i::·)
 | _::_=>none
def zqm:∀ {ds:k9} {I:ik},ints? ds=some I->ds=I.map D.int
 | [],I,h=>by cases h;rfl
 | .int i::r,I,h=>by
   unfold ints? at h;cases q:ints? r with
   | none=>rw[q] at h;cases h
   | some ms=>rw[q] at h;cases h;rw[zqm q];rfl
 | .str _::_,_,h=>by cases h
def zy9(I:ik):ints? (I.map D.int)=some I:=by
 induction I with
 | nil=>rfl
 | cons n r ih=>show(ints? (r.map D.int)).map (n::·)=_;rw[ih];rfl
def zn8{K:k4}{H:Hp}{O:Addr->Prop}:∀ {I:ik} {vs:k8},Reps K H O (I.map D.int) vs->vs=I.map V.int
 | [],_,h=>by cases h;rfl
 | n::r,_,h=>by cases h with | cons a t=>rw[zn8 t,a.int_];rfl
def ztg(U:X.calm=true):nv X (.builtin "sum") (λxs H Q=>∃p,∃D:ik,xs=[.ref p]/\SqL X.K H p (D.map V.int)/\Q (.int D.sum) H):=by
 intro pins s σ H xs us Q I r h;obtain⟨p,D,rfl,Y,q⟩:=h;obtain⟨u,rfl,Z⟩:=u6 r;cases Z;obtain⟨its,a,pl,d⟩:=I.list Y;have hi:IntsAre its D:=zrx a;have R:=pl.isList;obtain⟨xs,J⟩:=hi.allInts.items;rw[J] at R;refine sum_intListG (I.ok.hd U) R λh' tk t' b=>⟨.int D.sum,H,I.kept b,⟨t',?_⟩,q⟩;have c:numsOf its=D:=hi.numsOf;have S:numsOf (intItems xs).toList=D:=by rw[<-J];exact c
 rw[nums_intItems] at S;rw[preSum_eq,gk (by simp),S]
def bSum:k9->la | [.lst ds]=>(ints? ds).map λI=>.int I.sum | _=>none
def z2t:ub X G H0 (λxs H Q=>∃p,∃D:ik,xs=[.ref p]/\SqL X.K H p (D.map V.int)/\Q (.int D.sum) H) bSum:=by
 intro W env σ H vs ds d Q ok r e k;unfold bSum at e;split at e
 ·rename_i ds
  cases q:ints? ds with
  | none=>rw[q] at e;cases e
  | some D =>
    rw[q] at e;cases e;obtain⟨v,rfl,I⟩:=qf r;have r:=I;obtain⟨a,us,rfl,h,r⟩:=r.lst_;rw[zqm q] at r;rw[zn8 r] at h;exact⟨a,D,rfl,h.sq,k _ H Step.refl ok (.int _)⟩
 ·cases e
def qj(I:DAx X G H0 [e] F)(J:X.calm=true:=by rfl)(D:Bn X "sum":=by walk_at "b")(R:starEach [e] X.env=(false,eval e X.env)::starEach [] X.env:=by rfl):DEx X G H0 (.Call (.Name "sum" p') [e] [] pos) (dw bSum F) :=
 zmk (ztg J) z2t D.g D.m boot_sum I (by decide) (by decide) R rfl
@[simp] noncomputable def pj:k9->Option k9 | [.lst ds]=>some ds | [.tup ds]=>some ds | _=>none
def zza:zte X G H0 (λxs H Q=>∃p ys,xs=[.ref p]/\(SqL X.K H p ys\/SqT X.K H p ys)/\∀l,H l=none->Q (.ref l) (upd H l (.lst ys))) pj:=by
 intro W env σ H vs ds rs Q ok r e k;unfold pj at e;split at e
 ·cases e
  obtain⟨v,rfl,D⟩:=qf r;have r:=D;obtain⟨a,us,rfl,h,r⟩:=r.lst_;refine⟨a,us,rfl,.inl h.sq,λl I=>?_⟩;obtain⟨h1,h2,J,R,S,U⟩:=ue ok r I;exact k l us _ h1 h2 J R S U
 ·cases e
  obtain⟨v,rfl,D⟩:=qf r;have r:=D;obtain⟨a,us,rfl,h,r⟩:=r.tup_;refine⟨a,us,rfl,.inr (SqT.of h),λl I=>?_⟩;obtain⟨h1,h2,J,R,S,U⟩:=ue ok r I;exact k l us _ h1 h2 J R S U
 ·cases e
def zr2:bootBuiltins "list" = some (.type "list"):=by decide +kernel
def zml(I:DAx X G H0 [e] F)(D:Bn X "list":=by walk_at "b")(J:starEach [e] X.env=(false,eval e X.env)::starEach [] X.env:=by rfl):DFx X G H0 (.Call (.Name "list" p') [e] [] pos) (i3 pj F) :=
 zvr zn0 zza D.g D.m zr2 I (by decide) (by decide) J rfl
end
section
variable {X:Cx} {G:Gd} {H0:Hp} {a b c e:Expr} {es rest:ka} {f g:FE} {F:FA} {p q:FT} {pos p' p1 pos1:Pos} {x:Str}
def rngL(lo hi:Int):ik:=(List.range (hi-lo).toNat).map λ(k:Nat)=>lo+(k:Int)
def z5w(ds:k9):Option k9:=match ds with
 | [.int j]=>if Bnd (-(2 ^ 62)) (2 ^ 20+1) j then some ((rngL 0 j).map D.int) else none
 | _=>none
def zhv{K:k4}{H:Hp}{O:Addr->Prop}:∀(I:ik),Reps K H O (I.map D.int) (I.map V.int)
 | []=>.nil
 | n::r=>.cons (.int n) (zhv r)
abbrev FO:=DE0->Option (kf×DE0)
def tDO(K:k4)(G:Gd)(H0:Hp)(f:FO):TO:=λσ H Q=>DP K G H0 f (λW env o env'=> ∀W' H',Step W H W' H'->Ok K G H0 W' env' σ H'->Q o H') σ H
structure DOx (X:Cx) (G:Gd) (H0:Hp) (e:Option Expr) (f:FO):Prop where
 out:PO X e (tDO X.K G H0 f)
def PO.imp{X:Cx}{e:Option Expr}{t t':TO}(h:PO X e t)(i:∀σ H Q,t' σ H Q->t σ H Q):PO X e t':=λpins s σ H Q I q=>h pins s σ H Q I (i σ H Q q)
@[simp] noncomputable def fO0:FO:=λe=>some (none,e)
@[simp] noncomputable def fO1(f:FE):FO:=λe=>(f e).bind λr=>match r.1 with | .int i=>some (some i,r.2) | _=>none
def qo  : DOx X G H0 none fO0:=⟨zyw.imp λσ H Q ⟨W,env,o,env',ok,q,k⟩=>by cases q;exact k W H Step.refl ok⟩
def ma(h:DEx X G H0 e f):DOx X G H0 (some e) (fO1 f):=⟨(zyx h.out).imp λσ H Q J=>by
 obtain⟨W,env,o,env',ok,q,k⟩:=J;cases e1:f env with
 | none=>simp[e1] at q
 | some r =>
   obtain⟨d,D⟩:=r;cases d with
   | int i =>
     have q:some (some i,D)=some (o,env'):=by simpa[fO1,e1] using q
     cases q;exact⟨W,env,_,_,ok,e1,λW1 v1 H1 R I p1=>⟨i,p1.int_,k W1 H1 R I⟩⟩
   | _=>simp[e1] at q⟩
def cutD(xs:k9)(lo hi:kf):k9:=(xs.drop (HT.sIx xs.length 0 lo)).take (HT.sIx xs.length xs.length hi-HT.sIx xs.length 0 lo)
def Reps.cut{K:k4}{H:Hp}{O:Addr->Prop}{ds:k9}{vs:k8}(r:Reps K H O ds vs)(lo hi:kf):Reps K H O (cutD ds lo hi) (cutV vs lo hi):=by
 unfold cutD cutV;rw[r.length];exact(r.drop _).take _
@[simp] noncomputable def fSl(f:FE)(l h:FO):FA:=λe=>(f e).bind λr=>(l r.2).bind λD=>(h D.2).bind λI=>match r.1 with | .lst ds=>some (cutD ds D.1 I.1,I.2) | _=>none
def nt{lo hi:Option Expr}{fl S:FO}{sp:Pos}(c:DEx X G H0 a f)(e:DOx X G H0 lo fl)(g:DOx X G H0 hi S) :
  DFx X G H0 (.Subscript a (.Slice lo hi none sp) pos) (fSl f fl S):=⟨(zqi zyz c.out e.out g.out).imp λσ H Q i=>by
 obtain⟨W,env,d,env',ok,q,k⟩:=i;cases e1:f env with
 | none=>simp[e1] at q
 | some r =>
   obtain⟨j,D⟩:=r;cases e2:fl D with
   | none=>simp[e1,e2] at q
   | some r2 =>
     obtain⟨Y,I⟩:=r2;cases e3:S I with
     | none=>simp[e1,e2,e3] at q
     | some r3 =>
       obtain⟨Z,J⟩:=r3;cases j with
       | lst ds =>
         have q:some (cutD ds Y Z,J)=some (d,env'):=by simpa[fSl,e1,e2,e3] using q
         cases q;refine⟨W,env,_,_,ok,e1,λW1 v1 H1 m R p1=>⟨W1,D,_,_,R,e2,λn H2 s2 U=>⟨n,I,_,_,U,e3,λo w b V=>?_⟩⟩⟩;obtain⟨l,us,rfl,h,r⟩:=(R.rep (s2.trans b) p1).lst_;refine⟨l,us,rfl,h.sq,λl' p=>?_⟩;obtain⟨h1,h2,s,t,u,v⟩:=ue V (r.cut Y Z) p;exact k o l' _ _ (((m.trans s2).trans b).trans h1) h2 s t u v
       | _=>simp[e1,e2,e3] at q⟩
def z4z(K:k4):R2:=λx y H Q=>∃l b xs D,x=.ref l/\y=.ref b/\SqL K H l xs/\SqL K H b D/\xs.length+D.length<=sizeLine/\∀p,H p=none->Q (.ref p) (upd H p (.lst (xs++D)))
theorem zzb:OpR X (binaryOp .Add) (z4z X.K):=by
 intro pins s σ H x y v u Q I d e h;obtain⟨l,b,xs,p,rfl,rfl,f,g,t,q⟩:=h;cases d;cases e;obtain⟨its,r,⟨⟨cls,dd,data,sl⟩,n,Z,i,S,j⟩,z⟩:=I.list f;obtain⟨D,a,⟨⟨c,k,data2,U⟩,m,J,V,R,Y⟩,w⟩:=I.list g;subst i j V Y S R;have A:=r.length;have o:=a.length;refine concat_meets ⟨_,Z,rfl⟩ ⟨_,J,rfl⟩ noFill_list_add seq_list_add PySem.F.slot_list_add PySem.F.entry_list_add (PySem.F.args_list_add_2 _ _) (list_addW l b its.toArray D.toArray n m none none sl U (by simp;lia)) ⟨Z,J,?_⟩;have ea:its.toArray++D.toArray=(its++D).toArray:=by simp
 rw[ea];exact⟨.ref _,_,I.lnew (t':=s.toks) (r.append a) (by rw[am];lia),rfl,q _ I.fresh⟩
@[simp] noncomputable def fCat(f g:FE):FA:=λe=>(f e).bind λr=>(g r.2).bind λq=>match r.1,q.1 with | .lst ds,.lst es=>if Few (ds.length+es.length) then some (ds++es,q.2) else none | _,_=>none
def l6(Y:DEx X G H0 a f)(Z:DEx X G H0 b g):DFx X G H0 (.BinOp a .Add b pos) (fCat f g):=⟨(zym zzb Y.out Z.out).imp λσ H Q c=>by
 obtain⟨W,env,d,env',ok,q,k⟩:=c;cases e1:f env with
 | none=>simp[e1] at q
 | some r =>
   obtain⟨e,D⟩:=r;cases e2:g D with
   | none=>simp[e1,e2] at q
   | some r2 =>
     obtain⟨i,I⟩:=r2;cases e with
     | lst ds =>
       cases i with
       | lst es =>
         by_cases R:Few (ds.length+es.length)
         ·have q:some (ds++es,I)=some (d,env'):=by simpa only[fCat,e1,e2,ac,if_pos R] using q
          cases q;refine⟨W,env,_,_,ok,e1,λW1 v1 H1 j J p1=>⟨W1,D,_,_,J,e2,λm v2 H2 s2 S p2=>?_⟩⟩;obtain⟨l,us,rfl,h,r⟩:=(J.rep s2 p1).lst_;obtain⟨l',U,rfl,h',V⟩:=p2.lst_;refine⟨l,l',us,U,rfl,rfl,h.sq,h'.sq,?_,λn o=>?_⟩
          ·rw[<-r.length,<-V.length];exact cx R (by rw[sizeLine_eq];decide)
          ·obtain⟨h1,h2,p,s,t,u⟩:=ue S (r.append V) o
           exact k m n _ _ ((j.trans s2).trans h1) h2 p s t u
         ·simp only[fCat,e1,e2,ac,if_neg R] at q;cases q
       | _=>simp[e1,e2] at q
     | _=>simp[e1,e2] at q⟩
@[simp] noncomputable def h9(i:Nat):FE:=λe=>match e[i]? with
 | some (some (.ow ds))=>some (.int ds.length,e)
 | some (some (.sh (.lst ds)))=>some (.int ds.length,e)
 | some (some (.sh (.tup ds)))=>some (.int ds.length,e)
 | _=>none
def js{Nn Cn:g9}{i:Nat}(an:Ats Nn Cn X)(R:Bn X "len":=by walk_at "b")(J:Nn[i]?=some x:=by rfl)(S:starEach [.Name x p1] X.env=(false,eval (.Name x p1) X.env)::starEach [] X.env:=by rfl):DEx X G H0 (.Call (.Name "len" p') [.Name x p1] [] pos) (h9 i) :=
 ⟨(yx zhu R.g R.m ut (mn ((an.a J).pe) pq S) (by decide) (by decide) S rfl).imp λσ H Q U=>by
  obtain⟨W,env,d,env',ok,q,k⟩:=U;unfold h9 at q;split at q
  ·rename_i ds D
   cases q;obtain⟨v,I,l,vs,rfl,Y,V,r⟩:=ok.slot i _ D;exact⟨_,I,l,vs,rfl,.inl (.inl (.inl V)),by rw[<-r.length];exact k W _ H Step.refl ok (.int _)⟩
  ·rename_i ds D
   cases q;obtain⟨v,I,r⟩:=ok.slot i _ D;obtain⟨l,us,rfl,h,r⟩:=Rep.lst_ r;exact⟨_,I,l,us,rfl,.inl h.sq,by rw[<-r.length];exact k W _ H Step.refl ok (.int _)⟩
  ·rename_i ds D
   cases q;obtain⟨v,I,r⟩:=ok.slot i _ D;obtain⟨l,us,rfl,h,r⟩:=Rep.tup_ r;exact⟨_,I,l,us,rfl,.inr (SqT.of h),by rw[<-r.length];exact k W _ H Step.refl ok (.int _)⟩
  ·cases q⟩
@[simp] noncomputable def ixSl:D->Option ln->la
 | .int k,some (some (.ow ds))=>atI ds k
 | .int k,some (some (.sh (.lst ds)))=>atI ds k
 | .int k,some (some (.sh (.tup ds)))=>atI ds k
 | _,_=>none
@[simp] noncomputable def fIxV(i:Nat)(g:FE):FE:=λe=>match e[i]? with
 | some (some _)=>(g e).bind λr=>(ixSl r.1 r.2[i]?).map λd=>(d,r.2)
 | _=>none
def dz{Nn Cn:g9}{i:Nat}(j:DEx X G H0 b g)(an:Ats Nn Cn X)(m:vi b:=by intro _ _;rfl)(Y:Nn[i]?=some x:=by rfl):DEx X G H0 (.Subscript (.Name x p1) b pos) (fIxV i g) :=
 ⟨(yi zxo ((an.a Y).pe) j.out m).imp λσ H Q n=>by
  obtain⟨W,env,d,env',ok,q,k⟩:=n;unfold fIxV at q;split at q;case h_2=>cases q
  rename_i p Z;obtain⟨v,V,_⟩:=ok.slot i _ Z;cases e1:g env with
  | none=>rw[e1] at q;cases q
  | some r =>
    obtain⟨e,J⟩:=r;rw[e1,ac] at q;cases e3:ixSl e J[i]? with
    | none=>rw[e3] at q;cases q
    | some d' =>
      rw[e3] at q;cases q;refine⟨v,V,W,env,e,_,ok,e1,λW1 v1 H1 c D p1=>?_⟩;unfold ixSl at e3;split at e3
      ·rename_i kk ds R
       obtain⟨f,I,l,vs,rfl,s,o,r⟩:=D.slot i _ R;rw[V] at I;cases I;obtain⟨u,S,U⟩:=wu r e3;exact .inl ⟨l,vs,kk,u,rfl,p1.int_,.inl (.inl o),S,k W1 _ H1 c D U⟩
      ·rename_i kk ds R
       obtain⟨f,I,r⟩:=D.slot i _ R;rw[V] at I;cases I;obtain⟨l,us,rfl,h,r⟩:=Rep.lst_ r;obtain⟨u,S,U⟩:=wu r e3;exact .inl ⟨l,us,kk,u,rfl,p1.int_,h.sq,S,k W1 _ H1 c D U⟩
      ·rename_i kk ds R
       obtain⟨f,I,r⟩:=D.slot i _ R;rw[V] at I;cases I;obtain⟨l,us,rfl,h,r⟩:=Rep.tup_ r;obtain⟨u,S,U⟩:=wu r e3;exact .inr (.inl ⟨l,us,kk,u,rfl,p1.int_,SqT.of h,S,k W1 _ H1 c D U⟩)
      ·cases e3⟩
end
section
variable {X:Cx} {G:Gd} {H0:Hp} {a b c e:Expr} {es rest:ka} {f g:FE} {F:FA} {p q:FT} {pos p' p1 pos1:Pos} {x:Str}
@[simp] noncomputable def tyD:D->String | .non=>"NoneType" | .bl _=>"bool" | .int _=>"int" | .str _=>"str" | .tup _=>"tuple" | .lst _=>"list" | .dct _ _=>"dict" | .exc _=>"exc"
@[simp] noncomputable def isiT(t T:String):Bool:=t==T || (t=="bool" && T=="int")
def zth(T:String):Bool:=T=="int" || T=="bool" || T=="str" || T=="tuple" || T=="list"
def zvs(K:k4)(d:D)(T:String)(h:zth T=true)(I:∀a,d≠.exc a):PySem.W.kitOne K (.type (tyD d)) (.type T)=some (isiT (tyD d) T):=by
 simp only[zth,Bool.or_eq_true,beq_iff_eq] at h;rcases h with(((rfl | rfl) | rfl) | rfl) | rfl <;> cases d <;> first | rfl | exact absurd rfl (I _)
def zvt:nv X (.builtin "isinstance") (λxs H Q=>∃x T t b,xs=[x,.ty T]/\(TyOf X.K H x t\/(t=.type "list"/\∃a us,x=.ref a/\SqL X.K H a us))/\PySem.W.kitOne X.K t (.type T)=some b/\Q (.bl b) H):=by
 intro pins s σ H xs us Q I r h;obtain⟨x,T,t,b,rfl,D,e,q⟩:=h;obtain⟨u,R,rfl,J,rt⟩:=zyq r;cases (show R=Value.type T from rt);rcases D with D | ⟨rfl,a,ws,rfl,hq⟩
 ·exact zs0 I J D e λtk=>⟨.bl b,H,I.tok tk,rfl,q⟩
 ·cases (show u=Value.ref a from J)
  obtain⟨its,_,⟨o,n,h1,h2,_⟩,_⟩:=I.list hq;exact d6 nh I.kIn ⟨o,h1,h2⟩ e (λz=>nomatch z) λtk=>⟨.bl b,H,I.tok tk,rfl,q⟩
def z2u{K:k4}{H:Hp}{O:Addr->Prop}{d:D}{v:V}(r:Rep K H O d v)(I:∀a,d≠.exc a):TyOf K H v (.type (tyD d))\/(Value.type (tyD d)=.type "list"/\∃a us,v=.ref a/\SqL K H a us):=by
 cases r with
 | non=>exact .inl .non
 | bl b=>exact .inl (.bl b)
 | int i=>exact .inl (.int i)
 | str s=>exact .inl (.str s)
 | tup h _=>exact .inl (.tup h)
 | lst o h _=>exact .inr ⟨rfl,_,_,rfl,.inl h⟩
 | klst h _=>exact .inr ⟨rfl,_,_,rfl,.inr h⟩
 | dct h _=>exact .inl (.dK h)
 | exc a=>exact absurd rfl (I a)
def zqn:bootBuiltins "isinstance" = some (.builtin "isinstance"):=by decide +kernel
@[simp] noncomputable def fIsi(T:String)(f:FE):FE:=λe=>(f e).bind λr=>match r.1 with | .exc _=>none | d=>some (.bl (isiT (tyD d) T),r.2)
structure Ty (x:Str) (T:String):Prop where
 b:bootBuiltins x=some (.type T)
 k:zth T=true
 d:(x==("__debug__" : Str))=false
 n:x ≠ "__name__"
def o6{T:String}(D:Ty x T)(c:DEx X G H0 a f)(V:Bn X "isinstance":=by walk_at "b")(I:Gl X x:=by walk_at "g")(J:X.mg x=none:=by assumption)(Y:starEach [a,.Name x p1] X.env=(false,eval a X.env)::starEach [.Name x p1] X.env:=by rfl)(R:starEach [.Name x p1] X.env=(false,eval (.Name x p1) X.env)::starEach [] X.env:=by rfl)(S:(backTo pos (starEach [.Name x p1] X.env)).any (·.1)=false:=by rfl) :
  DEx X G H0 (.Call (.Name "isinstance" p') [a,.Name x p1] [] pos) (fIsi T f) :=
 ⟨(yx zvt V.g V.m zqn (mn c.out (mn (zsm (v:=.ty T) I J D.b rfl D.n D.d) pq R) Y) (by decide) (by decide) Y S).imp λσ H Q e=>by
  obtain⟨W,env,d,env',ok,q,k⟩:=e;cases e1:f env with
  | none=>simp[e1] at q
  | some r =>
    unfold fIsi at q;rw[e1,ac] at q;split at q
    ·cases q
    ·rename_i Z
     cases q;exact⟨W,env,_,_,ok,e1,λW1 v1 H1 h U p1=>⟨v1,T,_,_,rfl,z2u p1 Z,zvs X.K _ T D.k Z,k W1 _ H1 h U (.bl _)⟩⟩⟩
abbrev FI:=DE0->Option (k9×DE0)
structure Walk (K:k4) (G:Gd) (J:It) (W:Addr->Prop) (H:Hp) (ds:k9):Prop where
 go:∀W' H' (i:Nat) d,Step W H W' H'->ds[i]?=some d->J.go i H'/\∀x H'',J.yld i H' x H''->H''=H'/\Rep K H' (Ow G W') d x
 stop:∀W' H',Step W H W' H'->J.stop ds.length H'
def tDI(K:k4)(G:Gd)(H0:Hp)(f:FI):TI:=λσ H R=>DP K G H0 f (λW env ds env' =>
 ∀W' J H',Step W H W' H'->Ok K G H0 W' env' σ H'->Walk K G J W' H' ds->R J H') σ H
structure DIC (Cm:Cx->Prop) (X:Cx) (G:Gd) (H0:Hp) (tg:Expr) (e:Expr) (f:FI):Prop where
 out:PIC Cm X tg e (tDI X.K G H0 f)
abbrev DIx:=DIC λX=>X.calm=true
def PI.imp{X:Cx}{tg e:Expr}{t t':TI}(h:PI X tg e t)(i:∀σ H Q,t' σ H Q->t σ H Q):PI X tg e t':=λpins s σ H Q I q=>h pins s σ H Q I (i σ H Q q)
def PIC.imp{Cm:Cx->Prop}{X:Cx}{tg e:Expr}{t t':TI}(h:PIC Cm X tg e t)(i:∀σ H Q,t' σ H Q->t σ H Q):PIC Cm X tg e t':=λpins s σ H Q I q=>h pins s σ H Q I (i σ H Q q)
def zn9{W:Addr->Prop}{H:Hp}{a:Addr}{vs:k8}{ds:k9}{env:DE0}{σ:St}(ok:Ok X.K G H0 W env σ H)(h:LsOk X.K H (Ow G W) a vs)(r:Reps X.K H (Ow G W) ds vs):Walk X.K G (Itl X.K a) W H ds where
 go:=λW' H' i d st e=>by
  obtain⟨v,I,J⟩:=(ok.reps st r).get e;have h':=(ok.lsstep st h).sq;exact⟨⟨vs,v,h',I⟩,λx H'' ⟨e2,y⟩=>⟨e2,by have:=y vs h';rw[I] at this;cases this;exact J⟩⟩
 stop:=λW' H' st=>⟨vs,(ok.lsstep st h).sq,by rw[r.length];exact bw _⟩
def zvu{W:Addr->Prop}{H:Hp}{a:Addr}{vs:k8}{ds:k9}{env:DE0}{σ:St}(ok:Ok X.K G H0 W env σ H)(h:H a=some (.tup vs))(r:Reps X.K H (Ow G W) ds vs):Walk X.K G (Itt X.K a) W H ds where
 go:=λW' H' i d st e=>by
  obtain⟨v,I,J⟩:=(ok.reps st r).get e;have h':=ok.tstep st a vs h;exact⟨⟨vs,v,SqT.of h',I⟩,λx H'' ⟨e2,y⟩=>⟨e2,by have:=y vs (SqT.of h');rw[I] at this;cases this;exact J⟩⟩
 stop:=λW' H' st=>⟨vs,SqT.of (ok.tstep st a vs h),by rw[r.length];exact bw _⟩
def zvv{W:Addr->Prop}{H:Hp}{lo:Int}{n:Nat}:Walk X.K G (Itr lo n) W H ((List.range n).map λ(k:Nat)=>D.int (lo+(k:Int))) where
 go:=λW' H' i d st e=>by
  rw[b7] at e;have hi:i<n:=by
   have:=(aj.mp (show((List.range n).map λ(k:Nat)=>D.int (lo+(k:Int)))[i]?=some d by rw[b7];exact e)).1;simpa using this
  rw[List.getElem?_range hi] at e;cases e;exact⟨hi,λx H'' ⟨e2,y⟩=>⟨e2,by rw[y];exact .int _⟩⟩
 stop:=λW' H' st=>by rw[ah,j1];exact bw _
@[simp] noncomputable def fiS(f:FE):FI:=λe=>(f e).bind λr=>match r.1 with | .lst ds=>some (ds,r.2) | .tup ds=>some (ds,r.2) | _=>none
def PI.or{tg:Expr}{t t':TI}(h:PI X tg e t)(h':PI X tg e t'):PI X tg e (λσ H R=>t σ H R\/t' σ H R):=λpins s σ H R I q=>q.elim (h pins s σ H R I) (h' pins s σ H R I)
def j8{tg:Expr}(h:DEx X G H0 e f):DIx X G H0 tg e (fiS f):=⟨((zsr h.out).or (z1k h.out)).imp λσ H R S=>by
 obtain⟨W,env,ds,env',ok,q,k⟩:=S;cases e1:f env with
 | none=>simp[e1] at q
 | some r =>
   obtain⟨d,I⟩:=r;cases d with
   | lst ds' =>
     have q:some (ds',I)=some (ds,env'):=by simpa[fiS,e1] using q
     cases q;refine .inl ⟨W,env,_,_,ok,e1,λW1 v1 H1 J D p1=>?_⟩;obtain⟨a,vs,rfl,h.out,r⟩:=p1.lst_;exact⟨a,rfl,⟨vs,h.out.sq⟩,k W1 _ H1 J D (zn9 D h.out r)⟩
   | tup ds' =>
     have q:some (ds',I)=some (ds,env'):=by simpa[fiS,e1] using q
     cases q;refine .inr ⟨W,env,_,_,ok,e1,λW1 v1 H1 J D p1=>?_⟩;obtain⟨a,vs,rfl,h.out,r⟩:=p1.tup_;exact⟨a,rfl,⟨vs,SqT.of h.out⟩,k W1 _ H1 J D (zvu D h.out r)⟩
   | _=>simp[e1] at q⟩
def rngD(lo:Int)(n:Nat):k9:=(List.range n).map λ(k:Nat)=>D.int (lo+(k:Int))
def iR1(ds:k9):Option k9:=match ds with | [.int j]=>if Bnd (-(2 ^ 62)) (2 ^ 62) j then some (rngD 0 j.toNat) else none | _=>none
def zl2{Cm:Cx->Prop}{tg:Expr}(hT:∀(it:Addr) (lo:Int) (n:Nat),u7 Cm X.prog X.w X.K tg (Itr lo n) [it] it (λi h=>IsRangeIter h it (lo+(i:Nat)*1) ((n:Int)-(i:Nat)) 1))(U:DAx X G H0 [a] F)(J:Bn X "range":=by walk_at "b")(V:starEach [a] X.env=[(false,eval a X.env)]:=by rfl):DIC Cm X G H0 tg (.Call (.Name "range" p') [a] [] pos) (i3 iR1 F) :=
 ⟨PIC.imp (zrq hT J.g J.m U.out V) λσ H R Y=>by
  obtain⟨W,env,ds,env',ok,q,k⟩:=Y;cases e1:F env with
  | none=>simp[e1] at q
  | some z =>
    obtain⟨as,D⟩:=z;cases e2:iR1 as with
    | none=>simp[e1,e2] at q
    | some d' =>
      have q:some (d',D)=some (ds,env'):=by simpa[i3,e1,e2] using q
      cases q;refine⟨W,env,as,_,ok,e1,λW1 vs H1 Z I p1=>?_⟩;unfold iR1 at e2;split at e2
      ·rename_i j
       split at e2
       ·rename_i S
        cases e2;obtain⟨v,rfl,b⟩:=qf p1;cases b;exact⟨j,rfl,S.1,S.2,k W1 _ H1 Z I zvv⟩
       ·cases e2
      ·cases e2⟩
def td{tg:Expr}(D:DAx X G H0 [a] F)(I:Bn X "range":=by walk_at "b")(J:starEach [a] X.env=[(false,eval a X.env)]:=by rfl):DIx X G H0 tg (.Call (.Name "range" p') [a] [] pos) (i3 iR1 F):=zl2 (λit lo n=>zic it lo n) D I J
def capt:ln->ln | some (.sh d)=>some (.sh d) | _=>none
def mi(tt:FT)(te:FE)(base:DE0):k9->Option k9
 | []=>some []
 | d::r=>(tt (some (.sh d)::base)).bind λb=>if b.1=true then(te b.2).bind λv=>(mi tt te base r).map (v.1::·) else mi tt te base r
def gv(fi:FI)(ix:ic)(tt:FT)(te:FE):FA:=λe=>(fi e).bind λr=>if Few r.1.length then(mi tt te (ix.map λj=>capt (r.2.getD j none)) r.1).map λds=>(ds,r.2) else none
@[simp] noncomputable def fYes:FT:=λe=>some (true,e)
def tDxT(K:k4)(f:FT):TT:=λσ H Q=>∃G H0,tDT K G H0 f σ H Q
def tDx(K:k4)(f:FE):TE:=λσ H Q=>∃G H0,tD K G H0 f σ H Q
def NoW:Addr->Prop:=λ_=>False
def zmm{W:Addr->Prop}{env:DE0}{σ:St}{H:Hp}{ix:ic}{d:D}{v:V}(ok:Ok X.K G H0 W env σ H)(r:Rep X.K H (Ow G W) d v) :
  Ok X.K (gd λa=>Ow G W a\/H a=none) H NoW (some (.sh d)::ix.map λj=>capt (env.getD j none)) (some v::ix.map λj=>σ.getD j none) H:=by
 have R:∀ {d:D} {v:V},Rep X.K H (Ow G W) d v->Rep X.K H (Ow (gd λa=>Ow G W a\/H a=none) NoW) d v:=λr=>r.mono (λ_ _ h=>h) λa us o h=>⟨⟨.inl o,λz=>z⟩,h⟩;have I:∀(i:Nat) (s:Sl),(some (Sl.sh d)::ix.map λj=>capt (env.getD j none))[i]?=some (some s)->∃d',s=.sh d':=λi s z=>by
  cases i with
  | zero=>exact⟨d,by simpa using z.symm⟩
  | succ i =>
    simp only[af,b7] at z;cases q:ix[i]? with
    | none=>rw[q] at z;cases z
    | some j =>
      rw[q] at z;have z:capt (env.getD j none)=some s:=bq z;unfold capt at z;split at z
      ·cases z;exact⟨_,rfl⟩
      ·cases z
 refine⟨Same.refl _,λa z=>.inr z,λl z=>z.elim,λi s e=>?_,λi j S s2 v1 v2 a J _ _ _ o _=>by obtain⟨d',rfl⟩:=I i S J;exact o.elim,by simp⟩;cases i with
 | zero =>
   cases e;exact⟨v,rfl,R r⟩
 | succ i =>
   simp only[af,b7] at e ⊢;cases q:ix[i]? with
   | none=>rw[q] at e;cases e
   | some j =>
     rw[q] at e;have e:capt (env.getD j none)=some s:=bq e;rw[dg] at e;cases q2:env[j]? with
     | none=>rw[q2] at e;cases e
     | some o =>
       rw[q2] at e;have e:capt o=some s:=e;unfold capt at e;split at e
       ·rename_i d'
        cases e;obtain⟨u,J,U⟩:=ok.slot j _ q2;exact⟨u,by simp only[ai];rw[dg,J];rfl,R U⟩
       ·cases e
inductive CInv (K:k4) (O:Addr->Prop) (H1:Hp) (ds d:k9) (f:k9->Option k9) (i m:Nat) (H':Hp) (ys:k8):Prop
 | mk (rest done:k9) (hm:m=ds.length-i) (hi:i<=ds.length) (sm:Same H1 H') (rp:Reps K H' O done ys) (hd:done.length<=i) (ec:f (ds.drop i)=some rest) (hz:d=done++rest):CInv K O H1 ds d f i m H' ys
def zkm:2 ^ 20<=sizeLine:=by rw[sizeLine_eq];decide
def zqo{fi:FI}{ix:ic}{tt:FT}{te:FE}:∀σ H Q,tDF X.K G H0 (gv fi ix tt te) σ H Q->wg (tDI X.K G H0 fi) ix (tDxT X.K tt) (tDx X.K te) σ H Q:=λσ H Q z=>by
 obtain⟨W,env,d,env',ok,q,k⟩:=z;obtain⟨⟨ds,Z⟩,E,q⟩:=dh.mp q;by_cases n:Few ds.length;case neg=>cases (if_neg n).symm.trans q
 obtain⟨A,F,q⟩:=gi.mp ((if_pos n).symm.trans q);cases q;refine⟨W,env,ds,_,ok,E,λW1 J H1 L s B=>⟨CInv X.K (Ow G W1) H1 ds d (mi tt te (ix.map λj=>capt (Z.getD j none))),⟨ds.length,d,[],rfl,fu _,Same.refl _,.nil,bw _,F,rfl⟩,λi m H' ys z=>?_⟩⟩;obtain⟨rest,S,M,hi,sm,c,p,R,t⟩:=z;subst M;have D:=s.same sm;by_cases I:i<ds.length
 ·rw[eg I] at R
  obtain⟨⟨b,U⟩,N,R⟩:=dh.mp R;obtain⟨O,P⟩:=B.go W1 H' i ds[i] (Step.same sm) (ay I);refine .inr ⟨O,λx u y=>?_⟩;obtain⟨e,T⟩:=P x u y;subst e;refine⟨_,_,NoW,_,b,U,zmm (ix:=ix) D T,N,λW2 H2 s2 V=>?_⟩;have r:ds.length-(i+1)<ds.length-i:=ly _ _ I;cases b with
  | false=>exact⟨_,r,rest,S,rfl,I,sm.trans V.stay,D.reps (Step.same V.stay) c,nj p,R,t⟩
  | true =>
    obtain⟨⟨C,f⟩,e4,R⟩:=dh.mp R;obtain⟨Y,e5,e6⟩:=gi.mp R;refine⟨_,_,W2,U,C,f,V,e4,λW3 v H3 s3 g r3=>⟨?_,_,r,Y,S++[C],rfl,I,sm.trans g.stay,(D.reps (Step.same g.stay) c).append (.cons (r3.mono (λ_ _ h=>h) λa us o h=>⟨?_,h⟩) .nil),?_,e5,?_⟩⟩
    ·rw[<-c.length];exact az (Nat.lt_of_le_of_lt p (az I n)) zkm
    ·rcases o.1 with z | z
     ·exact z
     ·exact⟨D.good a (D.stay.free z),λw=>by obtain⟨_,us,q⟩:=D.wl a w;rw[z] at q;cases q⟩
    ·rw[am];exact Nat.succ_le_succ p
    ·rw[t,<-e6,d4];rfl
 ·cases re hi (ke I)
  rw[i9] at R;cases R;refine .inl ⟨B.stop W1 H' (Step.same sm),by rw[<-c.length];exact cx p (cx n zkm),λl r=>?_⟩;obtain⟨h1,h2,h3,h4,h5,h6⟩:=ue D c r;rw[t,dc] at k;exact k W1 l _ _ ((L.trans (Step.same sm)).trans h1) h2 h3 h4 h5 h6
def ye{D:Cx}(R:D.K=X.K):PIfs D [] (tDxT X.K fYes):=λpins s σ H Q I J=>by
 obtain⟨G,H0,W,env,b,env',ok,e,k⟩:=J;cases e;exact zvl pins s σ H Q I (k W H Step.refl ok)
def if_x{D:Cx}{tt:FT}(J:D.K=X.K)(h:∀G H0,DTx D G H0 c tt):PIfs D [c] (tDxT X.K tt):=λpins s σ H Q I ⟨G,H0,q⟩=>zvm (h G H0).out pins s σ H Q I (by rw[J];exact q)
def el_x{D:Cx}{te:FE}(J:D.K=X.K)(h:∀G H0,DEx D G H0 e te):PE D e (tDx X.K te):=λpins s σ H Q I ⟨G,H0,q⟩=>(h G H0).out pins s σ H Q I (by rw[J];exact q)
def o8{Nn Cn:g9}{ix:ic}{sc:Scope}{px:Pos}{fi:FI}{te:FE}(an:Ats Nn Cn X)(hi:DIx X G H0 (.Name x px) a fi)(I:∀cl C s₂ H₂ fp G H0,Ats (x::(subN Nn ix)) (subN Nn ix) (ip X x (subN Nn ix) sc cl C s₂ H₂ fp)->DEx (ip X x (subN Nn ix) sc cl C s₂ H₂ fp) G H0 e te)(D:pk Nn Cn ix x sc=true:=by decide +kernel)(J:X.calm=true:=by rfl)(R:∀v,foldedSetIterable a X.env v=pure v:=by intro _;rfl) :
  DFx X G H0 (.ListComp e [⟨.Name x px,a,[],0⟩] sc pos) (gv fi ix fYes te) :=
 ⟨(zpc (vh an D) (λ_ _ _ _ _ _ _ _ _=>J) hi.out (λcl C s₂ H₂ fp _=>ye (X:=X) rfl) (λcl C s₂ H₂ fp _=>el_x (X:=X) rfl (λG H0=>I cl C s₂ H₂ fp G H0 (sv D))) R).imp zqo⟩
def zoa{Nn Cn:g9}{ix:ic}{sc:Scope}{px:Pos}{fi:FI}{te:FE}{tt:FT}{R:Expr}(an:Ats Nn Cn X)(hi:DIx X G H0 (.Name x px) a fi)(I:∀cl C s₂ H₂ fp G H0,Ats (x::(subN Nn ix)) (subN Nn ix) (ip X x (subN Nn ix) sc cl C s₂ H₂ fp)->DTx (ip X x (subN Nn ix) sc cl C s₂ H₂ fp) G H0 R tt)(J:∀cl C s₂ H₂ fp G H0,Ats (x::(subN Nn ix)) (subN Nn ix) (ip X x (subN Nn ix) sc cl C s₂ H₂ fp)->DEx (ip X x (subN Nn ix) sc cl C s₂ H₂ fp) G H0 e te)(D:pk Nn Cn ix x sc=true:=by decide +kernel)(S:X.calm=true:=by rfl)(U:∀v,foldedSetIterable a X.env v=pure v:=by intro _;rfl) :
  DFx X G H0 (.ListComp e [⟨.Name x px,a,[R],0⟩] sc pos) (gv fi ix tt te) :=
 ⟨(zpc (vh an D) (λ_ _ _ _ _ _ _ _ _=>S) hi.out (λcl C s₂ H₂ fp _=>if_x (X:=X) rfl (λG H0=>I cl C s₂ H₂ fp G H0 (sv D))) (λcl C s₂ H₂ fp _=>el_x (X:=X) rfl (λG H0=>J cl C s₂ H₂ fp G H0 (sv D))) U).imp zqo⟩
end
def Here(h h':Heap):Prop:=∀b o,h.get? b=some o->∃o',h'.get? b=some o'
def Here.trans{a b c:Heap}(x:Here a b)(y:Here b c):Here a c:=λp o q=>let ⟨o',e⟩:=x p o q;y p o' e
def zmn{a:Addr}{f:Obj->Obj}(D:∀o,h.get? a=some o->(h.update a f).get? a=some (f o)):Here h (h.update a f):=λb o q=>by
 by_cases e:a=b
 ·subst e;exact⟨_,D o q⟩
 ·exact⟨o,(cj _ _ e).trans q⟩
structure XOk (B:Heap) (l:i0) (e:Addr) (cls fl:Value) (h:Heap):Prop where
 stay:B.StaysIn h
 new:B.get? e=none
 fr:h.FunFrames B l
 tr:∃oe vs T oT ts,h.get? e=some oe/\oe.cls=cls/\oe.dict=none/\oe.data=.fields vs/\vs[1]?=some (.ref T)/\vs[2]?=some .none/\B.get? T=none/\T≠e/\h.get? T=some oT/\oT.data=.fields ts/\ts[3]?=some fl
def ztj(o:Obj)(f:k7->k7):(o.mapFields f).dict=o.dict:=by obtain⟨c,d,D,sl⟩:=o;cases D <;> rfl
variable{env:Env}{e L:Addr}{M:Model}{A:Around}{E:Value->Shared->Prop}{B:Heap}{outer:i0}
def zxx{D:Obj}{vs:k7}{g:Value}{nx:Bool}(p:A.frames=some (env::outer))(U:s.heap.FunFrames B (env::outer))(r:env.frame=some L)(V:s.heap.get? e=some D)(gd:D.dict=none)(I:D.data=.fields vs)(i:1<vs.size)(t:vs[2]?=some .none)(k1:B.StaysIn s.heap)(k2:B.get? e=none)(h:∀h',XOk B (env::outer) e D.cls (rawInt L) h'->s.heap.UpToSlots h'->Here s.heap h'->Q () { s with heap:=h' }) :
  wpAny M A (do let a <-frameOf env;let pl <-entryPlaceOf L nx;let b <-EntryCells.newEntry g a .none (rawInt L) .none pl;setField (.ref e) 1 b) Q E s:=by
 have Y:e∉(env::outer).filterMap (·.frame):=λz=>by
  obtain⟨_,o,j,u⟩:=U.mem z;rw[V] at j;cases j;exact u vs I
 refine wpAny_bind (wpAny_frameOf_fun p U r λh1 J=>?_);refine wpAny_bind (wpAny_entryPlaceOf λpl R=>?_);refine wpAny_bind (wpAny_newObj_type ?_ (R.sizeOk5 _ _ _ _ _));have k:h1.get? e=some D:=(J.2.1 e Y).trans V;have l:B.StaysIn h1:=λb o q=>(J.2.1 b λz=>by rw[(U.mem z).1] at q;cases q).trans (k1 b o q);generalize S:({ cls:=.type "traceback",dict:=none,data:=.fields ([g,.ref L,.none,rawInt L,.none]++(if pl.isEmpty then List.replicate 6 Value.none else pl)).toArray }:Obj)=ob;have Z:∃ts,ob.data=.fields ts/\ts[3]?=some (rawInt L):=by subst S;exact⟨_,rfl,by first | (simp;done) | (rcases R with rfl | ⟨_,_,_,_,_,_,_,rfl⟩ <;> simp)⟩
 have c:ob.isFreed=false:=by subst S;rfl
 have d:=ao (h:=h1) ob k;have m:h1.objs.size≠e:=kt (bg k);have f:=Obj.data_mapFields I (·.setIfInBounds 1 (Value.ref h1.objs.size));refine wpAny_setField d I i (h _ ?_ ?_ ?_)
 ·refine⟨λb o q=>?_,k2,U.of_keeps λb o q n=>?_,?_⟩
  ·rw[cj _ _ (λz:e=b=>by rw[<-z,k2] at q;cases q)]
   exact ao _ (l b o q)
  ·obtain⟨sl,z⟩:=J.2.2 b o q
   refine⟨{ o with slots:=sl },?_,rfl⟩;rw[cj _ _ (λy:e=b=>by rw[<-y,V] at q;cases q;exact n vs I)];exact ao _ z
  ·obtain⟨ts,v,w⟩:=Z
   refine⟨_,_,h1.objs.size,ob,ts,fj _ d (Obj.isFreed_of_fields f),Obj.cls_mapFields _ _,(ztj _ _).trans gd,f,by simp[i],by rw[Array.getElem?_setIfInBounds_ne (by decide)];exact t,l.fresh,m,?_,v,w⟩;rw[cj _ _ (Ne.symm m)];exact ci h1 c
 ·intro b o q n
  obtain⟨sl,z⟩:=J.2.2 b o q;refine⟨sl,?_⟩;rw[cj _ _ (λy:e=b=>by rw[<-y,V] at q;cases q;exact n vs I)];exact ao _ z
 ·intro b o q
  obtain⟨sl,z⟩:=J.2.2 b o q;exact zmn (λo q=>fj _ q (by rw[d] at q;cases q;exact Obj.isFreed_of_fields f)) b _ (ao _ z)
variable{l:i0}{cls fl:Value}
def zpf(x:XOk B l e cls fl s.heap)(h:∀h',XOk B l e cls .none h'->s.heap.UpToSlots h'->Here s.heap h'->Q () { s with heap:=h' }):wpAny M A (setFlight (.ref e) none) Q E s:=by
 obtain⟨d,vs,T,g,ts,R,Z,gd,S,U,a,V,Y,D,I,c⟩:=x.tr;have sz:3<ts.size:=(jv.mp c).1;unfold setFlight;refine wpAny_bind (wpAny_field R S U ?_);have J:=Obj.data_mapFields I (·.setIfInBounds 3 ((none:Option Addr).elim Value.none λf=>rawInt f));refine wpAny_setField D I sz (h _ ⟨λb o q=>?_,x.new,x.fr.of_keeps λb o q n=>⟨o,?_,rfl⟩,_,vs,T,_,_,(cj _ _ Y).trans R,Z,gd,S,U,a,V,Y,fj _ D (Obj.isFreed_of_fields J),J,by simp[sz]⟩ (λb o q n=>⟨o.slots,?_⟩) (zmn λo q=>fj _ q (by rw[D] at q;cases q;exact Obj.isFreed_of_fields J)))
 ·exact(cj _ _ λz=>by rw[<-z,V] at q;cases q).trans (x.stay b o q)
 ·exact(cj _ _ λz=>by rw[<-z,D] at q;cases q;exact n ts I).trans q
 ·exact(cj _ _ λz=>by rw[<-z,D] at q;cases q;exact n ts I).trans q
def z40(Z:A.frames=some (env::outer))(J:env.frame=some L)(x:XOk B (env::outer) e cls .none s.heap)(h:∀h',XOk B (env::outer) e cls (rawInt L) h'->s.heap.UpToSlots h'->Here s.heap h'->Q () { s with heap:=h' }):wpAny M A (noteFrame (.ref e) env) Q E s:=by
 obtain⟨g,vs,T,i,ts,R,a,gd,S,U,c,d,f,D,I,V⟩:=x.tr;subst a;unfold noteFrame;simp only[J];refine wpAny_bind (wpAny_field R S U ?_);refine wpAny_bind (wpAny_field D I V ?_);refine wpAny_bind (wpAny_setField D I (jv.mp V).1 ?_);have Y:∀b o,s.heap.get? b=some o->(∀vs,o.data≠.fields vs)->(s.heap.update T (Obj.mapFields (·.setIfInBounds 3 Value.none))).get? b=some o:=λb o q n =>
  (cj _ _ λz=>by rw[<-z,D] at q;cases q;exact n ts I).trans q
 refine zxx Z (x.fr.of_keeps λb o q n=>⟨o,Y b o q n,rfl⟩) J ((cj _ _ f).trans R) gd S (jv.mp U).1 c (λb o q=>(cj _ _ λz=>by rw[<-z,d] at q;cases q).trans (x.stay b o q)) x.new λh' y u w=>h h' y (λb o q n=>u b o (Y b o q n) n) (Here.trans (zmn λo q=>fj _ q (by rw[D] at q;cases q;exact Obj.isFreed_of_fields (Obj.data_mapFields I _))) w)
def z41(D:A.frames=some (env::outer))(I:env.frame=some L)(x:XOk B (env::outer) e cls .none s.heap)(h:∀h',XOk B (env::outer) e cls .none h'->s.heap.UpToSlots h'->Here s.heap h'->Q () { s with heap:=h' }):wpAny M A (noteFrame (.ref e) env) (λ_ J=>wpAny M A (setFlight (.ref e) none) Q E J) E s :=
 z40 D I x λh1 R S U=>zpf R λh2 V Y Z=>h h2 V (S.trans Y) (U.trans Z)
def z2v{D:Heap}{args:h7}(R:A.frames=some (env::outer))(S:D.FunFrames B (env::outer))(I:env.frame=some L)(k1:B.StaysIn D)(m:Heap.MadeExcOf D s.heap e cls args)(h:∀h',XOk B (env::outer) e cls .none h'->s.heap.UpToSlots h'->Here s.heap h'->Q () { s with heap:=h' }):wpAny M A (noteFrame (.ref e) env) (λ_ U=>wpAny M A (setFlight (.ref e) none) Q E U) E s:=by
 obtain⟨t,J,_,_⟩:=m.there;have k2:B.get? e=none:=by
  cases q:B.get? e with
  | none=>rfl
  | some o=>have:=k1 e o q;rw[m.new] at this;cases this
 unfold noteFrame;simp only[I];refine wpAny_bind (wpAny_field J rfl (x:=Value.none) rfl ?_);exact zxx R (S.of_keeps λb o q _=>⟨o,m.keeps b o q,rfl⟩) I J rfl rfl (by simp) rfl (λb o q=>m.keeps b o (k1 b o q)) k2 λh1 V Y Z=>zpf V λh2 a c d=>h h2 a (Y.trans c) (Z.trans d)
end L2
namespace L2
open PySem PySem.Spec PyProof.Rows PySem.W
def Cl(K:k4)(c:Str)(C:Addr):Prop:=PySem.W.nsIn K mainGlobals c=some (some (.ref C))
def Fly(P:Program)(w:World)(l:i0)(H:Hp)(s:Shared)(C e:Addr)(H':Hp)(s':Shared):Prop :=
 ∃B,XOk B l e (.ref C) .none s'.heap/\(∀b o,s.heap.get? b=some o->H b=none->b∉frs l->B.get? b=some o)/\HOk P w H' B/\Un (frs l) [] H H' s.heap s'.heap/\s'.os=s.os/\AllBare s'.gens
abbrev CXr(P:Program)(w:World):CXT:=λl H s E e s'=>∃ea C H',e=.ref ea/\Fly P w l H s C ea H' s'/\E (.ref C) none H'
def XS(X:Cx)(pins:k6)(σ:St)(H:Hp)(C e:Addr)(s':Shared):Prop :=
 (∃s H1,Inv X pins σ H1 s/\Fly X.prog X.w X.stack H1 s C e H s')\/∃s args,Inv X pins σ H s/\Heap.MadeExcOf s.heap s'.heap e (.ref C) args/\s'={ s with heap:=s'.heap }
variable{CX:CXT}{P:Program}{w:World}{K:k4}{mg:Str->h8}{base:Heap}{x qual:Str}{st:Stmt}{f:Addr}{fd:FuncData}{N ps:g9}{k:Nat}{sp:Sp}
theorem Fun.okX(F:Fun K x qual st f fd)(S:pz N ps (fx st))(len:∀vs H Q E,sp vs H Q E->vs.length=ps.length)(D:∀(cdv:Value) (A:Around) (outer:i0) (s:Shared) (H:Hp) (vs:k8) (Q:VK) (E:XK),Room k (A.deeper (envOfC qual (fx st) s.heap.objs.size f cdv))->sp vs H Q E ->
   ∃t,PSs (cxOf CX P w K mg base N qual (fx st) f cdv A outer s H E) (lg st) t/\t { nx:=λ_ H'=>Q .non H',rt:=Q } (start N vs) H):FnOk P w K mg base CX (k+1) f fd ps sp:=by
 obtain⟨oc,od,kV,R,Z,an,cdv,ct,osl,rfl,U,I⟩:=F.ex;exact z4o U I S len λA outer s H vs Q E Y J=>D cdv A outer s H vs Q E Y J
theorem Fun.okC(F:Fun K x qual st f fd)(S:pz N ps (fx st))(len:∀vs H Q E,sp vs H Q E->vs.length=ps.length)(D:∀(cdv:Value) (A:Around) (outer:i0) (s:Shared) (H:Hp) (vs:k8) (Q:VK) (E:XK),Room k (A.deeper (envOfC qual (fx st) s.heap.objs.size f cdv))->sp vs H Q E ->
   ∃t,PSs (cxOf CX P w K mg base N qual (fx st) f cdv A outer s H E).nox (lg st) t/\t { nx:=λ_ H'=>Q .non H',rt:=Q } (start N vs) H):FnOk P w K mg base CX (k+1) f fd ps sp :=
 F.okX S len λcdv A outer s H vs Q E I h=>let ⟨t,p,q⟩:=D cdv A outer s H vs Q E I h;⟨t,p.nox,q⟩
variable{X:Cx}{pins:k6}{σ:St}{H H':Hp}{s s':Shared}{C e:Addr}
def Fly.inv(I:Inv X pins σ H s)(f:Fly X.prog X.w X.stack H s C e H' s'):Inv X pins σ H' s':=by
 obtain⟨B,x,_,D,un,os,J⟩:=f;exact I.call' (ch:=[]) os un (D.kept x.stay) J λb z=>absurd z (by simp)
def XS.come{E:Value->Shared->Prop}{Q:Unit->Shared->Prop}(h:XS X pins σ H' C e s')(R:X.stack=X.env::X.outer)(j:X.env.frame=some X.env.locals)(k:∀h2 D H1,Inv X pins σ H1 D->Fly X.prog X.w X.stack H1 D C e H' { s' with heap:=h2 }->Q () { s' with heap:=h2 }):wpAny (model X.prog X.w) X.A (noteFrame (.ref e) X.env) (λ_ D=>wpAny (model X.prog X.w) X.A (setFlight (.ref e) none) Q E D) E s':=by
 rcases h with⟨D,H1,I,f⟩ | ⟨D,args,I,m,es⟩
 ·obtain⟨B,x,l,p,un,os,r⟩:=f
  have st:=I.stack;rw[R] at x st;refine z41 (I.ok.frames.trans (by rw[R])) j x λh2 S Y U=>k h2 D H1 I ⟨B,R ▸ S,l,p,⟨λb o q n J _=>S.stay b o (l b o q n J),λb o q n J Z=>?_,un.free,λb o q Z=>?_,un.tups,un.frzs,un.tbls⟩,os,r⟩
  ·obtain⟨sl,z⟩:=un.slot b o q n J Z
   rw[R] at J;obtain⟨_,s,y,d⟩:=st.mem J;rw[q] at y;cases y;obtain⟨g,t⟩:=Y b _ z d;exact⟨g,t⟩
  ·obtain⟨o',z⟩:=un.there b o q Z
   exact U b o' z
 ·have st:=I.stack
  have v:∀b∈frs X.stack,H' b=none:=I.stkFree;have V:∀b o,H' b=some o->b∉frs X.stack:=λb o q z=>by rw[v b z] at q;cases q
  have i:HOk X.prog X.w H' (hideAll D.heap (frs X.stack)):=λb o q =>
   (I.hok b o q).stay (λc u hc z=>hideAll_get _ z (by rcases hc with rfl | hc;exact V _ _ q;exact V _ _ hc)) (λ_ z=>z) λ_ _ z=>z
  have F:D.heap.FunFrames (hideAll D.heap (frs X.stack)) (X.env::X.outer):=R ▸ funFrames_hide (as:=frs X.stack) st λenv U a G=>my.mpr ⟨env,U,G⟩;refine z2v (B:=hideAll D.heap (frs X.stack)) (I.ok.frames.trans (by rw[R])) F j (λb o q=>of_hideAll _ q) m λh2 S Y U=>k h2 D H' I ⟨_,R ▸ S,λb o q n J=>hideAll_get _ q J,i,⟨λb o q n J _=>S.stay b o (hideAll_get _ q J),λb o q n J _=>?_,λ_ _ _ n _=>n,λb o q _=>U b o (m.keeps b o q),λ_ _ z=>z,λ_ _ _ z=>z,λ_ ps z=>⟨#[],by rw[Array.append_empty];exact z⟩⟩,by rw[es],by rw[es];exact I.bare⟩;obtain⟨_,s,y,d⟩:=st.mem J;rw[q] at y;cases y;exact Y b o (m.keeps b o q) d
def zjw{scope:Scope}{D:Value}{A:Around}{outer:i0}{s₀:Shared}{H₀:Hp}{E:XK}(h:XS (cxOf (CXr P w) P w K mg base N qual scope f D A outer s₀ H₀ E) pins σ H' C e s')(S:E (.ref C) none H'):(cxOf (CXr P w) P w K mg base N qual scope f D A outer s₀ H₀ E).xe (.ref e) s':=by
 refine wpAny_bind (h.come rfl rfl λh2 Y H1 I f=>⟨e,C,H',rfl,?_,S⟩);have J:=f.inv I;obtain⟨B,x,U,V,_⟩:=f;refine⟨B,⟨x.stay,x.new,x.fr.2.2,x.tr⟩,λb o q n R=>?_,V,J.base,J.os,J.bare⟩;refine U b o (I.base.keep b o q n R (by simp[cxOf])) (I.base.free b o q n (by simp[cxOf])) λz=>?_;rcases cb.mp (show b∈s₀.heap.objs.size::frs outer from z) with z | z
 ·rw[z] at q;exact absurd (bg q) (ff _)
 ·exact R z
end L2
namespace L2
open PySem PySem.Spec PyProof.Rows
inductive Fl where
 | nx | bk | ct | rt (d:D) | rf (ds:k9) | r2 (dss:List k9) | xc (c:Str) | ra (k:AK) (ps:ll)
abbrev FS:=DE0->Option (Fl×DE0)
structure N2 (K:k4) (G:Gd) (H0 H:Hp) (l:Addr) (ls:ia) (dss:List k9):Prop where
 nd:(l::ls).Nodup
 new:∀a∈l::ls,H0 a=none
 top:H l=some (.lst (ls.map V.ref))
 len:ls.length=dss.length
 inn:∀(j:Nat) (ds:k9) (a:Addr),dss[j]?=some ds->ls[j]?=some a->∃vs,H a=some (.lst vs)/\Reps K H (λb=>G b/\b∉l::ls) ds vs
def EndOk(X:Cx)(G:Gd)(H0:Hp)(W:Addr->Prop)(H:Hp)(Dn:Ends)(env':DE0):Fl->Prop
 | .nx=>∀W' D H',Step W H W' H'->Ok X.K G H0 W' env' D H'->Dn.nx D H'
 | .bk=>∀W' D H',Step W H W' H'->Ok X.K G H0 W' env' D H'->Dn.bk D H'
 | .ct=>∀W' D H',Step W H W' H'->Ok X.K G H0 W' env' D H'->Dn.ct D H'
 | .rt d=>∀W' D v H',Step W H W' H'->Ok X.K G H0 W' env' D H'->Rep X.K H' (Ow G W') d v->Dn.rt v H'
 | .rf ds=>∀l vs H',Same H0 H'->H0 l=none->H' l=some (.lst vs)->Reps X.K H' (λa=>G a/\a≠l) ds vs->Dn.rt (.ref l) H'
 | .r2 dss=>∀l ls H',Same H0 H'->N2 X.K G H0 H' l ls dss->Dn.rt (.ref l) H'
 | .xc c=>∀W' D H' C,Cl X.K c C->Step W H W' H'->Ok X.K G H0 W' env' D H'->∀pins e s',XS X pins D H' C e s'->X.xe (.ref e) s'
 | .ra k ps=>∀W' D p H',Step W H W' H'->Ok X.K G H0 W' env' D H'->SlOk X.K G W' H' (.ag k none ps) (.ref p)->Dn.rt (.ref p) H'
def tDS(X:Cx)(G:Gd)(H0:Hp)(g:FS):TS:=λDn σ H=>DP X.K G H0 g (λW env fl env'=> EndOk X G H0 W H Dn env' fl) σ H
structure DSx (X:Cx) (G:Gd) (H0:Hp) (s:Stmt) (g:FS):Prop where
 out:PS X s (tDS X G H0 g)
structure DBx (X:Cx) (G:Gd) (H0:Hp) (s:List Stmt) (g:FS):Prop where
 out:PSs X s (tDS X G H0 g)
variable{X:Cx}{e:Expr}{t t':TS}
def PS.imp{e:Stmt}(h:PS X e t)(i:∀D σ H,t' D σ H->t D σ H):PS X e t':=λpins s σ H D I q=>h pins s σ H D I (i D σ H q)
def PSs.imp{e:List Stmt}(h:PSs X e t)(i:∀D σ H,t' D σ H->t D σ H):PSs X e t':=λpins s σ H D I q=>h pins s σ H D I (i D σ H q)
variable{G:Gd}{W W1:Addr->Prop}{H0 H H1:Hp}{Dn:Ends}{env':DE0}{fl:Fl}
protected def EndOk.step(st:Step W H W1 H1)(h:EndOk X G H0 W H Dn env' fl):EndOk X G H0 W1 H1 Dn env' fl:=by
 cases fl with
 | nx=>exact λW' D H' s o=>h W' D H' (st.trans s) o
 | bk=>exact λW' D H' s o=>h W' D H' (st.trans s) o
 | ct=>exact λW' D H' s o=>h W' D H' (st.trans s) o
 | rt d=>exact λW' D v H' s o=>h W' D v H' (st.trans s) o
 | rf ds=>exact h
 | r2 dss=>exact h
 | xc c=>exact λW' D H' C z s o=>h W' D H' C z (st.trans s) o
 | ra k ps=>exact λW' D p H' s o=>h W' D p H' (st.trans s) o
def Fl.out:Fl->Bool | .rt _=>true | .rf _=>true | .r2 _=>true | .xc _=>true | .ra _ _=>true | _=>false
variable{Dn':Ends}
protected def EndOk.go(I:fl.out=true)(h:EndOk X G H0 W H Dn env' fl)(e:Dn'.rt=Dn.rt)(st:Step W H W1 H1):EndOk X G H0 W1 H1 Dn' env' fl:=by
 cases fl with
 | nx=>cases I
 | bk=>cases I
 | ct=>cases I
 | rt d=>intro W' D v H' s o r;rw[e];exact h W' D v H' (st.trans s) o r
 | rf ds=>intro v vs H' s n l r;rw[e];exact h v vs H' s n l r
 | r2 dss=>intro v ls H' s n;rw[e];exact h v ls H' s n
 | xc c=>exact λW' D H' C z s o=>h W' D H' C z (st.trans s) o
 | ra k ps=>intro W' D p H' s o r;rw[e];exact h W' D p H' (st.trans s) o r
@[simp] noncomputable def sNil:FS:=λe=>some (.nx,e)
@[simp] noncomputable def sSeq(g h:FS):FS:=λe=>(g e).bind λr=>match r.1 with | .nx=>h r.2 | _=>some r
@[simp] noncomputable def sSet(i:Nat)(f:FE):FS:=λe=>(f e).map λr=>(.nx,r.2.set i (some (.sh r.1)))
@[simp] noncomputable def sOwn(i:Nat)(f:FA):FS:=λe=>(f e).map λr=>(.nx,r.2.set i (some (.ow r.1)))
@[simp] noncomputable def sRet(f:FE):FS:=λe=>(f e).map λr=>(.rt r.1,r.2)
@[simp] noncomputable def zzc(f:FA):FS:=λe=>(f e).map λr=>(.rf r.1,r.2)
@[simp] noncomputable def sIf(c:FT)(g h:FS):FS:=λe=>(c e).bind λr=>if r.1=true then g r.2 else h r.2
@[simp] noncomputable def iu(f:FE):FS:=λe=>(f e).map λr=>(.nx,r.2)
def forL(i:Nat)(g:FS):k9->DE0->Option (Fl×DE0)
 | [],e=>some (.nx,e)
 | d::r,e=>(g (e.set i (some (.sh d)))).bind λq=>match q.1 with | .nx=>forL i g r q.2 | .ct=>forL i g r q.2 | .bk=>some (.nx,q.2) | .rt d=>some (.rt d,q.2) | .rf ds=>some (.rf ds,q.2) | .r2 ds=>some (.r2 ds,q.2) | .xc c=>some (.xc c,q.2) | .ra k ps=>some (.ra k ps,q.2)
@[simp] noncomputable def sFor(i:Nat)(fi:FI)(g:FS):FS:=λe=>(fi e).bind λr=>forL i g r.1 r.2
def l8(c:FT)(g:FS):Nat->DE0->Option (Fl×DE0)
 | 0,_=>none
 | n+1,e=>(c e).bind λr=>if r.1=true then(g r.2).bind λq=>match q.1 with | .nx=>l8 c g n q.2 | .ct=>l8 c g n q.2 | .bk=>some (.nx,q.2) | .rt d=>some (.rt d,q.2) | .rf ds=>some (.rf ds,q.2) | .r2 ds=>some (.r2 ds,q.2) | .xc c=>some (.xc c,q.2) | .ra k ps=>some (.ra k ps,q.2) else some (.nx,r.2)
section
variable {X:Cx} {G:Gd} {H0:Hp} {a b c e:Expr} {es rest:ka} {f g:FE} {F:FA} {p q:FT} {s:Stmt} {ss:List Stmt} {u v:FS} {pos p' p1 pos1:Pos} {x:Str} {i:Nat}
def f8  : DBx X G H0 [] sNil:=⟨zyj.imp λDn σ H D=>by
 obtain⟨W,env,fl,env',ok,q,k⟩:=D;cases q;exact k W σ H Step.refl ok⟩
def de(h1:DSx X G H0 s u)(h2:DBx X G H0 ss v):DBx X G H0 (s::ss) (sSeq u v):=⟨(zu9 h1.out h2.out).imp λDn σ H R=>by
 obtain⟨W,env,fl,env',ok,q,k⟩:=R;cases e1:u env with
 | none=>simp[e1] at q
 | some r =>
   obtain⟨I,D⟩:=r;refine⟨W,env,I,D,ok,e1,?_⟩;cases I with
   | nx =>
     have q:v D=some (fl,env'):=by simpa[sSeq,e1] using q
     exact λW1 S H1 U J=>⟨W1,D,fl,env',J,q,k.step U⟩
   | bk =>
     have q:some (Fl.bk,D)=some (fl,env'):=by simpa[sSeq,e1] using q
     cases q;exact k
   | ct =>
     have q:some (Fl.ct,D)=some (fl,env'):=by simpa[sSeq,e1] using q
     cases q;exact k
   | rt d =>
     have q:some (Fl.rt d,D)=some (fl,env'):=by simpa[sSeq,e1] using q
     cases q;exact k
   | rf d =>
     have q:some (Fl.rf d,D)=some (fl,env'):=by simpa[sSeq,e1] using q
     cases q;exact k
   | r2 d =>
     have q:some (Fl.r2 d,D)=some (fl,env'):=by simpa[sSeq,e1] using q
     cases q;exact k
   | xc d =>
     have q:some (Fl.xc d,D)=some (fl,env'):=by simpa[sSeq,e1] using q
     cases q;exact k
   | ra d d' =>
     have q:some (Fl.ra d d',D)=some (fl,env'):=by simpa[sSeq,e1] using q
     cases q;exact k⟩
def dq(h:DSx X G H0 s u):DBx X G H0 [s] u:=⟨zyk h.out⟩
def z2w(R:X.N.Nodup)(hi:X.N[i]?=some x:=by rfl)(S:DEx X G H0 e f)(ps:PS X (.Assign [.Name x p'] e pos) (tAsg (tD X.K G H0 f) (ml i))):DSx X G H0 (.Assign [.Name x p'] e pos) (sSet i f):=⟨ps.imp λDn σ H I=>by
 obtain⟨W,env,fl,env',ok,q,k⟩:=I;cases e1:f env with
 | none=>simp[e1] at q
 | some r =>
   have q:some (Fl.nx,r.2.set i (some (Sl.sh r.1)))=some (fl,env'):=by simpa[sSet,e1] using q
   cases q;exact⟨W,env,_,_,ok,e1,λW1 v1 H1 J D p1=>k W1 _ H1 J (D.set p1)⟩⟩
def o5(ps:PS X (.Assign [.Name x p'] e pos) (tAsg (tDF X.K G H0 F) (ml i))):DSx X G H0 (.Assign [.Name x p'] e pos) (sOwn i F):=⟨ps.imp λDn σ H J=>by
 obtain⟨W,env,fl,env',ok,q,k⟩:=J;cases e1:F env with
 | none=>simp[e1] at q
 | some r =>
   have q:some (Fl.nx,r.2.set i (some (Sl.ow r.1)))=some (fl,env'):=by simpa[sOwn,e1] using q
   cases q;exact⟨W,env,_,_,ok,e1,λW1 l vs H1 R D I S U V=>k (addW W1 l) _ H1 R (I.setO (.inr rfl) U V (D.noOwn S))⟩⟩
def e7(I:DEx X G H0 e f):DSx X G H0 (.Return (some e) pos) (sRet f):=⟨(yr I.out).imp λDn σ H J=>by
 obtain⟨W,env,fl,env',ok,q,k⟩:=J;cases e1:f env with
 | none=>simp[e1] at q
 | some r =>
   have q:some (Fl.rt r.1,r.2)=some (fl,env'):=by simpa[sRet,e1] using q
   cases q;exact⟨W,env,_,_,ok,e1,λW1 v1 H1 R D p1=>k W1 σ v1 H1 R D p1⟩⟩
def zzd(J:DFx X G H0 e F):DSx X G H0 (.Return (some e) pos) (zzc F):=⟨(yr J.out).imp λDn σ H R=>by
 obtain⟨W,env,fl,env',ok,q,k⟩:=R;cases e1:F env with
 | none=>simp[e1] at q
 | some r =>
   have q:some (Fl.rf r.1,r.2)=some (fl,env'):=by simpa[zzc,e1] using q
   cases q;exact⟨W,env,_,_,ok,e1,λW1 l vs H1 V D I Y S U=>k l vs H1 D.stay (I.wl l (.inr rfl)).1 S (U.mono (λ_ _ h=>h) λa us o h=>⟨⟨o.1,λz=>o.2 (.inr z)⟩,h⟩)⟩⟩
def fOwn(i:Nat):FA:=λe=>match e[i]? with | some (some (.ow ds))=>some (ds,e.set i none) | _=>none
@[simp] noncomputable def zvw(i:Nat):FS:=λe=>match e[i]? with | some (some (.ow ds))=>some (.rf ds,e) | _=>none
def zze{Nn Cn:g9}{i:Nat}(an:Ats Nn Cn X)(D:Nn[i]?=some x:=by rfl):DSx X G H0 (.Return (some (.Name x p')) pos) (zvw i):=⟨(yr ((an.a D).pe)).imp λDn σ H J=>by
 obtain⟨W,env,fl,env',ok,q,k⟩:=J;unfold zvw at q;split at q
 ·rename_i ds R
  cases q;obtain⟨v,S,l,vs,rfl,I,U,r⟩:=ok.slot i _ R;exact⟨_,S,k l vs H ok.stay (ok.wl l I).1 U (r.mono (λ_ _ h=>h) λa us o h=>⟨⟨o.1,λz=>o.2 (z ▸ I)⟩,h⟩)⟩
 ·cases q⟩
def f6{J R:List Stmt}(U:DTx X G H0 c p)(V:DBx X G H0 J u)(Y:DBx X G H0 R v):DSx X G H0 (.If c J R pos) (sIf p u v):=⟨(z4i U.out V.out Y.out).imp λDn σ H Z=>by
 obtain⟨W,env,fl,env',ok,q,k⟩:=Z;cases e1:p env with
 | none=>simp[e1] at q
 | some r =>
   obtain⟨t,D⟩:=r;refine⟨W,env,t,D,ok,e1,λW1 H1 S I=>?_⟩;cases t with
   | true=>rw[if_pos rfl];exact⟨W1,D,fl,env',I,by simpa[sIf,e1] using q,k.step S⟩
   | false=>rw[if_neg ce];exact⟨W1,D,fl,env',I,by simpa[sIf,e1] using q,k.step S⟩⟩
def jf(I:DEx X G H0 e f)(J:swapsWith e none pos.line X.env=pure false:=by rfl):DSx X G H0 (.Expr e pos) (iu f):=⟨(zsn I.out J).imp λDn σ H R=>by
 obtain⟨W,env,fl,env',ok,q,k⟩:=R;cases e1:f env with
 | none=>simp[e1] at q
 | some r =>
   have q:some (Fl.nx,r.2)=some (fl,env'):=by simpa[iu,e1] using q
   cases q;exact⟨W,env,_,_,ok,e1,λW1 v1 H1 S D p1=>k W1 σ H1 S D⟩⟩
structure z2x (K:k4) (G:Gd) (J:It) (W:Addr->Prop) (H:Hp) (ds:k9):Prop where
 go:∀W' H' (i:Nat) d,Step W H W' H'->ds[i]?=some d->J.go i H'/\∀x H'',J.yld i H' x H''->Same H' H''/\Rep K H'' (Ow G W') d x
 stop:∀W' H',Step W H W' H'->J.stop ds.length H'
def tDJ(K:k4)(G:Gd)(H0:Hp)(f:FI):TI:=λσ H R=>DP K G H0 f (λW env ds env' =>
 ∀W' J H',Step W H W' H'->Ok K G H0 W' env' σ H'->z2x K G J W' H' ds->R J H') σ H
structure DJx (X:Cx) (G:Gd) (H0:Hp) (tg:Expr) (e:Expr) (f:FI):Prop where
 out:PI X tg e (tDJ X.K G H0 f)
def DIC.dj{tg:Expr}{f:FI}(h:DIx X G H0 tg a f):DJx X G H0 tg a f:=⟨h.out.imp λσ H R z=>by
 obtain⟨W,env,ds,env',ok,q,k⟩:=z;exact⟨W,env,ds,env',ok,q,λW' J H' st D w=>k W' J H' st D ⟨λI H2 i d s e=>⟨(w.go I H2 i d s e).1,λx S y=>by
  obtain⟨U,r⟩:=(w.go I H2 i d s e).2 x S y;cases U;exact⟨Same.refl _,r⟩⟩,w.stop⟩⟩⟩
def forK(k:DE0->Option (Fl×DE0))(q:Fl×DE0):Option (Fl×DE0):=match q.1 with | .nx=>k q.2 | .ct=>k q.2 | .bk=>some (.nx,q.2) | .rt d=>some (.rt d,q.2) | .rf ds=>some (.rf ds,q.2) | .r2 ds=>some (.r2 ds,q.2) | .xc c=>some (.xc c,q.2) | .ra k ps=>some (.ra k ps,q.2)
def EndOk.loop{Dn:Ends}{W W':Addr->Prop}{H H':Hp}{fl S:Fl}{I env':DE0}{N:St->Hp->Prop}{kk:DE0->Option (Fl×DE0)}(k:EndOk X G H0 W H Dn env' fl)(st:Step W H W' H')(U:forK kk (S,I)=some (fl,env'))(V:∀R D H2,Step W' H' R H2->Ok X.K G H0 R I D H2->kk I=some (fl,env')->N D H2) :
  EndOk X G H0 W' H' { Dn with nx:=N,ct:=N,bk:=Dn.nx } I S:=by
 cases S with
 | nx=>exact λR D H2 s2 J=>V R D H2 s2 J U
 | ct=>exact λR D H2 s2 J=>V R D H2 s2 J U
 | bk=>cases U;exact λR D H2 s2 J=>k R D H2 (st.trans s2) J
 | _=>cases U;exact k.go rfl rfl st
inductive FInv (X:Cx) (G:Gd) (H0:Hp) (W1:Addr->Prop) (H1:Hp) (ds:k9) (L:k9->DE0->Option (Fl×DE0)) (r:Option (Fl×DE0)) (n m:Nat) (σ:St) (H:Hp):Prop
 | mk (W:Addr->Prop) (env:DE0) (hm:m=ds.length-n) (hn:n<=ds.length) (st:Step W1 H1 W H) (ok:Ok X.K G H0 W env σ H) (ef:L (ds.drop n) env=r):FInv X G H0 W1 H1 ds L r n m σ H
def ztk{tg:Expr}{g:TG}{body:List Stmt}{fi:FI}{b:D->DE0->Option DE0}{L:k9->DE0->Option (Fl×DE0)}(hi:DJx X G H0 tg a fi)(f:PG X tg g)(C:DBx X G H0 body u)(E:∀ {W env env' σ H d x} {Q:St->Hp->Prop},Ok X.K G H0 W env σ H->Rep X.K H (Ow G W) d x->b d env=some env'->(∀R,Ok X.K G H0 W env' R H->Q R H)->g x σ H Q)(F:∀e,L [] e=some (.nx,e))(h1:∀d r e,L (d::r) e=(b d e).bind λe'=>(u e').bind λq=>forK (L r) q)(M:PassesOwn (model X.prog X.w) X.A X.env X.xe)(N:X.calm=true)(O:∀x,foldedSetIterable a X.env x=pure x):DSx X G H0 (.For tg a body [] pos) (λe=>(fi e).bind λr=>L r.1 r.2):=⟨(z1l M N hi.out f C.out O).imp λDn σ H z=>by
 obtain⟨W,env,fl,env',ok,q,k⟩:=z;obtain⟨⟨ds,S⟩,P,q⟩:=dh.mp q;refine⟨W,env,ds,S,ok,P,λW1 J H1 s i t=>⟨FInv X G H0 W1 H1 ds L (some (fl,env')),⟨ds.length,W1,S,rfl,fu _,Step.refl,i,q⟩,λn m R H' z=>?_⟩⟩;obtain⟨W',v,T,hn,st,Y,U⟩:=z;subst T;by_cases I:n<ds.length
 ·rw[eg I,h1] at U
  obtain⟨Z,e2,U⟩:=dh.mp U;obtain⟨⟨j,V⟩,e3,U⟩:=dh.mp U;obtain⟨f,hy⟩:=t.go W' H' n ds[n] st (ay I);refine .inr ⟨f,λc H2=>∃B,B<ds.length-n/\FInv X G H0 W1 H1 ds L (some (fl,env')) (n+1) B c H2,λ_ _ h=>h,λx l y=>?_⟩;obtain⟨sm,rx⟩:=hy x l y;have sn:=st.trans (Step.same sm);exact E (Y.same sm) rx e2 λaa o=>⟨W',Z,j,V,o,e3,k.loop (s.trans sn) U λW2 c H2 s2 p e=>⟨_,ly _ _ I,W2,V,rfl,I,sn.trans s2,p,e⟩⟩
 ·cases re hn (ke I)
  rw[i9,F] at U;cases U;exact .inl ⟨t.stop W' H' st,k W' R H' (s.trans st) Y⟩⟩
def m3{tg:Str}{px:Pos}{body:List Stmt}{fi:FI}(hi:DIx X G H0 (.Name tg px) a fi)(D:PG X (.Name tg px) (ml i))(I:DBx X G H0 body u)(J:PassesOwn (model X.prog X.w) X.A X.env X.xe:=by passes_own)(R:X.calm=true:=by rfl)(S:∀x,foldedSetIterable a X.env x=pure x:=by intro _;rfl):DSx X G H0 (.For (.Name tg px) a body [] pos) (sFor i fi u) :=
 ztk (b:=λd e=>some (e.set i (some (.sh d)))) (L:=forL i u) hi.dj D I (λok r e k=>by cases e;exact k _ (ok.set r)) (λ_=>rfl) (λ_ _ _=>rfl) J R S
inductive WInv (X:Cx) (G:Gd) (H0:Hp) (W1:Addr->Prop) (H1:Hp) (L:Nat->DE0->Option (Fl×DE0)) (r:Option (Fl×DE0)) (m:Nat) (σ:St) (H:Hp):Prop
 | mk (W:Addr->Prop) (env:DE0) (st:Step W1 H1 W H) (ok:Ok X.K G H0 W env σ H) (ef:L m env=r):WInv X G H0 W1 H1 L r m σ H
def zmo{body:List Stmt}{n:Nat}(g:DTx X G H0 c p)(i:DBx X G H0 body u)(j:PassesOwn (model X.prog X.w) X.A X.env X.xe:=by passes_own):DSx X G H0 (.While c body [] pos) (l8 p u n):=⟨(zvb j g.out i.out).imp λDn σ H z=>by
 obtain⟨W,env,fl,env',ok,q,k⟩:=z;refine⟨WInv X G H0 W H (l8 p u) (some (fl,env')),⟨n,W,env,Step.refl,ok,q⟩,λm V H' z=>?_⟩;obtain⟨W',R,st,Y,J⟩:=z;cases m with
 | zero=>cases J
 | succ m =>
   obtain⟨⟨t,D⟩,l,J⟩:=dh.mp J;refine⟨W',R,t,D,Y,l,λb H2 s2 S=>?_⟩;cases t with
   | false =>
     cases J;exact k b V H2 (st.trans s2) S
   | true =>
     obtain⟨⟨Z,I⟩,o,J⟩:=dh.mp J;exact⟨λU d=>∃f,f<m+1/\WInv X G H0 W H (l8 p u) (some (fl,env')) f U d,λ_ _ h=>h,b,D,Z,I,S,o,k.loop (kk:=l8 p u m) (st.trans s2) J λr U d s a e=>⟨m,ek _,r,I,(st.trans s2).trans s,a,e⟩⟩⟩
end
variable{n:Nat}
def lt20(h:n<2 ^ 20):n<sizeLine:=az h (by rw[sizeLine_eq];decide)
@[simp] noncomputable def zvx(d:D)(e:DE0)(i:Nat):Option (D×DE0):=match e[i]? with
 | some (some (.ow ds))=>if Few (ds.length+1) then some (.non,e.set i (some (.ow (ds++[d])))) else none
 | _=>none
@[simp] noncomputable def oa(i:Nat)(f:FE):FE:=λe=>match e[i]? with
 | some (some (.ow _))=>(f e).bind λr=>zvx r.1 r.2 i
 | _=>none
variable{Nn Cn:g9}{i:Nat}{a:Expr}{f:FE}{pos p' p1:Pos}{x:Str}
def sy(h:DEx X G H0 a f)(an:Ats Nn Cn X)(V:Nn[i]?=some x:=by rfl)(D:attributeBase (.Name x p') "append" X.env (eval (.Name x p') X.env)=eval (.Name x p') X.env:=by rfl)(J:((backTo pos (starEach [a] X.env)).all (λx=>!x.1) && (backToKw pos (keywordEach [] X.env)).all (λx=>x.1.isSome)
   && decide ([a].length+([]:List Keyword).length+(if ([]:List Keyword).isEmpty then 0 else 1)<30))=true:=by rfl)(I:(p1.endLine==pos.line)=true:=by rfl)(c:starEach [a] X.env=(false,eval a X.env)::starEach [] X.env:=by rfl) :
  DEx X G H0 (.Call (.Attribute (.Name x p') "append" p1) [a] [] pos) (oa i f):=⟨(zvj fm x8 x6 zn2 ((an.a V).pe) (mn h.out pq c) D J I c rfl).imp λσ H Q j=>by
 obtain⟨W,env,d,env',ok,q,k⟩:=j;unfold oa at q;split at q;case h_2=>cases q
 rename_i m Y;obtain⟨v,Z,l,n,rfl,o,b,_⟩:=ok.slot i _ Y;cases e1:f env with
 | none=>rw[e1] at q;cases q
 | some r =>
   obtain⟨p,R⟩:=r;rw[e1,ac] at q;unfold zvx at q;split at q;case h_2=>cases q
   rename_i ds e;split at q;case isFalse=>cases q
   rename_i S;cases q;refine⟨_,Z,.inl ⟨rfl,_,.inl (.inl b)⟩,W,env,p,R,ok,e1,λW1 v1 H1 s U t=>?_⟩;obtain⟨A,g,l',vs,u,B,w,r⟩:=U.slot i _ e;rw[Z] at g;cases g;cases u;obtain⟨y,z⟩:=U.turn e Z (r.append (.cons t .nil));exact⟨l,vs,v1,rfl,rfl,w,by rw[<-r.length];exact lt20 (ni S),k W1 _ _ (s.trans z) y .non⟩⟩
@[simp] noncomputable def fPop(i:Nat):FE:=λe=>match e[i]? with
 | some (some (.ow ds))=>(ds[ds.length-1]?).map λd=>(d,e.set i (some (.ow ds.dropLast)))
 | _=>none
def z2y(an:Ats Nn Cn X)(J:Nn[i]?=some x:=by rfl)(D:attributeBase (.Name x p') "pop" X.env (eval (.Name x p') X.env)=eval (.Name x p') X.env:=by rfl)(I:(p1.endLine==pos.line)=true:=by rfl) :
  DEx X G H0 (.Call (.Attribute (.Name x p') "pop" p1) [] [] pos) (fPop i):=⟨(zxq fm PySem.F.slot_list_pop PySem.F.type_list_pop zxr ((an.a J).pe) D I).imp λσ H Q Y=>by
 obtain⟨W,env,d,env',ok,q,k⟩:=Y;unfold fPop at q;split at q;case h_2=>cases q
 rename_i ds R;obtain⟨v,S,l,vs,rfl,e,U,r⟩:=ok.slot i _ R;cases e1:ds[ds.length-1]? with
 | none=>rw[e1] at q;cases q
 | some d' =>
   rw[e1] at q;cases q;obtain⟨u,Z,b⟩:=r.get e1;obtain⟨c,V⟩:=ok.turn R S r.dropLast;exact⟨_,S,.inl ⟨rfl,_,.inl (.inl U)⟩,l,vs,u,rfl,rfl,U,by rw[<-r.length];exact Z,k W _ _ V c (ok.rep V b)⟩⟩
def z42(k:D)(e:DE0)(i:Nat):Option (D×DE0):=match k,e[i]? with
 | .int k,some (some (.ow ds))=>if Few ds.length then(ixN ds.length k).bind λj=>(ds[j]?).map λd=>(d,e.set i (some (.ow (ds.eraseIdx j)))) else none
 | _,_=>none
def z2z(i:Nat)(f:FE):FE:=λe=>match e[i]? with
 | some (some (.ow _))=>(f e).bind λr=>z42 r.1 r.2 i
 | _=>none
@[simp] noncomputable def zvy(d k:D)(e:DE0)(i:Nat):Option (Fl×DE0):=match k,e[i]? with
 | .int k,some (some (.ow ds))=>(ixN ds.length k).map λj=>(.nx,e.set i (some (.ow (ds.set j d))))
 | _,_=>none
@[simp] noncomputable def va(i:Nat)(D I:FE):FS:=λe=>(I e).bind λr=>match r.2[i]? with
 | some (some (.ow _))=>(D r.2).bind λq=>zvy r.1 q.1 q.2 i
 | _=>none
variable{b:Expr}{g:FE}
def zmp(h:DEx X G H0 b g)(m:DEx X G H0 e f)(an:Ats Nn Cn X)(U:Nn[i]?=some x:=by rfl)(n:swapsWithSole [.Subscript (.Name x p') b p1] e pos.line X.env=pure false:=by rfl)(o:swappedStores [.Subscript (.Name x p') b p1] e X.env=pure none:=by rfl)(h1:(assignEach [.Subscript (.Name x p') b p1] X.env).map (·.2)=[assign (.Subscript (.Name x p') b p1) X.env]:=by rfl)(J:∀v,assign (.Subscript (.Name x p') b p1) X.env v=(do
   let ov <-holding [v] (eval (.Name x p') X.env);let iv <-holding [v,ov] (eval b X.env)
   standAt p1
   holding [v,ov,iv] (setItem ov iv v)
   release [v,ov,iv] []):=by intro _;rfl) :
  DSx X G H0 (.Assign [.Subscript (.Name x p') b p1] e pos) (va i g f):=⟨(yq m.out (zqg ((an.a U).pe) h.out zkl J) n o h1).imp λDn σ H p=>by
 obtain⟨W,env,fl,env',ok,q,k⟩:=p;cases e1:f env with
 | none=>simp[e1] at q
 | some r =>
   obtain⟨s,D⟩:=r;simp only[va,e1,ac] at q;split at q;case h_2=>cases q
   rename_i t V;cases e2:g D with
   | none=>rw[e2] at q;cases q
   | some Y =>
     obtain⟨L,R⟩:=Y;rw[e2,ac] at q;unfold zvy at q;dsimp only at q;split at q;case h_2=>cases q
     rename_i kk ds c;cases e3:ixN ds.length kk with
     | none=>rw[e3] at q;cases q
     | some j =>
       rw[e3] at q;cases q;refine⟨W,env,s,D,ok,e1,λW1 v1 H1 u I w=>?_⟩;obtain⟨v,Z,l,y,rfl,z,A,_⟩:=I.slot i _ V;refine⟨_,Z,W1,D,_,R,I,e2,λB v2 H2 s2 S Y=>?_⟩;obtain⟨M,d,l',vs,C,N,E,r⟩:=S.slot i _ c;rw[Z] at d;cases d;cases C;obtain⟨F,K⟩:=S.turn c Z (Reps.set (I.rep s2 w) j r);exact⟨l,vs,kk,j,rfl,Y.int_,E,by rw[<-r.length];exact e3,k B _ _ ((u.trans s2).trans K) F⟩⟩
def iz(n:Nat)(ds:k9):DE0:=ds.map (λd=>some (Sl.sh d))++List.replicate (n-ds.length) none
def runD(n ar:Nat)(g:FS):k9->la:=λds=>if ds.length=ar then(match g (iz n ds) with | some (.rt d,_)=>some d | some (.nx,_)=>some .non | _=>none) else none
def runF(n ar:Nat)(g:FS):k9->Option k9:=λds=>if ds.length=ar then(match g (iz n ds) with | some (.rf d,_)=>some d | _=>none) else none
def zie:∀ {n:Nat} {ds:k9} {i:Nat} {s:Sl},(iz n ds)[i]?=some (some s)->∃d,ds[i]?=some d/\s=.sh d:=λ{n ds i s} h=>by
 unfold iz at h;by_cases hi:i<ds.length
 ·rw[aw (by simpa using hi),b7] at h
  cases e:ds[i]? with
  | none=>rw[e] at h;cases h
  | some d=>rw[e] at h;cases h;exact⟨d,rfl,rfl⟩
 ·rw[df (by simpa using hi),z0] at h
  split at h <;> cases h
variable{O:Addr->Prop}{ds:k9}{vs:k8}{N:g9}{K:k4}
def um(r:Reps K H O ds vs):Ok K (gd λa=>O a\/H a=none) H NoW (iz N.length ds) (start N vs) H:=by
 refine⟨Same.refl _,λa z=>.inr z,λl z=>z.elim,λi s e=>?_,λi j R s2 v1 v2 a D _ _ _ o _=>?_,?_⟩
 ·obtain⟨d,D,rfl⟩:=zie e
  obtain⟨v,I,J⟩:=r.get D;refine⟨v,?_,J.mono (λ_ _ h=>h) λa us o h=>⟨⟨.inl o,λz=>z⟩,h⟩⟩;unfold start;rw[aw (by simpa using(aj.mp I).1),b7,I];rfl
 ·obtain⟨d,_,z⟩:=zie D
  subst z;exact o.elim
 ·unfold iz start
  rw[am,am,ah,ah,d8,d8,r.length]
variable{f:Addr}{CX:CXT}{qual:Str}{st:Stmt}{fd:FuncData}{ps:g9}{k ar:Nat}{P:Program}{w:World}{mg:Str->h8}{base:Heap}
theorem fn_D{g:FS}(F:Fun K x qual st f fd)(S:pz N ps (fx st))(U:n=N.length)(V:ar=ps.length)(D:∀(cdv:Value) (A:Around) (outer:i0) (s:Shared) (H:Hp) (E:XK) (G:Gd) (H0:Hp),Room k (A.deeper (envOfC qual (fx st) s.heap.objs.size f cdv)) ->
   DBx (cxOf CX P w K mg base N qual (fx st) f cdv A outer s H E).nox G H0 (lg st) g):FnOk P w K mg base CX (k+1) f fd ps (dSp K (runD n ar g)):=by
 subst U V;refine F.okC S (λvs H Q E h=>?_) (λcdv A outer s H vs Q E Y h=>?_)
 ·obtain⟨O,ds,d,r,e,_⟩:=h
  rw[<-r.length];unfold runD at e;split at e
  ·assumption
  ·cases e
 ·obtain⟨O,ds,d,r,e,k⟩:=h
  refine⟨_,(D cdv A outer s H E (gd λa=>O a\/H a=none) H Y).out,?_⟩;unfold runD at e;split at e;case isFalse=>cases e
  split at e
  ·rename_i d' env' J
   cases e;exact⟨NoW,_,_,env',um r,J,λW' R v H' st I Z=>k v H' I.stay (Z.mono (λ_ _ h=>h) λa us o h=>⟨o.1,h⟩)⟩
  ·rename_i env' J
   cases e;exact⟨NoW,_,_,env',um r,J,λW' R H' st I=>k .non H' I.stay .non⟩
  ·cases e
theorem fn_F{g:FS}(F:Fun K x qual st f fd)(S:pz N ps (fx st))(I:n=N.length)(J:ar=ps.length)(D:∀(cdv:Value) (A:Around) (outer:i0) (s:Shared) (H:Hp) (E:XK) (G:Gd) (H0:Hp),Room k (A.deeper (envOfC qual (fx st) s.heap.objs.size f cdv)) ->
   DBx (cxOf CX P w K mg base N qual (fx st) f cdv A outer s H E).nox G H0 (lg st) g):FnOk P w K mg base CX (k+1) f fd ps (fSp K (runF n ar g)):=by
 subst I J;refine F.okC S (λvs H Q E h=>?_) (λcdv A outer s H vs Q E R h=>?_)
 ·obtain⟨O,ds,d,r,e,_⟩:=h
  rw[<-r.length];unfold runF at e;split at e
  ·assumption
  ·cases e
 ·obtain⟨O,ds,d,r,e,k⟩:=h
  refine⟨_,(D cdv A outer s H E (gd λa=>O a\/H a=none) H R).out,?_⟩;unfold runF at e;split at e;case isFalse=>cases e
  split at e
  ·rename_i d' env' U
   cases e;exact⟨NoW,_,_,env',um r,U,λl vs' H' sm V Y Z=>k l vs' H' sm V Y Z⟩
  ·cases e
def zqp(K:k4):Sp:=λvs H Q _=>∃(a:Addr) (D:ik),vs=[.ref a]/\SqL K H a (D.map V.int)/\D.length<=63/\∀H',Q (.bl true) H'
theorem z43{m:k9->la}(F:FnOk P w K mg base CX k f fd ps (dSp K m))(h:∀I:ik,I.length<=63->m [.lst (I.map D.int)]=some (.bl true)) :
  FnOk P w K mg base CX k f fd ps (zqp K):=F.imp λvs H Q E J=>by
 obtain⟨a,I,e,R,S,q⟩:=J;subst e;exact⟨λ_=>True,[.lst (I.map D.int)],.bl true,.cons (R.elim (λz=>.lst trivial z (zhv I)) λz=>.klst z (zhv I)) .nil,h I S,λv H' _ r=>by rw[r.bl_];exact q H'⟩
variable{F:FA}
def fr_D:∀σ H Q,tD X.K G H0 (fLst F) σ H Q->tDF X.K G H0 F σ H Q:=λσ H Q S=>by
 obtain⟨W,env,d,env',ok,q,k⟩:=S;cases e1:F env with
 | none=>simp[e1] at q
 | some r =>
   have q:some (D.lst r.1,r.2)=some (d,env'):=by simpa[fLst,e1] using q
   cases q;refine⟨W,env,_,_,ok,e1,λW1 l vs H1 R I J U V Y=>k W1 _ H1 ⟨R.keep,λa z=>R.ws a (.inl z)⟩ I (.lst ⟨I.good l (J.wl l (.inr rfl)).1,U⟩ (.inl V) (Y.mono (λ_ _ h=>h) λa us o h=>⟨⟨o.1,λz=>o.2 (.inl z)⟩,h⟩))⟩
variable{f:FE}
def fb(I:Tos Nn X)(J:DEx X G H0 e f)(D:Nn[i]?=some x:=by rfl)(R:swapsWith e (some (.Name x p')) pos.line X.env=pure false:=by rfl):DSx X G H0 (.Assign [.Name x p'] e pos) (sSet i f):=z2w (I.t D).nd (I.t D).n J (zsp (I.t D).nd (I.t D).n (I.t D).l J.out R (I.t D).f)
def ztl(ps:PS X (.Assign [.Name x p'] e pos) (tAsg (tDF X.K G H0 F) (ml i))):DSx X G H0 (.Assign [.Name x p'] e pos) (sSet i (fLst F)):=⟨(PS.imp ps (t':=tAsg (tD X.K G H0 (fLst F)) (ml i)) λDn σ H h=>fr_D σ H _ h).imp λDn σ H I=>by
 obtain⟨W,env,fl,env',ok,q,k⟩:=I;cases e1:fLst F env with
 | none=>simp only[sSet,e1,kx] at q;cases q
 | some r =>
   have q:some (Fl.nx,r.2.set i (some (Sl.sh r.1)))=some (fl,env'):=by simpa only[sSet,e1,ai] using q
   cases q;exact⟨W,env,_,_,ok,e1,λW1 v1 H1 J D p1=>k W1 _ H1 J (D.set p1)⟩⟩
variable{y:Str}{ix:ic}{sc:Scope}{px py spos:Pos}{fi:FI}{te:FE}
def zqq(an:Ats Nn Cn X)(R:Tos Nn X)(hi:DIx X G H0 (.Name x px) a fi)(S:∀cl C s₂ H₂ fp G H0,Ats (x::(subN Nn ix)) (subN Nn ix) (ip X x (subN Nn ix) sc cl C s₂ H₂ fp)->DEx (ip X x (subN Nn ix) sc cl C s₂ H₂ fp) G H0 e te)(J:pk Nn Cn ix x sc=true:=by decide +kernel)(V:X.calm=true:=by rfl)(I:Nn[i]?=some y:=by rfl)(U:swapsWith (.ListComp e [⟨.Name x px,a,[],0⟩] sc pos) (some (.Name y py)) spos.line X.env=pure true:=by rfl)(Y:∀v,foldedSetIterable a X.env v=pure v:=by intro _;rfl) :
  PS X (.Assign [.Name y py] (.ListComp e [⟨.Name x px,a,[],0⟩] sc pos) spos) (tAsg (tDF X.K G H0 (gv fi ix fYes te)) (ml i)) :=
 (zmh (vh an J) (λ_ _ _ _ _ _ _ _ _=>V) (R.t I).nd (R.t I).n (R.t I).l hi.out (λcl C s₂ H₂ fp _=>ye (X:=X) rfl) (λcl C s₂ H₂ fp _=>el_x (X:=X) rfl (λG H0=>S cl C s₂ H₂ fp G H0 (sv J))) U (R.t I).f Y).imp λD σ H h=>zqo σ H _ h
variable{tt:FT}
def zpg{Cm:Cx->Prop}{S:Expr}(c:∀cl C s₂ H₂ fp pins σ,Inv X pins σ H₂ s₂->(∀b∈fp,FpOk X pins H₂ b)->Cm (ip X x (subN Nn ix) sc cl C s₂ H₂ fp))(an:Ats Nn Cn X)(R:Tos Nn X)(hi:DIC Cm X G H0 (.Name x px) a fi)(U:∀cl C s₂ H₂ fp G H0,Cm (ip X x (subN Nn ix) sc cl C s₂ H₂ fp)->Ats (x::(subN Nn ix)) (subN Nn ix) (ip X x (subN Nn ix) sc cl C s₂ H₂ fp)->DTx (ip X x (subN Nn ix) sc cl C s₂ H₂ fp) G H0 S tt)(V:∀cl C s₂ H₂ fp G H0,Cm (ip X x (subN Nn ix) sc cl C s₂ H₂ fp)->Ats (x::(subN Nn ix)) (subN Nn ix) (ip X x (subN Nn ix) sc cl C s₂ H₂ fp)->DEx (ip X x (subN Nn ix) sc cl C s₂ H₂ fp) G H0 e te)(J:pk Nn Cn ix x sc=true:=by decide +kernel)(I:Nn[i]?=some y:=by rfl)(Y:swapsWith (.ListComp e [⟨.Name x px,a,[S],0⟩] sc pos) (some (.Name y py)) spos.line X.env=pure true:=by rfl)(d:∀v,foldedSetIterable a X.env v=pure v:=by intro _;rfl) :
  PS X (.Assign [.Name y py] (.ListComp e [⟨.Name x px,a,[S],0⟩] sc pos) spos) (tAsg (tDF X.K G H0 (gv fi ix tt te)) (ml i)) :=
 (zmh (vh an J) c (R.t I).nd (R.t I).n (R.t I).l hi.out (λcl C s₂ H₂ fp Z=>if_x (X:=X) rfl (λG H0=>U cl C s₂ H₂ fp G H0 Z (sv J))) (λcl C s₂ H₂ fp Z=>el_x (X:=X) rfl (λG H0=>V cl C s₂ H₂ fp G H0 Z (sv J))) Y (R.t I).f d).imp λD σ H h=>zqo σ H _ h
abbrev FA2:=DE0->Option (List k9×DE0)
def tDF2(K:k4)(G:Gd)(H0:Hp)(f:FA2):TE:=λσ H Q=>DP K G H0 f (λW env dss env' =>
 ∀W' l H',Step W H W' H'->Ok K G H0 W' env' σ H'->SlOk K G W' H' (.o2 dss) (.ref l) ->
  (∀(j:Nat) (s:Sl) (v:V) (a:Addr),env'[j]?=some (some s)->σ[j]?=some (some v)->Owns H' (.o2 dss) (.ref l) a->¬Owns H' s v a)->Q (.ref l) H') σ H
structure DF2x (X:Cx) (G:Gd) (H0:Hp) (e:Expr) (f:FA2):Prop where
 out:PE X e (tDF2 X.K G H0 f)
@[simp] noncomputable def yd(i:Nat)(f:FA2):FS:=λe=>(f e).map λr=>(.nx,r.2.set i (some (.o2 r.1)))
def zzf{D:FA2}(ps:PS X (.Assign [.Name x p'] e pos) (tAsg (tDF2 X.K G H0 D) (ml i))):DSx X G H0 (.Assign [.Name x p'] e pos) (yd i D):=⟨ps.imp λDn σ H J=>by
 obtain⟨W,env,fl,env',ok,q,k⟩:=J;cases e1:D env with
 | none=>simp[e1] at q
 | some r =>
   have q:some (Fl.nx,r.2.set i (some (Sl.o2 r.1)))=some (fl,env'):=by simpa[yd,e1] using q
   cases q;exact⟨W,env,_,_,ok,e1,λW1 l H1 R I h1 S=>k W1 _ H1 R (I.put h1 S)⟩⟩
def yn(te:FA)(base:DE0):k9->Option (List k9)
 | []=>some []
 | d::r=>(te (some (.sh d)::base)).bind λv=>(yn te base r).map (v.1::·)
def ym(fi:FI)(ix:ic)(te:FA):FA2:=λe=>(fi e).bind λr=>if Few r.1.length then(yn te (ix.map λj=>capt (r.2.getD j none)) r.1).map λds=>(ds,r.2) else none
def tDxF(K:k4)(f:FA):TE:=λσ H Q=>∃G H0,tDF K G H0 f σ H Q
variable{te:FA}
def z44{D:Cx}(J:D.K=X.K)(h:∀G H0,DFx D G H0 e te):PE D e (tDxF X.K te):=λpins s σ H Q I ⟨G,H0,q⟩=>(h G H0).out pins s σ H Q I (by rw[J];exact q)
inductive z20 (X:Cx) (G:Gd) (H0:Hp) (env:DE0) (σ:St) (W1:Addr->Prop) (H1:Hp) (ds:k9) (d:List k9) (f:k9->Option (List k9)) (i m:Nat) (H':Hp) (ys:k8):Prop
 | mk (Wi:Addr->Prop) (rest done:List k9) (ls:ia) (hm:m=ds.length-i) (hi:i<=ds.length) (sm:Same H1 H') (st:Step W1 H1 Wi H') (ok:Ok X.K G H0 Wi env σ H') (hy:ys=ls.map V.ref) (inn:Inn X.K G Wi H' done ls) (nd:ls.Nodup) (fr:∀a∈ls,H1 a=none) (hd:done.length<=i) (ec:f (ds.drop i)=some rest) (hz:d=done++rest):z20 X G H0 env σ W1 H1 ds d f i m H' ys
theorem zzg:∀σ H Q,tDF2 X.K G H0 (ym fi ix te) σ H Q->wg (tDI X.K G H0 fi) ix (tDxT X.K fYes) (tDxF X.K te) σ H Q:=λσ H Q z=>by
 obtain⟨W,env,d,env',ok,q,k⟩:=z;obtain⟨⟨ds,Z⟩,e1,q⟩:=dh.mp q;by_cases O:Few ds.length;case neg=>cases (if_neg O).symm.trans q
 obtain⟨an,e2,q⟩:=gi.mp ((if_pos O).symm.trans q);cases q;refine⟨W,env,ds,_,ok,e1,λW1 J H1 s1 g wk=>⟨z20 X G H0 Z σ W1 H1 ds d (yn te (ix.map λj=>capt (Z.getD j none))),⟨ds.length,W1,d,[],[],rfl,fu _,Same.refl _,Step.refl,g,rfl,⟨rfl,λj ds a e=>by cases e⟩,List.nodup_nil,(λa h=>by cases h),bw _,e2,rfl⟩,λi m H' ys z=>?_⟩⟩;obtain⟨A,rest,D,ls,hm,hi,sm,st,S,hy,U,nd,fr,hd,u,P⟩:=z;subst hm hy;have I:ls.length=D.length:=U.1;have B:∀a∈ls,∃vs,H' a=some (.lst vs):=λa C=>by
  obtain⟨j,T,e⟩:=mf C;obtain⟨_,vs,h,_⟩:=U.2 j (D[j]'(I ▸ T)) a (ay _) (e ▸ ay T);exact⟨vs,h⟩
 by_cases R:i<ds.length
 ·rw[eg R] at u
  obtain⟨⟨dv,E⟩,e4,u⟩:=dh.mp u;obtain⟨n,e5,e6⟩:=gi.mp u;obtain⟨hg,hy⟩:=wk.go A H' i ds[i] st (ay R);refine .inr ⟨hg,λx Y y=>?_⟩;obtain⟨e,rx⟩:=hy x Y y;subst e;refine⟨_,_,NoW,_,true,_,zmm (ix:=ix) S rx,rfl,λW2 H2 s2 aa=>?_⟩;refine⟨_,_,W2,_,dv,E,aa,e4,λW3 l vs H3 s3 ab F nW L rp=>⟨?_,ds.length-(i+1),ly _ _ R,?_⟩⟩
  ·rw[ah,I];exact az (Nat.lt_of_le_of_lt hd (az R O)) zkm
  ·have p:Same Y H3:=ab.stay
   have c:Y l=none:=(F.wl l (.inr rfl)).1;obtain⟨q1,q2,q3,q4,q5⟩:=S.fresh p c L (rp.mono (O':=λa=>(Ow G A a\/Y a=none)/\a≠l) (λ_ _ h=>h) λa us o h=>⟨⟨o.1,λz=>o.2 (.inr z)⟩,h⟩);have nl:l∉ls:=λz=>by obtain⟨us,h⟩:=B l z;rw[c] at h;cases h
   refine⟨addW A l,n,D++[dv],ls++[l],rfl,R,sm.trans p,st.trans q5,q3,by simp,⟨by simp[I],λj es a ea f=>?_⟩,?_,λa C=>?_,by rw[am,i8];lia,e5,by rw[P,<-e6,d4];rfl⟩
   ·by_cases T:j<D.length
    ·rw[aw T] at ea
     rw[aw (by lia)] at f;obtain⟨w,us,h,r⟩:=U.2 j es a ea f;exact⟨.inl w,us,p _ _ h,S.reps q5 r⟩
    ·rw[df (by lia)] at ea
     rw[df (by lia),I] at f;have P:j-D.length=0:=by
      have:=(aj.mp ea).1;simp at this;lia
     rw[P] at ea f;simp[Option.some.injEq] at ea f;subst ea f;exact⟨.inr rfl,vs,L,q4⟩
   ·rw[List.nodup_append]
    exact⟨nd,by simp,λa C b hb=>by simp only[cy] at hb;subst hb;intro z;subst z;exact nl C⟩
   ·rcases cz.mp C with z | z
    ·exact fr a z
    ·rw[cy.mp z];exact sm.free c
 ·cases re hi (ke R)
  rw[i9] at u;cases u;refine .inl ⟨wk.stop A H' st,by rw[ah,I];exact cx hd (cx O zkm),λl c=>?_⟩;have t:Same H' (upd H' l (.lst (ls.map V.ref))):=oh c;obtain⟨q1,q2,q3,q4⟩:=S.fresh0 (vs:=ls.map V.ref) t c j0;have nl:l∉ls:=λz=>by obtain⟨us,h⟩:=B l z;rw[c] at h;cases h
  have ag:Same H1 (upd H' l (.lst (ls.map V.ref))):=sm.trans t;rw[P,dc] at k;refine k (addW A l) l _ ((s1.trans st).trans q4) q3 ⟨l,ls,rfl,.inr rfl,j0,bx.mpr ⟨nl,nd⟩,U.1,λj es a ea f=>?_⟩ λj s v a ej ev o1 o2=>?_
  ·obtain⟨w,us,h,r⟩:=U.2 j es a ea f
   exact⟨.inl w,us,t _ _ h,S.reps q4 r⟩
  ·obtain⟨v',M,hs⟩:=g.slot j s ej
   rw[ev] at M;cases M;have al:Owns H1 s v a:=hs.back (λl' _ _ vs q=>ag _ _ q) o2;have wa:W1 a:=hs.owns al;have N:H1 a≠none:=λz=>by obtain⟨_,us,q⟩:=g.wl a wa;rw[z] at q;cases q
   rcases o1 with o1 | ⟨l',ls',z,q,hb⟩
   ·cases o1;exact N (sm.free c)
   ·cases z
    rw[j0] at q;have:=vk (by simpa using q);subst this;exact N (fr a hb)
def zvz(an:Ats Nn Cn X)(R:Tos Nn X)(hi:DIx X G H0 (.Name x px) a fi)(S:∀cl C s₂ H₂ fp G H0,Ats (x::(subN Nn ix)) (subN Nn ix) (ip X x (subN Nn ix) sc cl C s₂ H₂ fp)->DFx (ip X x (subN Nn ix) sc cl C s₂ H₂ fp) G H0 e te)(J:pk Nn Cn ix x sc=true:=by decide +kernel)(V:X.calm=true:=by rfl)(I:Nn[i]?=some y:=by rfl)(U:swapsWith (.ListComp e [⟨.Name x px,a,[],0⟩] sc pos) (some (.Name y py)) spos.line X.env=pure true:=by rfl)(Y:∀v,foldedSetIterable a X.env v=pure v:=by intro _;rfl) :
  PS X (.Assign [.Name y py] (.ListComp e [⟨.Name x px,a,[],0⟩] sc pos) spos) (tAsg (tDF2 X.K G H0 (ym fi ix te)) (ml i)) :=
 (zmh (vh an J) (λ_ _ _ _ _ _ _ _ _=>V) (R.t I).nd (R.t I).n (R.t I).l hi.out (λcl C s₂ H₂ fp _=>ye (X:=X) rfl) (λcl C s₂ H₂ fp _=>z44 (X:=X) rfl (λG H0=>S cl C s₂ H₂ fp G H0 (sv J))) U (R.t I).f Y).imp λD σ H h=>zzg σ H _ h
variable{α:Type}{j:Nat}
def z21{xs:List α}{k:Int}{y:α}(h:ixN xs.length k=some j)(h2:xs[j]?=some y):atI xs k=some y:=by
 unfold atI;rw[h];exact h2
variable{env:DE0}{σ:St}{v:V}
def zv0{dss:List k9}{k:Int}(ok:Ok X.K G H0 W env σ H)(S:env[i]?=some (some (.o2 dss)))(U:σ[i]?=some (some v))(Y:ixN dss.length k=some j)(J:dss[j]?=some ds) :
  ∃(l:Addr) (ls:ia) (a:Addr) (vs:k8),v=.ref l/\H l=some (.lst (ls.map V.ref))/\ls[j]?=some a/\atI (ls.map V.ref) k=some (.ref a)/\H a=some (.lst vs)/\Reps X.K H (Ow G W) ds vs:=by
 obtain⟨b,R,l,ls,rfl,c,Z,d,hi⟩:=ok.slot i _ S;rw[U] at R;cases R;have I:j<ls.length:=by rw[hi.1];exact(aj.mp J).1
 obtain⟨_,vs,h,r⟩:=hi.2 j ds ls[j] J (by simp[I]);exact⟨l,ls,ls[j],vs,rfl,Z,by simp[I],z21 (j:=j) (by rw[ah,hi.1];exact Y) (by simp[I]),h,r⟩
@[simp] noncomputable def app2(k d:D)(e:DE0)(i:Nat):Option (D×DE0):=match k,e[i]? with
 | .int k,some (some (.o2 dss))=>(ixN dss.length k).bind λj=>(dss[j]?).bind λds=>if Few (ds.length+1) then some (.non,e.set i (some (.o2 (dss.set j (ds++[d]))))) else none
 | _,_=>none
@[simp] noncomputable def zv1(i:Nat)(g f:FE):FE:=λe=>match e[i]? with
 | some (some (.o2 _))=>(g e).bind λr=>(f (r.2.map capt)).bind λq=>app2 r.1 q.1 r.2 i
 | _=>none
def zdr{env:Env}:∀ {names:List (Str×NameKind)} {x:Str},names.lookup x=some .globalImplicit ->
  (names.map λ(n,k)=>if (k==NameKind.free && env.scope.kind==.function && env.kindOf n==some .cell) then(n,NameKind.cell) else(n,k)).lookup x=some .globalImplicit
 | (n,k)::r,x,h=>by
   have D:=@zdr env r x;show List.lookup x ((if (k==NameKind.free && env.scope.kind==.function && env.kindOf n==some .cell)=true then(n,NameKind.cell) else(n,k))::_)=_;cases hx:x==n with
   | true =>
     simp only[cq,hx] at h;cases h;simp[cq,hx]
   | false =>
     simp only[cq,hx] at h;by_cases I:(k==NameKind.free && env.scope.kind==.function && env.kindOf n==some .cell)=true
     ·rw[if_pos I];simp only[cq,hx];exact D h
     ·rw[if_neg I];simp only[cq,hx];exact D h
variable{N':g9}{cl:List (Str×Addr)}{C:Addr}{s:Shared}{fp:ia}
def gl_c(h:sc.names.lookup x=some .globalImplicit):Gl (ip X y N' sc cl C s H fp) x:=zdr h
def z22:Ty "int" "int":=⟨by decide +kernel,by decide +kernel,by decide +kernel,by decide +kernel⟩
def zzh:Ty "bool" "bool":=⟨by decide +kernel,by decide +kernel,by decide +kernel,by decide +kernel⟩
def ztn:Ty "str" "str":=⟨by decide +kernel,by decide +kernel,by decide +kernel,by decide +kernel⟩
def zph:Ty "list" "list":=⟨by decide +kernel,by decide +kernel,by decide +kernel,by decide +kernel⟩
def zkn:Ty "tuple" "tuple":=⟨by decide +kernel,by decide +kernel,by decide +kernel,by decide +kernel⟩
def zzi(l:List α)(k:Nat)(y:α):(l.toArray.extract 0 k).push y++l.toArray.extract k=(l.take k++y::l.drop k).toArray:=by
 simp;exact gk (by simp)
def zzj:V->k8->Hp->VK->Prop:=λx vs H Q=>∃(l:Addr) (xs:k8) (i:Int) (y:V),x=.ref l/\vs=[.int i,y]/\H l=some (.lst xs)/\0<=i/\i<=xs.length/\i<2 ^ 62/\xs.length<sizeLine/\Q .non (upd H l (.lst (xs.take i.toNat++y::xs.drop i.toNat)))
def Vals.ins{xs:k8}{its:h7}{y:V}{u:Value}(r:Vals xs its)(D:Vals [y] [u])(k:Nat):Vals (xs.take k++y::xs.drop k) (its.take k++u::its.drop k):=by
 have:=(r.take k).append (D.append (r.drop k));simpa using this
theorem zto:MtM X "list.insert" zzj:=by
 intro pins s σ H x vs v us Q I U V h;obtain⟨l,xs,i,y,rfl,rfl,R,Z,h1,h2,a,q⟩:=h;cases U;obtain⟨b,S,rfl,D,J⟩:=V.two;obtain⟨t,rfl⟩:=D;obtain⟨z,its,n,r,c,e⟩:=I.lstM R;refine call_meets F.slot_list_insert ⟨_,e,rfl⟩ F.entry_list_insert (F.args_list_insert_3 _ _ _) (PySem.AutoSeq1.list_insert_list_int_val_1 l its.toArray n i t S (by rw[fitsIndex_both (k:=i) (by lia) (by lia)];decide) (by rw[bc];lia)) ⟨e,?_⟩;refine⟨.non,_,I.lset (its':=its.take i.toNat++S::its.drop i.toNat) R e ?_ (Vals.ins r (.cons J .nil) _) ?_,rfl,q⟩
 ·have Y:(if i<0 then(i+(its.toArray.size:Int)).toNat else min i.toNat its.toArray.size)=i.toNat:=by
   rw[if_neg (by lia),bc]
   lia
  rw[Y,zzi]
 ·rw[am,ak,dm,em]
  lia
def zzk(k d:D)(e:DE0)(i:Nat):Option (D×DE0):=match k,e[i]? with
 | .int k,some (some (.ow ds))=>if 0<=k/\k<=ds.length/\Few (ds.length+1) then some (.non,e.set i (some (.ow (ds.take k.toNat++d::ds.drop k.toNat)))) else none
 | _,_=>none
def zmq(i:Nat)(f g:FE):FE:=λe=>match e[i]? with
 | some (some (.ow _))=>(au f (au g fNil) e).bind λr=>match r.1 with | [k,d]=>zzk k d r.2 i | _=>none
 | _=>none
theorem ztp(p:DEx X G H0 a f)(s:DEx X G H0 b g)(an:Ats Nn Cn X)(V:Nn[i]?=some x:=by rfl)(I:attributeBase (.Name x p') "insert" X.env (eval (.Name x p') X.env)=eval (.Name x p') X.env:=by rfl)(R:((backTo pos (starEach [a,b] X.env)).all (λx=>!x.1) && (backToKw pos (keywordEach [] X.env)).all (λx=>x.1.isSome)
   && decide ([a,b].length+([]:List Keyword).length+(if ([]:List Keyword).isEmpty then 0 else 1)<30))=true:=by rfl)(J:(p1.endLine==pos.line)=true:=by rfl)(j:starEach [a,b] X.env=(false,eval a X.env)::starEach [b] X.env:=by rfl)(Y:starEach [b] X.env=(false,eval b X.env)::starEach [] X.env:=by rfl)(Z:(backTo pos (starEach [b] X.env)).any (·.1)=false:=by rfl) :
  DEx X G H0 (.Call (.Attribute (.Name x p') "insert" p1) [a,b] [] pos) (zmq i f g):=⟨(zvj fm PySem.F.slot_list_insert PySem.F.type_list_insert zto ((an.a V).pe) (bh p (bh s cw Y) j).out I R J j Z).imp λσ H Q t=>by
 obtain⟨W,env,d,env',ok,q,k⟩:=t;unfold zmq at q;split at q;case h_2=>cases q
 rename_i u c;obtain⟨v,e,l,w,rfl,y,h,_⟩:=ok.slot i _ c;cases e1:au f (au g fNil) env with
 | none=>rw[e1] at q;cases q
 | some r =>
   obtain⟨z,S⟩:=r;rw[e1,ac] at q;dsimp only at q;split at q;case h_2=>cases q
   unfold zzk at q;split at q;case h_2=>cases q
   rename_i kk ds m;split at q;case isFalse=>cases q
   rename_i A;obtain⟨B,C,n⟩:=A;cases q;refine⟨_,e,.inl ⟨rfl,_,.inl (.inl h)⟩,W,env,_,S,ok,e1,λW1 E H1 K U L=>?_⟩;obtain⟨v',o,l',vs,M,hW,N,r⟩:=U.slot i _ m;rw[e] at o;cases o;cases M;cases L with
   | cons q1 r2 =>
   cases r2 with
   | cons q2 r3 =>
   cases r3;cases q1;obtain⟨O,P⟩:=U.turn m e ((r.take kk.toNat).append (.cons q2 (r.drop kk.toNat)));have D:=r.length;have T:ds.length<sizeLine:=lt20 (ni n);have c4:ds.length+1<=2 ^ 20:=n;exact⟨l,vs,kk,_,rfl,rfl,N,B,by rw[<-D];exact C,by lia,by rw[<-D];exact T,k W1 _ _ (K.trans P) O .non⟩⟩
def qi:ic->k9->DE0->DE0
 | i::ix,d::ds,e=>qi ix ds (e.set i (some (.sh d)))
 | _,_,e=>e
def gIs:ic->TGs
 | []=>gNil
 | i::ix=>z1f (ml i) (gIs ix)
def sUnp(ix:ic)(f:FE):FS:=λe=>(f e).bind λr=>match r.1 with
 | .tup ds=>if ds.length=ix.length then some (.nx,qi ix ds r.2) else none
 | _=>none
def unp(ix:ic)(d:D)(e:DE0):Option DE0:=match d with
 | .tup ds=>if ds.length=ix.length then some (qi ix ds e) else none
 | _=>none
def forU(ix:ic)(g:FS):k9->DE0->Option (Fl×DE0)
 | [],e=>some (.nx,e)
 | d::r,e=>(unp ix d e).bind λI=>(g I).bind λq=>match q.1 with | .nx=>forU ix g r q.2 | .ct=>forU ix g r q.2 | .bk=>some (.nx,q.2) | .rt d=>some (.rt d,q.2) | .rf ds=>some (.rf ds,q.2) | .r2 ds=>some (.r2 ds,q.2) | .xc c=>some (.xc c,q.2) | .ra k ps=>some (.ra k ps,q.2)
@[simp] noncomputable def pi(ix:ic)(fi:FI)(g:FS):FS:=λe=>(fi e).bind λr=>forU ix g r.1 r.2
def zxy{K:k4}{W:Addr->Prop}{H:Hp}:∀(ix:ic) (ds:k9) (vs:k8) (env:DE0) (σ:St) (Q:St->Hp->Prop),Ok K G H0 W env σ H->Reps K H (Ow G W) ds vs->ds.length=ix.length ->
  (∀I,Ok K G H0 W (qi ix ds env) I H->Q I H)->gIs ix vs σ H Q
 | [],ds,vs,env,σ,Q,ok,r,hl,k=>by
   cases r with
   | nil=>exact⟨rfl,k σ ok⟩
   | cons _ _=>cases hl
 | i::ix,ds,vs,env,σ,Q,ok,r,hl,k=>by
   cases r with
   | nil=>cases hl
   | @cons d v ds vs r0 r =>
     refine⟨v,vs,rfl,?_⟩;exact zxy ix ds vs _ _ Q (ok.set r0) r (Nat.succ.inj hl) k
def u9  : PGs X [] (gIs []):=zyl
variable{es:ka}
def lf(I:Tos Nn X)(h:PGs X es (gIs ix))(D:Nn[i]?=some x:=by rfl)(J:(assignEach (.Name x pos::es) X.env).map (·.2)=assign (.Name x pos) X.env::(assignEach es X.env).map (·.2):=by rfl):PGs X (.Name x pos::es) (gIs (i::ix)):=zva (zso (I.t D).nd (I.t D).n (I.t D).l (I.t D).f) h J
variable{body:List Stmt}{u:FS}
def zpi(hi:DJx X G H0 (.Tuple es k p1) a fi)(h:PGs X es (gIs ix))(R:DBx X G H0 body u)(S:PassesOwn (model X.prog X.w) X.A X.env X.xe:=by passes_own)(I:X.calm=true:=by rfl)(U:(assignEach es X.env).length=ix.length:=by rfl)(D:(assignEach es X.env).findIdx? (·.1)=none:=by rfl)(V:∀x,foldedSetIterable a X.env x=pure x:=by intro _;rfl):DSx X G H0 (.For (.Tuple es k p1) a body [] pos) (pi ix fi u) :=
 ztk (b:=unp ix) (L:=forU ix u) hi (z1g (n:=ix.length) I h U D) R (λ{W env env' σ H d x Q} ok r e k=>by
  unfold unp at e;split at e;case h_2=>cases e
  split at e;case isFalse=>cases e
  rename_i J;cases e;cases r with
  | @tup a vs _ ht rr=>exact⟨a,vs,rfl,.inl (.inl ht),by rw[<-rr.length];exact J,zxy ix _ vs _ σ _ ok rr J k⟩) (λ_=>rfl) (λ_ _ _=>rfl) S I V
def zmr(hi:DIx X G H0 (.Tuple es k p1) a fi)(h:PGs X es (gIs ix))(I:DBx X G H0 body u)(J:PassesOwn (model X.prog X.w) X.A X.env X.xe:=by passes_own)(R:X.calm=true:=by rfl)(S:(assignEach es X.env).length=ix.length:=by rfl)(D:(assignEach es X.env).findIdx? (·.1)=none:=by rfl)(U:∀x,foldedSetIterable a X.env x=pure x:=by intro _;rfl):DSx X G H0 (.For (.Tuple es k p1) a body [] pos) (pi ix fi u):=zpi hi.dj h I J R S D U
def fRep(F:FA)(g:FE):FA:=λe=>(F e).bind λr=>(g r.2).bind λq=>match q.1 with
 | .int k=>if Few (r.1.length*k.toNat)/\Bnd (-(2 ^ 62)) (2 ^ 62) k then some ((List.replicate k.toNat r.1).flatten,q.2) else none
 | _=>none
def Reps.rep{K:k4}{H:Hp}{O:Addr->Prop}{ds:k9}{vs:k8}(r:Reps K H O ds vs):∀k:Nat,Reps K H O (List.replicate k ds).flatten (List.replicate k vs).flatten
 | 0=>.nil
 | k+1=>by
   exact r.append (Reps.rep r k)
theorem ztq(f:DFx X G H0 a F)(i:DEx X G H0 b g):DFx X G H0 (.BinOp a .Mult b pos) (fRep F g):=⟨(zym z16 f.out i.out).imp λσ H Q j=>by
 obtain⟨W,env,d,env',ok,q,k⟩:=j;unfold fRep at q;cases e1:F env with
 | none=>rw[e1] at q;cases q
 | some r =>
   obtain⟨ds,D⟩:=r;rw[e1,ac] at q;cases e2:g D with
   | none=>rw[e2] at q;cases q
   | some r2 =>
     obtain⟨E,Y⟩:=r2;rw[e2,ac] at q;dsimp only at q;split at q;case h_2=>cases q
     rename_i kk;split at q;case isFalse=>cases q
     rename_i m;obtain⟨p,s,t⟩:=m;cases q;refine⟨W,env,_,_,ok,e1,λW1 l vs H1 Z I c u v e=>⟨W1,D,_,_,I,e2,λw v2 H2 s2 J p2=>?_⟩⟩;have R:Step W H W1 H1:=⟨Z.keep,λa h=>Z.ws a (.inl h)⟩;have S:Reps X.K H1 (Ow G W1) ds vs:=e.mono (λ_ _ h=>h) λa us o h=>⟨⟨o.1,λz=>o.2 (.inl z)⟩,h⟩;have U:=I.reps s2 S;have V:H2 l=some (.lst vs):=s2.keep l _ v u;cases p2;refine⟨l,kk,vs,rfl,rfl,V,by lia,by lia,?_,λn x=>?_⟩
     ·rw[<-e.length];exact cx p (by rw[sizeLine_eq];decide)
     ·obtain⟨h1,h2,y,A,B,C⟩:=ue J (Reps.rep U kk.toNat) x
      exact k w n _ _ ((R.trans s2).trans h1) h2 y A B C⟩
variable{wr:ia}{pins:k6}{h2:Heap}
def Inv.tupled{tk:Nat}{T:Addr}{us:k7}(I:Inv X pins σ H s)(R:∀b∈wr,FpOk X pins H b)(hT:s.heap.objs.size<=T)(g:T∉wr)(k:∀b o,b∉wr->s.heap.get? b=some o->h2.get? b=some o)(V:h2.IsTuple T us)(Y:Vals vs us.toList)(Z:vs.length<=sizeLine) :
  Inv X pins σ (upd H T (.tup vs)) { s with heap:=h2,toks:=tk }:=by
 have S:H T=none:=I.hok.fresh hT;have U:∀b u,H b=some u->b∉wr:=λb u e z=>by rw[(R b z).1] at e;cases e
 have neT:∀b o,s.heap.get? b=some o->b≠T:=λb o e=>b6 (az (bg e) hT);refine I.step (g':=s.gens) (d':=s.drawn) (ch:=wr) (λb D=>⟨(R b D).2.2.2.1,(R b D).2.1,(R b D).2.2.2.2.1,(R b D).2.2.2.2.2⟩) (λb o _ _ J e _=>k b o J e) (λb o _ _ J e _=>⟨o.slots,k b o J e⟩)
  (λb o _ e n=>by rw[gg (neT b o e)];exact n) (λb o J e=>⟨o,k b o J e⟩) (λb xs e=>by rw[gg (m6 e S)];exact e) (λb o u e=>by rw[gg (m6 e S)];exact e)
  (λb ps e=>⟨#[],by rw[gg (m6 e S),e];simp⟩) (λm a=>?_) (λb u e=>?_) I.bare
 ·obtain⟨o,es,d,f,r⟩:=a
  exact⟨o,es,d,k _ o (λz=>(R _ z).2.1 rfl) f,r⟩
 ·by_cases D:b=T
  ·subst D
   rw[j0] at e;cases e;exact⟨Z,us.toList,Y,by rw[Array.toArray_toList];exact V⟩
  ·rw[gg D] at e
   refine(I.hok b u e).stay (λc v J q=>k c v ?_ q) (λc q=>by rw[gg (m6 q S)];exact q) λc xs q=>by rw[gg (m6 q S)];exact q
   rcases J with z | z
   ·rw[z];exact U b u e
   ·exact U c _ z
def Inv.turnedL{tk:Nat}(I:Inv X pins σ H s)(J:∀b∈wr,FpOk X pins H b)(k:∀b o,b∉wr->s.heap.get? b=some o->h2.get? b=some o) :
  Inv X pins σ H { s with heap:=h2,toks:=tk }:=by
 have R:∀b u,H b=some u->b∉wr:=λb u e z=>by rw[(J b z).1] at e;cases e
 refine I.step (g':=s.gens) (d':=s.drawn) (ch:=wr) (λb S=>⟨(J b S).2.2.2.1,(J b S).2.1,(J b S).2.2.2.2.1,(J b S).2.2.2.2.2⟩) (λb o _ _ D e _=>k b o D e) (λb o _ _ D e _=>⟨o.slots,k b o D e⟩)
  (λ_ _ _ _ n=>n) (λb o D e=>⟨o,k b o D e⟩) (λ_ _ e=>e) (λ_ _ _ e=>e) (λb ps e=>⟨#[],by rw[e];simp⟩) (λm U=>?_) (λb u e=>?_) I.bare
 ·obtain⟨o,es,V,Y,r⟩:=U
  exact⟨o,es,V,k _ o (λz=>(J _ z).2.1 rfl) Y,r⟩
 ·refine(I.hok b u e).stay (λc v D q=>k c v ?_ q) (λ_ q=>q) λ_ _ q=>q
  rcases D with z | z
  ·rw[z];exact R b u e
  ·exact R c _ z
def Itp(go:Nat->Hp->Prop)(I:Nat->Hp->k8->Prop)(D:Nat->Hp->Prop):It :=
 ⟨go,λi H x H'=>∃t vs,H t=none/\x=.ref t/\H'=upd H t (.tup vs)/\I i H vs,D⟩
variable{it:Addr}
def z23{S:Nat->Heap->Prop}{go:Nat->Hp->Prop}{u:Nat->Hp->k8->Prop}{J:Nat->Hp->Prop}(mem:it∈fp)(obj:∀i h,S i h->∀b∈fp,∃o,h.get? b=some o/\∀v,o.data≠.cell v)(keep:∀i h h',S i h->(∀b∈fp,∀o,h.get? b=some o->h'.get? b=some o)->S i h')(x:∀(X:Cx),X.prog=P->X.w=w->X.K=K->X.A.handled=none->∀(i:Nat) (pins:k6) (s:Shared) (σ:St) (H:Hp),Inv X pins σ H s->(∀b∈fp,FpOk X pins H b)->S i s.heap->(go i H\/J i H) ->
   ∃U wr n Pt St Y j,WalksT P w X.A it U wr n Pt St Y/\St j s.heap/\(∀b∈wr,b∈fp)/\(∀h,St (j+1) h->S (i+1) h)/\(go i H->j<n)/\(J i H->j=n) /\
    (go i H->∀D,Pt j D->∃vs,Vals vs D.toList/\vs.length<=sizeLine/\u i H vs))(self:∀(A:Around) (i:Nat) (s:Shared) (Q:Value->Shared->Prop) (E:Value->Shared->Prop),S i s.heap->Q (.ref it) s->wpAny (model P w) A (pyIter (.ref it)) Q E s) :
  Turn P w K (.Tuple es k pos) (Itp go u J) fp it S where
 mem:=mem
 obj:=obj
 keep:=keep
 item:=by
  intro X hP m p q i pins s σ H E I a st c;obtain⟨U,wr,n,Pt,St,Y,j,W,r,Z,d,lt,_,t⟩:=x X hP m p (I.ok.hd q) i pins s σ H I a st (.inl c);refine W.item j s _ _ (lt c) r λT D h1 tk y hT z f kk=>⟨_,rfl,?_⟩;obtain⟨vs,B,C,F⟩:=t c D y;have g:T∉wr:=W.apart j T h1 f;refine W.go es k pos j T _ _ _ f λh2 s2 l=>?_;refine⟨.ref T,upd H T (.tup vs),?_,rfl,⟨T,vs,I.hok.fresh hT,rfl,rfl,F⟩,d h2 s2,λb R=>?_⟩
  ·exact I.tupled (λb R=>a b (Z b R)) hT g (λb o R e=>l b o R (kk b o R e)) (z.at λo e=>l T o g e) B C
  ·obtain⟨o,G,_⟩:=obj i _ st b R
   rw[gg (b6 (az (bg G) hT))];exact(a b R).1
 done:=by
  intro X hP m p q i pins s σ H E I a st c;obtain⟨U,wr,n,Pt,St,Y,j,W,r,Z,d,_,L,_⟩:=x X hP m p (I.ok.hd q) i pins s σ H I a st (.inr c);cases L c;exact W.done s _ _ r λh1 tk kk=>⟨rfl,I.turnedL (λb R=>a b (Z b R)) kk⟩
 self:=self
variable{A:Around}{l:Addr}
theorem zr3(I:A.handled=none)(J:l≠it)(c:Nat)(its:k7) :
  Draws P w A.in1 it [it,l] (c+its.size) (λj x=>∃i,j=c+i/\its[i]?=some x) (λj h=>∃i,j=c+i/\i<=its.size/\h.IsListIter it l i/\h.IsList l its) where
 live:=λj h ⟨i,_,_,⟨o,e,_⟩,_⟩=>⟨o,e⟩
 frame:=λj h h' ⟨i,e,hi,a,b⟩ k=>⟨i,e,hi,a.at λo e=>k it (by simp) o e,b.at λo e=>k l (by simp) o e⟩
 item:=λj s Q E hj ⟨i,e,hi,a,b⟩ hQ=>by
  subst e;have hi:i<its.size:=by lia
  refine wpAny_nextOf_list_item a b (x:=its[i]) (by simp[hi]) λh' R D=>?_;exact hQ _ h' s.toks ⟨i,rfl,by simp[hi]⟩ ⟨i+1,by lia,hi,R,b.extBut D.extBut J⟩ D
 done:=λs Q E ⟨i,e,hi,a,b⟩ hE=>by
  have hi:i=its.size:=by lia
  subst hi;exact wpAny_nextOf_list_end I a b (by simp) hE
def Ite(K:k4)(a:Addr)(c:Nat):It :=
 Itp (λi H=>∃xs x,SqL K H a xs/\xs[i]?=some x) (λi H vs=>∃y,vs=[.int (c+i:Nat),y]/\∀xs,SqL K H a xs->xs[i]?=some y) (λi H=>∃xs,SqL K H a xs/\xs.length=i)
theorem zod(a it e:Addr)(c:Nat)(N:e≠it) :
  Turn P w K (.Tuple es k pos) (Ite K a c) [e,it] e (λi h=>(∃J,IsEnum h e it (c+i:Nat) J)/\h.IsListIter it a i):=by
 refine z23 (by simp) (λi h st b B=>?_) (λi h h' st kk=>?_) ?_ λA i s Q E st W=>?_
 ·obtain⟨⟨J,R⟩,o,ho,_,hd⟩:=st
  rcases cb.mp B with z | z
  ·subst z
   exact⟨_,R,λv z=>by cases (show Data.fields _=Data.cell v from z)⟩
  ·cases cy.mp z
   exact⟨o,ho,λv z=>by rw[hd] at z;cases z⟩
 ·exact⟨st.1.imp λJ R=>kk e (by simp) _ R,st.2.at λo x=>kk it (by simp) o x⟩
 ·intro X hP hw hK hh i pins s σ H I hf st V
  subst hP hw hK;obtain⟨⟨J,R⟩,Y⟩:=st;have C:∃xs,SqL X.K H a xs/\i<=xs.length:=by
   rcases V with⟨xs,x,q,Z⟩ | ⟨xs,q,Z⟩
   ·exact⟨xs,q,nk (aj.mp Z).1⟩
   ·exact⟨xs,q,Nat.le_of_eq Z.symm⟩
  obtain⟨xs,q,F⟩:=C;obtain⟨its,O,p,hz⟩:=I.list q;have hl:=O.length;obtain⟨ol,U,d,_⟩:=id p.isList;obtain⟨oi,f,g,_⟩:=id Y;have G:a≠it:=λz=>by
   subst z;rw[U] at f;cases f;rw[d] at g;exact absurd g (by decide)
  have L:e≠a:=λz=>by
   subst z;rw[R] at U;cases U;exact absurd (show Value.type "enumerate" = Value.type "list" from d) (by decide)
  have D:=zr3 (P:=X.prog) (w:=X.w) hh G c its.toArray;refine⟨_,_,_,_,_,_,c+i,WalksT.enumerateD D e N (by simp[N,L]) (by simp),⟨⟨J,R⟩,i,rfl,by simpa[<-hl] using F,Y,p.isList⟩,λb B=>B,λh st=>?_,λV=>?_,λhs=>?_,λV T hv=>?_⟩
  ·obtain⟨⟨j,M⟩,l,e',_,m,_⟩:=st
   have:l=i+1:=by lia
   subst this;exact⟨⟨j,M⟩,m⟩
  ·obtain⟨ys,y,n,S⟩:=V
   rw[I.list_inj n q] at S;have:=(aj.mp S).1;simp
   lia
  ·obtain⟨ys,n,S⟩:=hs
   rw[I.list_inj n q] at S;simp
   lia
  ·obtain⟨t,x,⟨l,e',Z⟩,rfl⟩:=hv
   have:l=i:=by lia
   subst this;obtain⟨ys,y,n,S⟩:=V;rw[I.list_inj n q] at S;obtain⟨u,hu,ru⟩:=O.get S;have:u=x:=by
    have r:its[l]?=some x:=by simpa using Z
    rw[hu] at r;cases r;rfl
   subst this;exact⟨[.int (c+l:Nat),y],.cons ⟨t,rfl⟩ (.cons ru .nil),by show 2<=sizeLine;rw[sizeLine_eq];decide,y,rfl,λzs C=>by rw[I.list_inj C q];exact S⟩
 ·obtain⟨⟨J,R⟩,_⟩:=st
  exact wpAny_pyIter_enum R W
structure ZNe (z ti to i1 i2:Addr):Prop where
 a1:ti≠z
 a2:to≠z
 a3:i1≠z
 a4:i2≠z
 a5:ti≠to
 a6:ti≠i1
 a7:ti≠i2
 a8:to≠i1
 a9:to≠i2
 aA:i1≠i2
abbrev enH(h:Heap)(l:Addr):Heap:=h.push { cls:=.type "list_iterator",data:=.fields #[.ref l,.int 0 0] }
abbrev enHs(h:Heap)(l:Addr):Heap:=(enH h l).push { cls:=.type "enumerate",data:=.fields #[.none,.bool false,.ref h.objs.size,rawInt 1,.none,.none] }
def zr4(v:Value)(t:Tok):checkTypeCall "enumerate" ⟨[v],[("start",.int 1 t)]⟩=pure ():=by kernel_rfl
def ztr(v:Value)(t:Tok):checkBuiltinCall "enumerate.__new__" ⟨[.type "enumerate",v],[("start",.int 1 t)]⟩=pure ():=by kernel_rfl
def zts(l:Addr)(D:k7)(n:Nat)(J:Option Addr)(sl:Array h8)(t:Tok) :
  Meets (Builtin.«enumerate.__new__» ⟨[.type "enumerate",.ref l],[("start",.int 1 t)]⟩) (λ_ R s=>s.heap.get? l=some ⟨.type "list",J,.seq D n,sl⟩/\R (.ok (.ret (.ref (enH s.heap l).objs.size))) { s with heap:=enHs s.heap l }) :=
 .of_wp λprog w A R s h=>by
  obtain⟨V,g,d,tk,os⟩:=s;obtain⟨I,h⟩:=h;have S:=sub_enumerate;have U:Heap.IsList (Shared.heap ⟨V,g,d,tk,os⟩) l D:=⟨_,I,rfl,n,rfl⟩
  wp_walk using AutoSeq1.wpAny_loadPart' I
  refine wpAny_stack_any λst=>wpAny_pure ?_;split
  ·rename_i c _ _ _ _ _
   cases (c==Value.type "enumerate") <;> (refine wpAny_bind (wpAny_of_eq (a:=(Value.ref l,some (Value.int 1 t))) (by rfl) ?_);wp_walk using AutoSeq1.wpAny_loadPart' I,wpAny_pyIter_list U;exact⟨_,rfl,h⟩)
  ·refine wpAny_bind (wpAny_of_eq (a:=(Value.ref l,some (Value.int 1 t))) (by rfl) ?_);wp_walk using AutoSeq1.wpAny_loadPart' I,wpAny_pyIter_list U;exact⟨_,rfl,h⟩
variable{t:Tok}
theorem zv2{v x:Value}:Meets (Builtin.«object.__init__» ⟨[v,x],[("start",.int 1 t)]⟩) (λ_ R s=>s.TypeIs v "enumerate"/\R (.ok (.ret .none)) s) :=
 .of_wp λprog w A R s D=>by
  obtain⟨hT,h⟩:=D;have I:=F.called_enumerate.made;have J:=F.called_enumerate.init.lookup;repeat (any_goals (first | assumption | wp_step))
  exact⟨_,rfl,h⟩
theorem zv3(a b:Value)(t:Tok):argsOk "object.__init__" ⟨[a,b],[("start",.int 1 t)]⟩:=by
 unfold argsOk;rw[signature?_of (id:="object.__init__") (n:=['_','_','t','i','n','i','_','_']) (o:=['t','c','e','j','b','o']) (by kernel_rfl) F.owner_object];kernel_rfl
variable{prog:Program}{E:Value->Shared->Prop}
theorem zv4{D:k7}{Q:Value->Shared->Prop}(a:s.heap.IsList l D)(h:Q (.ref (enH s.heap l).objs.size) { s with heap:=enHs s.heap l }):wpAny (model prog w) A (call (.type "enumerate") [.ref l] [("start",.int 1 t)]) Q E s:=by
 obtain⟨⟨c,J,b,sl⟩,d,S,n,U⟩:=a;replace S:c=.type "list":=S;replace U:b=.seq D n:=U;subst S U;have V:=F.called_enumerate.made;have Z:=F.called_enumerate.sub;have e:=zr4 (.ref l) t;refine wpAny_call (codeAny_of_tree (show wpAny _ _ (callAny (.type "enumerate") _) _ _ _ from wpAny_pure ⟨Code.quiet_builtin _ (by decide +kernel),codeAny_builtin F.entry_type_call ?_⟩));repeat (any_goals (first | assumption | wp_step))
 refine codeAny_mono (codeAny_call_builtin (R:=λr I=>r=.ok (.ret (.ref (enH s.heap l).objs.size))/\I={ s with heap:=enHs s.heap l }) F.called_enumerate.plain F.entry_enumerate_new (wpAny_of_eq (ztr _ t) (zts l D n J sl t prog w A.in1 (λr I=>r=.ok (.ret (.ref (enH s.heap l).objs.size))/\I={ s with heap:=enHs s.heap l }) s ⟨d,rfl,rfl⟩))) λr I f=>?_;obtain⟨rfl,rfl⟩:=f;have hT:Shared.TypeIs { s with heap:=enHs s.heap l } (.ref (enH s.heap l).objs.size) "enumerate":=⟨_,ci _ rfl,rfl⟩;have g:=F.called_enumerate.init.lookup;have i:=F.called_enumerate.init.bind (.ref (enH s.heap l).objs.size);repeat (any_goals (first | assumption | wp_step))
 refine codeAny_mono (codeAny_call_builtin (R:=λr s2=>r=.ok (.ret .none)/\s2={ s with heap:=enHs s.heap l }) F.called_enumerate.init.plain F.entry_object_init (F.called_enumerate.init.check _ _ _ _ _ _ _ _ hT (zv3 _ _ t) (zv2 prog w A.in1 (λr s2=>r=.ok (.ret .none)/\s2={ s with heap:=enHs s.heap l }) _ ⟨hT,rfl,rfl⟩))) λj s2 Y=>?_;obtain⟨rfl,rfl⟩:=Y;repeat (any_goals (first | assumption | wp_step))
variable{c:Nat}
theorem mem2(h:c∈[n+1,n]):n<=c:=by simp at h;lia
def zoe:bootBuiltins "enumerate" = some (.type "enumerate"):=by decide +kernel
def zzl(K:k4)(c:Nat)(ta:TA):TI:=λσ H R=>ta σ H λvs H1=>∃l xs,vs=[.ref l]/\SqL K H1 l xs/\R (Ite K l c) H1
variable{p:Pos}{ta:TA}
def zzm(V:Bn X "enumerate")(Z:PA X [a] ta)(b:starEach [a] X.env=[(false,eval a X.env)]:=by rfl) :
  PI X (.Tuple es k p1) (.Call (.Name "enumerate" p) [a] [] pos) (zzl X.K 0 ta):=by
 intro pins s σ H R I h;refine Call_ (wj I V.g V.m zoe (jm (thn (Z pos pins s σ H _ I h) λus D d=>?_) b rfl));obtain⟨vs,H1,J,f,i⟩:=d;obtain⟨l,xs,e,j,q⟩:=i;subst e;cases f with
 | cons r rr =>
   cases rr;cases r;obtain⟨its,t,pl,u⟩:=J.list j;refine call_enumerate_list pl.isList λh' Y U n o=>wpAny_pyIter_enum Y ?_;refine⟨D.heap.objs.size+1,[D.heap.objs.size+1,D.heap.objs.size],_,_,H1,rfl,J.kept (t':=D.toks) o,zod l _ _ 0 (Nat.succ_ne_self _),⟨⟨.none,Y⟩,U⟩,λc S=>?_,q⟩;have S:D.heap.objs.size<=c:=mem2 S;exact J.fpOk S (J.hok.fresh S)
variable{p2 kp:Pos}
def zv5(Y:Bn X "enumerate")(b:PA X [a] ta)(d:starEach [a] X.env=(false,eval a X.env)::starEach [] X.env:=by rfl)(U:(backTo pos (starEach [a] X.env)).any (·.1)=false:=by rfl) :
  PI X (.Tuple es k p1) (.Call (.Name "enumerate" p) [a] [⟨some "start",.Constant (.int 1) j p2,kp⟩] pos) (zzl X.K 1 ta):=by
 intro pins s σ H R I h;refine wpAny_Call_Name_kw (wj I Y.g Y.m zoe ?_);refine PySem.W.callWith_of (P:=λ_=>True) (by rw[U];rfl) (λ_ _=>⟨Keeper.machine,.inr (.inl rfl),PySem.W.Looks.of_pure rfl⟩) (evalArgs_kw2 rfl (thn (b pos pins s σ H _ I h) λus f V=>?_) d);obtain⟨vs,H1,n,u,v⟩:=V;refine thn (zyu (nm:=some "start") (kpos:=kp) (yt (i:=1) (j:=j) (pos:=p2)) z10 pos pins f σ H1 (λws H2=>H2=H1/\ws=[.int 1]) n ⟨rfl,rfl⟩) λws s2 V=>?_;obtain⟨A,H2,S,w,x,y⟩:=V;refine⟨trivial,?_⟩;subst x y;obtain⟨l,xs,e,z,q⟩:=v;subst e;cases u with
 | cons r rr =>
   cases rr;cases r;cases w with
   | cons r' rr' =>
   obtain⟨t,rfl⟩:=r';obtain⟨its,B,pl,C⟩:=S.list z;refine zv4 (t:=t) pl.isList ?_;have Z:IsEnum (enHs s2.heap l) (enH s2.heap l).objs.size s2.heap.objs.size 1 .none:=ci _ rfl;have D:(enH s2.heap l).objs.size=s2.heap.objs.size+1:=ij ..;refine wpAny_pyIter_enum Z ?_;refine⟨(enH s2.heap l).objs.size,[(enH s2.heap l).objs.size,s2.heap.objs.size],_,_,H2,rfl,S.kept (t':=s2.toks) (λc o e=>ao _ (ao _ e)),zod l _ _ 1 (by rw[D];exact Nat.succ_ne_self _),⟨⟨.none,Z⟩,⟨_,ao _ (ci _ rfl),rfl,rfl⟩⟩,λc J=>?_,q⟩;have J:s2.heap.objs.size<=c:=by rw[D] at J;exact mem2 J
   exact S.fpOk J (S.hok.fresh J)
def nr:Nat->k9->k9
 | _,[]=>[]
 | c,d::r=>.tup [.int c,d]::nr (c+1) r
def zipD:k9->k9->k9
 | d::r,d'::r'=>.tup [d,d']::zipD r r'
 | _,_=>[]
theorem zof:∀(ds:k9) (c i:Nat),(nr c ds)[i]?=ds[i]?.map λd=>.tup [.int (c+i:Nat),d]
 | [],c,i=>by simp[nr]
 | d::r,c,0=>by simp[nr]
 | d::r,c,i+1=>by
   simp only[nr,af];rw[zof r (c+1) i];rw[show c+1+i=c+(i+1) by lia]
def zog:∀(ds:k9) (c:Nat),(nr c ds).length=ds.length
 | [],_=>rfl
 | d::r,c=>by simp[nr,zog r]
@[simp] noncomputable def iEn(c:Nat)(ds:k9):Option k9:=match ds with | [.lst ds]=>some (nr c ds) | _=>none
variable{H':Hp}
def zzn{W':Addr->Prop}{t:Addr}(r:Reps K H' (Ow G W') ds vs)(D:H' t=none):Rep K (upd H' t (.tup vs)) (Ow G W') (.tup ds) (.ref t):=by
 refine .tup (j0 ..) (r.mono (λa us e=>by rw[gg (m6 e D)];exact e) λa us o h=>⟨o,?_⟩);exact h.keep λo e=>by rw[gg (m6 e D)];exact e
def ztt(c:Nat)(ok:Ok X.K G H0 W env σ H)(h:LsOk X.K H (Ow G W) l vs)(r:Reps X.K H (Ow G W) ds vs):z2x X.K G (Ite X.K l c) W H (nr c ds) where
 go:=λW' H' i d st e=>by
  rw[zof] at e;cases e0:ds[i]? with
  | none=>rw[e0] at e;cases e
  | some d0 =>
    rw[e0] at e;cases e;obtain⟨v,D,I⟩:=(ok.reps st r).get e0;have h':=(ok.lsstep st h).sq;refine⟨⟨vs,v,h',D⟩,λx H'' ⟨t,us,hn,ex,eH,y,eu,hy⟩=>?_⟩;subst ex eH eu;have:=hy vs h';rw[D] at this;cases this;exact⟨oh hn,zzn (.cons (.int _) (.cons I .nil)) hn⟩
 stop:=λW' H' st=>⟨vs,(ok.lsstep st h).sq,by rw[zog,r.length]⟩
variable{tg:Expr}
def zqr(J:PI X tg e (zzl X.K c (tDA X.K G H0 F))):DJx X G H0 tg e (i3 (iEn c) F):=⟨J.imp λσ H R S=>by
 obtain⟨W,env,ds,env',ok,q,k⟩:=S;cases e1:F env with
 | none=>simp[e1] at q
 | some z =>
   obtain⟨as,D⟩:=z;cases e2:iEn c as with
   | none=>rw[i3,e1] at q;simp only[ac,e2] at q;cases q
   | some d' =>
     have q:some (d',D)=some (ds,env'):=by rw[i3,e1] at q;simp only[ac,e2] at q;exact q
     cases q;refine⟨W,env,as,_,ok,e1,λW1 vs H1 U I p1=>?_⟩;unfold iEn at e2;split at e2
     ·rename_i xs
      cases e2;obtain⟨v,rfl,V⟩:=qf p1;obtain⟨l,us,rfl,h,r⟩:=V.lst_;exact⟨l,us,rfl,h.sq,k W1 _ H1 U I (ztt c I h r)⟩
     ·cases e2⟩
def zzo(D:DAx X G H0 [a] F)(I:Bn X "enumerate":=by walk_at "b")(J:starEach [a] X.env=[(false,eval a X.env)]:=by rfl) :
  DJx X G H0 (.Tuple es k p1) (.Call (.Name "enumerate" p) [a] [] pos) (i3 (iEn 0) F):=zqr (zzm I D.out J)
def zv6(I:DAx X G H0 [a] F)(J:Bn X "enumerate":=by walk_at "b")(R:starEach [a] X.env=(false,eval a X.env)::starEach [] X.env:=by rfl)(D:(backTo pos (starEach [a] X.env)).any (·.1)=false:=by rfl) :
  DJx X G H0 (.Tuple es k p1) (.Call (.Name "enumerate" p) [a] [⟨some "start",.Constant (.int 1) j p2,kp⟩] pos) (i3 (iEn 1) F):=zqr (zv5 J I.out R D)
def zv7{env0:DE0}{z:Int}(h:fVar i env=some (.int z,env0)):env[i]?=some (some (.sh (.int z)))/\env0=env:=by
 unfold fVar at h;split at h
 ·rename_i d D
  cases h;exact⟨D,rfl⟩
 all_goals cases h
def z45{op:D->D->la}{o:Int->Int->Int}(V:∀I J d,op I J=some d->∃u v,I=.int u/\J=.int v/\d=.int (o u v)):∀Dn σ H,tDS X G H0 (sSet i (fBin op (fVar i) f)) Dn σ H->tAug i (tD X.K G H0 f) (ipI o) Dn σ H :=
 λDn σ H Y=>by
 obtain⟨W,env,fl,env',ok,q,k⟩:=Y;unfold sSet fBin at q;cases e0:fVar i env with
 | none=>rw[e0] at q;cases q
 | some r0 =>
   obtain⟨Z,env0⟩:=r0;rw[e0,ac] at q;cases e1:f env0 with
   | none=>rw[e1] at q;cases q
   | some R =>
     obtain⟨I,U⟩:=R;rw[e1,ac] at q;cases e2:op Z I with
     | none=>rw[e2] at q;cases q
     | some J =>
       rw[e2] at q;cases q;obtain⟨u,v,rfl,rfl,rfl⟩:=V _ _ _ e2;obtain⟨a,rfl⟩:=zv7 e0;obtain⟨y,b,c⟩:=ok.slot i _ a;refine⟨y,b,W,env0,_,_,ok,e1,λW1 v1 H1 e S R=>⟨u,v,Rep.int_ c,R.int_,k W1 _ H1 e (S.set (.int _))⟩⟩
def zms(I:Tos Nn X)(J:DEx X G H0 e f)(D:Nn[i]?=some x:=by rfl) :
  DSx X G H0 (.AugAssign (.Name x p') .Add e pos) (sSet i (fBin gz (fVar i) f)):=⟨(z1h (I.t D).nd (I.t D).n (I.t D).l J.out z1i (I.t D).f).imp (z45 λR S d h=>by
 cases R <;> try (cases h;done)
 all_goals cases S <;> first | (cases h;done) | exact⟨_,_,rfl,rfl,(bq h).symm⟩)⟩
def z5x(i:Nat)(op:D->D->la)(k:Int)(d v:D)(e:DE0):Option (Fl×DE0):=match e[i]? with
 | some (some (.ow ds))=>if k.toNat<ds.length then(op d v).map λr=>(.nx,e.set i (some (.ow (ds.set k.toNat r)))) else none
 | _=>none
def zzp(I:k9)(e:DE0)(i:Nat):Option (D×DE0):=match e[i]? with
 | some (some (.ow ds))=>if Few (ds.length+I.length) then some (.non,e.set i (some (.ow (ds++I)))) else none
 | _=>none
def zmt(i:Nat)(F:FA):FE:=λe=>match e[i]? with
 | some (some (.ow _))=>(F e).bind λr=>zzp r.1 r.2 i
 | _=>none
def ztu(h:DFx X G H0 a F)(an:Ats Nn Cn X)(V:Nn[i]?=some x:=by rfl)(D:attributeBase (.Name x p') "extend" X.env (eval (.Name x p') X.env)=eval (.Name x p') X.env:=by rfl)(J:((backTo pos (starEach [a] X.env)).all (λx=>!x.1) && (backToKw pos (keywordEach [] X.env)).all (λx=>x.1.isSome)
   && decide ([a].length+([]:List Keyword).length+(if ([]:List Keyword).isEmpty then 0 else 1)<30))=true:=by rfl)(I:(p1.endLine==pos.line)=true:=by rfl)(c:starEach [a] X.env=(false,eval a X.env)::starEach [] X.env:=by rfl) :
  DEx X G H0 (.Call (.Attribute (.Name x p') "extend" p1) [a] [] pos) (zmt i F):=⟨(zvj fm PySem.F.slot_list_extend PySem.F.type_list_extend zs5 ((an.a V).pe) (mn h.out pq c) D J I c rfl).imp λσ H Q j=>by
 obtain⟨W,env,d,env',ok,q,k⟩:=j;unfold zmt at q;split at q;case h_2=>cases q
 rename_i m Y;obtain⟨v,Z,l,o,rfl,p,b,_⟩:=ok.slot i _ Y;cases e1:F env with
 | none=>rw[e1] at q;cases q
 | some r =>
   obtain⟨s,R⟩:=r;rw[e1,ac] at q;unfold zzp at q;split at q;case h_2=>cases q
   rename_i ds e;split at q;case isFalse=>cases q
   rename_i S;cases q;refine⟨_,Z,.inl ⟨rfl,_,.inl (.inl b)⟩,W,env,s,R,ok,e1,λW1 n us H1 t u U C w f=>?_⟩;obtain⟨E,g,l',vs,y,K,z,r⟩:=U.slot i _ e;rw[Z] at g;cases g;cases y;obtain⟨A,B⟩:=U.turn e Z (r.append f);refine⟨l,n,vs,us,rfl,rfl,z,w,?_,k _ _ _ (t.trans B) A .non⟩;rw[<-r.length,<-f.length];exact cx S (by rw[sizeLine_eq];decide)⟩
def yc:D->D->la
 | .tup ds,.tup es=>if ds≠[]/\es≠[]/\ds.length+es.length<=64 then some (.tup (ds++es)) else none
 | _,_=>none
def zzq:OpD X G H0 (z13 X.K) yc:=λW env σ H x y V Y d Q ok Z a e k=>by
 cases V with
 | tup ds =>
   cases Y with
   | tup es =>
     unfold yc at e;dsimp only at e;split at e;case isFalse=>cases e
     rename_i R;cases e;obtain⟨t,vs,rfl,c,D⟩:=Z.tup_;obtain⟨b,ws,rfl,f,I⟩:=a.tup_;have S:=D.length;have U:=I.length;refine⟨t,b,vs,ws,rfl,rfl,SqT.of c,SqT.of f,λz=>R.1 (by subst z;exact kg.mp S),?_,λz=>absurd (by subst z;exact kg.mp U) R.2.1,λ_ l J=>?_⟩
     ·rw[<-S,<-U];exact le64 R.2.2
     ·exact k _ _ (Step.same (oh J)) (ok.same (oh J)) (.tup j0 ((ok.reps (Step.same (oh J)) D).append (ok.reps (Step.same (oh J)) I)))
   | _=>cases e
 | _=>cases e
def zzr(D:DEx X G H0 a f)(I:DEx X G H0 b g):DEx X G H0 (.BinOp a .Add b pos) (fBin yc f g):=vb zyy zzq D I
def zzs:D->Bool | .tup _=>false | .lst _=>false | .dct _ _=>false | _=>true
def Rep.atom{I:k4}{O':Addr->Prop}{d:D}(r:Rep K H O d v)(h:zzs d=true):Rep I H' O' d v:=by
 cases r with
 | non=>exact .non
 | bl b=>exact .bl b
 | int i=>exact .int i
 | str s=>exact .str s
 | tup _ _=>cases h
 | lst _ _ _=>cases h
 | klst _ _=>cases h
 | dct _ _=>cases h
 | exc a=>exact .exc a
structure z46 (K:k4) (G:Gd) (J:It) (W:Addr->Prop) (H:Hp) (ds:k9):Prop where
 go:∀H' (i:Nat) d,Same H H'->ds[i]?=some d->J.go i H'/\∀x H'',J.yld i H' x H''->H''=H'/\Rep K H' (Ow G W) d x
 stop:∀H',Same H H'->J.stop ds.length H'
def tDC(K:k4)(G:Gd)(H0:Hp)(f:FI):TI:=λσ H R=>DP K G H0 f (λW env ds env' =>
 ∀W' J H',Step W H W' H'->Ok K G H0 W' env' σ H'->z46 K G J W' H' ds->R J H') σ H
structure DCx (X:Cx) (G:Gd) (H0:Hp) (tg:Expr) (e:Expr) (f:FI):Prop where
 out:PI X tg e (tDC X.K G H0 f)
def fiV(i:Nat):FI:=λe=>match e[i]? with
 | some (some (.ow ds))=>some (ds,e)
 | some (some (.sh (.lst ds)))=>some (ds,e)
 | _=>none
def zxz(an:Ats Nn Cn X)(I:Nn[i]?=some x:=by rfl):DCx X G H0 tg (.Name x p1) (fiV i):=⟨(zsr ((an.a I).pe)).imp λσ H R Z=>by
 obtain⟨W,env,ds,env',ok,q,k⟩:=Z;unfold fiV at q;split at q
 ·rename_i ds' J
  cases q;obtain⟨v,S,l,vs,rfl,c,U,r⟩:=ok.slot i _ J;refine⟨_,S,l,rfl,⟨vs,.inl (.inl U)⟩,k W _ H Step.refl ok ⟨λH' j d sm e=>?_,λH' sm=>⟨vs,.inl (.inl (sm _ _ U)),by rw[r.length];exact bw _⟩⟩⟩;obtain⟨w,V,b⟩:=(ok.reps (Step.same sm) r).get e;have D:SqL X.K H' l vs:=.inl (.inl (sm _ _ U));exact⟨⟨vs,w,D,V⟩,λy H'' ⟨e3,z⟩=>⟨e3,by have:=z vs D;rw[V] at this;cases this;exact b⟩⟩
 ·rename_i ds' J
  cases q;obtain⟨v,S,r⟩:=ok.slot i _ J;obtain⟨l,vs,rfl,h,r⟩:=Rep.lst_ r;have Y:=zn9 ok h r;exact⟨_,S,l,rfl,⟨vs,h.sq⟩,k W _ H Step.refl ok ⟨λH' j d sm e=>Y.go W H' j d (Step.same sm) e,λH' sm=>Y.stop W H' (Step.same sm)⟩⟩
 ·cases q⟩
theorem zx0{te:FE}:∀σ H Q,tDF X.K G H0 (gv fi ix tt te) σ H Q->wg (tDC X.K G H0 fi) ix (tDxT X.K tt) (tDx X.K te) σ H Q:=λσ H Q u=>by
 obtain⟨W,env,d,env',ok,q,k⟩:=u;cases e1:fi env with
 | none=>simp[gv,e1] at q
 | some z =>
   obtain⟨ds,V⟩:=z;by_cases c:Few ds.length
   ·simp only[gv,e1,ac,if_pos c] at q
    cases e2:mi tt te (ix.map λj=>capt (V.getD j none)) ds with
    | none=>rw[e2] at q;cases q
    | some outs =>
      rw[e2] at q;cases q;refine⟨W,env,ds,_,ok,e1,λW1 J H1 A f s=>?_⟩;refine⟨λi m H' ys=>∃rest D,m=ds.length-i/\i<=ds.length/\Same H1 H'/\Reps X.K H' (Ow G W1) D ys/\D.length<=i/\mi tt te (ix.map λj=>capt (env'.getD j none)) (ds.drop i)=some rest/\d=D++rest,⟨ds.length,d,[],rfl,fu _,Same.refl _,.nil,bw _,e2,rfl⟩,?_⟩;rintro i m H' ys ⟨rest,D,rfl,hi,sm,rp,hd,ec,rfl⟩;have st:Step W1 H1 W1 H':=Step.same sm;have I:Ok X.K G H0 W1 env' σ H':=f.same sm;by_cases S:i<ds.length
      ·have B:ds.drop i=ds[i]::ds.drop (i+1):=eg S
       rw[B] at ec;obtain⟨C,E⟩:=s.go H' i ds[i] sm (by simp[S]);refine .inr ⟨C,λx g y=>?_⟩;obtain⟨rfl,F⟩:=E x g y;have n:=zmm (ix:=ix) I F;unfold mi at ec;cases e3:tt (some (.sh ds[i])::ix.map λj=>capt (env'.getD j none)) with
       | none=>rw[e3] at ec;cases ec
       | some bb =>
         obtain⟨b,R⟩:=bb;rw[e3,ac] at ec;refine⟨_,_,NoW,_,b,R,n,e3,λL H2 s2 U=>?_⟩;have p:Same H1 H2:=sm.trans U.stay;have r:Reps X.K H2 (Ow G W1) D ys:=I.reps (Step.same U.stay) rp;cases b with
         | false =>
           exact⟨ds.length-(i+1),by lia,rest,D,rfl,S,p,r,by lia,ec,rfl⟩
         | true =>
           cases e4:te R with
           | none=>simp only[e4] at ec;cases ec
           | some vv =>
             obtain⟨t,Y⟩:=vv;simp only[e4,ac] at ec;cases e5:mi tt te (ix.map λj=>capt (env'.getD j none)) (ds.drop (i+1)) with
             | none=>rw[e5] at ec;cases ec
             | some rest' =>
               rw[e5] at ec;cases ec;refine⟨_,_,L,R,t,Y,U,e4,λW3 v H3 s3 Z r3=>⟨?_,ds.length-(i+1),by lia,rest',D++[t],rfl,S,sm.trans Z.stay,?_,by rw[am,i8];lia,by first | exact e5 | rfl,by simp⟩⟩
               ·have:ys.length<2 ^ 20:=by rw[<-rp.length];have:ds.length<=2 ^ 20:=c;lia
                exact az this (by rw[sizeLine_eq];decide)
               ·refine(I.reps (Step.same Z.stay) rp).append (.cons (r3.mono (λ_ _ h=>h) λa us o h=>⟨?_,h⟩) .nil)
                rcases o.1 with z | z
                ·exact z
                ·exact⟨I.good a (I.stay.free z),λw=>by obtain⟨_,us,q⟩:=I.wl a w;rw[z] at q;cases q⟩
      ·have e:i=ds.length:=by lia
       subst e;rw[i9] at ec;cases ec;refine .inl ⟨s.stop H' sm,by rw[<-rp.length];exact cx hd (cx c (by rw[sizeLine_eq];decide)),λl M=>?_⟩;obtain⟨h1,h2,N,O,P,T⟩:=ue I rp M;rw[dc] at k;exact k W1 l _ _ ((A.trans st).trans h1) h2 N O P T
   ·simp only[gv,e1,ac,if_neg c] at q;cases q
section
variable {X:Cx} {G:Gd} {H0:Hp} {a b c e:Expr} {es rest:ka} {f g:FE} {F:FA} {u:FS} {pos p' p1 pos1:Pos} {x:Str} {i:Nat}
def zv8{Nn Cn:g9}{ix:ic}{sc:Scope}{px:Pos}{fi:FI}{te:FE}(an:Ats Nn Cn X)(hi:DCx X G H0 (.Name x px) a fi)(I:∀cl C s₂ H₂ fp G H0,Ats (x::(subN Nn ix)) (subN Nn ix) (ip X x (subN Nn ix) sc cl C s₂ H₂ fp)->DEx (ip X x (subN Nn ix) sc cl C s₂ H₂ fp) G H0 e te)(D:pk Nn Cn ix x sc=true:=by decide +kernel)(J:X.calm=true:=by rfl)(R:∀v,foldedSetIterable a X.env v=pure v:=by intro _;rfl) :
  DFx X G H0 (.ListComp e [⟨.Name x px,a,[],0⟩] sc pos) (gv fi ix fYes te) :=
 ⟨(zpc (vh an D) (λ_ _ _ _ _ _ _ _ _=>J) hi.out (λcl C s₂ H₂ fp _=>ye (X:=X) rfl) (λcl C s₂ H₂ fp _=>el_x (X:=X) rfl (λG H0=>I cl C s₂ H₂ fp G H0 (sv D))) R).imp zx0⟩
def zv9{Nn Cn:g9}{y:Str}{ix:ic}{sc:Scope}{px py spos:Pos}{fi:FI}{te:FE}(an:Ats Nn Cn X)(R:Tos Nn X)(hi:DCx X G H0 (.Name x px) a fi)(S:∀cl C s₂ H₂ fp G H0,Ats (x::(subN Nn ix)) (subN Nn ix) (ip X x (subN Nn ix) sc cl C s₂ H₂ fp)->DEx (ip X x (subN Nn ix) sc cl C s₂ H₂ fp) G H0 e te)(J:pk Nn Cn ix x sc=true:=by decide +kernel)(V:X.calm=true:=by rfl)(I:Nn[i]?=some y:=by rfl)(U:swapsWith (.ListComp e [⟨.Name x px,a,[],0⟩] sc pos) (some (.Name y py)) spos.line X.env=pure true:=by rfl)(Y:∀v,foldedSetIterable a X.env v=pure v:=by intro _;rfl) :
  PS X (.Assign [.Name y py] (.ListComp e [⟨.Name x px,a,[],0⟩] sc pos) spos) (tAsg (tDF X.K G H0 (gv fi ix fYes te)) (ml i)) :=
 (zmh (vh an J) (λ_ _ _ _ _ _ _ _ _=>V) (R.t I).nd (R.t I).n (R.t I).l hi.out (λcl C s₂ H₂ fp _=>ye (X:=X) rfl) (λcl C s₂ H₂ fp _=>el_x (X:=X) rfl (λG H0=>S cl C s₂ H₂ fp G H0 (sv J))) U (R.t I).f Y).imp λD σ H h=>zx0 σ H _ h
def z5y(i:Nat):FE:=λe=>match e[i]? with
 | some (some (.ow ds))=>(ints? ds).map λD=>(.int D.sum,e)
 | some (some (.sh (.lst ds)))=>(ints? ds).map λD=>(.int D.sum,e)
 | _=>none
def tDL(K:k4)(G:Gd)(H0:Hp)(f:FA):TA:=λσ H Q=>DP K G H0 f (λW env ds env' =>
 ∀W' vs H',Step W H W' H'->Ok K G H0 W' env' σ H'->Reps K H' G ds vs->Q vs H') σ H
structure DLx (X:Cx) (G:Gd) (H0:Hp) (es:ka) (f:FA):Prop where
 out:PA X es (tDL X.K G H0 f)
def z47(h:DAx X G H0 es F):DLx X G H0 es F:=⟨h.out.imp λσ H Q ⟨W,env,ds,env',ok,q,k⟩ =>
 ⟨W,env,ds,env',ok,q,λW' vs H' st D r=>k W' vs H' st D (r.mono (λ_ _ h=>h) λa us o h=>⟨o.1,h⟩)⟩⟩
def zwa(i:Nat)(F:FA):FA:=λe=>match e[i]? with
 | some (some (.ow _))=>(F e).bind λq=>match q.2[i]? with | some (some (.ow ds))=>some (.lst ds::q.1,q.2) | _=>none
 | _=>none
def zzt{Nn Cn:g9}{i:Nat}(Z:DLx X G H0 es F)(an:Ats Nn Cn X)(I:Nn[i]?=some x:=by rfl)(b:starEach (.Name x p1::es) X.env=(false,eval (.Name x p1) X.env)::starEach es X.env:=by rfl):DLx X G H0 (.Name x p1::es) (zwa i F) :=
 ⟨(mn ((an.a I).pe) Z.out b).imp λσ H Q c=>by
  obtain⟨W,env,ds,env',ok,q,k⟩:=c;unfold zwa at q;split at q;case h_2=>cases q
  rename_i d J;obtain⟨v,U,l,e,rfl,f,g,_⟩:=ok.slot i _ J;cases e1:F env with
  | none=>rw[e1] at q;cases q
  | some r =>
    obtain⟨R,V⟩:=r;rw[e1,ac] at q;split at q;case h_2=>cases q
    rename_i j S;cases q;refine⟨_,U,W,env,R,_,ok,e1,λW1 vs H1 m D n=>?_⟩;obtain⟨y,Y,l',p,s,t,u,w⟩:=D.slot i _ S;rw[U] at Y;cases Y;cases s;exact k W1 _ H1 m D (.cons (.lst (D.good l (D.wl l t).1) (.inl u) (w.mono (λ_ _ h=>h) λa us o h=>⟨o.1,h⟩)) n)⟩
def yl(m:k9->la)(F:FA):FE:=λe=>(F e).bind λr=>(m r.1).bind λd=>if zzs d=true then some (d,r.2) else none
variable {CX:CXT} {k:Nat} {fa:Addr} {fd:FuncData} {ps:g9} {m:k9->la} {E:XK}
def z24:∀σ H Q,tD X.K G H0 (yl m F) σ H Q->zvg (dSp X.K m) [] E (tDL X.K G H0 F) σ H Q:=λσ H Q R=>by
 obtain⟨W,env,d,env',ok,q,k⟩:=R;unfold yl at q;cases e1:F env with
 | none=>rw[e1] at q;cases q
 | some r =>
   obtain⟨ds,J⟩:=r;rw[e1,ac] at q;cases e2:m ds with
   | none=>rw[e2] at q;cases q
   | some d' =>
     rw[e2,ac] at q;split at q;case isFalse=>cases q
     rename_i D;cases q;refine⟨W,env,ds,_,ok,e1,λW1 vs H1 S I p1=>?_⟩;show dSp X.K m (vs++[]) H1 Q E;rw[dc];exact⟨G,ds,_,p1,e2,λv H2 sm U=>k W1 v H2 (S.trans (Step.same sm)) (I.same sm) (U.atom D)⟩
def zwb{jr:Nat}(c:Cal X.prog X.w X.K X.mg X.base CX0 x k (dSp X.K m))(R:Room jr X.A)(S:DLx X G H0 (e::es) F)(D:k<=jr:=by decide)(U:Gl X x:=by walk_at "g")(V:starEach (e::es) X.env=(false,eval e X.env)::starEach es X.env:=by rfl)(I:(backTo pos (starEach es X.env)).any (·.1)=false:=by rfl) :
  DEx X G H0 (.Call (.Name x p') (e::es) [] pos) (yl m F):=let ⟨_,_,_,Y,Z,a,b,J⟩:=c;⟨(zo9 Y (R.mono D) U Z a b .nil zy4 S.out J V I).imp z24⟩
end
section
variable {X:Cx} {G:Gd} {H0:Hp} {a b c e:Expr} {es rest:ka} {f g:FE} {F:FA} {pos p' p1 pos1:Pos} {x:Str} {i:Nat}
def fSlT(f:FE)(l h:FO):FE:=λe=>(f e).bind λr=>(l r.2).bind λD=>(h D.2).bind λI=>match r.1 with
 | .tup ds=>if HT.sIx ds.length 0 D.1=0/\HT.sIx ds.length ds.length I.1=ds.length then none else some (.tup (cutD ds D.1 I.1),I.2)
 | _=>none
def z25{lo hi:Option Expr}{fl U:FO}{sp:Pos}(c:DEx X G H0 a f)(e:DOx X G H0 lo fl)(g:DOx X G H0 hi U) :
  DEx X G H0 (.Subscript a (.Slice lo hi none sp) pos) (fSlT f fl U):=⟨(zqi z12 c.out e.out g.out).imp λσ H Q i=>by
 obtain⟨W,env,d,env',ok,q,k⟩:=i;unfold fSlT at q;cases e1:f env with
 | none=>rw[e1] at q;cases q
 | some r =>
   obtain⟨u,D⟩:=r;rw[e1,ac] at q;dsimp only at q;cases e2:fl D with
   | none=>rw[e2] at q;cases q
   | some r2 =>
     obtain⟨j,I⟩:=r2;rw[e2,ac] at q;dsimp only at q;cases e3:U I with
     | none=>rw[e3] at q;cases q
     | some r3 =>
       obtain⟨m,Z⟩:=r3;rw[e3,ac] at q;dsimp only at q;split at q;case h_2=>cases q
       rename_i ds;split at q;case isTrue=>cases q
       rename_i n;cases q;refine⟨W,env,_,_,ok,e1,λW1 v1 H1 o J p1=>⟨W1,D,_,_,J,e2,λs H2 s2 V=>⟨s,I,_,_,V,e3,λt v b R=>?_⟩⟩⟩;obtain⟨l,us,rfl,h,r⟩:=(J.rep (s2.trans b) p1).tup_;have S:=r.length;refine⟨l,us,rfl,SqT.of h,by rw[<-S];exact n,λp Y=>?_⟩;exact k t _ _ (((o.trans s2).trans b).trans (Step.same (oh Y))) (R.same (oh Y)) (.tup j0 (R.reps (Step.same (oh Y)) (r.cut j m)))⟩
end
variable{xs:g9}
def gl_p(h:sc.names.lookup x=some .globalImplicit):Gl (zy5 X xs N' sc cl C s H fp) x:=zdr h
section
variable (P:Program) (w:World)
end
section
variable {X:Cx}
variable {a b:Expr} {ta tb:TE} {pos:Pos}
variable {tA tB':TT} {rest:ka}
end
section
variable {X:Cx} {st:Stmt} {rest:List Stmt} {t u:TS} {e:Expr} {te:TE} {pos:Pos}
end
section
variable {X:Cx} {CX:CXT} {k:Nat} {f C:Addr} {fd:FuncData} {ps ks:g9} {sp:Sp} {E:XK} {x m:Str} {p pos apos kpos:Pos} {e o:Expr} {es:ka} {kws:List Keyword} {te ta:TE} {t tk:TA} {nm:kb}
variable {g:h7->h7->h7} {gV:k8->k8->k8}
end
section
variable {κ:Type} [DecidableEq κ]
end
structure M1 (X:Cx) (o:Expr) (m:Str) (apos:Pos) (e:Expr) (cpos:Pos):Prop where
 base:attributeBase o m X.env (eval o X.env)=eval o X.env
 few:((backTo cpos (starEach [e] X.env)).all (λx=>!x.1) && (backToKw cpos (keywordEach [] X.env)).all (λx=>x.1.isSome)
  && decide (([e]:ka).length+([]:List Keyword).length+(if ([]:List Keyword).isEmpty then 0 else 1)<30))=true
 line:(apos.endLine==cpos.line)=true
 trees:backTo cpos (starEach [e] X.env)=[(false,eval e X.env)]
structure M2 (X:Cx) (o:Expr) (m:Str) (apos:Pos) (e f:Expr) (cpos:Pos):Prop where
 base:attributeBase o m X.env (eval o X.env)=eval o X.env
 few:((backTo cpos (starEach [e,f] X.env)).all (λx=>!x.1) && (backToKw cpos (keywordEach [] X.env)).all (λx=>x.1.isSome)
  && decide (([e,f]:ka).length+([]:List Keyword).length+(if ([]:List Keyword).isEmpty then 0 else 1)<30))=true
 line:(apos.endLine==cpos.line)=true
 trees:backTo cpos (starEach [e,f] X.env)=[(false,eval e X.env),(false,eval f X.env)]
end L2
namespace Att
open PySem PySem.W PySem.Calls PyProof.Rows
end Att
namespace L2
open PySem PySem.Spec PyProof.Rows
section
variable {κ:Type} [DecidableEq κ]
end
section
variable {X:Cx} {G:Gd} {H0:Hp} {a b c e:Expr} {es rest:ka} {f g:FE} {F:FA} {pos p' p1 pos1:Pos} {x:Str} {i:Nat}
end
section
variable {X:Cx} {G:Gd} {H0:Hp} {a b c e:Expr} {es rest:ka} {f g:FE} {F:FA} {pos p' p1 pos1:Pos} {x:Str} {i:Nat}
end
section
variable {X:Cx} {G:Gd} {H0:Hp} {a b c e:Expr} {es rest:ka} {f g:FE} {F:FA} {pos p' p1 pos1:Pos} {x:Str} {i:Nat}
end
end L2
namespace L2
open PySem
theorem zqs{i:Nat}{g:FS}(P:Nat->DE0->Prop):∀(ds:k9) (e:DE0) (n:Nat),P n e->(∀(k:Nat) (d:D) (e:DE0),ds[k]?=some d->P (n+k) e->∃e',g (e.set i (some (.sh d)))=some (.nx,e')/\P (n+k+1) e') ->
  ∃e',forL i g ds e=some (.nx,e')/\P (n+ds.length) e'
 | [],e,n,h,_=>⟨e,rfl,h⟩
 | d::r,e,n,h,hs=>by
   obtain⟨I,h1,p1⟩:=hs 0 d e rfl h;obtain⟨J,h2,p2⟩:=zqs P r I (n+1) p1 λk d' e' R S=>by
    have:=hs (k+1) d' e' (by simpa using R) (by rw[<-Nat.add_assoc,Nat.add_right_comm];exact S);rw[show n+(k+1)+1=n+1+k+1 by lia] at this;exact this
   refine⟨J,?_,by rw[ak,show n+(r.length+1)=n+1+r.length by lia];exact p2⟩;simp[forL,h1,h2]
variable{i:Int}{g:FS}
def sx{i:Nat}(P:Nat->DE0->Prop)(ds:k9)(e:DE0)(h:P 0 e)(I:∀(k:Nat) (d:D) (e:DE0),ds[k]?=some d->P k e->∃e',g (e.set i (some (.sh d)))=some (.nx,e')/\P (k+1) e') :
  ∃e',forL i g ds e=some (.nx,e')/\P ds.length e':=by
 obtain⟨e',h1,h2⟩:=zqs P ds e 0 h λk d e J R=>by
  obtain⟨e',S,U⟩:=I k d e J (by simpa using R);exact⟨e',S,by simpa using U⟩
 exact⟨e',h1,by simpa using h2⟩
variable{lo:Int}{n:Nat}{d:D}
def ul{k:Nat}(h:(rngD lo n)[k]?=some d):d=.int (lo+k)/\k<n:=by
 unfold rngD at h;rw[b7] at h;by_cases D:k<n
 ·rw[List.getElem?_range D] at h
  exact⟨(bq h).symm,D⟩
 ·rw[cr (by simpa using D)] at h;cases h
def uq:(rngD lo n).length=n:=by simp[rngD]
theorem qt(h:-1000000000000<i/\i<1000000000000):kq i:=⟨by lia,by lia⟩
variable{α:Type}
theorem z26{xs:List α}(I:0<=i)(h1:i<xs.length):∃x,atI xs i=some x/\xs[i.toNat]?=some x:=by
 have D:i.toNat<xs.length:=by lia
 exact⟨xs[i.toNat],by unfold atI ixN;rw[if_pos I,if_pos h1];simp[D],by simp[D]⟩
def je{ar:Nat}{ds:k9}{e':DE0}(h:ds.length=ar)(I:g (iz n ds)=some (.rt d,e')):runD n ar g ds=some d:=by
 unfold runD;rw[if_pos h,I]
def few(h:n<=1000000):Few n:=cx h (by decide)
theorem n4(n:Nat)(D:n<=1000000):iR1 [.int n]=some (rngD 0 n):=by
 unfold iR1;dsimp only;rw[if_pos (show Bnd _ _ _ from⟨by lia,by lia⟩),gq]
variable{j:Int}
def ztw(h:kq j):dMul (.int i) (.int j)=some (.int (i*j)):=by
 unfold dMul;dsimp only;rw[if_pos (.inr h)]
def rq(h:kq i):dMul (.int i) (.int j)=some (.int (i*j)):=by
 unfold dMul;dsimp only;rw[if_pos (.inl h)]
def zzu(h:0<j):dMod (.int i) (.int j)=some (.int (i % j)):=by
 unfold dMod;dsimp only;rw[if_pos h]
theorem zzv(h:0<j)(h2:j<1073741824):dDiv (.int i) (.int j)=some (.int (i / j)):=by
 unfold dDiv;dsimp only;rw[if_pos (show Bnd _ _ _ from⟨by lia,h2⟩)]
def md{α:Type}{te:FE}{base:DE0}(φ ψ:α->D):∀(xs:List α),(∀x∈xs,∃e',te (some (.sh (φ x))::base)=some (ψ x,e'))->mi fYes te base (xs.map φ)=some (xs.map ψ)
 | [],_=>rfl
 | x::xs,h=>by
   obtain⟨e',I⟩:=h x bn;have J:=md φ ψ xs λy R=>h y (ax _ R);simp[mi,I,J]
def zko{α:Type}{tt:FT}{te:FE}{base:DE0}(φ ψ:α->D)(p:α->Bool):∀(xs:List α),(∀x∈xs,∃I,tt (some (.sh (φ x))::base)=some (p x,I)/\(p x=true->∃e',te I=some (ψ x,e')))->mi tt te base (xs.map φ)=some ((xs.filter p).map ψ)
 | [],_=>rfl
 | x::xs,h=>by
   obtain⟨I,h1,h2⟩:=h x bn;have J:=zko φ ψ p xs λy R=>h y (ax _ R);cases hp:p x with
   | false =>
     simp[mi,h1,J,List.filter_cons,hp]
   | true =>
     obtain⟨e',S⟩:=h2 hp;simp[mi,h1,S,J,List.filter_cons,hp]
def zl3{α:Type}{te:FA}{base:DE0}(φ:α->D)(ψ:α->k9):∀(xs:List α),(∀x∈xs,∃e',te (some (.sh (φ x))::base)=some (ψ x,e'))->yn te base (xs.map φ)=some (xs.map ψ)
 | [],_=>rfl
 | x::xs,h=>by
   obtain⟨e',I⟩:=h x bn;have J:=zl3 φ ψ xs λy R=>h y (ax _ R);simp[yn,I,J]
def z48(a b c:D):atI [a,b,c] 0=some a:=rfl
def u4(a b c:D):atI [a,b,c] 1=some b:=rfl
def t5(a b c:D):atI [a,b,c] 2=some c:=rfl
def z49(a b c d:D):atI [a,b,c,d] 0=some a:=rfl
def z5a(a b c d:D):atI [a,b,c,d] 1=some b:=rfl
def z5b(a b c d:D):atI [a,b,c,d] 2=some c:=rfl
def z5c(a b c d:D):atI [a,b,c,d] 3=some d:=rfl
def zoj{α:Type}{i:Nat}{g:FS}(φ:α->D)(P:List α->DE0->Prop)(all:List α)(J:∀(p:List α) (x:α) (q:List α) (e:DE0),all=p++x::q->P p e->∃e',g (e.set i (some (.sh (φ x))))=some (.nx,e')/\P (p++[x]) e') :
  ∀(xs I:List α) (e:DE0),all=I++xs->P I e->∃e',forL i g (xs.map φ) e=some (.nx,e')/\P all e'
 | [],I,e,h,hp=>⟨e,rfl,by rw[h,dc];exact hp⟩
 | x::xs,I,e,h,hp=>by
   obtain⟨R,h1,p1⟩:=J I x xs e h hp;obtain⟨S,h2,p2⟩:=zoj φ P all J xs (I++[x]) R (by rw[h];simp) p1;exact⟨S,by simp[forL,h1,h2],p2⟩
def uk{i:Nat}(φ:α->D)(P:List α->DE0->Prop)(all:List α)(e:DE0)(I:P [] e)(J:∀(p:List α) (x:α) (q:List α) (e:DE0),all=p++x::q->P p e->∃e',g (e.set i (some (.sh (φ x))))=some (.nx,e')/\P (p++[x]) e') :
  ∃e',forL i g (all.map φ) e=some (.nx,e')/\P all e':=zoj φ P all J all [] e rfl I
end L2
namespace L2
open PySem PySem.Spec PyProof.Rows PySem.W
abbrev Ag:=AK×ll
abbrev lx:=List Ag
abbrev l0:=Option (D×List Ag)
def slA(x:Ag)(j:Nat):Sl:=.ag x.1 (some j) x.2
def getA(env:DE0):ic->Option lx
 | []=>some []
 | i::r=>match env[i]? with | some (some (.ag k _ ps))=>(getA env r).map λt=>(k,ps)::t | _=>none
def putA(env:DE0):ic->lx->DE0
 | i::r,x::t=>match env[i]? with | some (some (.ag _ l _))=>putA (env.set i (some (.ag x.1 l x.2))) r t | _=>putA env r t
 | _,_=>env
def m7(ags:lx):DE0:=ags.zipIdx.map λp=>some (slA p.1 p.2)
variable{env:DE0}
def vg:∀ {is:ic} {ags:lx} {j i:Nat},getA env is=some ags->is[j]?=some i->∃x l,ags[j]?=some x/\env[i]?=some (some (.ag x.1 l x.2))
 | a::r,ags,j,i,h,e=>by
   unfold getA at h;split at h
   ·rename_i k l ps q
    cases h2:getA env r with
    | none=>rw[h2] at h;cases h
    | some t =>
      rw[h2] at h;cases h;cases j with
      | zero=>simp at e;subst e;exact⟨(k,ps),l,rfl,q⟩
      | succ j=>obtain⟨x,l',D,I⟩:=vg h2 (by simpa using e);exact⟨x,l',by simpa using D,I⟩
   ·cases h
def xg:∀ {is:ic} {ags:lx},getA env is=some ags->ags.length=is.length
 | [],_,h=>by cases h;rfl
 | a::r,ags,h=>by
   unfold getA at h;split at h
   ·cases h2:getA env r with
    | none=>rw[h2] at h;cases h
    | some t=>rw[h2] at h;cases h;rw[ak,ak,xg h2]
   ·cases h
def zmu:∀ {is:ic} {ags:lx} {env:DE0},(putA env is ags).length=env.length
 | [],_,_=>by simp[putA]
 | a::r,[],_=>by simp[putA]
 | a::r,x::t,env=>by
   unfold putA;split
   ·rw[zmu,dn]
   ·rw[zmu]
def zmv:∀ {is:ic} {ags:lx} {env:DE0} {i:Nat},i∉is->(putA env is ags)[i]?=env[i]?
 | [],_,_,_,_=>by simp[putA]
 | a::r,[],_,_,_=>by simp[putA]
 | a::r,x::t,env,i,h=>by
   have h1:a≠i:=λz=>h (by simp[z]);have h2:i∉r:=λz=>h (by simp[z]);unfold putA;split
   ·rw[zmv h2,db h1]
   ·rw[zmv h2]
def zpk:∀ {is:ic} {ags:lx} {env:DE0} {j i:Nat} {x:Ag} {k:AK} {l:Option Nat} {ps:ll},is.Nodup->is[j]?=some i->ags[j]?=some x->env[i]?=some (some (.ag k l ps))->(putA env is ags)[i]?=some (some (.ag x.1 l x.2))
 | a::r,y::t,env,j,i,x,k,l,ps,nd,e1,e2,e3=>by
   cases j with
   | zero =>
     simp at e1 e2;subst e1;subst e2;unfold putA;rw[e3];rw[zmv (bx.mp nd).1,d5 (aj.mp e3).1]
   | succ j =>
     have hi:a≠i:=λz=>by subst z;exact(bx.mp nd).1 (bi (by simpa using e1))
     unfold putA;split
     ·exact zpk (bx.mp nd).2 (by simpa using e1) (by simpa using e2) (by rw[db hi];exact e3)
     ·exact zpk (bx.mp nd).2 (by simpa using e1) (by simpa using e2) e3
variable{ags:lx}{j:Nat}{s:Stmt}
def zkp{s:Sl}(h:(m7 ags)[j]?=some (some s)):∃x,ags[j]?=some x/\s=slA x j:=by
 unfold m7 at h;rw[b7,lz] at h;cases e:ags[j]? with
 | none=>rw[e] at h;cases h
 | some x=>rw[e] at h;cases h;exact⟨x,rfl,by simp⟩
def zok:(m7 ags).length=ags.length:=by simp[m7]
def mask(H:Hp)(W:Addr->Prop):Hp:=λa=>open Classical in if W a then none else H a
variable{a:Addr}{W:Addr->Prop}{H:Hp}
def zmw(h:W a):mask H W a=none:=if_pos h
def zqt(h:¬W a):mask H W a=H a:=if_neg h
variable{o:Expr}
def zol{o:HO}(h:mask H W a=some o):¬W a/\H a=some o:=by
 by_cases z:W a
 ·rw[zmw z] at h;cases h
 ·rw[zqt z] at h;exact⟨z,h⟩
def zom(h:mask H W a=none):W a\/H a=none:=by
 by_cases z:W a
 ·exact .inl z
 ·rw[zqt z] at h;exact .inr h
def Lent(H:Hp)(env:DE0)(σ:St)(is:ic):Addr->Prop:=λa=>∃i s v,i∈is/\env[i]?=some (some s)/\σ[i]?=some (some v)/\Owns H s v a
variable{is:ic}{K:k4}{G:Gd}{H0:Hp}{σ:St}
def Ok.lentW(ok:Ok K G H0 W env σ H)(h:Lent H env σ is a):W a:=by
 obtain⟨i,s,v,_,e,I,o⟩:=h;obtain⟨J,D,q⟩:=ok.slot i s e;rw[I] at D;cases D;exact q.owns o
def rh(G:Gd)(W L:Addr->Prop)(r:Nat->ia):Gd:=⟨λa=>G a/\(W a->L a),r⟩
def Ok.lend(ok:Ok K G H0 W env σ H)(nd:is.Nodup)(Y:getA env is=some ags) :
  ∃(r:Nat->ia) (us:k8),us.length=is.length/\(∀(j i:Nat),is[j]?=some i->∃u,us[j]?=some u/\σ[i]?=some (some u)) /\
   (∀(j i:Nat) (k:AK) (l:Option Nat) (ps:ll),is[j]?=some i->env[i]?=some (some (.ag k l ps))->∃p as,us[j]?=some (.ref p)/\Lab k (r j) p as/\∀n,l=some n->Lab k (G.r n) p as) /\
   Ok K (rh G W (Lent H env σ is) r) (mask H (Lent H env σ is)) (Lent H env σ is) (m7 ags) (us.map some) H:=by
 have B:∀a,Lent H env σ is a->W a:=λa=>ok.lentW;have ex:∀j:Nat,∃t:ia×V,∀(i:Nat) (x:Ag) (l:Option Nat),is[j]?=some i->ags[j]?=some x->env[i]?=some (some (.ag x.1 l x.2)) ->
   σ[i]?=some (some t.2)/\∃p as us,t.2=.ref p/\Lab x.1 t.1 p as/\W p/\(p::as).Nodup/\(∀n,l=some n->Lab x.1 (G.r n) p as)/\AkOk K H x.1 p us/\PtsOk K G W H x.2 as us:=λj=>by
  cases J:is[j]? with
  | none=>exact⟨([],.non),λi x l e=>by cases e⟩
  | some i =>
    obtain⟨x,l,h1,h2⟩:=vg Y J;obtain⟨v,I,p,as,us,R,X,F,hl,C,E⟩:=ok.slot i _ h2;refine⟨(match x.1 with | .ins true _ _=>[p] | _=>p::as,v),λL M l' z1 z2 z3=>?_⟩;cases z1;rw[h1] at z2;cases z2;rw[h2] at z3;cases z3;refine⟨I,p,as,us,R,?_,X,F,hl,C,E⟩;obtain⟨k,ps⟩:=x;cases k with
    | ls=>rfl
    | ins b c fs=>cases b <;> rfl
 obtain⟨t,U⟩:=Classical.axiomOfChoice ex;have Z:=xg Y;refine⟨λj=>(t j).1,(List.range is.length).map λj=>(t j).2,by simp,λj i e=>?_,λj i k l ps I R=>?_,?_⟩
 ·have J:=(aj.mp e).1
  obtain⟨x,l,h1,h2⟩:=vg Y e;exact⟨_,by simp[J],(U j i x l e h1 h2).1⟩
 ·have J:=(aj.mp I).1
  obtain⟨x,l',h1,h2⟩:=vg Y I;rw[R] at h2;cases h2;obtain⟨q1,p,as,us,f,N,_,_,q4,_⟩:=U j i x l I h1 R;exact⟨p,as,by simp[J,f],N,q4⟩
 ·have own:∀ {j i:Nat} {x:Ag} {l:Option Nat},is[j]?=some i->ags[j]?=some x->env[i]?=some (some (.ag x.1 l x.2))->∀a,Owns H (slA x j) (t j).2 a->Lent H env σ is a:=λ{j i x l} I R g a o =>
   ⟨i,_,_,bi I,g,(U j i x l I R g).1,o⟩
  have cv:∀ {d:D} {v:V},Rep K H (Ow G W) d v->Rep K H (Ow (rh G W (Lent H env σ is) λj=>(t j).1) (Lent H env σ is)) d v:=λr =>
   r.mono (λ_ _ h=>h) λa us o h=>⟨⟨⟨o.1,λz=>absurd z o.2⟩,λz=>o.2 (B a z)⟩,h⟩
  have O:∀ {d:k9} {v:k8},Reps K H (Ow G W) d v->Reps K H (Ow (rh G W (Lent H env σ is) λj=>(t j).1) (Lent H env σ is)) d v:=λr =>
   r.mono (λ_ _ h=>h) λa us o h=>⟨⟨⟨o.1,λz=>absurd z o.2⟩,λz=>o.2 (B a z)⟩,h⟩
  have pos:∀ {j:Nat} {s:Sl},(m7 ags)[j]?=some (some s)->∃i x l,is[j]?=some i/\ags[j]?=some x/\env[i]?=some (some (.ag x.1 l x.2))/\s=slA x j/\(((List.range is.length).map λj=>(t j).2).map some)[j]?=some (some (t j).2):=λ{j s} e=>by
   obtain⟨x,h1,rfl⟩:=zkp e;have J:j<is.length:=by rw[<-Z];exact(aj.mp h1).1
   obtain⟨M,l,h2,S⟩:=vg Y (show is[j]?=some is[j] by simp[J]);rw[h1] at h2;cases h2;exact⟨is[j],x,l,by simp[J],h1,S,rfl,by simp[J]⟩
  refine⟨λa o e=>(zol e).2,λa e=>?_,λa e=>⟨zmw e,(ok.wl a (B a e)).2⟩,λj s e=>?_,λj j' s s' v v' a I R g e4 o1 o2=>?_,by rw[zok,ah,ah,j1,Z]⟩
  ·rcases zom e with z | z
   ·exact⟨ok.good a (ok.wl a (B a z)).1,λ_=>z⟩
   ·exact⟨ok.good a (ok.stay.free z),λw=>by obtain⟨_,m,q⟩:=ok.wl a w;rw[z] at q;cases q⟩
  ·obtain⟨i,x,l,h1,h2,S,rfl,P⟩:=pos e
   obtain⟨q1,p,as,us,f,N,X,F,q4,C,E⟩:=U j i x l h1 h2 S;refine⟨_,P,p,as,us,f,own h1 h2 S p (.inl f),F,λn z=>by cases z;exact N,C,E.step (λa vs ha z=>⟨own h1 h2 S a (.inr ⟨p,us,f,C.o,E.parts_iff.mpr ha⟩),z⟩) (λ_ _ r=>cv r) λ_ _ r=>O r⟩
  ·obtain⟨i,x,l,h1,h2,S,rfl,P⟩:=pos I
   obtain⟨L,M,l',y,Q,A,rfl,T⟩:=pos R;rw[P] at g;cases g;rw[T] at e4;cases e4;have:=ok.uniq i L _ _ _ _ a S A (U j i x l h1 h2 S).1 (U j' L M l' y Q A).1 o1 o2;subst this;exact zmi nd h1 y
variable{us:k8}{W':Addr->Prop}{H':Hp}
theorem Ok.unlend(ok:Ok K G H0 W env σ H){I:lx}{r:Nat->ia}{env':DE0}{T:St}(nd:is.Nodup)(hg:getA env is=some ags)(hu:∀(j i:Nat),is[j]?=some i->∃u,us[j]?=some u/\σ[i]?=some (some u))(X:∀(j i:Nat) (k:AK) (l:Option Nat) (ps:ll),is[j]?=some i->env[i]?=some (some (.ag k l ps))->∃p as,us[j]?=some (.ref p)/\Lab k (r j) p as/\∀n,l=some n->Lab k (G.r n) p as)(hl:I.length=is.length)(an:∀(j:Nat) (x y:Ag),ags[j]?=some x->I[j]?=some y->y.1=x.1)(st:Step (Lent H env σ is) H W' H')(B:Ok K (rh G W (Lent H env σ is) r) (mask H (Lent H env σ is)) W' env' T H')(Y:∀(j:Nat) (x:Ag),I[j]?=some x->env'[j]?=some (some (slA x j))) :
  Ok K G H0 (λa=>W' a\/(W a/\¬Lent H env σ is a)) (putA env is I) σ H'/\Step W H (λa=>W' a\/(W a/\¬Lent H env σ is a)) H' /\
   (∀ {d:D} {v:V},Rep K H' (Ow (rh G W (Lent H env σ is) r) W') d v->Rep K H' (Ow G (λa=>W' a\/(W a/\¬Lent H env σ is a))) d v):=by
 have lW:∀a,Lent H env σ is a->W a:=λa=>ok.lentW;have N:∀a,W' a->Lent H env σ is a\/H a=none:=st.ws;have n':∀a,W' a->W a->Lent H env σ is a:=λa h w=>(N a h).elim id λz=>by obtain⟨_,m,q⟩:=ok.wl a w;rw[z] at q;cases q
 have aa:Step W H (λa=>W' a\/(W a/\¬Lent H env σ is a)) H':=⟨λb o e n=>st.keep b o e λz=>n (lW b z),λa z=>by
  rcases z with z | z
  ·exact(N a z).imp (lW a) id
  ·exact .inl z.1⟩
 have back:∀ {j i:Nat} {y:Ag} {k:AK} {l:Option Nat} {ps:ll},is[j]?=some i->I[j]?=some y->env[i]?=some (some (.ag k l ps)) ->
   ∃u p as vs,σ[i]?=some (some u)/\T[j]?=some (some u)/\u=.ref p/\W' p/\(p::as).Nodup/\(∀n,l=some n->Lab y.1 (G.r n) p as)/\AkOk K H' y.1 p vs/\PtsOk K (rh G W (Lent H env σ is) r) W' H' y.2 as vs:=λ{j i y k l ps} R A C=>by
  obtain⟨x,l',h1,h2⟩:=vg hg R;rw[C] at h2;cases h2;obtain⟨v,M,p,as,vs,rfl,hW,n1,hr,hk,hp⟩:=B.slot j _ (Y j y A);obtain⟨u,F,L⟩:=hu j i R;obtain⟨p0,O,Q,Z,z5⟩:=X j i _ _ _ R C;rw[F] at Q;cases Q;have hy:=an j x y h1 A;have S:Lab y.1 (r j) p as:=hr j rfl;have same:p=p0/\(as=O\/∃c fs,y.1=.ins true c fs):=by
   rw[<-hy] at Z;generalize y.1=kk at S Z;cases kk with
   | ls=>have S:r j=p::as:=S;have Z:r j=p0::O:=Z;rw[S] at Z;cases Z;exact⟨rfl,.inl rfl⟩
   | ins b c fs =>
     cases b with
     | true=>have S:r j=[p]:=S;have Z:r j=[p0]:=Z;rw[S] at Z;cases Z;exact⟨rfl,.inr ⟨c,fs,rfl⟩⟩
     | false=>have S:r j=p::as:=S;have Z:r j=p0::O:=Z;rw[S] at Z;cases Z;exact⟨rfl,.inl rfl⟩
  obtain⟨rfl,hs⟩:=same;refine⟨_,p,as,vs,L,M,rfl,hW,n1,λn hn=>?_,hk,hp⟩;have z6:=z5 n hn;rw[<-hy] at z6;rcases hs with rfl | ⟨c,fs,q⟩
  ·exact z6
  ·rw[q] at z6 ⊢;exact z6
 have up:∀(a:Addr) (us:k8),Ow (rh G W (Lent H env σ is) r) W' a->Rd H' a (.lst us)->Ow G (λa=>W' a\/(W a/\¬Lent H env σ is a)) a/\Rd H' a (.lst us):=λa us o h=>⟨⟨o.1.1,λz=>z.elim o.2 λy=>y.2 (o.1.2 y.1)⟩,h⟩;have cv:∀ {d:D} {v:V},Rep K H' (Ow (rh G W (Lent H env σ is) r) W') d v->Rep K H' (Ow G (λa=>W' a\/(W a/\¬Lent H env σ is a))) d v:=λrp=>rp.mono (λ_ _ h=>h) up;have ap:∀ {d:k9} {v:k8},Reps K H' (Ow (rh G W (Lent H env σ is) r) W') d v->Reps K H' (Ow G (λa=>W' a\/(W a/\¬Lent H env σ is a))) d v:=λrp=>rp.mono (λ_ _ h=>h) up;have f:∀ {i:Nat} {s:Sl} {v:V},i∉is->env[i]?=some (some s)->σ[i]?=some (some v)->∀a,Owns H s v a->W a/\¬Lent H env σ is a:=λ{i s v} hi e R a o=>by
  obtain⟨v',A,q⟩:=ok.slot i s e;rw[R] at A;cases A;refine⟨q.owns o,λz=>?_⟩;obtain⟨i',s',v',g,F,L,Q⟩:=z;exact hi ((ok.uniq i i' s s' _ _ a e F R L o Q) ▸ g)
 have P:∀ {i:Nat} {s:Sl} {v:V},i∉is->env[i]?=some (some s)->σ[i]?=some (some v)->∀a (m:Mo),Owns H s v a->H a=some m.out->(W' a\/(W a/\¬Lent H env σ is a))/\H' a=some m.out:=λ{i s v} hi e R a m o q=>by
  have z:=f hi e R a o;exact⟨.inr z,st.keep a _ q z.2⟩
 have t:∀ {i:Nat} {s:Sl} {v:V} {a:Addr},i∉is->env[i]?=some (some s)->σ[i]?=some (some v)->Owns H' s v a->Owns H s v a:=λ{i s v a} hi e R o=>by
  obtain⟨v',A,q⟩:=ok.slot i s e;rw[R] at A;cases A;refine q.back (λl z w m L=>?_) o;refine st.keep l _ L λy=>?_;obtain⟨i',s',v',g,F,Q,Z⟩:=y;have ol:Owns H s v l:=by
   cases s with
   | sh d=>exact o.elim
   | ow ds=>exact z
   | o2 dss=>exact .inl z
   | ag k r ps=>exact .inl z
   | al _ _=>exact o.elim
   | ro _ _=>exact o.elim
  exact hi ((ok.uniq i i' s s' _ _ l e F R Q ol Z) ▸ g)
 have J:∀ {i:Nat} {s:Sl},(putA env is I)[i]?=some (some s)->(i∉is/\env[i]?=some (some s))\/∃(j:Nat) (y:Ag) (k:AK) (l:Option Nat) (ps:ll),is[j]?=some i/\I[j]?=some y/\env[i]?=some (some (.ag k l ps))/\s=.ag y.1 l y.2:=λ{i s} e=>by
  by_cases hi:i∈is
  ·obtain⟨j,hj,ej⟩:=mf hi
   have R:is[j]?=some i:=by simp[hj,ej]
   obtain⟨x,l,h1,h2⟩:=vg hg R;have h3:I[j]?=some (I[j]'(by lia)):=by simp[hl,hj]
   rw[zpk nd R h3 h2] at e;cases e;exact .inr ⟨j,_,_,l,_,R,h3,h2,rfl⟩
  ·rw[zmv hi] at e;exact .inl ⟨hi,e⟩
 refine⟨⟨λb o e=>?_,ok.good,λa z=>?_,λi s e=>?_,λi i' s s' v v' a R A C M o1 o2=>?_,by rw[zmu];exact ok.len⟩,aa,cv⟩
 ·exact st.keep b o (ok.stay b o e) λz=>by rw[(ok.wl b (lW b z)).1] at e;cases e
 ·rcases z with z | z
  ·refine⟨?_,(B.wl a z).2⟩
   rcases N a z with y | y
   ·exact(ok.wl a (lW a y)).1
   ·exact ok.stay.free y
  ·obtain⟨q,m,hm⟩:=ok.wl a z.1
   exact⟨q,m,st.keep a _ hm z.2⟩
 ·rcases J e with⟨hi,e⟩ | ⟨j,y,k,l,ps,R,A,C,rfl⟩
  ·obtain⟨v,R,q⟩:=ok.slot i s e
   exact⟨v,R,ok.slstep aa q (P hi e R)⟩
  ·obtain⟨u,p,as,vs,E,_,rfl,hW,n1,ar,hk,hp⟩:=back R A C
   exact⟨_,E,p,as,vs,rfl,.inl hW,n1,ar,hk,hp.step (λa ws ha z=>⟨.inl (hp.own ha).1,z⟩) (λ_ _ r=>cv r) λ_ _ r=>ap r⟩
 ·rcases J R with⟨hi,f1⟩ | ⟨j,y,k,l,ps,f1,f2,f3,rfl⟩ <;> rcases J A with⟨g,U⟩ | ⟨j',y',k',l',ps',U,f2',f3',rfl⟩
  ·exact ok.uniq i i' s s' v v' a f1 U C M (t hi f1 C o1) (t g U M o2)
  ·exfalso
   obtain⟨F,L⟩:=f hi f1 C a (t hi f1 C o1);obtain⟨u,p,as,vs,E,q2,_⟩:=back U f2' f3';rw[M] at E;cases E;obtain⟨v0,w1,w2⟩:=B.slot j' _ (Y j' y' f2');rw[q2] at w1;cases w1;exact L (n' a (w2.owns o2) F)
  ·exfalso
   obtain⟨F,L⟩:=f g U M a (t g U M o2);obtain⟨u,p,as,vs,E,q2,_⟩:=back f1 f2 f3;rw[C] at E;cases E;obtain⟨v0,w1,w2⟩:=B.slot j _ (Y j y f2);rw[q2] at w1;cases w1;exact L (n' a (w2.owns o1) F)
  ·obtain⟨u,p,as,vs,E,q2,_⟩:=back f1 f2 f3
   obtain⟨u',p',a1,vs',ab,a0,_⟩:=back U f2' f3';rw[C] at E;cases E;rw[M] at ab;cases ab;have:=B.uniq j j' _ _ _ _ a (Y j y f2) (Y j' y' f2') q2 a0 o1 o2;subst this;rw[f1] at U;cases U;rfl
def MCal(P:Program)(w:World)(K:k4)(mg:Str->h8)(base:Heap)(cn m:Str)(k:Nat)(sp:Sp):Prop :=
 ∃C fa fd ps,Cls K C/\Meth K C m fa/\FnOk P w K mg base (CXr P w) k fa fd ps sp/\Binds K fd ps []/\Cl K cn C
def Atr(K:k4)(cn m:Str):Prop:=∃C,Cls K C/\NoAttr K C m/\Cl K cn C
def KCal(P:Program)(w:World)(K:k4)(mg:Str->h8)(base:Heap)(x:Str)(k:Nat)(sp:Sp):Prop :=
 ∃C fa fd ps,Mk K C fa/\FnOk P w K mg base (CXr P w) k fa fd ps sp/\mg x=some (.ref C)/\Binds K fd ps []/\Cl K x C/\(x==("__debug__" : Str))=false
def EXs(X:Cx)(σ:St):XK:=λcls _ H'=>∀pins H s C ea s',cls=.ref C->Inv X pins σ H s->Fly X.prog X.w X.stack H s C ea H' s'->X.xe (.ref ea) s'
variable{vs:k8}{X:Cx}{k:Nat}{f:Addr}{fd:FuncData}{ps:g9}{sp:Sp}
theorem zpl{pins:k6}{s:Shared}{Q:VK}{us:h7}(F:FnOk X.prog X.w X.K X.mg X.base (CXr X.prog X.w) k f fd ps sp)(R:Room k X.A)(S:Binds X.K fd ps [])(I:Inv X pins σ H s)(r:Vals vs us)(h:sp vs H Q (EXs X σ)):wpAny (model X.prog X.w) X.A (call (.ref f) us) (EP X pins σ Q) X.xe s:=by
 have U:(us++[]).length=ps.length:=by rw[dc,<-r.length];exact F.len _ _ _ _ h
 have J:=S s us I.kIn U;rw[dc] at J;refine wpAny_call (codeAny_mono (F.run X.A X.stack s H ⟨us,[]⟩ us vs Q (EXs X σ) R I.env0 J r h) λr s' D=>?_);cases r with
 | error e =>
   obtain⟨ea,C,H',rfl,fl,z⟩:=D;exact z pins H s C ea s' rfl I fl
 | ok fl =>
   cases fl with
   | ret u=>exact I.after D
   | next=>exact False.elim D
   | brk=>exact False.elim D
   | cont=>exact False.elim D
def z27(X:Cx)(sp:Sp)(t:TA):TE:=λσ H Q=>t σ H λvs H1=>sp vs H1 Q (EXs X σ)
variable{x:Str}{p pos:Pos}{e:Expr}{es:ka}{t:TA}
def yw(F:FnOk X.prog X.w X.K X.mg X.base (CXr X.prog X.w) k f fd ps sp)(S:Room k X.A)(U:Gl X x)(V:X.mg x=some (.ref f))(Y:PySem.W.keepIn X.K (.ref f)=true)(Z:Binds X.K fd ps [])(a:PA X (e::es) t)(D:(x==("__debug__" : Str))=false:=by decide)(b:starEach (e::es) X.env=(false,eval e X.env)::starEach es X.env:=by rfl)(J:(backTo pos (starEach es X.env)).any (·.1)=false:=by rfl) :
  PE X (.Call (.Name x p) (e::es) [] pos) (z27 X sp t):=by
 intro pins s σ H Q I h;refine wpAny_Call_Name_kw (vf I U V ?_ D);refine im (h₀:=X.base) I.ok.mod.kin Y (thn (a pos pins s σ H _ I h) λus d c=>?_) b J;obtain⟨vs,H1,R,r,q⟩:=c;refine⟨R.kIn,?_⟩;exact zpl F S Z R r q
def zqu(X:Cx)(C:Addr)(m:Str)(sp:Sp)(ta:TE)(t:TA):TE:=λσ H Q=>ta σ H λx H1=>∃a dx fs,x=.ref a/\H1 a=some (.ins C dx fs)/\fs.lookup m=none/\t σ H1 λvs H2=>sp (x::vs) H2 Q (EXs X σ)
variable{C:Addr}{m:Str}{apos:Pos}{ta:TE}
def zmy{pl:Sem Bool}(Y:PE X o ta)(c:Cls X.K C)(S:Meth X.K C m f)(F:FnOk X.prog X.w X.K X.mg X.base (CXr X.prog X.w) k f fd ps sp)(Z:Room k X.A)(b:Binds X.K fd ps [])(d:PA X (e::es) t)(D:starEach (e::es) X.env=(false,eval e X.env)::starEach es X.env:=by rfl)(J:(backTo pos (starEach es X.env)).any (·.1)=false:=by rfl)(g:eval (.Call (.Attribute o m apos) (e::es) [] pos) X.env=(do
   let ov <-eval o X.env
   standAt apos.atName
   let (f,first) <-holding [ov] (getMethod ov m pl)
   callWith pos f first (backTo pos (starEach (e::es) X.env)) (backToKw pos (keywordEach [] X.env))):=by rfl) :
  PE X (.Call (.Attribute o m apos) (e::es) [] pos) (zqu X C m sp ta t):=by
 intro pins s σ H Q I h;refine PySem.W.methodCall_KW (pl:=pl) (thn (Y pins s σ H _ I h) λu i R=>?_) g;obtain⟨x,H1,U,j,a,dx,fs,ex,ea,l,q⟩:=R;subst ex;obtain rfl:u=Value.ref a:=j;refine zly U ea c S l ?_;refine im (first:=[.ref a]) (h₀:=X.base) I.ok.mod.kin S.kp (thn (d pos pins i σ H1 _ U q) λus s2 R=>?_) D J;obtain⟨vs,H2,V,r,n⟩:=R;refine⟨V.kIn,?_⟩;exact zpl (us:=.ref a::us) (vs:=.ref a::vs) F Z b V (.cons rfl r) n
def zk8{pl:Sem Bool}(R:PE X o ta)(c:Cls X.K C)(J:Meth X.K C m f)(F:FnOk X.prog X.w X.K X.mg X.base (CXr X.prog X.w) k f fd ps sp)(S:Room k X.A)(U:Binds X.K fd ps [])(V:eval (.Call (.Attribute o m apos) [] [] pos) X.env=(do
   let ov <-eval o X.env
   standAt apos.atName
   let (f,first) <-holding [ov] (getMethod ov m pl)
   callWith pos f first (backTo pos (starEach [] X.env)) (backToKw pos (keywordEach [] X.env))):=by rfl) :
  PE X (.Call (.Attribute o m apos) [] [] pos) (zqu X C m sp ta tNil):=by
 intro pins s σ H Q I h;refine PySem.W.methodCall_KW (pl:=pl) (thn (R pins s σ H _ I h) λu b Y=>?_) V;obtain⟨x,H1,D,Z,a,dx,fs,ex,ea,l,q⟩:=Y;subst ex;obtain rfl:u=Value.ref a:=Z;refine zly D ea c J l ?_;exact PySem.W.callWith_K0 (first:=[.ref a]) D.kIn J.kp (zpl (us:=[.ref a]) (vs:=[.ref a]) F S U D (.cons rfl .nil) q)
def z28(X:Cx)(C:Addr)(sp:Sp)(t:TA):TE:=λσ H Q=>t σ H λvs H1=>∀x dx,H1 x=none->H1 dx=none->dx≠x ->
 sp (.ref x::vs) (upd (upd H1 dx (.own x)) x (.ins C dx [])) (λv H2=>v=.non/\Q (.ref x) H2) (EXs X σ)
theorem zwc(M:Mk X.K C f)(F:FnOk X.prog X.w X.K X.mg X.base (CXr X.prog X.w) k f fd ps sp)(b:Room (k+1) X.A)(c:Gl X x)(d:X.mg x=some (.ref C))(g:Binds X.K fd ps [])(i:PA X (e::es) t)(R:(x==("__debug__" : Str))=false:=by decide)(j:starEach (e::es) X.env=(false,eval e X.env)::starEach es X.env:=by rfl)(S:(backTo pos (starEach es X.env)).any (·.1)=false:=by rfl) :
  PE X (.Call (.Name x p) (e::es) [] pos) (z28 X C sp t):=by
 intro pins l σ H0 Q U m;refine wpAny_Call_Name_kw (vf U c d ?_ R);refine im (h₀:=X.base) U.ok.mod.kin M.kp (thn (i pos pins l σ H0 _ U m) λus s n=>?_) j S;obtain⟨vs,H,I,r,h⟩:=n;refine⟨I.kIn,?_⟩;have Y:=h (s.heap.objs.size+1) s.heap.objs.size (I.hok.fresh (qa _)) (I.hok.fresh (bw _)) (b6 (ek _));have J:=Inv.made (C:=C) I;have Z:Vals (V.ref (s.heap.objs.size+1)::vs) (Value.ref (s.heap.objs.size+1)::us):=.cons rfl r;have o:((Value.ref (s.heap.objs.size+1)::us)++[]).length=ps.length:=by rw[dc,<-Z.length];exact F.len _ _ _ _ Y
 have a:=g ⟨_,s.gens,s.drawn,s.toks,s.os⟩ (Value.ref (s.heap.objs.size+1)::us) J.kIn o;rw[dc] at a;refine wpAny_call (zvf (f:=f) I.kIn M.makes M.init (beq_iff_eq.mp M.fn) (codeAny_mono (F.run _ X.stack _ _ ⟨Value.ref (s.heap.objs.size+1)::us,[]⟩ (Value.ref (s.heap.objs.size+1)::us) _ _ (EXs X σ) (b.make C us [])
  (J.env0.make C us []) a Z Y) λr s' D=>?_))
 cases r with
 | error e =>
   obtain⟨ea,q,H',rfl,fl,z⟩:=D;exact z pins _ _ q ea s' rfl J fl
 | ok fl =>
   cases fl with
   | ret u =>
     obtain⟨v,H',y,B,E,G⟩:=J.after D;subst E;exact⟨B,⟨V.ref (s.heap.objs.size+1),H',y,rfl,G⟩⟩
   | next=>exact False.elim D
   | brk=>exact False.elim D
   | cont=>exact False.elim D
abbrev XF:=DE0->Option (Str×DE0)
def XEnd(X:Cx)(G:Gd)(H0:Hp)(W:Addr->Prop)(H:Hp)(σ:St)(c:Str)(env':DE0):Prop:=∀W' H' C,Cl X.K c C->Step W H W' H'->Ok X.K G H0 W' env' σ H'->∀pins e s',XS X pins σ H' C e s'->X.xe (.ref e) s'
def tDX(X:Cx)(G:Gd)(H0:Hp)(x:XF)(σ:St)(H:Hp):Prop:=DP X.K G H0 x (λW env c env'=> XEnd X G H0 W H σ c env') σ H
structure JX (X:Cx) (G:Gd) (H0:Hp) (e:Expr) (x:XF):Prop where
 out:PE X e (λσ H _=>tDX X G H0 x σ H)
structure JXA (X:Cx) (G:Gd) (H0:Hp) (es:ka) (x:XF):Prop where
 out:PA X es (λσ H _=>tDX X G H0 x σ H)
structure JXS (X:Cx) (G:Gd) (H0:Hp) (s:Stmt) (x:XF):Prop where
 out:PS X s (λ_ σ H=>tDX X G H0 x σ H)
@[simp] noncomputable def sXp(x:XF)(g:FS):FS:=λe=>match x e with | some r=>some (.xc r.1,r.2) | none=>g e
variable{x:XF}{g:FS}
def lc(R:DSx X G H0 s g)(S:JXS X G H0 s x):DSx X G H0 s (sXp x g):=⟨λpins s' σ H D I U=>by
 obtain⟨W,env,fl,env',ok,q,k⟩:=U;unfold sXp at q;cases e1:x env with
 | none=>rw[e1] at q;exact R.out pins s' σ H D I ⟨W,env,fl,env',ok,q,k⟩
 | some r =>
   rw[e1] at q;cases q;exact S.out pins s' σ H D I ⟨W,env,r.1,r.2,ok,e1,λW' H' C V st J=>k W' σ H' C V st J⟩⟩
def mw(h:JX X G H0 e x)(D:swapsWith e none pos.line X.env=pure false:=by rfl):JXS X G H0 (.Expr e pos) x:=⟨(zsn h.out D).imp λ_ _ _ z=>z⟩
def wt(h:JX X G H0 e x):JXS X G H0 (.Return (some e) pos) x:=⟨(yr h.out).imp λ_ _ _ z=>z⟩
variable{c:Str}
def Cl.inj{D:Addr}(h:Cl K c C)(h':Cl K c D):C=D:=by
 unfold Cl at h h';rw[h] at h';cases h';rfl
def zwd(K:k4)(O:Addr->Prop)(H:Hp)(ags:lx)(us:k8):Prop :=
 us.length=ags.length/\∀(j:Nat) (x:Ag) (u:V),ags[j]?=some x->us[j]?=some u->∃p vs,u=.ref p/\AkOk K H x.1 p vs/\PtsRo K (gd O) NoW H x.2 vs
def qSp(K:k4)(m:lx->k9->la)(x:lx->k9->kb):Sp:=λvs H Q E =>
 ∃(O:Addr->Prop) (ags:lx) (us:k8) (ds:k9) (ws:k8),vs=us++ws/\zwd K O H ags us/\Reps K H O ds ws /\
  ((∃d,m ags ds=some d/\∀v H',Same H H'->Rep K H' (λa=>O a\/H a=none) d v->Q v H')\/∃c,x ags ds=some c/\∀C H',Cl K c C->Same H H'->E (.ref C) none H')
def j7(n:Nat)(ags:lx)(ds:k9):DE0:=ags.map (λx=>some (Sl.ro x.1 x.2))++iz (n-ags.length) ds
def runQ(n p ar:Nat)(g:FS):lx->k9->la:=λags ds=>if ags.length=p/\ds.length=ar then(match g (j7 n ags ds) with | some (.rt d,_)=>some d | some (.nx,_)=>some .non | _=>none) else none
def xQ(n p ar:Nat)(g:FS):lx->k9->kb:=λags ds=>if ags.length=p/\ds.length=ar then(match g (j7 n ags ds) with | some (.xc c,_)=>some c | _=>none) else none
variable{O O':Addr->Prop}
def lv(h:∀a,O a->O' a):(∀(d:D) (v:V),Rep K H O d v->Rep K H O' d v)/\∀(d:k9) (v:k8),Reps K H O d v->Reps K H O' d v :=
 ⟨λd v r=>r.mono (λ_ _ h=>h) λa us o q=>⟨h a o,q⟩,λd v r=>r.mono (λ_ _ h=>h) λa us o q=>⟨h a o,q⟩⟩
variable{ws:k8}{ds:k9}{N:g9}
theorem zx1(I:zwd K O H ags us)(r:Reps K H O ds ws)(b:us.length<=N.length) :
  Ok K (gd λa=>O a\/H a=none) H NoW (j7 N.length ags ds) (start N (us++ws)) H:=by
 have R:=um (N:=N.drop us.length) r;have J:=R.len;have es:start N (us++ws)=us.map some++start (N.drop us.length) ws:=by
  unfold start;rw[b9,d4,am,em,Nat.sub_sub]
 have V:j7 N.length ags ds=ags.map (λx=>some (Sl.ro x.1 x.2))++iz (N.drop us.length).length ds:=by unfold j7;rw[em,I.1]
 rw[es,V];refine⟨Same.refl _,R.good,R.wl,λi s e=>?_,λi j c s2 v1 v2 a D _ f _ o _=>?_,?_⟩
 ·by_cases hi:i<ags.length
  ·rw[aw (by simpa using hi),b7] at e
   cases D:ags[i]? with
   | none=>rw[D] at e;cases e
   | some x =>
     rw[D] at e;cases e;have S:us[i]?=some (us[i]'(by rw[I.1];exact hi)):=by simp[I.1,hi]
     obtain⟨p,vs,h1,h2,Y⟩:=I.2 i x _ D S;refine⟨_,by rw[aw (by rw[ah,I.1];exact hi),b7,S];rfl,p,vs,h1,λz=>z,h2,Y.step (λa vs n z=>⟨n,z⟩) (λd v q=>(lv λa z=>⟨.inl z.1,λz=>z⟩).1 d v q) λd v q=>(lv λa z=>⟨.inl z.1,λz=>z⟩).2 d v q⟩
  ·rw[df (by simpa using hi),ah] at e
   obtain⟨v,U,Z⟩:=R.slot _ s e;rw[<-I.1] at U;exact⟨v,by rw[df (by rw[ah,I.1];lia),ah];exact U,Z⟩
 ·by_cases hi:i<ags.length
  ·rw[aw (by simpa using hi),b7] at D
   cases q:ags[i]? with
   | none=>rw[q] at D;cases D
   | some x=>rw[q] at D;cases D;exact o.elim
  ·rw[df (by simpa using hi)] at D
   obtain⟨d,_,rfl⟩:=zie D;exact o.elim
 ·rw[am,am,ah,ah,J,I.1]
variable{x qual:Str}{st:Stmt}{n ar:Nat}{P:Program}{w:World}{mg:Str->h8}{base:Heap}
theorem z29{p:Nat}(F:Fun K x qual st f fd)(S:pz N ps (fx st))(j:n=N.length)(l:p+ar=ps.length)(R:∀(cdv:Value) (A:Around) (outer:i0) (s:Shared) (H:Hp) (E:XK) (G:Gd) (H0:Hp),Room k (A.deeper (envOfC qual (fx st) s.heap.objs.size f cdv)) ->
   DBx (cxOf (CXr P w) P w K mg base N qual (fx st) f cdv A outer s H E) G H0 (lg st) g):FnOk P w K mg base (CXr P w) (k+1) f fd ps (qSp K (runQ n p ar g) (xQ n p ar g)):=by
 subst j;have m:ps.length<=N.length:=by have:=congrArg List.length S.pre;rw[dm] at this;lia
 have U:∀ {O:Addr->Prop} {H:Hp} {ags:lx} {us:k8} {ds:k9} {ws:k8},zwd K O H ags us->Reps K H O ds ws->(ags.length=p/\ds.length=ar)->(us++ws).length=ps.length:=λJ r h=>by rw[am,J.1,h.1,<-r.length,h.2,l]
 refine F.okX S (λvs H Q E h=>?_) (λcdv A outer s H vs Q E q h=>?_)
 ·obtain⟨O,ags,us,ds,ws,rfl,J,r,h⟩:=h
  refine U J r ?_;rcases h with⟨d,e,_⟩ | ⟨c,e,_⟩
  ·unfold runQ at e;split at e
   ·assumption
   ·cases e
  ·unfold xQ at e;split at e
   ·assumption
   ·cases e
 ·obtain⟨O,ags,us,ds,ws,rfl,J,r,h⟩:=h
  refine⟨_,(R cdv A outer s H E (gd λa=>O a\/H a=none) H q).out,?_⟩;rcases h with⟨d,e,k⟩ | ⟨c,e,k⟩
  ·unfold runQ at e
   split at e;case isFalse=>cases e
   rename_i i;have b:=zx1 (N:=N) J r (by rw[J.1,i.1];lia);split at e
   ·rename_i d' env' Y
    cases e;exact⟨NoW,_,_,env',b,Y,λW' Z v H' st I t=>k v H' I.stay (t.mono (λ_ _ h=>h) λa us o h=>⟨o.1,h⟩)⟩
   ·rename_i env' Y
    cases e;exact⟨NoW,_,_,env',b,Y,λW' Z H' st I=>k .non H' I.stay .non⟩
   ·cases e
  ·unfold xQ at e
   split at e;case isFalse=>cases e
   rename_i i;have b:=zx1 (N:=N) J r (by rw[J.1,i.1];lia);split at e
   ·rename_i z env' Y
    cases e;exact⟨NoW,_,_,env',b,Y,λW' Z H' u y st I pins e s' xs=>zjw xs (k u H' y I.stay)⟩
   ·cases e
def lSp(K:k4)(m:lx->k9->l0)(x:lx->k9->Option (Str×lx)):Sp:=λvs H Q E =>
 ∃(G:Gd) (W:Addr->Prop) (R:Hp) (ags:lx) (us:k8) (ds:k9) (ws:k8),vs=us++ws/\us.length=ags.length/\Ok K G R W (m7 ags) (us.map some) H/\Reps K H (Ow G W) ds ws /\
  ((∃d I, m ags ds = some (d, I) /\ ∀W' env' J v H', Step W H W' H' -> Ok K G R W' env' J H' -> (∀(j : Nat) (x : Ag), I[j]? = some x -> env'[j]? = some (some (slA x j))) -> Rep K H' (Ow G W') d v -> Q v H') \/
   ∃c I,x ags ds=some (c,I)/\∀C W' env' J H',Cl K c C->Step W H W' H'->Ok K G R W' env' J H'->(∀(j:Nat) (x:Ag),I[j]?=some x->env'[j]?=some (some (slA x j)))->E (.ref C) none H')
def jl(n:Nat)(ags:lx)(ds:k9):DE0:=m7 ags++iz (n-ags.length) ds
def outA(e:DE0):Nat->ic->Option lx
 | _,[]=>some []
 | j,_::r=>match e[j]? with | some (some (.ag k (some j') ps))=>if j'=j then(outA e (j+1) r).map λt=>(k,ps)::t else none | _=>none
def runL(n p ar:Nat)(g:FS):lx->k9->l0:=λags ds=>if ags.length=p/\ds.length=ar then(match g (jl n ags ds) with | some (.rt d,e)=>(outA e 0 (List.range p)).map λt=>(d,t) | some (.nx,e)=>(outA e 0 (List.range p)).map λt=>(.non,t) | _=>none) else none
def xL(n p ar:Nat)(g:FS):lx->k9->Option (Str×lx):=λags ds=>if ags.length=p/\ds.length=ar then(match g (jl n ags ds) with | some (.xc c,e)=>(outA e 0 (List.range p)).map λt=>(c,t) | _=>none) else none
theorem zmz{e:DE0}:∀ {l:ic} {i:Nat} {ags:lx},outA e i l=some ags->ags.length=l.length/\∀(j:Nat) (x:Ag),ags[j]?=some x->e[i+j]?=some (some (slA x (i+j)))
 | [],_,_,h=>by cases h;exact⟨rfl,λj x z=>by simp at z⟩
 | _::r,i,ags,h=>by
   unfold outA at h;split at h
   ·rename_i k D ps q
    split at h
    ·rename_i I
     subst I;cases e2:outA e (D+1) r with
     | none=>rw[e2] at h;cases h
     | some t =>
       rw[e2] at h;cases h;obtain⟨h1,h2⟩:=zmz e2;refine⟨by rw[ak,ak,h1],λj x z=>?_⟩;cases j with
       | zero=>simp at z;subst z;exact q
       | succ j =>
         have:=h2 j x (by simpa using z);rwa [show D+1+j=D+(j+1) by lia] at this
    ·cases h
   ·cases h
theorem z3a{I:Hp}(ok:Ok K G I W (m7 ags) (us.map some) H)(J:us.length=ags.length)(r:Reps K H (Ow G W) ds ws) :
  Ok K G I W (jl N.length ags ds) (start N (us++ws)) H:=by
 have R:(m7 ags).length=us.length:=by rw[zok,J]
 have es:start N (us++ws)=us.map some++start (N.drop us.length) ws:=by
  unfold start;rw[b9,d4,am,em,Nat.sub_sub]
 have b:jl N.length ags ds=m7 ags++iz (N.drop us.length).length ds:=by unfold jl;rw[em,J]
 have c:=um (N:=N.drop us.length) (O:=Ow G W) r;rw[es,b];have D:∀ {i:Nat} {s:Sl},(m7 ags++iz (N.drop us.length).length ds)[i]?=some (some s)->(i<us.length/\(m7 ags)[i]?=some (some s))\/(us.length<=i/\∃d,ds[i-us.length]?=some d/\s=.sh d):=λ{i s} e=>by
  by_cases hi:i<us.length
  ·rw[aw (by lia)] at e;exact .inl ⟨hi,e⟩
  ·rw[df (by lia),R] at e
   obtain⟨d,q,z⟩:=zie e;exact .inr ⟨by lia,d,q,z⟩
 refine⟨ok.stay,ok.good,ok.wl,λi s e=>?_,λi j f s2 v1 v2 a g h S U V Y=>?_,?_⟩
 ·rcases D e with⟨hi,e⟩ | ⟨hi,d,q,rfl⟩
  ·obtain⟨v,h1,h2⟩:=ok.slot i s e
   exact⟨v,by rw[aw (by simpa using hi)];exact h1,h2⟩
  ·obtain⟨v,h1,h2⟩:=r.get q
   refine⟨v,?_,h2⟩;rw[df (by simpa using hi),ah];unfold start;rw[aw (by simpa using(aj.mp h1).1),b7,h1];rfl
 ·rcases D g with⟨hi,k⟩ | ⟨hi,d,q,rfl⟩
  ·rcases D h with⟨Z,l⟩ | ⟨Z,d,q,rfl⟩
   ·rw[aw (by simpa using hi)] at S
    rw[aw (by simpa using Z)] at U;exact ok.uniq i j f s2 v1 v2 a k l S U V Y
   ·exact Y.elim
  ·exact V.elim
 ·rw[am,am,R,ah,c.len]
theorem zzw{p:Nat}(F:Fun K x qual st f fd)(S:pz N ps (fx st))(Z:n=N.length)(a:p+ar=ps.length)(J:∀(cdv:Value) (A:Around) (outer:i0) (s:Shared) (H:Hp) (E:XK) (G:Gd) (H0:Hp),Room k (A.deeper (envOfC qual (fx st) s.heap.objs.size f cdv)) ->
   DBx (cxOf (CXr P w) P w K mg base N qual (fx st) f cdv A outer s H E) G H0 (lg st) g):FnOk P w K mg base (CXr P w) (k+1) f fd ps (lSp K (runL n p ar g) (xL n p ar g)):=by
 subst Z;refine F.okX S (λvs H Q E h=>?_) (λcdv A outer s H vs Q E b h=>?_)
 ·obtain⟨G,W,Y,ags,us,ds,ws,rfl,U,ok,r,h⟩:=h
  have:ags.length=p/\ds.length=ar:=by
   rcases h with⟨d,t,e,_⟩ | ⟨c,t,e,_⟩
   ·unfold runL at e;split at e
    ·assumption
    ·cases e
   ·unfold xL at e;split at e
    ·assumption
    ·cases e
  rw[am,U,this.1,<-r.length,this.2,a]
 ·obtain⟨G,W,Y,ags,us,ds,ws,rfl,U,ok,r,h⟩:=h
  refine⟨_,(J cdv A outer s H E G Y b).out,?_⟩;have V:=z3a (N:=N) ok U r;rcases h with⟨d,t,e,k⟩ | ⟨c,t,e,k⟩
  ·unfold runL at e
   split at e;case isFalse=>cases e
   split at e
   ·rename_i d' env' R
    cases e2:outA env' 0 (List.range p) with
    | none=>rw[e2] at e;cases e
    | some t' =>
      rw[e2] at e;cases e;exact⟨W,_,_,env',V,R,λW' D v H' st I i=>k W' env' D v H' st I (λj x z=>by have:=(zmz e2).2 j x z;rwa [i4] at this) i⟩
   ·rename_i env' R
    cases e2:outA env' 0 (List.range p) with
    | none=>rw[e2] at e;cases e
    | some t' =>
      rw[e2] at e;cases e;exact⟨W,_,_,env',V,R,λW' D H' st I=>k W' env' D .non H' st I (λj x z=>by have:=(zmz e2).2 j x z;rwa [i4] at this) .non⟩
   ·cases e
  ·unfold xL at e
   split at e;case isFalse=>cases e
   split at e
   ·rename_i o env' R
    cases e2:outA env' 0 (List.range p) with
    | none=>rw[e2] at e;cases e
    | some t' =>
      rw[e2] at e;cases e;exact⟨W,_,_,env',V,R,λW' D H' l m st I pins e s' xs=>zjw xs (k l W' env' D H' m st I λj x z=>by have:=(zmz e2).2 j x z;rwa [i4] at this)⟩
   ·cases e
def getR(env:DE0):ic->Option lx
 | []=>some []
 | i::r=>match env[i]? with
   | some (some (.ag k _ ps))=>(getR env r).map λt=>(k,ps)::t
   | some (some (.ro k ps))=>(getR env r).map λt=>(k,ps)::t
   | _=>none
def aggs(env:DE0)(is:ic):Prop:=∀i∈is,∃s,env[i]?=some (some s)
instance (env:DE0) (is:ic):Decidable (aggs env is):=Classical.propDecidable _
variable{ps:ll}{as:ia}
def PtsOk.ro(h:PtsOk K G W H ps as us):PtsRo K (gd (Ow G W)) NoW H ps us:=by
 induction h with
 | nil=>exact .nil
 | d q _ ih=>exact .d ((lv λa z=>⟨z,λz=>z⟩).1 _ _ q) ih
 | o hW hl q _ ih=>exact .o (λz=>z) hl ((lv λa z=>⟨z,λz=>z⟩).2 _ _ q) ih
def PtsRo.ro(h:PtsRo K G W H ps us):PtsRo K (gd (Ow G W)) NoW H ps us :=
 h.step (λa vs _ z=>⟨λz=>z,z⟩) (λd v q=>(lv λa z=>⟨z,λz=>z⟩).1 d v q) λd v q=>(lv λa z=>⟨z,λz=>z⟩).2 d v q
def Ok.roAll(ok:Ok K G H0 W env σ H):∀ {is:ic} {ags:lx} {us:k8},getR env is=some ags->us.length=is.length->(∀(j i:Nat),is[j]?=some i->∃u,us[j]?=some u/\σ[i]?=some (some u))->zwd K (Ow G W) H ags us
 | [],_,us,h,hl,_=>by cases h;exact⟨hl,λj x u e=>by simp at e⟩
 | i::r,ags,us,h,hl,hu=>by
   cases us with
   | nil=>simp at hl
   | cons u us =>
     obtain⟨g,Y,Z⟩:=hu 0 i rfl;simp at Y;subst Y;have R:∃k ps t,ags=(k,ps)::t/\getR env r=some t/\∃p vs,u=.ref p/\AkOk K H k p vs/\PtsRo K (gd (Ow G W)) NoW H ps vs:=by
      unfold getR at h;split at h
      ·rename_i k l ps q
       cases h2:getR env r with
       | none=>rw[h2] at h;cases h
       | some t =>
         rw[h2] at h;cases h;obtain⟨v,D,p,as,vs,rfl,_,_,_,I,J⟩:=ok.slot i _ q;rw[Z] at D;cases D;exact⟨k,ps,t,rfl,rfl,p,vs,rfl,I,J.ro⟩
      ·rename_i k ps q
       cases h2:getR env r with
       | none=>rw[h2] at h;cases h
       | some t =>
         rw[h2] at h;cases h;obtain⟨v,D,p,vs,rfl,_,I,J⟩:=ok.slot i _ q;rw[Z] at D;cases D;exact⟨k,ps,t,rfl,rfl,p,vs,rfl,I,J.ro⟩
      ·cases h
     obtain⟨k,ps,t,rfl,h2,p,vs,rfl,I,J⟩:=R;obtain⟨a,b⟩:=ok.roAll (us:=us) h2 (by simpa using hl) λj c e=>by
      obtain⟨u,d,f⟩:=hu (j+1) c (by simpa using e);exact⟨u,by simpa using d,f⟩
     refine⟨by rw[ak,ak,a],λj x v S U=>?_⟩;cases j with
     | zero=>simp at S U;subst S;subst U;exact⟨p,vs,rfl,I,J⟩
     | succ j=>exact b j x v (by simpa using S) (by simpa using U)
variable{v:V}
def Ok.newRep(ok:Ok K G H0 W env σ H){d:D}(r:Rep K H' (λa=>Ow G W a\/H a=none) d v):Rep K H' (Ow G W) d v :=
 r.mono (λ_ _ h=>h) λa us o h=>⟨o.elim id λz=>⟨ok.good a (ok.stay.free z),λw=>by obtain⟨_,m,q⟩:=ok.wl a w;rw[z] at q;cases q⟩,h⟩
def tLA(X:Cx)(G:Gd)(H0:Hp)(is:ic)(F:FA):TA:=λσ H Q=>∃W env ds env',Ok X.K G H0 W env σ H/\aggs env is/\F env=some (ds,env') /\
 ∀W' us ws H',Step W H W' H'->Ok X.K G H0 W' env' σ H'->us.length=is.length->(∀(j i:Nat),is[j]?=some i->∃u,us[j]?=some u/\σ[i]?=some (some u))->Reps X.K H' (Ow G W') ds ws->Q (us++ws) H'
structure JLA (X:Cx) (G:Gd) (H0:Hp) (is:ic) (es:ka) (F:FA):Prop where
 out:PA X es (tLA X G H0 is F)
variable{F:FA}
def jg(h:DAx X G H0 es F):JLA X G H0 [] es F:=⟨h.out.imp λσ H Q ⟨W,env,ds,env',ok,_,q,k⟩=>⟨W,env,ds,env',ok,q,λW' vs H' st D r=>k W' [] vs H' st D rfl (λj i e=>by simp at e) r⟩⟩
variable{Nn Cn:g9}{i:Nat}
def yv(h:JLA X G H0 is es F)(an:Ats Nn Cn X)(D:Nn[i]?=some x:=by rfl)(I:starEach (.Name x pos::es) X.env=(false,eval (.Name x pos) X.env)::starEach es X.env:=by rfl):JLA X G H0 (i::is) (.Name x pos::es) F :=
 ⟨(mn ((an.a D).pe) h.out I).imp λσ H Q V=>by
  obtain⟨W,env,ds,env',ok,S,q,k⟩:=V;obtain⟨s,I⟩:=S i (by simp);obtain⟨v,U,_⟩:=ok.slot i s I;refine⟨v,U,W,env,ds,env',ok,λJ hi=>S J (by simp[hi]),q,λW' us ws H' st R Y Z r=>?_⟩;refine k W' (v::us) ws H' st R (by rw[ak,ak,Y]) (λj J e=>?_) r;cases j with
  | zero=>simp at e;subst e;exact⟨v,rfl,U⟩
  | succ j=>obtain⟨u,b,c⟩:=Z j J (by simpa using e);exact⟨u,by simpa using b,c⟩⟩
def iy(m:lx->k9->la)(is:ic)(F:FA):FE:=λe=>if aggs e is then(F e).bind λr=>(getR r.2 is).bind λags=>(m ags r.1).map λd=>(d,r.2) else none
def lp(x:lx->k9->kb)(is:ic)(F:FA):XF:=λe=>if aggs e is then(F e).bind λr=>(getR r.2 is).bind λags=>(x ags r.1).map λc=>(c,r.2) else none
variable{m:lx->k9->la}{xx:lx->k9->kb}
def zpm:∀σ H Q,tD X.K G H0 (iy m is F) σ H Q->tLA X G H0 is F σ H λvs H1=>qSp X.K m xx vs H1 Q (EXs X σ):=λσ H Q J=>by
 obtain⟨W,env,d,env',ok,q,k⟩:=J;unfold iy at q;split at q;case isFalse=>cases q
 rename_i I;cases e1:F env with
 | none=>rw[e1] at q;cases q
 | some r =>
   rw[e1,ac] at q;cases e2:getR r.2 is with
   | none=>rw[e2] at q;cases q
   | some ags =>
     rw[e2,ac] at q;cases e3:m ags r.1 with
     | none=>rw[e3] at q;cases q
     | some d' =>
       rw[e3] at q;cases q;exact⟨W,env,r.1,r.2,ok,I,e1,λW1 us ws H1 R D S U V=>⟨Ow G W1,ags,us,r.1,ws,rfl,D.roAll e2 S U,V,.inl ⟨_,e3,λv H' sm Y=>k W1 v H' (R.trans (Step.same sm)) (D.same sm) (D.newRep Y)⟩⟩⟩
def zwe:∀σ H (Q:VK),tDX X G H0 (lp xx is F) σ H->tLA X G H0 is F σ H λvs H1=>qSp X.K m xx vs H1 Q (EXs X σ):=λσ H Q R=>by
 obtain⟨W,env,c,env',ok,q,k⟩:=R;unfold lp at q;split at q;case isFalse=>cases q
 rename_i J;cases e1:F env with
 | none=>rw[e1] at q;cases q
 | some r =>
   rw[e1,ac] at q;cases e2:getR r.2 is with
   | none=>rw[e2] at q;cases q
   | some ags =>
     rw[e2,ac] at q;cases e3:xx ags r.1 with
     | none=>rw[e3] at q;cases q
     | some c' =>
       rw[e3] at q;cases q;refine⟨W,env,r.1,r.2,ok,J,e1,λW1 us ws H1 S D U V Y=>⟨Ow G W1,ags,us,r.1,ws,rfl,D.roAll e2 U V,Y,.inr ⟨_,e3,λC H' Z sm pins H2 s2 b ea s' a I fl=>?_⟩⟩⟩;cases a;exact k W1 H' C Z (S.trans (Step.same sm)) (D.same sm) pins ea s' (.inl ⟨s2,H2,I,fl⟩)
variable{jr:Nat}{p':Pos}
def mr(c:Cal X.prog X.w X.K X.mg X.base (CXr X.prog X.w) x k (qSp X.K m xx))(R:Room jr X.A)(S:JLA X G H0 is (e::es) F)(D:k<=jr:=by decide)(U:Gl X x:=by walk_at "g")(V:starEach (e::es) X.env=(false,eval e X.env)::starEach es X.env:=by rfl)(I:(backTo pos (starEach es X.env)).any (·.1)=false:=by rfl) :
  DEx X G H0 (.Call (.Name x p') (e::es) [] pos) (iy m is F):=let ⟨_,_,_,Y,Z,a,b,J⟩:=c;⟨(yw Y (R.mono D) U Z a b S.out J V I).imp zpm⟩
def mq(c:Cal X.prog X.w X.K X.mg X.base (CXr X.prog X.w) x k (qSp X.K m xx))(R:Room jr X.A)(S:JLA X G H0 is (e::es) F)(D:k<=jr:=by decide)(U:Gl X x:=by walk_at "g")(V:starEach (e::es) X.env=(false,eval e X.env)::starEach es X.env:=by rfl)(I:(backTo pos (starEach es X.env)).any (·.1)=false:=by rfl) :
  JX X G H0 (.Call (.Name x p') (e::es) [] pos) (lp xx is F):=let ⟨_,_,_,Y,Z,a,b,J⟩:=c;⟨(yw Y (R.mono D) U Z a b S.out J V I).imp zwe⟩
instance (a b:List AK):Decidable (a=b):=Classical.propDecidable _
def j9(m:lx->k9->l0)(is:ic)(F:FA):FE:=λe=>if aggs e is then(F e).bind λr=>(getA r.2 is).bind λags=>(m ags r.1).bind λq=>if q.2.map (·.1)=ags.map (·.1) then some (q.1,putA r.2 is q.2) else none else none
def l4(x:lx->k9->Option (Str×lx))(is:ic)(F:FA):XF:=λe=>if aggs e is then(F e).bind λr=>(getA r.2 is).bind λags=>(x ags r.1).bind λq=>if q.2.map (·.1)=ags.map (·.1) then some (q.1,putA r.2 is q.2) else none else none
variable{b:Expr}
def z3b{a b:lx}(h:b.map (·.1)=a.map (·.1)):b.length=a.length/\∀(j:Nat) (x y:Ag),a[j]?=some x->b[j]?=some y->y.1=x.1:=by
 refine⟨by simpa using congrArg List.length h,λj x y D I=>?_⟩;have:=congrArg (λl:List AK=>l[j]?) h;simp[b7,D,I,Option.some.injEq] at this;exact this
variable{m:lx->k9->l0}{xx:lx->k9->Option (Str×lx)}
theorem zpn(V:is.Nodup):∀σ H Q,tD X.K G H0 (j9 m is F) σ H Q->tLA X G H0 is F σ H λvs H1=>lSp X.K m xx vs H1 Q (EXs X σ):=λσ H Q c=>by
 obtain⟨W,env,d,env',ok,q,k⟩:=c;unfold j9 at q;split at q;case isFalse=>cases q
 rename_i J;cases e1:F env with
 | none=>rw[e1] at q;cases q
 | some r =>
   rw[e1,ac] at q;cases e2:getA r.2 is with
   | none=>rw[e2] at q;cases q
   | some ags =>
     rw[e2,ac] at q;cases e3:m ags r.1 with
     | none=>rw[e3] at q;cases q
     | some z =>
       rw[e3,ac] at q;split at q;case isFalse=>cases q
       rename_i R;cases q;obtain⟨e,f⟩:=z3b R;refine⟨W,env,r.1,r.2,ok,J,e1,λW1 us ws H1 g D M i l=>?_⟩;obtain⟨N,I,n,Y,p,S⟩:=D.lend V e2;have s:I=us:=by
        apply eh;intro j;by_cases Z:j<is.length
        ·obtain⟨u,t,w⟩:=i j is[j] (by simp[Z])
         obtain⟨O,x,b⟩:=Y j is[j] (by simp[Z]);rw[w] at b;cases b;rw[t,x]
        ·rw[cr (by lia),cr (by lia)]
       subst s;refine⟨_,_,_,ags,I,r.1,ws,rfl,by rw[n,xg e2],S,?_,.inl ⟨_,_,e3,λW' env' y v H' st U A B=>?_⟩⟩
       ·exact l.mono (λ_ _ h=>h) λa us o h=>⟨⟨⟨o.1,λz=>absurd z o.2⟩,λz=>o.2 (D.lentW z)⟩,h⟩
       ·obtain⟨C,E,L⟩:=D.unlend V e2 Y p (by rw[e,xg e2]) f st U A
        exact k _ v H' (g.trans E) C (L B)
theorem zm0(Y:is.Nodup):∀σ H (Q:VK),tDX X G H0 (l4 xx is F) σ H->tLA X G H0 is F σ H λvs H1=>lSp X.K m xx vs H1 Q (EXs X σ):=λσ H Q e=>by
 obtain⟨W,env,d,env',ok,q,k⟩:=e;unfold l4 at q;split at q;case isFalse=>cases q
 rename_i R;cases e1:F env with
 | none=>rw[e1] at q;cases q
 | some r =>
   rw[e1,ac] at q;cases e2:getA r.2 is with
   | none=>rw[e2] at q;cases q
   | some ags =>
     rw[e2,ac] at q;cases e3:xx ags r.1 with
     | none=>rw[e3] at q;cases q
     | some z =>
       rw[e3,ac] at q;split at q;case isFalse=>cases q
       rename_i S;cases q;obtain⟨f,g⟩:=z3b S;refine⟨W,env,r.1,r.2,ok,R,e1,λW1 us ws H1 i D N l n=>?_⟩;obtain⟨O,J,p,Z,s,U⟩:=D.lend Y e2;have t:J=us:=by
        apply eh;intro j;by_cases b:j<is.length
        ·obtain⟨u,v,w⟩:=l j is[j] (by simp[b])
         obtain⟨P,x,c⟩:=Z j is[j] (by simp[b]);rw[w] at c;cases c;rw[v,x]
        ·rw[cr (by lia),cr (by lia)]
       subst t;refine⟨_,_,_,ags,J,r.1,ws,rfl,by rw[p,xg e2],U,?_,.inr ⟨_,_,e3,λC W' env' y H' A st V B pins H2 s2 T ea s' E I fl=>?_⟩⟩
       ·exact n.mono (λ_ _ h=>h) λa us o h=>⟨⟨⟨o.1,λz=>absurd z o.2⟩,λz=>o.2 (D.lentW z)⟩,h⟩
       ·cases E
        obtain⟨L,M,u3⟩:=D.unlend Y e2 Z s (by rw[f,xg e2]) g st V B;exact k _ H' C A (i.trans M) L pins ea s' (.inl ⟨s2,H2,I,fl⟩)
def zk9(c:Cal X.prog X.w X.K X.mg X.base (CXr X.prog X.w) x k (lSp X.K m xx))(R:Room jr X.A)(S:JLA X G H0 is (e::es) F)(D:k<=jr:=by decide)(U:Gl X x:=by walk_at "g")(V:is.Nodup:=by decide)(Y:starEach (e::es) X.env=(false,eval e X.env)::starEach es X.env:=by rfl)(I:(backTo pos (starEach es X.env)).any (·.1)=false:=by rfl) :
  DEx X G H0 (.Call (.Name x p') (e::es) [] pos) (j9 m is F):=let ⟨_,_,_,Z,a,b,d,J⟩:=c;⟨(yw Z (R.mono D) U a b d S.out J Y I).imp (zpn V)⟩
def zwf(c:Cal X.prog X.w X.K X.mg X.base (CXr X.prog X.w) x k (lSp X.K m xx))(R:Room jr X.A)(S:JLA X G H0 is (e::es) F)(D:k<=jr:=by decide)(U:Gl X x:=by walk_at "g")(V:is.Nodup:=by decide)(Y:starEach (e::es) X.env=(false,eval e X.env)::starEach es X.env:=by rfl)(I:(backTo pos (starEach es X.env)).any (·.1)=false:=by rfl) :
  JX X G H0 (.Call (.Name x p') (e::es) [] pos) (l4 xx is F):=let ⟨_,_,_,Z,a,b,d,J⟩:=c;⟨(yw Z (R.mono D) U a b d S.out J Y I).imp (zm0 V)⟩
def isK(κ:AK)(e:DE0)(i:Nat):Prop:=(∃l ps,e[i]?=some (some (.ag κ l ps)))\/∃ps,e[i]?=some (some (.ro κ ps))
instance (κ:AK) (e:DE0) (i:Nat):Decidable (isK κ e i):=Classical.propDecidable _
def fK(κ:AK)(i:Nat)(f:FE):FE:=λe=>if isK κ e i then f e else none
def xK(κ:AK)(i:Nat)(f:XF):XF:=λe=>if isK κ e i then f e else none
def isK.at{K:k4}{W:Addr->Prop}{H:Hp}{env:DE0}{σ:St}{c:Str}{fs:g9}{C:Addr}(ok:Ok K G H0 W env σ H)(h:isK (.ins false c fs) env i)(S:Cl K c C):∃p dx us,σ[i]?=some (some (.ref p))/\H p=some (.ins C dx (fs.zip us))/\fs.length=us.length:=by
 rcases h with⟨l,ps,e⟩ | ⟨ps,e⟩
 ·obtain⟨v,I,p,as,us,rfl,_,_,_,⟨U,dx,J,D,R⟩,_⟩:=ok.slot i _ e
  rw[Cl.inj J S] at D;exact⟨p,dx,us,I,D,R⟩
 ·obtain⟨v,I,p,us,rfl,_,⟨U,dx,J,D,R⟩,_⟩:=ok.slot i _ e
  rw[Cl.inj J S] at D;exact⟨p,dx,us,I,D,R⟩
variable{m:Str}{fs:g9}
def zqv(h:m∉fs):(fs.zip us).lookup m=none:=by
 induction fs generalizing us with
 | nil=>rfl
 | cons f r ih =>
   cases us with
   | nil=>rfl
   | cons u us =>
     rw[jt,cq];have:(m==f)=false:=by simp;exact λz=>h (by simp[z])
     rw[this];exact ih λz=>h (by simp[z])
variable{f:FE}
def zqw(S:Cl X.K c C)(U:m∉fs)(h:∀σ H Q,tD X.K G H0 f σ H Q->tLA X G H0 [i] F σ H λvs H1=>sp vs H1 Q (EXs X σ)):∀σ H Q,tD X.K G H0 (fK (.ins false c fs) i f) σ H Q->zqu X C m sp (tVar i) (tDA X.K G H0 F) σ H Q:=λσ H Q V=>by
 obtain⟨W,env,d,env',ok,q,k⟩:=V;unfold fK at q;split at q;case isFalse=>cases q
 rename_i Y;obtain⟨p,dx,us,R,Z,_⟩:=Y.at ok S;obtain⟨a,env0,ds,D,I,_,b,g⟩:=h σ H Q ⟨W,env,d,env',ok,q,k⟩;refine⟨_,R,p,dx,_,rfl,Z,zqv U,a,env0,ds,D,I,b,λW' ws H' st J r=>?_⟩;exact g W' [.ref p] ws H' st J rfl (λj l e=>by cases j with | zero=>simp at e;subst e;exact⟨_,rfl,R⟩ | succ j=>simp at e) r
def ztx(S:Cl X.K c C)(U:m∉fs){f:XF}(h:∀σ H (Q:VK),tDX X G H0 f σ H->tLA X G H0 [i] F σ H λvs H1=>sp vs H1 Q (EXs X σ)):∀σ H (Q:VK),tDX X G H0 (xK (.ins false c fs) i f) σ H->zqu X C m sp (tVar i) (tDA X.K G H0 F) σ H Q:=λσ H Q V=>by
 obtain⟨W,env,d,env',ok,q,k⟩:=V;unfold xK at q;split at q;case isFalse=>cases q
 rename_i Y;obtain⟨p,dx,us,R,Z,_⟩:=Y.at ok S;obtain⟨a,env0,ds,D,I,_,b,g⟩:=h σ H Q ⟨W,env,d,env',ok,q,k⟩;refine⟨_,R,p,dx,_,rfl,Z,zqv U,a,env0,ds,D,I,b,λW' ws H' st J r=>?_⟩;exact g W' [.ref p] ws H' st J rfl (λj l e=>by cases j with | zero=>simp at e;subst e;exact⟨_,rfl,R⟩ | succ j=>simp at e) r
section
variable {X:Cx} {G:Gd} {H0:Hp} {a b e:Expr} {es:ka} {f:FE} {F:FA} {x m cn:Str} {fs:g9} {is:ic} {pos p' p1 p2 apos:Pos} {i:Nat} {k:Nat} {fa C:Addr} {fd:FuncData} {ps:g9} {pl:Sem Bool}
variable {mm:lx->k9->la} {xx:lx->k9->kb}
def z3c{Nn Cn:g9}{jr:Nat}{i:Nat}(c:MCal X.prog X.w X.K X.mg X.base cn m k (qSp X.K mm xx))(U:Room jr X.A)(V:DAx X G H0 (e::es) F)(an:Ats Nn Cn X)(D:k<=jr:=by decide)(I:Nn[i]?=some x:=by rfl)(Y:m∉fs:=by decide +kernel)(J:starEach (e::es) X.env=(false,eval e X.env)::starEach es X.env:=by rfl)(R:(backTo pos (starEach es X.env)).any (·.1)=false:=by rfl)(Z:eval (.Call (.Attribute (.Name x p') m apos) (e::es) [] pos) X.env=(do
   let ov <-eval (.Name x p') X.env
   standAt apos.atName
   let (f,first) <-holding [ov] (getMethod ov m pl)
   callWith pos f first (backTo pos (starEach (e::es) X.env)) (backToKw pos (keywordEach [] X.env))):=by rfl) :
  DEx X G H0 (.Call (.Attribute (.Name x p') m apos) (e::es) [] pos) (fK (.ins false cn fs) i (iy mm [i] F)):=let ⟨_,_,_,_,c,S,b,d,g⟩:=c;⟨(zmy ((an.a I).pe) c S b (U.mono D) d V.out J R Z).imp (zqw g Y zpm)⟩
def ng{Nn Cn:g9}{jr:Nat}{i:Nat}(c:MCal X.prog X.w X.K X.mg X.base cn m k (qSp X.K mm xx))(S:Room jr X.A)(an:Ats Nn Cn X)(D:k<=jr:=by decide)(I:Nn[i]?=some x:=by rfl)(U:m∉fs:=by decide +kernel)(V:eval (.Call (.Attribute (.Name x p') m apos) [] [] pos) X.env=(do
   let ov <-eval (.Name x p') X.env
   standAt apos.atName
   let (f,first) <-holding [ov] (getMethod ov m pl)
   callWith pos f first (backTo pos (starEach [] X.env)) (backToKw pos (keywordEach [] X.env))):=by rfl) :
  DEx X G H0 (.Call (.Attribute (.Name x p') m apos) [] [] pos) (fK (.ins false cn fs) i (iy mm [i] fNil)):=let ⟨_,_,_,_,c,J,Y,Z,b⟩:=c;⟨(zk8 ((an.a I).pe) c J Y (S.mono D) Z V).imp λσ H Q h=>by
   obtain⟨d,h1,h2⟩:=zqw (F:=fNil) b U (zpm (xx:=xx)) σ H Q h;obtain⟨a,dx,R,e,g,j,W,env,ds,env',ok,q,kk⟩:=h2;cases q;exact⟨d,h1,a,dx,R,e,g,j,kk W [] H Step.refl ok .nil⟩⟩
variable {mm:lx->k9->l0} {xx:lx->k9->Option (Str×lx)}
def vm{Nn Cn:g9}{jr:Nat}{i:Nat}(c:MCal X.prog X.w X.K X.mg X.base cn m k (lSp X.K mm xx))(U:Room jr X.A)(V:DAx X G H0 (e::es) F)(an:Ats Nn Cn X)(D:k<=jr:=by decide)(I:Nn[i]?=some x:=by rfl)(Y:m∉fs:=by decide +kernel)(J:starEach (e::es) X.env=(false,eval e X.env)::starEach es X.env:=by rfl)(R:(backTo pos (starEach es X.env)).any (·.1)=false:=by rfl)(Z:eval (.Call (.Attribute (.Name x p') m apos) (e::es) [] pos) X.env=(do
   let ov <-eval (.Name x p') X.env
   standAt apos.atName
   let (f,first) <-holding [ov] (getMethod ov m pl)
   callWith pos f first (backTo pos (starEach (e::es) X.env)) (backToKw pos (keywordEach [] X.env))):=by rfl) :
  DEx X G H0 (.Call (.Attribute (.Name x p') m apos) (e::es) [] pos) (fK (.ins false cn fs) i (j9 mm [i] F)):=let ⟨_,_,_,_,c,S,b,d,g⟩:=c;⟨(zmy ((an.a I).pe) c S b (U.mono D) d V.out J R Z).imp (zqw g Y (zpn (by simp)))⟩
def zm1{Nn Cn:g9}{jr:Nat}{i:Nat}(c:MCal X.prog X.w X.K X.mg X.base cn m k (lSp X.K mm xx))(U:Room jr X.A)(V:DAx X G H0 (e::es) F)(an:Ats Nn Cn X)(D:k<=jr:=by decide)(I:Nn[i]?=some x:=by rfl)(Y:m∉fs:=by decide +kernel)(J:starEach (e::es) X.env=(false,eval e X.env)::starEach es X.env:=by rfl)(R:(backTo pos (starEach es X.env)).any (·.1)=false:=by rfl)(Z:eval (.Call (.Attribute (.Name x p') m apos) (e::es) [] pos) X.env=(do
   let ov <-eval (.Name x p') X.env
   standAt apos.atName
   let (f,first) <-holding [ov] (getMethod ov m pl)
   callWith pos f first (backTo pos (starEach (e::es) X.env)) (backToKw pos (keywordEach [] X.env))):=by rfl) :
  JX X G H0 (.Call (.Attribute (.Name x p') m apos) (e::es) [] pos) (xK (.ins false cn fs) i (l4 xx [i] F)):=let ⟨_,_,_,_,c,S,b,d,g⟩:=c;⟨(zmy ((an.a I).pe) c S b (U.mono D) d V.out J R Z).imp (ztx g Y (zm0 (by simp)))⟩
def zl4{Nn Cn:g9}{jr:Nat}{i:Nat}(c:MCal X.prog X.w X.K X.mg X.base cn m k (lSp X.K mm xx))(S:Room jr X.A)(an:Ats Nn Cn X)(D:k<=jr:=by decide)(I:Nn[i]?=some x:=by rfl)(U:m∉fs:=by decide +kernel)(V:eval (.Call (.Attribute (.Name x p') m apos) [] [] pos) X.env=(do
   let ov <-eval (.Name x p') X.env
   standAt apos.atName
   let (f,first) <-holding [ov] (getMethod ov m pl)
   callWith pos f first (backTo pos (starEach [] X.env)) (backToKw pos (keywordEach [] X.env))):=by rfl) :
  DEx X G H0 (.Call (.Attribute (.Name x p') m apos) [] [] pos) (fK (.ins false cn fs) i (j9 mm [i] fNil)):=let ⟨_,_,_,_,c,J,Y,Z,b⟩:=c;⟨(zk8 ((an.a I).pe) c J Y (S.mono D) Z V).imp λσ H Q h=>by
   obtain⟨d,h1,h2⟩:=zqw (F:=fNil) b U (zpn (xx:=xx) (by simp)) σ H Q h;obtain⟨a,dx,R,e,g,j,W,env,ds,env',ok,q,kk⟩:=h2;cases q;exact⟨d,h1,a,dx,R,e,g,j,kk W [] H Step.refl ok .nil⟩⟩
def zon{Nn Cn:g9}{jr:Nat}{i:Nat}(c:MCal X.prog X.w X.K X.mg X.base cn m k (lSp X.K mm xx))(S:Room jr X.A)(an:Ats Nn Cn X)(D:k<=jr:=by decide)(I:Nn[i]?=some x:=by rfl)(U:m∉fs:=by decide +kernel)(V:eval (.Call (.Attribute (.Name x p') m apos) [] [] pos) X.env=(do
   let ov <-eval (.Name x p') X.env
   standAt apos.atName
   let (f,first) <-holding [ov] (getMethod ov m pl)
   callWith pos f first (backTo pos (starEach [] X.env)) (backToKw pos (keywordEach [] X.env))):=by rfl) :
  JX X G H0 (.Call (.Attribute (.Name x p') m apos) [] [] pos) (xK (.ins false cn fs) i (l4 xx [i] fNil)):=let ⟨_,_,_,_,c,J,Y,Z,b⟩:=c;⟨(zk8 ((an.a I).pe) c J Y (S.mono D) Z V).imp λσ H Q h=>by
   obtain⟨d,h1,h2⟩:=ztx (F:=fNil) b U (zm0 (m:=mm) (by simp)) σ H Q h;obtain⟨a,dx,R,e,g,j,W,env,ds,env',ok,q,kk⟩:=h2;cases q;exact⟨d,h1,a,dx,R,e,g,j,kk W [] H Step.refl ok .nil⟩⟩
def qr{z:Int}(D:∃t,X.mg x=some (.int z t))(I:Gl X x:=by walk_at "g")(J:(x==("__debug__" : Str))=false:=by decide +kernel):DEx X G H0 (.Name x pos) (fC (.int z)):=by
 obtain⟨t,D⟩:=D;exact de_c (zsl I D (v:=.int z) ⟨t,rfl⟩ J) λ_ _=>.int _
abbrev FV:=DE0->Option DE0
def tV(X:Cx)(G:Gd)(H0:Hp)(v:FV):TE:=λσ H Q=>∃W env env',Ok X.K G H0 W env σ H/\v env=some env'/\∀W' z H',Step W H W' H'->Ok X.K G H0 W' env' σ H'->Q (.str z) H'
structure JV (X:Cx) (G:Gd) (H0:Hp) (e:Expr) (v:FV):Prop where
 out:PE X e (tV X G H0 v)
def zqx{z:Str}{j:Nat}:JV X G H0 (.Constant (.str z) j pos) some:=⟨zxj.imp λσ H Q ⟨W,env,env',ok,q,k⟩=>by cases q;exact k W z H Step.refl ok⟩
structure JVP (X:Cx) (G:Gd) (H0:Hp) (e:Expr) (v:FV):Prop where
 out:∀(pins:k6) (s:Shared) (σ:St) (H:Hp) (Q:Nat->Hp->Prop),Inv X pins σ H s->(∃W env env',Ok X.K G H0 W env σ H/\v env=some env'/\∀n W' H',n<=1000->Step W H W' H'->Ok X.K G H0 W' env' σ H'->Q n H') ->
  wpAny (model X.prog X.w) X.A (eval e X.env) (λu s'=>∃z t H',u=.str z t/\Inv X pins σ H' s'/\Q z.length H') X.xe s
def uh{z:Str}{j:Nat}(D:z.length<=1000:=by decide):JVP X G H0 (.Constant (.str z) j pos) some:=⟨λpins s σ H Q I J=>by
 obtain⟨W,env,env',ok,q,k⟩:=J;cases q;exact Calls.Constant_str ⟨z,_,H,rfl,I.tok _,k _ W H D Step.refl ok⟩⟩
def vInt(f:FE):FV:=λe=>(f e).bind λr=>match r.1 with | .int z=>if z.natAbs<1000000 then some r.2 else none | _=>none
theorem wp(h:DEx X G H0 a f):JVP X G H0 (.FormattedValue a (-1) none pos) (vInt f):=⟨λpins s σ H Q I J=>by
 obtain⟨W,env,env',ok,q,k⟩:=J;unfold vInt at q;cases e1:f env with
 | none=>rw[e1] at q;cases q
 | some r =>
   rw[e1,ac] at q;split at q;case h_2=>cases q
   rename_i z Z;split at q;case isFalse=>cases q
   rename_i S;cases q;refine FormattedValue_plain (thn (h.out pins s σ H (λv H1=>v=.int z/\∀n,n<=1000->Q n H1) I ⟨W,env,r.1,r.2,ok,e1,λW1 v H1 U R V=>⟨by rw[Z] at V;exact V.int_,λn b=>k n W1 H1 b U R⟩⟩) λu U J=>?_);obtain⟨v,H1,c,d,e,g⟩:=J;subst e;obtain⟨t,rfl⟩:=d;have D:z.natAbs.log2<1920:=by
    by_cases Y:z.natAbs=0
    ·rw[Y];decide
    ·exact(Nat.log2_lt Y).mpr (az S (cx (by decide:(1000000:Nat)<=2 ^ 20) (Nat.pow_le_pow_right (by decide) (by decide))))
   refine formatField_int_small D ⟨_,_,H1,rfl,(c.tok _).tok _,g _ ?_⟩;have:(toString z).length<=6+1:=int_text_length_le10 (by decide) S;rw[PySem.ofString_length]
   lia⟩
structure JVs (X:Cx) (G:Gd) (H0:Hp) (es:ka) (v:FV):Prop where
 out:∀(acc:Str) (pins:k6) (s:Shared) (σ:St) (H:Hp) (Q:VK),acc.length+1000*es.length<=100000->Inv X pins σ H s->tV X G H0 v σ H Q ->
  wpAny (model X.prog X.w) X.A (joinParts acc (evalEach es X.env)) (EP X pins σ Q) X.xe s
theorem wy  : JVs X G H0 [] some:=⟨λD pins s σ H Q R I J=>by
 obtain⟨W,env,env',ok,q,k⟩:=J;cases q;exact joinParts_nil ⟨.str D,H,I.tok _,⟨_,rfl⟩,k W D H Step.refl ok⟩ (by rw[sizeLine_eq];lia)⟩
theorem nc{v w:FV}(h:JVP X G H0 e v)(t:JVs X G H0 es w)(b:evalEach (e::es) X.env=eval e X.env::evalEach es X.env:=by rfl):JVs X G H0 (e::es) (λz=>(v z).bind w):=⟨λV pins s σ H Q Y I D=>by
 obtain⟨W,env,env',ok,q,k⟩:=D;cases e1:v env with
 | none=>simp only[e1] at q;cases q
 | some env1 =>
   have q:w env1=some env':=by simpa only[e1,ac] using q
   rw[ak] at Y;refine joinParts_cons (thn (h.out pins s σ H (λn H1=>n<=1000/\tV X G H0 w σ H1 Q) I ⟨W,env,env1,ok,e1,λn W1 H1 U J R=>⟨U,W1,env1,env',R,q,λW' z H' s2 S=>k W' z H' (J.trans s2) S⟩⟩) λu J D=>?_);obtain⟨z,tk,H1,Z,a,U,tv⟩:=D;subst Z;exact⟨by rw[strLen_append,sizeLine_eq];lia,t.out _ pins J σ H1 Q (by rw[strLen_append];lia) a tv⟩⟩
theorem wx{e':Expr}{v:FV}(h:JVs X G H0 (e::e'::es) v)(D:1000*(e::e'::es).length<=100000:=by decide):JV X G H0 (.JoinedStr (e::e'::es) pos) v :=
 ⟨λpins s σ H Q I t=>JoinedStr_many (h.out Str.empty pins s σ H Q (by show 0+_<=_;lia) I t)⟩
abbrev VEs:h7:=[.type "ValueError",.type "Exception",.type "BaseException",.type "object"]
def XC(K:k4)(C:Addr):Prop:=PySem.W.excIn K C VEs "ValueError.__new__" = true
def Exc(K:k4)(mg:Str->h8)(c:Str):Prop:=∃C,Cl K c C/\XC K C/\mg c=some (.ref C)/\(c==("__debug__" : Str))=false
def XC.obj{K:k4}{C:Addr}{h:Heap}(I:XC K C)(D:K.In h):∃bm N nm q bs hdct sn sub ab col dd k0 k1 k2 k3 k5 mN,h.get? C=some (excClassObj nm q C N bs bm hdct sn sub ab col dd k0 k1 k2 k3 k5 "ValueError.__new__")/\h.Ns N mN/\mN "__init__" = none/\OwnTail h VEs bm:=by
 unfold XC PySem.W.excIn at I;split at I;case h_2=>cases I
 rename_i dd R sl S;split at I;case h_2=>cases I
 rename_i k bm k0 k1 k2 k3 n k5 U V;simp only[dr,beq_iff_eq,j2] at I;obtain⟨⟨⟨⟨⟨Y,Z⟩,a⟩,b⟩,J⟩,c⟩:=I;subst Y;subst Z;have d:=D _ _ S;obtain⟨nm,bs,e,f,g,i,sn,sub,ab,col,j⟩:=R;obtain⟨l⟩:=sl;subst U;subst a;subst V;exact⟨bm,f,nm,g,bs,i,sn,sub,ab,col,dd,k0,k1,k2,k3,k5,_,d,.of_isNs (isNs_of_in D J),nsMap_none_of_in D J c,tail_of_in D b⟩
def kl(c:Str)(v:FV):FS:=λe=>(v e).map λe'=>(.xc c,e')
def qu{v:FV}{c:Str}{h cpos:Pos}(i:Exc X.K X.mg c)(j:JV X G H0 a v)(l:X.calm=true:=by rfl)(n:Gl X c:=by walk_at "g")(S:starEach [a] X.env=(false,eval a X.env)::starEach [] X.env:=by rfl)(U:(backTo cpos (starEach [a] X.env)).any (·.1)=false:=by rfl) :
  DSx X G H0 (.Raise (some (.Call (.Name c h) [a] [] cpos)) none pos) (kl c v):=let ⟨C,o,p,r,V⟩:=i;⟨λpins s σ H D I Y=>by
 obtain⟨W,env,fl,env',ok,q,k⟩:=Y;unfold kl at q;cases e1:v env with
 | none=>rw[e1] at q;cases q
 | some env1 =>
   rw[e1] at q;cases q;obtain⟨tl,N,nm,q,bs,hdct,sn,sub,ab,col,dd,k0,k1,k2,k3,k5,mN,t,u,w,f⟩:=p.obj I.ok.mod.kin;refine wpAny_Raise_call_subT (C:=C) (nm:=nm) (q:=q) (N:=N) (bs:=bs) (bm:=tl) (hdct:=hdct) (sn:=sn) (sub:=sub) (ab:=ab) (col:=col) (dd:=dd) (k0:=k0) (k1:=k1) (k2:=k2) (k3:=k3) (k5:=k5) uu (mN:=mN)
    (f.hasType uu.hasBase) (I.ok.hd l) U w (vf I n r ⟨rfl,?_⟩ V)
   rw[S];refine Calls.evalArgs_plain ?_;have g:=(mn j.out pq S) cpos pins s σ H (λvs H1=>vs.length=1/\∃W1,Step W H W1 H1/\Ok X.K G H0 W1 env' σ H1) I ⟨W,env,env',ok,e1,λW1 z H1 Z J=>⟨rfl,W1,Z,J⟩⟩;rw[S] at g;refine thn g λus Z Y=>?_;obtain⟨vs,H1,R,x,y,W1,b,J⟩:=Y;have d:us.length<=sizeLine:=by rw[<-x.length,y];decide
   exact⟨rfl,d,R.bk _ _ t,u.keeps R.bk,f.keeps R.bk,λh' e m=>k W1 σ H1 C o b J pins e _ (.inr ⟨Z,us,R,m,rfl⟩)⟩⟩
end
def agAt(e:DE0)(i:Nat):Option Ag:=match e[i]? with | some (some (.ag k _ ps))=>some (k,ps) | some (some (.ro k ps))=>some (k,ps) | _=>none
def oz:ll->Nat->Nat
 | .o _::r,j+1=>oz r j+1
 | .d _::r,j+1=>oz r j
 | _,_=>0
inductive Acc where
 | at (κ:AK) | al (x:Nat)
def Acc.ok:Acc->DE0->Nat->Nat->Prop
 | .at κ,e,i,_=>isK κ e i
 | .al x,e,i,j=>∃k r ps,e[i]?=some (some (.ag k (some r) ps))/\e[x]?=some (some (.al r (oz ps j)))
instance (A:Acc) (e:DE0) (i j:Nat):Decidable (A.ok e i j):=Classical.propDecidable _
def ko(A:Acc)(i j:Nat)(e:DE0):Option k9:=if A.ok e i j then(agAt e i).bind λx=>match x.2[j]? with | some (.o ds)=>some ds | _=>none else none
def PartAt(K:k4)(H:Hp)(env:DE0)(σ:St)(i j:Nat)(a:Addr):Prop:=∃k ps p us,agAt env i=some (k,ps)/\σ[i]?=some (some (.ref p))/\AkOk K H k p us/\us[j]?=some (.ref a)
def tPt(X:Cx)(G:Gd)(H0:Hp)(A:Acc)(i j:Nat):TE:=λσ H Q=>∃W env ds,Ok X.K G H0 W env σ H/\ko A i j env=some ds /\
 ∀a vs,PartAt X.K H env σ i j a->H a=some (.lst vs)->Reps X.K H (Ow G W) ds vs->Q (.ref a) H
structure JPt (X:Cx) (G:Gd) (H0:Hp) (e:Expr) (A:Acc) (i j:Nat):Prop where
 out:PE X e (tPt X G H0 A i j)
protected def PtsOk.ix(h:PtsOk K G W H ps as us)(e:ps[j]?=some (.o ds)):∃a,us[j]?=some (.ref a)/\as[oz ps j]?=some a:=by
 induction h generalizing j with
 | nil=>simp at e
 | d _ _ ih =>
   cases j with
   | zero=>simp at e
   | succ j=>obtain⟨a,h1,h2⟩:=ih (j:=j) (by simpa using e);exact⟨a,by simpa using h1,h2⟩
 | @o _ a _ _ _ _ _ _ _ _ ih =>
   cases j with
   | zero=>exact⟨a,rfl,rfl⟩
   | succ j=>obtain⟨b,h1,h2⟩:=ih (j:=j) (by simpa using e);exact⟨b,by simpa using h1,by simpa[oz] using h2⟩
variable{k:AK}
def Ok.part(ok:Ok K G H0 W env σ H)(e:agAt env i=some (k,ps))(S:ps[j]?=some (.o ds)):∃p us a vs,σ[i]?=some (some (.ref p))/\AkOk K H k p us/\us[j]?=some (.ref a)/\H a=some (.lst vs)/\Reps K H (Ow G W) ds vs:=by
 unfold agAt at e;split at e
 ·rename_i k' l ps' q
  cases e;obtain⟨v,D,p,as,us,rfl,_,_,_,I,J⟩:=ok.slot i _ q;obtain⟨a,vs,h1,_,_,h2,R⟩:=J.get S;exact⟨p,us,a,vs,D,I,h1,h2,R⟩
 ·rename_i k' ps' q
  cases e;obtain⟨v,D,p,us,rfl,_,I,J⟩:=ok.slot i _ q;obtain⟨a,vs,h1,_,h2,R⟩:=J.get S;exact⟨p,us,a,vs,D,I,h1,h2,R⟩
 ·cases e
variable{A:Acc}
def zkq(h:ko A i j env=some ds):A.ok env i j/\∃k ps,agAt env i=some (k,ps)/\ps[j]?=some (.o ds):=by
 unfold ko at h;split at h;case isFalse=>cases h
 rename_i D;cases e:agAt env i with
 | none=>rw[e] at h;cases h
 | some x =>
   rw[e,ac] at h;split at h
   ·rename_i ds' q;cases h;exact⟨D,x.1,x.2,rfl,q⟩
   ·cases h
def PartAt.inj{b:Addr}(h:PartAt K H env σ i j a)(h':PartAt K H env σ i j b):a=b:=by
 obtain⟨k,ps,p,us,h1,h2,S,U⟩:=h;obtain⟨k',ps',p',V,I,J,R,D⟩:=h';rw[h1] at I;cases I;rw[h2] at J;cases J;rw[vd S R.o] at D;rw[U] at D;cases D;rfl
def zm2{f:Str}{u:V}(D:fs.Nodup)(h1:fs[j]?=some f)(h2:us[j]?=some u):(fs.zip us).lookup f=some u:=by
 induction fs generalizing us j with
 | nil=>simp at h1
 | cons g r ih =>
   cases us with
   | nil=>simp at h2
   | cons w us =>
     rw[jt,cq];cases j with
     | zero=>simp at h1 h2;subst h1;subst h2;simp
     | succ j =>
       have I:(f==g)=false:=by simp;exact λz=>(bx.mp D).1 (z ▸ bi h1)
       rw[I];exact ih (bx.mp D).2 h1 (by simpa using h2)
variable{cn:Str}
def vj(c:Atr X.K cn m)(an:Ats Nn Cn X)(I:Nn[i]?=some x:=by rfl)(S:fs[j]?=some m:=by rfl)(U:fs.Nodup:=by decide +kernel)(V:attributeBase (.Name x p') m X.env (eval (.Name x p') X.env)=eval (.Name x p') X.env:=by rfl):JPt X G H0 (.Attribute (.Name x p') m pos) (.at (.ins false cn fs)) i j:=let ⟨C,c,Y,Z⟩:=c;⟨(zxm ((an.a I).pe) V).imp λσ H Q b=>by
  obtain⟨W,env,ds,ok,q,k⟩:=b;obtain⟨d,κ,ps,D,e⟩:=zkq q;obtain⟨p,us,a,vs,h1,h2,J,f,g⟩:=ok.part D e;have h:κ=.ins false cn fs:=by
   rcases d with⟨l,ps',z⟩ | ⟨ps',z⟩ <;> (unfold agAt at D;rw[z] at D;cases D;rfl)
  subst h;obtain⟨o,dx,n,R,r⟩:=id h2;rw[Cl.inj n Z] at R;exact⟨_,h1,p,C,dx,_,_,rfl,R,c,Y,zm2 U S J,k a vs ⟨_,ps,p,us,D,h1,h2,J⟩ f g⟩⟩
def yk{ix:Nat}(an:Ats Nn Cn X)(S:Nn[ix]?=some x:=by rfl):JPt X G H0 (.Name x pos) (.al ix) i j :=
 ⟨((an.a S).pe).imp λσ H Q g=>by
  obtain⟨W,env,ds,ok,q,k⟩:=g;obtain⟨⟨κ',r,ps',U,h⟩,κ,ps,V,Y⟩:=zkq q;have J:agAt env i=some (κ',ps'):=by unfold agAt;rw[U]
  rw[J] at V;cases V;obtain⟨v,l,p,as,us,rfl,_,_,m,n,Z⟩:=ok.slot i _ U;obtain⟨u,o,s,b,d,I,R,rfl⟩:=ok.slot ix _ h;obtain⟨a,vs,h1,_,_,h2,t⟩:=Z.get Y;obtain⟨w,e,f⟩:=Z.ix Y;rw[h1] at e;cases e;have D:=m r rfl;have:d=a:=by
   cases κ' with
   | ls=>have D:G.r r=p::as:=D;rw[D] at I;cases I;rw[f] at R;cases R;rfl
   | ins bb c fs =>
     cases bb with
     | true=>have D:G.r r=[p]:=D;rw[D] at I;cases I;simp at R
     | false=>have D:G.r r=p::as:=D;rw[D] at I;cases I;rw[f] at R;cases R;rfl
  subst this;exact⟨_,o,k d vs ⟨_,ps',p,us,J,l,n,h1⟩ h2 t⟩⟩
def pLen(A:Acc)(i j:Nat):FE:=λe=>(ko A i j e).map λds=>(.int ds.length,e)
def zqy(h:JPt X G H0 e A i j)(D:Bn X "len":=by walk_at "b")(I:starEach [e] X.env=(false,eval e X.env)::starEach [] X.env:=by rfl):DEx X G H0 (.Call (.Name "len" p') [e] [] pos) (pLen A i j) :=
 ⟨(yx zhu D.g D.m ut (mn h.out pq I) (by decide) (by decide) I rfl).imp λσ H Q J=>by
  obtain⟨W,env,d,env',ok,q,k⟩:=J;unfold pLen at q;cases e1:ko A i j env with
  | none=>rw[e1] at q;cases q
  | some ds =>
    rw[e1] at q;cases q;exact⟨W,env,ds,ok,e1,λa vs _ R r=>⟨a,vs,rfl,.inl (.inl (.inl R)),by rw[<-r.length];exact k W _ H Step.refl ok (.int _)⟩⟩⟩
structure JK (X:Cx) (e:Expr) (z:Int):Prop where
 out:PE X e (tC (.int z))
variable{z:Int}{jj:Nat}
def zx2:JK X (.Constant (.int z) jj pos) z:=⟨yt⟩
def zx3(h:JK X e z):JK X (.UnaryOp .USub e pos) (-z):=⟨(z1m zxk h.out).imp λσ H Q q=>⟨z,rfl,q⟩⟩
def pIx(A:Acc)(i j:Nat)(z:Int):FE:=λe=>(ko A i j e).bind λds=>(atI ds z).map λd=>(d,e)
def zty(h:JPt X G H0 e A i j)(D:JK X b z)(I:vi b:=by intro _ _;rfl):DEx X G H0 (.Subscript e b pos) (pIx A i j z) :=
 ⟨(yi zme h.out D.out I).imp λσ H Q J=>by
  obtain⟨W,env,d,env',ok,q,k⟩:=J;unfold pIx at q;cases e1:ko A i j env with
  | none=>rw[e1] at q;cases q
  | some ds =>
    rw[e1,ac] at q;cases e2:atI ds z with
    | none=>rw[e2] at q;cases q
    | some d' =>
      rw[e2] at q;cases q;refine⟨W,env,ds,ok,e1,λa vs _ R r=>?_⟩;obtain⟨v,S,U⟩:=wu r e2;exact⟨a,vs,z,v,rfl,rfl,.inl (.inl R),S,k W v H Step.refl ok U⟩⟩
def setP(e:DE0)(i j:Nat)(ds:k9):DE0:=match e[i]? with | some (some (.ag k l ps))=>e.set i (some (.ag k l (ps.set j (.o ds)))) | _=>e
def Ok.setP{K:k4}{W:Addr->Prop}{H:Hp}{env:DE0}{σ:St}{k:AK}{l:Option Nat}{ps:ll}{ds ds':k9}{a:Addr}{vs':k8}(ok:Ok K G H0 W env σ H)(e:env[i]?=some (some (.ag k l ps)))(I:ps[j]?=some (.o ds))(J:PartAt K H env σ i j a)(r:Reps K H (Ow G W) ds' vs') :
  Ok K G H0 W (L2.setP env i j ds') σ (upd H a (.lst vs'))/\Step W H W (upd H a (.lst vs')):=by
 obtain⟨k',ps',p,us,h1,h2,R,S⟩:=J;have:agAt env i=some (k,ps):=by unfold agAt;rw[e]
 rw[this] at h1;cases h1;unfold L2.setP;rw[e];exact ok.turnP e h2 R I S r
def pPop(A:Acc)(i j:Nat):FE:=λe=>match e[i]? with
 | some (some (.ag _ _ _))=>(ko A i j e).bind λds=>(ds[ds.length-1]?).map λd=>(d,setP e i j ds.dropLast)
 | _=>none
variable{p1:Pos}
def zkr(h:JPt X G H0 e A i j)(D:attributeBase e "pop" X.env (eval e X.env)=eval e X.env:=by rfl)(I:(p1.endLine==pos.line)=true:=by rfl) :
  DEx X G H0 (.Call (.Attribute e "pop" p1) [] [] pos) (pPop A i j):=⟨(zxq fm PySem.F.slot_list_pop PySem.F.type_list_pop zxr h.out D I).imp λσ H Q V=>by
 obtain⟨W,env,d,env',ok,q,k⟩:=V;unfold pPop at q;split at q;case h_2=>cases q
 rename_i kk g pp J;cases e1:ko A i j env with
 | none=>rw[e1] at q;cases q
 | some ds =>
   rw[e1,ac] at q;cases e2:ds[ds.length-1]? with
   | none=>rw[e2] at q;cases q
   | some d' =>
     rw[e2] at q;cases q;obtain⟨_,κ,ps,R,Y⟩:=zkq e1;have:agAt env i=some (kk,pp):=by unfold agAt;rw[J]
     rw[this] at R;cases R;refine⟨W,env,ds,ok,e1,λa vs Z S r=>⟨.inl ⟨rfl,_,.inl (.inl S)⟩,?_⟩⟩;obtain⟨u,b,c⟩:=r.get e2;obtain⟨f,U⟩:=ok.setP J Y Z r.dropLast;exact⟨a,vs,u,rfl,rfl,S,by rw[<-r.length];exact b,k W _ _ U f (ok.rep U c)⟩⟩
def labO(k:AK)(l:Option Nat):Prop:=l.isSome=true/\∀c fs,k≠.ins true c fs
instance (k:AK) (l:Option Nat):Decidable (labO k l):=Classical.propDecidable _
variable{l:Option Nat}
def zwg{W1:Addr->Prop}{H1:Hp}{J:DE0}{R:ll}{Z:k9}(u:labO k l)(ok:Ok K G H0 W env σ H)(d:Ok K G H0 W1 J σ H1)(e:env[i]?=some (some (.ag k l ps)))(w:J[i]?=some (some (.ag k l R)))(x:ps[j]?=some (.o ds))(f:R[j]?=some (.o Z))(y:oz R j=oz ps j)(z:PartAt K H env σ i j a):PartAt K H1 J σ i j a:=by
 obtain⟨r,rfl⟩:=j5.mp u.1;obtain⟨v,g,p,as,us,rfl,_,_,h1,A,B⟩:=ok.slot i _ e;obtain⟨L,V,p',S,h,rfl,_,_,m,n,q⟩:=d.slot i _ w;rw[g] at V;cases V;have U:=h1 r rfl;have I:=m r rfl;obtain⟨b,C,E⟩:=B.ix x;obtain⟨M,s,Y⟩:=q.ix f;have F:PartAt K H env σ i j b:=⟨k,ps,p,us,by unfold agAt;rw[e],g,A,C⟩;have ab:=z.inj F;subst ab;have t:S=as:=by
  cases k with
  | ls=>have U:G.r r=p::as:=U;have I:G.r r=p::S:=I;rw[U] at I;cases I;rfl
  | ins bb c fs =>
    cases bb with
    | true=>exact absurd rfl (u.2 c fs)
    | false=>have U:G.r r=p::as:=U;have I:G.r r=p::S:=I;rw[U] at I;cases I;rfl
 subst t;rw[y,E] at Y;cases Y;exact⟨k,R,p,h,by unfold agAt;rw[w],g,n,s⟩
instance (k k':AK):Decidable (k=k'):=Classical.propDecidable _
def appP(i j:Nat)(k0:AK)(I:Option Nat)(n:Nat)(d:D)(e:DE0):Option (D×DE0):=match e[i]? with
 | some (some (.ag k l ps))=>(match ps[j]? with | some (.o ds)=>if k=k0/\l=I/\oz ps j=n/\Few (ds.length+1) then some (.non,setP e i j (ds++[d])) else none | _=>none)
 | _=>none
def qm(A:Acc)(i j:Nat)(f:FE):FE:=λe=>match e[i]? with
 | some (some (.ag k l ps))=>if labO k l then(ko A i j e).bind λ_=>(f e).bind λr=>appP i j k l (oz ps j) r.1 r.2 else none
 | _=>none
variable{a:Expr}
def zg4(h:JPt X G H0 e A i j)(n:DEx X G H0 a f)(I:attributeBase e "append" X.env (eval e X.env)=eval e X.env:=by rfl)(U:((backTo pos (starEach [a] X.env)).all (λx=>!x.1) && (backToKw pos (keywordEach [] X.env)).all (λx=>x.1.isSome)
   && decide ([a].length+([]:List Keyword).length+(if ([]:List Keyword).isEmpty then 0 else 1)<30))=true:=by rfl)(J:(p1.endLine==pos.line)=true:=by rfl)(c:starEach [a] X.env=(false,eval a X.env)::starEach [] X.env:=by rfl) :
  DEx X G H0 (.Call (.Attribute e "append" p1) [a] [] pos) (qm A i j f):=⟨(zvj fm x8 x6 zn2 h.out (mn n.out pq c) I U J c rfl).imp λσ H Q o=>by
 obtain⟨W,env,d,env',ok,q,k⟩:=o;unfold qm at q;split at q;case h_2=>cases q
 rename_i kk O pp g;split at q;case isFalse=>cases q
 rename_i V;cases e1:ko A i j env with
 | none=>rw[e1] at q;cases q
 | some ds =>
   rw[e1,ac] at q;cases e2:f env with
   | none=>rw[e2] at q;cases q
   | some r =>
     rw[e2,ac] at q;unfold appP at q;split at q;case h_2=>cases q
     rename_i k1 P s D;split at q;case h_2=>cases q
     rename_i t R;split at q;case isFalse=>cases q
     rename_i u;obtain⟨rfl,rfl,v,Z⟩:=u;cases q;obtain⟨_,κ,ps,l,w⟩:=zkq e1;have:agAt env i=some (k1,pp):=by unfold agAt;rw[g]
     rw[this] at l;cases l;refine⟨W,env,ds,ok,e1,λad vs y z T=>⟨.inl ⟨rfl,_,.inl (.inl z)⟩,W,env,r.1,r.2,ok,e2,λW1 v1 H1 B S C=>?_⟩⟩;have Y:=zwg V ok S g D w R v y;obtain⟨p,us,a1,b,E,F,K,L,m⟩:=S.part (i:=i) (by unfold agAt;rw[D]) R;have:=Y.inj ⟨_,_,p,us,by unfold agAt;rw[D],E,F,K⟩;subst this;obtain⟨M,N⟩:=S.setP D R Y (m.append (.cons C .nil));exact⟨ad,b,v1,rfl,rfl,L,by rw[<-m.length];exact lt20 (ni Z),k W1 _ _ (B.trans N) M .non⟩⟩
def fDat(i j:Nat):FE:=λe=>match e[i]? with
 | some (some (.ag .ls _ ps))=>(match ps[j]? with | some (.d d)=>some (d,e) | _=>none)
 | some (some (.ro .ls ps))=>(match ps[j]? with | some (.d d)=>some (d,e) | _=>none)
 | _=>none
def zpo(an:Ats Nn Cn X)(D:Nn[i]?=some x:=by rfl)(V:vi (.Constant (.int (j:Int)) jj p1):=by intro _ _;rfl):DEx X G H0 (.Subscript (.Name x p') (.Constant (.int (j:Int)) jj p1) pos) (fDat i j) :=
 ⟨(yi zme ((an.a D).pe) yt V).imp λσ H Q Y=>by
  obtain⟨W,env,d,env',ok,q,k⟩:=Y;unfold fDat at q;split at q
  ·rename_i l ps I
   split at q;case h_2=>cases q
   rename_i d' J;cases q;obtain⟨v,R,p,as,us,rfl,_,_,_,S,U⟩:=ok.slot i _ I;obtain⟨u,h1,h2⟩:=U.getD J;exact⟨_,R,p,us,j,_,rfl,rfl,.inl (.inl S),zs3 h1,k W u H Step.refl ok h2⟩
  ·rename_i ps I
   split at q;case h_2=>cases q
   rename_i d' J;cases q;obtain⟨v,R,p,us,rfl,_,S,U⟩:=ok.slot i _ I;obtain⟨u,h1,h2⟩:=U.getD J;exact⟨_,R,p,us,j,_,rfl,rfl,.inl (.inl S),zs3 h1,k W u H Step.refl ok h2⟩
  ·cases q⟩
def qe(i j:Nat)(f:FE):FS:=λe=>(f e).bind λr=>match r.2[i]? with
 | some (some (.ag .ls l ps))=>(match ps[j]? with | some (.d _)=>some (.nx,r.2.set i (some (.ag .ls l (ps.set j (.d r.1))))) | _=>none)
 | _=>none
variable{p2:Pos}
theorem zks(Y:DEx X G H0 e f)(an:Ats Nn Cn X)(J:Nn[i]?=some x:=by rfl)(Z:swapsWithSole [.Subscript (.Name x p') (.Constant (.int (j:Int)) jj p2) p1] e pos.line X.env=pure false:=by rfl)(b:swappedStores [.Subscript (.Name x p') (.Constant (.int (j:Int)) jj p2) p1] e X.env=pure none:=by rfl)(h1:(assignEach [.Subscript (.Name x p') (.Constant (.int (j:Int)) jj p2) p1] X.env).map (·.2)=[assign (.Subscript (.Name x p') (.Constant (.int (j:Int)) jj p2) p1) X.env]:=by rfl)(D:∀v,assign (.Subscript (.Name x p') (.Constant (.int (j:Int)) jj p2) p1) X.env v=(do
   let ov <-holding [v] (eval (.Name x p') X.env);let iv <-holding [v,ov] (eval (.Constant (.int (j:Int)) jj p2) X.env)
   standAt p1
   holding [v,ov,iv] (setItem ov iv v)
   release [v,ov,iv] []):=by intro _;rfl) :
  DSx X G H0 (.Assign [.Subscript (.Name x p') (.Constant (.int (j:Int)) jj p2) p1] e pos) (qe i j f):=⟨(yq Y.out (zqg ((an.a J).pe) yt zkl D) Z b h1).imp λDn σ H c=>by
 obtain⟨W,env,fl,env',ok,q,k⟩:=c;unfold qe at q;cases e1:f env with
 | none=>rw[e1] at q;cases q
 | some r =>
   rw[e1,ac] at q;split at q;case h_2=>cases q
   rename_i l ps R;split at q;case h_2=>cases q
   rename_i d' S;cases q;refine⟨W,env,r.1,r.2,ok,e1,λW1 v1 H1 d I g=>?_⟩;obtain⟨v,U,p,as,us,rfl,_,_,_,V,h⟩:=I.slot i _ R;obtain⟨u,h1,h2⟩:=h.getD S;obtain⟨m,n⟩:=I.turnD R U V S g;have o:=(aj.mp h1).1;exact⟨_,U,p,us,j,j,rfl,rfl,V,by unfold ixN;rw[if_pos (by lia),if_pos (by lia)];simp,k W1 _ _ (d.trans n) m⟩⟩
abbrev FG:=DE0->Option (Ag×DE0)
def z3d(env:DE0)(σ:St)(H:Hp)(s:Sl)(v:V):Prop:=∀(j:Nat) (s':Sl) (D:V) (a:Addr),env[j]?=some (some s')->σ[j]?=some (some D)->Owns H s v a->¬Owns H s' D a
def tAG(X:Cx)(G:Gd)(H0:Hp)(f:FG):TE:=λσ H Q=>DP X.K G H0 f (λW env x env' =>
 ∀W' p H',Step W H W' H'->Ok X.K G H0 W' env' σ H'->SlOk X.K G W' H' (.ag x.1 none x.2) (.ref p)->z3d env' σ H' (.ag x.1 none x.2) (.ref p)->Q (.ref p) H') σ H
structure JAg (X:Cx) (G:Gd) (H0:Hp) (e:Expr) (f:FG):Prop where
 out:PE X e (tAG X G H0 f)
def yb(i:Nat)(f:FG):FS:=λe=>(f e).map λr=>(.nx,r.2.set i (some (.ag r.1.1 none r.1.2)))
def z9(f:FG):FS:=λe=>(f e).map λr=>(.ra r.1.1 r.1.2,r.2)
def z5v(i:Nat):FS:=λe=>match e[i]? with | some (some (.ag k _ ps))=>some (.ra k ps,e) | _=>none
variable{G':Gd}
def Ok.newA(ok:Ok K G H0 W env σ H)(sm:Same H H')(S:∀a,W' a->H a=none)(u:∀a,W' a->∃m:Mo,H' a=some m.out)(x:∀a,G' a->Ow G W a\/H a=none){k':AK}{p:Addr}(c:∀us,AkOk K H' k p us->AkOk K H' k' p us)(h:SlOk K G' W' H' (.ag k l ps) (.ref p)) :
  Ok K G H0 (λa=>W a\/W' a) env σ H'/\Step W H (λa=>W a\/W' a) H'/\SlOk K G (λa=>W a\/W' a) H' (.ag k' none ps) (.ref p)/\z3d env σ H' (.ag k' none ps) (.ref p):=by
 have st:Step W H (λa=>W a\/W' a) H':=⟨λb o e _=>sm b o e,λa z=>z.imp id (S a)⟩;have D:=ok.same sm;have U:Ok K G H0 (λa=>W a\/W' a) env σ H':=by
  refine⟨D.stay,ok.good,λa z=>?_,λi s e=>?_,D.uniq,ok.len⟩
  ·rcases z with z | z
   ·exact D.wl a z
   ·exact⟨ok.stay.free (S a z),u a z⟩
  ·obtain⟨v,Y,q⟩:=ok.slot i s e
   exact⟨v,Y,ok.slstep st q λa m o Z=>⟨.inl (q.owns o),sm _ _ Z⟩⟩
 obtain⟨p',as,us,e,f,A,F,I,J⟩:=h;cases e;have g:∀(a:Addr) (us:k8),Ow G' W' a->Rd H' a (.lst us)->Ow G (λa=>W a\/W' a) a/\Rd H' a (.lst us):=λa us o q=>⟨by
  rcases x a o.1 with z | z
  ·exact⟨z.1,λy=>y.elim z.2 o.2⟩
  ·exact⟨ok.good a (ok.stay.free z),λy=>y.elim (λw=>by obtain⟨_,m,q⟩:=ok.wl a w;rw[z] at q;cases q) o.2⟩,q⟩
 refine⟨U,st,⟨p,as,us,rfl,.inr f,A,(λn z=>nomatch z),c us I,J.step (λa vs R z=>⟨.inr (J.own R).1,z⟩) (λd v r=>r.mono (λ_ _ h=>h) g) λd v r=>r.mono (λ_ _ h=>h) g⟩,λj s v a Y Z B C=>?_⟩;have E:W' a:=by
  rcases B with o | ⟨p',us',z,q,R⟩
  ·cases o;exact f
  ·cases z
   rw[vd (c us I) q] at R;exact(J.own (J.parts_iff.mp R)).1
 obtain⟨L,t,q⟩:=D.slot j s Y;rw[Z] at t;cases t;obtain⟨_,m,z⟩:=ok.wl a (q.owns C);rw[S a E] at z;cases z
variable{g:FG}{y:XF}
def zqz{y:Str}(I:Tos Nn X)(h:JAg X G H0 e g)(D:Nn[i]?=some y:=by rfl)(R:swapsWith e (some (.Name y p')) pos.line X.env=pure false:=by rfl) :
  DSx X G H0 (.Assign [.Name y p'] e pos) (yb i g):=⟨(zsp (I.t D).nd (I.t D).n (I.t D).l h.out R (I.t D).f).imp λDn σ H S=>by
 obtain⟨W,env,fl,env',ok,q,k⟩:=S;unfold yb at q;cases e1:g env with
 | none=>rw[e1] at q;cases q
 | some r =>
   rw[e1] at q;cases q;exact⟨W,env,r.1,r.2,ok,e1,λW1 p H1 U J sl V=>k W1 _ H1 U (J.put sl V)⟩⟩
def zwi(h:JAg X G H0 e g):DSx X G H0 (.Return (some e) pos) (z9 g):=⟨(yr h.out).imp λDn σ H I=>by
 obtain⟨W,env,fl,env',ok,q,k⟩:=I;unfold z9 at q;cases e1:g env with
 | none=>rw[e1] at q;cases q
 | some r =>
   rw[e1] at q;cases q;exact⟨W,env,r.1,r.2,ok,e1,λW1 p H1 J D sl R=>k W1 σ p H1 J D sl⟩⟩
def gSp(K:k4)(m:k9->Option Ag)(x:k9->kb):Sp:=λvs H Q E=>∃O ds,Reps K H O ds vs /\
 ((∃y,m ds=some y/\∀(W':Addr->Prop) p H',Same H H'->(∀a,W' a->H a=none)->(∀a,W' a->∃m:Mo,H' a=some m.out)->SlOk K (gd λa=>O a\/H a=none) W' H' (.ag y.1 none y.2) (.ref p)->Q (.ref p) H')\/∃c,x ds=some c/\∀C H',Cl K c C->Same H H'->E (.ref C) none H')
def runG(n ar:Nat)(g:FS):k9->Option Ag:=λds=>if ds.length=ar then(match g (iz n ds) with | some (.ra k ps,_)=>some (k,ps) | _=>none) else none
def xG(n ar:Nat)(g:FS):k9->kb:=λds=>if ds.length=ar then(match g (iz n ds) with | some (.xc c,_)=>some c | _=>none) else none
variable{k:Nat}{ps:g9}{g:FP}
theorem z5d{f:Addr}{g:FS}(F:Fun K x qual st f fd)(S:pz N ps (fx st))(U:n=N.length)(V:ar=ps.length)(I:∀(cdv:Value) (A:Around) (outer:i0) (s:Shared) (H:Hp) (E:XK) (G:Gd) (H0:Hp),Room k (A.deeper (envOfC qual (fx st) s.heap.objs.size f cdv)) ->
   DBx (cxOf (CXr P w) P w K mg base N qual (fx st) f cdv A outer s H E) G H0 (lg st) g):FnOk P w K mg base (CXr P w) (k+1) f fd ps (gSp K (runG n ar g) (xG n ar g)):=by
 subst U V;refine F.okX S (λvs H Q E h=>?_) (λcdv A outer s H vs Q E Y h=>?_)
 ·obtain⟨O,ds,r,h⟩:=h
  rw[<-r.length];rcases h with⟨y,e,_⟩ | ⟨c,e,_⟩
  ·unfold runG at e;split at e
   ·assumption
   ·cases e
  ·unfold xG at e;split at e
   ·assumption
   ·cases e
 ·obtain⟨O,ds,r,h⟩:=h
  refine⟨_,(I cdv A outer s H E (gd λa=>O a\/H a=none) H Y).out,?_⟩;rcases h with⟨y,e,k⟩ | ⟨c,e,k⟩
  ·unfold runG at e
   split at e;case isFalse=>cases e
   split at e
   ·rename_i k' ps' env' J
    cases e;exact⟨NoW,_,_,env',um r,J,λW' R p H' st D sl=>k W' p H' D.stay (λa z=>(st.ws a z).elim (λz=>z.elim) id) (λa z=>(D.wl a z).2) sl⟩
   ·cases e
  ·unfold xG at e
   split at e;case isFalse=>cases e
   split at e
   ·rename_i d env' J
    cases e;exact⟨NoW,_,_,env',um r,J,λW' R H' Z b st D pins e s' xs=>zjw xs (k Z H' b D.stay)⟩
   ·cases e
def zq0(m:k9->Option Ag)(F:FA):FG:=λe=>(F e).bind λr=>(m r.1).map λy=>(y,r.2)
def zwj{m:k9->Option Ag}{xx:k9->kb}(c:Cal X.prog X.w X.K X.mg X.base (CXr X.prog X.w) x k (gSp X.K m xx))(U:Room jr X.A)(V:DAx X G H0 (e::es) F)(I:k<=jr:=by decide)(Y:Gl X x:=by walk_at "g")(Z:starEach (e::es) X.env=(false,eval e X.env)::starEach es X.env:=by rfl)(J:(backTo pos (starEach es X.env)).any (·.1)=false:=by rfl) :
  JAg X G H0 (.Call (.Name x p') (e::es) [] pos) (zq0 m F):=let ⟨_,_,_,b,d,f,g,R⟩:=c;⟨(yw b (U.mono I) Y d f g V.out R Z J).imp λσ H Q h=>by
 obtain⟨W,env,y,env',ok,q,k⟩:=h;unfold zq0 at q;cases e1:F env with
 | none=>rw[e1] at q;cases q
 | some r =>
   rw[e1,ac] at q;cases e2:m r.1 with
   | none=>rw[e2] at q;cases q
   | some y' =>
     rw[e2] at q;cases q;refine⟨W,env,r.1,r.2,ok,e1,λW1 vs H1 i S j=>⟨Ow G W1,r.1,j,.inl ⟨_,e2,λW' p H' sm l n sl=>?_⟩⟩⟩;obtain⟨o,s,t,u⟩:=S.newA sm l n (λa z=>z) (k':=y.1) (λus z=>z) sl;exact k _ p H' (i.trans s) o t u⟩
def yh(c:Str)(m:lx->k9->l0)(F:FA):FG:=λe=>(F e).bind λr=>(m [(.ins true c [],[])] r.1).bind λq=>match q with
 | (.non,[(.ins true c' fs,ps)])=>some ((.ins false c' fs,ps),r.2)
 | _=>none
def zt1{D dx:Addr}(ok:Ok K G H0 W env σ H)(S:Cl K cn C)(h1:H D=none)(h2:H dx=none)(d:dx≠D)(r:Reps K H (Ow G W) ds vs) :
  Same H (upd (upd H dx (.own D)) D (.ins C dx [])) /\
  Ok K ⟨Ow G W,λ_=>[D]⟩ (mask (upd (upd H dx (.own D)) D (.ins C dx [])) (λb=>b=D)) (λb=>b=D) (m7 [(.ins true cn [],[])]) [some (.ref D)] (upd (upd H dx (.own D)) D (.ins C dx [])) /\
  Reps K (upd (upd H dx (.own D)) D (.ins C dx [])) (Ow ⟨Ow G W,λ_=>[D]⟩ (λb=>b=D)) ds vs:=by
 have sm:Same H (upd (upd H dx (.own D)) D (.ins C dx [])):=λb o e=>by rw[gg (m6 e h1),gg (m6 e h2)];exact e
 have J:∀a,H a=none->Ow G W a:=λa z=>⟨ok.good a (ok.stay.free z),λw=>by obtain⟨_,m,q⟩:=ok.wl a w;rw[z] at q;cases q⟩;refine⟨sm,⟨λa o e=>(zol e).2,λa e=>?_,λa e=>⟨zmw e,.i C dx [],by rw[show a=D from e,j0]⟩,λI s e=>?_,λI U s s' v f b V Y g j k l=>?_,rfl⟩,?_⟩
 ·rcases zom e with z | z
  ·rw[show a=D from z];exact J D h1
  ·refine J a ?_
   by_cases y:a=D
   ·rw[y];exact h1
   ·rw[gg y] at z
    by_cases R:a=dx
    ·rw[R];exact h2
    ·rwa [gg R] at z
 ·obtain⟨p,q,rfl⟩:=zkp e
  cases I with
  | zero =>
    simp at q;subst q;exact⟨.ref D,rfl,D,[],[],rfl,rfl,by simp,λn _=>rfl,⟨C,dx,S,j0,rfl⟩,.nil⟩
  | succ n=>simp at q
 ·obtain⟨_,Z,_⟩:=zkp V
  obtain⟨_,c,_⟩:=zkp Y;cases I with
  | zero=>cases U with
    | zero=>rfl
    | succ n=>simp at c
  | succ n=>simp at Z
 ·refine r.mono (λa u z=>sm _ _ z) λa us o h=>⟨⟨o,λz=>?_⟩,h.keep λo z=>sm _ _ z⟩
  rw[show a=D from z] at h;rcases h with h | ⟨_,h⟩ <;> (have h2:=h1.symm.trans h;cases h2)
def zwk{m:lx->k9->l0}(c:KCal X.prog X.w X.K X.mg X.base x k (lSp X.K m xx))(U:Room jr X.A)(j:DAx X G H0 (e::es) F)(V:k+1<=jr:=by decide)(n:Gl X x:=by walk_at "g")(s:starEach (e::es) X.env=(false,eval e X.env)::starEach es X.env:=by rfl)(Y:(backTo pos (starEach es X.env)).any (·.1)=false:=by rfl) :
  JAg X G H0 (.Call (.Name x p') (e::es) [] pos) (yh x m F):=let ⟨_,_,_,_,M,t,u,B,C,Z⟩:=c;⟨(zwc M t (U.mono V) n u B j.out Z s Y).imp λσ H Q E=>by
 obtain⟨W,env,y,env',ok,q,k⟩:=E;unfold yh at q;cases e1:F env with
 | none=>rw[e1] at q;cases q
 | some r =>
   rw[e1,ac] at q;cases e2:m [(.ins true x [],[])] r.1 with
   | none=>rw[e2] at q;cases q
   | some z =>
     rw[e2,ac] at q;split at q;case h_2=>cases q
     rename_i h J ps';cases q;refine⟨W,env,r.1,r.2,ok,e1,λW1 vs H1 L R N I dx h1 h2 O=>?_⟩;obtain⟨sm,d,U⟩:=zt1 R C h1 h2 O N;refine⟨_,_,_,_,[.ref I],r.1,vs,rfl,rfl,d,U,.inl ⟨_,_,e2,λW' en P v H' st S T rp=>⟨rp.non_,?_⟩⟩⟩;have hs:=T 0 _ rfl;obtain⟨v',z1,i⟩:=S.slot 0 _ hs;have ev:v'=.ref I:=by
      obtain⟨p,as,us,rfl,_,_,f,_⟩:=i;have f:([I]:ia)=[p]:=f 0 rfl;cases f;rfl
     subst ev;have g:Same H1 H':=λb o z=>st.keep b o (sm b o z) λy=>by rw[show b=I from y,h1] at z;cases z
     have hn:∀a,W' a->H1 a=none:=λa z=>by
      rcases st.ws a z with y | y
      ·rw[show a=I from y];exact h1
      ·cases q:H1 a with
       | none=>rfl
       | some o=>rw[sm a o q] at y;cases y
     obtain⟨w1,w2,w3,w4⟩:=R.newA (G':=⟨Ow G W1,λ_=>[I]⟩) (k:=.ins true h J) (l:=some 0) (ps:=ps') (p:=I) (k':=.ins false h J) g hn (λa z=>(S.wl a z).2) (λa z=>.inl z) (λus z=>z) i;exact k _ I H' (L.trans w2) w1 w3 w4⟩
mutual
def noL:D->Bool
 | .lst _=>false
 | .dct _ _=>false
 | .tup ds=>noLs ds
 | _=>true
def noLs:k9->Bool
 | []=>true
 | d::r=>noL d && noLs r
end
def Rep.noL{d:D}{v:V}:Rep K H O d v->L2.noL d=true->Rep K H O' d v :=
 Rep.rec (motive_1:=λd v _=>L2.noL d=true->Rep K H O' d v) (motive_2:=λds vs _=>L2.noLs ds=true->Reps K H O' ds vs) (λ_=>.non) (λb _=>.bl b) (λb _=>.int b) (λb _=>.str b) (λh _ q e=>.tup h (q (by rw[L2.noL] at e;exact e))) (λ_ _ _ _ e=>by rw[L2.noL] at e;cases e) (λ_ _ _ e=>by rw[L2.noL] at e;cases e) (λ_ _ _ e=>by rw[L2.noL] at e;cases e) (λa _=>.exc a) (λ_=>.nil) λ_ _ p q e=>by rw[L2.noLs,dr] at e;exact .cons (p e.1) (q e.2)
def Reps.noLs{ds:k9}{vs:k8}:Reps K H O ds vs->L2.noLs ds=true->Reps K H O' ds vs :=
 Reps.ind (P:=λds vs=>L2.noLs ds=true->Reps K H O' ds vs) (λ_=>.nil) λr _ q e=>by rw[L2.noLs,dr] at e;exact .cons (r.noL e.1) (q e.2)
def ptD:Pt->D | .d d=>d | .o ds=>.lst ds
def rn(r:Nat):DE0->Option ll
 | []=>none
 | some (.ag .ls (some r') ps)::e=>if r'=r then some ps else rn r e
 | _::e=>rn r e
def t4:ll->Nat->Option k9
 | .o ds::_,0=>some ds
 | .o _::r,j+1=>t4 r j
 | .d _::r,j=>t4 r j
 | [],_=>none
def z8(b:Bool)(ps:ll):ll:=if b=true then ps.map λp=>.d (ptD p) else ps
def frz1(b:Bool)(env:DE0):ln->ln
 | some (.sh d)=>some (.sh d)
 | some (.ow ds)=>some (.sh (.lst ds))
 | some (.o2 dss)=>some (.sh (.lst (dss.map D.lst)))
 | some (.ag .ls _ ps)=>some (.sh (.lst (ps.map ptD)))
 | some (.ag k _ ps)=>some (.ro k (z8 b ps))
 | some (.ro .ls ps)=>some (.sh (.lst (ps.map ptD)))
 | some (.ro k ps)=>some (.ro k (z8 b ps))
 | some (.al r j)=>(rn r env).bind λps=>(t4 ps j).map λds=>.sh (.lst ds)
 | none=>none
def frz(b:Bool)(env:DE0):DE0:=env.map (frz1 b env)
def AllG(r:Nat->ia):Gd:=⟨λ_=>True,r⟩
def zj2{r:Nat}{ps:ll}:∀ {env:DE0},rn r env=some ps->∃i:Nat,env[i]?=some (some (Sl.ag AK.ls (some r) ps))
 | x::e,h=>by
   unfold rn at h;split at h
   ·rename_i D;cases D
   ·rename_i J ps' e' q
    cases q;split at h
    ·rename_i I;cases h;subst I;exact⟨0,rfl⟩
    ·obtain⟨i,z⟩:=zj2 h;exact⟨i+1,by simpa using z⟩
   ·rename_i q
    cases q;obtain⟨i,z⟩:=zj2 h;exact⟨i+1,by simpa using z⟩
variable{a:Addr}{ps:ll}
def zwm(h:PtsOk K G W H ps as us)(e:t4 ps j=some ds)(ea:as[j]?=some a):∃vs,H a=some (.lst vs)/\Reps K H (Ow G W) ds vs:=by
 induction h generalizing j with
 | nil=>cases e
 | d _ _ ih=>exact ih e ea
 | o hW hl r _ ih =>
   cases j with
   | zero=>cases e;simp at ea;subst ea;exact⟨_,hl,r⟩
   | succ j=>exact ih (j:=j) e (by simpa using ea)
def PtsRo.all(h:PtsRo K G W H ps us)(D:∀a,O a):Reps K H O (ps.map ptD) us:=by
 induction h with
 | nil=>exact .nil
 | d r _ ih=>exact .cons ((lv λa _=>D a).1 _ _ r) ih
 | o _ hl r _ ih=>exact .cons (.lst (D _) (.inl hl) ((lv λa _=>D a).2 _ _ r)) ih
def PtsRo.roG(h:PtsRo K G W H ps us)(D:∀a,Ow G W a->Ow G' NoW a):PtsRo K G' NoW H ps us :=
 h.step (λa vs _ z=>⟨λz=>z,z⟩) (λd v q=>(lv D).1 d v q) λd v q=>(lv D).2 d v q
def PtsOk.toRo(h:PtsOk K G W H ps as us)(D:∀a,Ow G W a->Ow G' NoW a):PtsRo K G' NoW H ps us :=
 PtsRo.roG (W:=NoW) (G:=gd (Ow G W)) h.ro λa z=>D a z.1
def PtsRo.dat(h:PtsRo K G W H ps us)(D:∀a,Ow G W a):PtsRo K G W H (ps.map λp=>.d (ptD p)) us:=by
 induction h with
 | nil=>exact .nil
 | d r _ ih=>exact .d r ih
 | o _ hl r _ ih=>exact .d (.lst (D _) (.inl hl) r) ih
def PtsRo.roB(b:Bool)(h:PtsRo K G W H ps us)(D:∀a,Ow G W a):PtsRo K G W H (z8 b ps) us:=by
 unfold z8;split
 ·exact h.dat D
 ·exact h
def Ok.freeze(b:Bool)(ok:Ok K G H0 W env σ H):Ok K (AllG G.r) H NoW (frz b env) σ H:=by
 have S:∀a,Ow G W a->Ow (AllG G.r) NoW a:=λa _=>⟨trivial,λz=>z⟩;have all:∀a,Ow (AllG G.r) NoW a:=λa=>⟨trivial,λz=>z⟩;have U:∀(i:Nat) (s:Sl),(frz b env)[i]?=some (some s)->∃I,env[i]?=some (some I)/\frz1 b env (some I)=some s:=λi s e=>by
  unfold frz at e;rw[b7] at e;cases q:env[i]? with
  | none=>rw[q] at e;cases e
  | some o =>
    rw[q] at e;cases o with
    | none=>cases e
    | some I=>exact⟨I,rfl,by simpa using e⟩
 refine⟨Same.refl _,λa _=>trivial,λl z=>z.elim,λi s e=>?_,λi j s s' v u a D _ C _ o _=>?_,by unfold frz;rw[ah];exact ok.len⟩
 ·obtain⟨I,t,D⟩:=U i s e
  obtain⟨v,w,h⟩:=ok.slot i I t;refine⟨v,w,?_⟩;cases I with
  | sh d=>cases D;exact(lv S).1 _ _ h
  | ow ds=>cases D;obtain⟨l,vs,rfl,Z,J,r⟩:=h;exact .lst (all l) (.inl J) ((lv S).2 _ _ r)
  | o2 dss =>
    cases D;obtain⟨l,ls,rfl,Z,J,x,hi⟩:=h;exact .lst (all l) (.inl J) (zmj (W':=NoW) (G:=AllG G.r) (W:=W) ⟨hi.1,λj ds a Y f=>let ⟨g,vs,m,A⟩:=hi.2 j ds a Y f;⟨g,vs,m,(lv λb z=>⟨trivial,z.2⟩).2 _ _ A⟩⟩ (λa _ _=>all a) λds vs r=>(lv λb _=>all b).2 _ _ r)
  | ag k l ps =>
    obtain⟨p,as,us,rfl,Z,x,J,V,R⟩:=h;cases k with
    | ls=>cases D;exact .lst (all p) (.inl V) ((R.toRo S).all all)
    | ins _ c fs=>cases D;exact⟨p,us,rfl,λz=>z,V,(R.toRo S).roB b all⟩
  | ro k ps =>
    obtain⟨p,us,rfl,Z,V,R⟩:=h;cases k with
    | ls=>cases D;exact .lst (all p) (.inl V) (R.all all)
    | ins _ c fs=>cases D;exact⟨p,us,rfl,λz=>z,V,(R.roG S).roB b all⟩
  | al r j =>
    have D:((rn r env).bind λps=>(t4 ps j).map λds=>Sl.sh (.lst ds))=some s:=D;cases q1:rn r env with
    | none=>rw[q1] at D;cases D
    | some ps =>
      rw[q1,ac] at D;cases q2:t4 ps j with
      | none=>rw[q2] at D;cases D
      | some ds =>
        rw[q2] at D;cases D;obtain⟨p,as,a,Y,f,rfl⟩:=h;obtain⟨B,y⟩:=zj2 q1;obtain⟨u,E,p',n,us,rfl,_,_,J,_,R⟩:=ok.slot B _ y;have J:G.r r=p'::n:=J r rfl;rw[J] at Y;cases Y;obtain⟨vs,g,m⟩:=zwm R q2 f;exact .lst (all a) (.inl g) ((lv S).2 _ _ m)
 ·obtain⟨I,t,D⟩:=U i s D
  cases I with
  | sh d=>cases D;exact o.elim
  | ow d=>cases D;exact o.elim
  | o2 d=>cases D;exact o.elim
  | ag k l ps=>cases k <;> (cases D;exact o.elim)
  | ro k ps=>cases k <;> (cases D;exact o.elim)
  | al r j =>
    have D:((rn r env).bind λps=>(t4 ps j).map λds=>Sl.sh (.lst ds))=some s:=D;cases q1:rn r env with
    | none=>rw[q1] at D;cases D
    | some ps =>
      rw[q1,ac] at D;cases q2:t4 ps j with
      | none=>rw[q2] at D;cases D
      | some ds=>rw[q2] at D;cases D;exact o.elim
def Step.noW(s:Step NoW H W' H'):Same H H':=λb o e=>s.keep b o e λz=>z
def fFrz(b:Bool)(f:FE):FE:=λe=>(f (frz b e)).bind λr=>if noL r.1=true then some (r.1,e) else none
def rk(b:Bool)(f:FA):FA:=λe=>(f (frz b e)).bind λr=>if noLs r.1=true then some (r.1,e) else none
def xFrz(b:Bool)(x:XF):XF:=λe=>(x (frz b e)).map λr=>(r.1,e)
variable{b:Bool}
def ug(h:∀G H0,DEx X G H0 e f):DEx X G H0 e (fFrz b f):=⟨λpins s σ H Q I D=>by
 obtain⟨W,env,d,env',ok,q,k⟩:=D;unfold fFrz at q;cases e1:f (frz b env) with
 | none=>rw[e1] at q;cases q
 | some r =>
   rw[e1,ac] at q;split at q;case isFalse=>cases q
   rename_i J;cases q;refine(h (AllG G.r) H).out pins s σ H Q I ⟨NoW,frz b env,r.1,r.2,ok.freeze b,e1,λW' v H' st R S=>?_⟩;exact k W v H' (Step.same st.noW) (ok.same st.noW) (S.noL J)⟩
def zt2(h:∀G H0,DFx X G H0 e F):DFx X G H0 e (rk b F):=⟨λpins s σ H Q I R=>by
 obtain⟨W,env,d,env',ok,q,k⟩:=R;unfold rk at q;cases e1:F (frz b env) with
 | none=>rw[e1] at q;cases q
 | some r =>
   rw[e1,ac] at q;split at q;case isFalse=>cases q
   rename_i S;cases q;refine(h (AllG G.r) H).out pins s σ H Q I ⟨NoW,frz b env,r.1,r.2,ok.freeze b,e1,λW' l vs H' st U V f J Y=>?_⟩;have D:H l=none:=(st.ws l (.inr rfl)).elim (λz=>z.elim) id;obtain⟨Z,g,a,c⟩:=ok.fresh0 (H':=H') st.noW D J;exact k W l vs H' c (ok.same st.noW) a Z J (Y.noLs S)⟩
def zq1(h:∀G H0,JX X G H0 e y):JX X G H0 e (xFrz b y):=⟨λpins s σ H Q I D=>by
 obtain⟨W,env,c,env',ok,q,k⟩:=D;unfold xFrz at q;cases e1:y (frz b env) with
 | none=>rw[e1] at q;cases q
 | some r =>
   rw[e1] at q;cases q;exact(h (AllG G.r) H).out pins s σ H Q I ⟨NoW,frz b env,r.1,r.2,ok.freeze b,e1,λW' H' C J st R=>k W H' C J (Step.same st.noW) (ok.same st.noW)⟩⟩
def Ok.newW(ok:Ok K G H0 W env σ H)(sm:Same H H')(I:∀a,W' a->H a=none)(J:∀a,W' a->∃m:Mo,H' a=some m.out):Ok K G H0 (λa=>W a\/W' a) env σ H'/\Step W H (λa=>W a\/W' a) H':=by
 have st:Step W H (λa=>W a\/W' a) H':=⟨λb o e _=>sm b o e,λa z=>z.imp id (I a)⟩;have D:=ok.same sm;refine⟨⟨D.stay,ok.good,λa z=>?_,λi s e=>?_,D.uniq,ok.len⟩,st⟩
 ·rcases z with z | z
  ·exact D.wl a z
  ·exact⟨ok.stay.free (I a z),J a z⟩
 ·obtain⟨v,R,q⟩:=ok.slot i s e
  exact⟨v,R,ok.slstep st q λa m o S=>⟨.inl (q.owns o),sm _ _ S⟩⟩
def frs1:ln->ln
 | some (.sh d)=>some (.sh d)
 | some (.ag k _ ps)=>some (.ro k ps)
 | some (.ro k ps)=>some (.ro k ps)
 | _=>none
def frsE(env:DE0):DE0:=env.map frs1
def OwG(G:Gd)(W:Addr->Prop)(H:Hp):Gd:=⟨λa=>Ow G W a\/H a=none,G.r⟩
def Ok.freezeS(ok:Ok K G H0 W env σ H):Ok K (OwG G W H) H NoW (frsE env) σ H:=by
 have R:∀a,Ow G W a->Ow (OwG G W H) NoW a:=λa z=>⟨.inl z,λz=>z⟩;have J:∀(i:Nat) (s:Sl),(frsE env)[i]?=some (some s)->∃I,env[i]?=some (some I)/\frs1 (some I)=some s:=λi s e=>by
  unfold frsE at e;rw[b7] at e;cases q:env[i]? with
  | none=>rw[q] at e;cases e
  | some o =>
    rw[q] at e;cases o with
    | none=>cases e
    | some I=>exact⟨I,rfl,by simpa using e⟩
 refine⟨Same.refl _,λa z=>.inr z,λl z=>z.elim,λi s e=>?_,λi j s s' v b a D _ c _ o _=>?_,by unfold frsE;rw[ah];exact ok.len⟩
 ·obtain⟨I,V,D⟩:=J i s e
  obtain⟨v,Y,h⟩:=ok.slot i I V;refine⟨v,Y,?_⟩;cases I with
  | sh d=>cases D;exact(lv R).1 _ _ h
  | ow ds=>cases D
  | o2 dss=>cases D
  | ag k l ps=>cases D;obtain⟨p,as,us,rfl,Z,f,g,S,U⟩:=h;exact⟨p,us,rfl,λz=>z,S,U.toRo R⟩
  | ro k ps=>cases D;obtain⟨p,us,rfl,Z,S,U⟩:=h;exact⟨p,us,rfl,λz=>z,S,U.roG R⟩
  | al r j=>cases D
 ·obtain⟨I,V,D⟩:=J i s D
  cases I <;> cases D <;> exact o.elim
def PtsOk.length(h:PtsOk K G W H ps as us):ps.length=us.length:=by
 induction h with
 | nil=>rfl
 | d _ _ ih=>rw[ak,ak,ih]
 | o _ _ _ _ ih=>rw[ak,ak,ih]
abbrev FP:=DE0->Option ll
def tPs(X:Cx)(G:Gd)(H0:Hp)(f:FP):TA:=λσ H Q=>∃W env ps,Ok X.K G H0 W env σ H/\f env=some ps /\
 ∀as us H',Same H H'->as.Nodup->(∀a∈as,H a=none)->PtsOk X.K (OwG G W H) (λa=>a∈as) H' ps as us->Q us H'
structure JPs (X:Cx) (G:Gd) (H0:Hp) (es:ka) (f:FP):Prop where
 out:PA X es (tPs X G H0 f)
def pNil:FP:=λ_=>some []
def pCd(f:FE)(g:FP):FP:=λe=>(f (frsE e)).bind λr=>(g e).map λt=>.d r.1::t
def pCo(F:FA)(g:FP):FP:=λe=>(F (frsE e)).bind λr=>(g e).map λt=>.o r.1::t
def Rd.some{u:HO}(h:Rd H a u):H a≠none:=λz=>by rcases h with h | ⟨_,h⟩ <;> rw[z] at h <;> cases h
def zzx  : JPs X G H0 [] pNil:=⟨pq.imp λσ H Q D=>by
 obtain⟨W,env,ps,ok,q,k⟩:=D;cases q;exact k [] [] H (Same.refl _) .nil (λa z=>by cases z) .nil⟩
def z3e(h:∀G H0,DEx X G H0 e f)(J:JPs X G H0 es g)(R:starEach (e::es) X.env=(false,eval e X.env)::starEach es X.env:=by rfl):JPs X G H0 (e::es) (pCd f g):=⟨λpos pins s σ H Q I S=>by
 obtain⟨W,env,ps,ok,q,k⟩:=S;unfold pCd at q;cases e1:f (frsE env) with
 | none=>rw[e1] at q;cases q
 | some r =>
   rw[e1,ac] at q;cases e2:g env with
   | none=>rw[e2] at q;cases q
   | some t =>
     rw[e2] at q;cases q;refine(mn (h (OwG G W H) H).out J.out R) pos pins s σ H Q I ⟨NoW,frsE env,r.1,r.2,ok.freezeS,e1,λW1 v H1 st U V=>?_⟩;refine⟨W,env,t,ok.same st.noW,e2,λas us H2 sm Y D Z=>?_⟩;refine k as (v::us) H2 (st.noW.trans sm) Y (λa z=>st.noW.free (D a z)) (.d (V.mono (λa u z=>sm _ _ z) λa vs o z=>⟨⟨o.1,λy=>z.some (D a y)⟩,z.keep λo y=>sm _ _ y⟩) (Z.step (λa vs b z=>⟨b,z⟩) (λd v q=>(lv ?_).1 d v q) λd v q=>(lv ?_).2 d v q)) <;>
     exact λa z=>⟨z.1.imp id λy=>st.noW.free y,z.2⟩⟩
def z3f(h:∀G H0,DFx X G H0 e F)(Y:JPs X G H0 es g)(Z:starEach (e::es) X.env=(false,eval e X.env)::starEach es X.env:=by rfl):JPs X G H0 (e::es) (pCo F g):=⟨λpos pins s σ H Q I b=>by
 obtain⟨W,env,ps,ok,q,k⟩:=b;unfold pCo at q;cases e1:F (frsE env) with
 | none=>rw[e1] at q;cases q
 | some r =>
   rw[e1,ac] at q;cases e2:g env with
   | none=>rw[e2] at q;cases q
   | some t =>
     rw[e2] at q;cases q;refine(mn (h (OwG G W H) H).out Y.out Z) pos pins s σ H Q I ⟨NoW,frsE env,r.1,r.2,ok.freezeS,e1,λW1 l vs H1 st c f A D i=>?_⟩;have U:H l=none:=(st.ws l (.inr rfl)).elim (λz=>z.elim) id;obtain⟨J,_⟩:=ok.newW (W':=λa=>a=l) st.noW (λa z=>by rw[z];exact U) λa z=>⟨.l vs,by rw[z];exact D⟩;refine⟨_,env,t,J,e2,λas us H2 sm j R m=>?_⟩;have S:l∉as:=λz=>by rw[R l z] at D;cases D
     have h1:∀a∈l::as,H a=none:=λa z=>by
      rcases cb.mp z with rfl | z
      ·exact U
      ·exact st.noW.free (R a z)
     have n:Reps X.K H2 (Ow (OwG G W H) λa=>a∈l::as) r.1 vs:=i.mono (λa u z=>sm _ _ z) λa vs o z=>by
      refine⟨⟨o.1,λy=>?_⟩,z.keep λo y=>sm _ _ y⟩;rcases cb.mp y with y | y
      ·exact o.2 (.inr y)
      ·exact z.some (R a y)
     have V:∀a,Ow (OwG G (λa=>W a\/a=l) H1) (λa=>a∈as) a->Ow (OwG G W H) (λa=>a∈l::as) a:=λa o=>by
      have p:a≠l:=λz=>by
       rcases o.1 with y | y
       ·exact y.2 (.inr z)
       ·rw[z,D] at y;cases y
      refine⟨o.1.imp (λy=>⟨y.1,λw=>y.2 (.inl w)⟩) λy=>st.noW.free y,λy=>?_⟩;rcases cb.mp y with y | y
      ·exact p y
      ·exact o.2 y
     exact k (l::as) (.ref l::us) H2 (st.noW.trans sm) (bx.mpr ⟨S,j⟩) h1 (.o bn (sm _ _ D) n (m.step (λa vs x z=>⟨ax _ x,z⟩) (λd v q=>(lv V).1 d v q) λd v q=>(lv V).2 d v q))⟩
def fAgL(g:FP):FG:=λe=>(g e).bind λps=>if ps.length<=64 then some ((.ls,ps),e) else none
theorem zzy(h:JPs X G H0 es g):JAg X G H0 (.List es pos) (fAgL g):=⟨(zxn h.out).imp λσ H Q R=>by
 obtain⟨W,env,x,env',ok,q,k⟩:=R;unfold fAgL at q;cases e1:g env with
 | none=>rw[e1] at q;cases q
 | some ps =>
   rw[e1,ac] at q;split at q;case isFalse=>cases q
   cases q;refine⟨W,env,ps,ok,e1,λas us H1 sm S U J=>⟨?_,λp I=>?_⟩⟩
   ·rw[<-J.length,sizeLine_eq];lia
   ·have D:Same H1 (upd H1 p (.lst us)):=oh I
    have V:p∉as:=λz=>by obtain⟨_,vs,y⟩:=J.own z;rw[I] at y;cases y
    have sl:SlOk X.K (OwG G W H) (λa=>a=p\/a∈as) (upd H1 p (.lst us)) (.ag .ls none ps) (.ref p):=by
     refine⟨p,as,us,rfl,.inl rfl,bx.mpr ⟨V,S⟩,(λn z=>nomatch z),j0,J.step (λa vs Y z=>⟨.inr Y,D _ _ z⟩) (λd v q=>q.mono (λa u z=>D _ _ z) ?_) λd v q=>q.mono (λa u z=>D _ _ z) ?_⟩ <;>
     exact λa vs o z=>⟨⟨o.1,λy=>y.elim (λy=>z.some (y ▸ I)) o.2⟩,z.keep λo y=>D _ _ y⟩
    have Z:∀a,a=p\/a∈as->H a=none:=λa z=>by
     rcases z with rfl | z
     ·exact sm.free I
     ·exact U a z
    have b:∀a,a=p\/a∈as->∃m:Mo,upd H1 p (.lst us) a=some m.out:=λa z=>by
     rcases z with rfl | z
     ·exact⟨.l us,j0⟩
     ·obtain⟨_,vs,y⟩:=J.own z
      exact⟨.l vs,D _ _ y⟩
    obtain⟨c,e,f,i⟩:=ok.newA (k':=.ls) (sm.trans D) Z b (λa z=>z) (λus z=>z) sl;exact k _ p _ e c f i⟩
def nz(κ:AK)(i j:Nat):FE:=λe=>if isK κ e i then(agAt e i).bind λx=>(match x.2[j]? with | some (.d d)=>some (d,e) | _=>none) else none
def su(c:Atr X.K cn m)(an:Ats Nn Cn X)(J:Nn[i]?=some x:=by rfl)(U:fs[j]?=some m:=by rfl)(V:fs.Nodup:=by decide +kernel)(e:attributeBase (.Name x p') m X.env (eval (.Name x p') X.env)=eval (.Name x p') X.env:=by rfl):DEx X G H0 (.Attribute (.Name x p') m pos) (nz (.ins false cn fs) i j):=let ⟨C,c,Y,Z⟩:=c;⟨(zxm ((an.a J).pe) e).imp λσ H Q f=>by
  obtain⟨W,env,d,env',ok,q,k⟩:=f;unfold nz at q;split at q;case isFalse=>cases q
  rename_i g;cases D:agAt env i with
  | none=>rw[D] at q;cases q
  | some y =>
    rw[D,ac] at q;split at q;case h_2=>cases q
    rename_i d' b;cases q;rcases g with⟨l,ps',z⟩ | ⟨ps',z⟩
    ·have D:some (AK.ins false cn fs,ps')=some y:=by unfold agAt at D;rw[z] at D;exact D
     cases D;obtain⟨v,D,p,as,us,rfl,_,_,_,⟨h,dx,R,I,n⟩,S⟩:=ok.slot i _ z;rw[Cl.inj R Z] at I;obtain⟨u,h1,h2⟩:=S.getD b;exact⟨_,D,p,C,dx,_,u,rfl,I,c,Y,zm2 V U h1,k W u H Step.refl ok h2⟩
    ·have D:some (AK.ins false cn fs,ps')=some y:=by unfold agAt at D;rw[z] at D;exact D
     cases D;obtain⟨v,D,p,us,rfl,_,⟨h,dx,R,I,n⟩,S⟩:=ok.slot i _ z;rw[Cl.inj R Z] at I;obtain⟨u,h1,h2⟩:=S.getD b;exact⟨_,D,p,C,dx,_,u,rfl,I,c,Y,zm2 V U h1,k W u H Step.refl ok h2⟩⟩
variable{l:Addr}
def Ok.chgN(ok:Ok K G H0 W env σ H){s s':Sl}(J:Mo)(e:env[i]?=some (some s))(R:σ[i]?=some (some v))(x:Owns H s v a)(A:SlOk K G W (upd H a J.out) s' v)(y:∀(j:Nat) (s:Sl) (v:V),env[j]?=some (some s)->σ[j]?=some (some v)->¬Owns H s v l)(m:∀b,Owns (upd H a J.out) s' v b->Owns H s v b\/b=l):Ok K G H0 W (env.set i (some s')) σ (upd H a J.out)/\Step W H W (upd H a J.out):=by
 have c:W a:=by obtain⟨B,f,h⟩:=ok.slot i s e;rw[R] at f;cases f;exact h.owns x
 have st:Step W H W (upd H a J.out):=⟨λb o q n=>by rw[gg (λz:b=a=>n (by rw[z];exact c))];exact q,λb z=>.inl z⟩;have t:∀ {j:Nat} {sl:Sl} {u:V} {b:Addr},i≠j->env[j]?=some (some sl)->σ[j]?=some (some u)->Owns H sl u b->b≠a:=λ{j sl u b} hj q S o z=>by
  subst z;exact hj (ok.uniq i j s sl v u b e q R S x o)
 have bk:∀ {j:Nat} {sl:Sl} {u:V} {b:Addr},i≠j->env[j]?=some (some sl)->σ[j]?=some (some u)->Owns (upd H a J.out) sl u b->Owns H sl u b:=λ{j sl u b} hj q S o=>by
  obtain⟨C,Y,h⟩:=ok.slot j sl q;rw[S] at Y;cases Y;cases sl with
  | sh d=>exact o.elim
  | ow ds=>exact o
  | o2 dss=>exact h.back (λl D _ vs I=>by rw[gg (t hj q S (.inl D))];exact I) o
  | ag k p ps=>exact h.back (λl D _ vs I=>by rw[gg (t hj q S (.inl D))];exact I) o
  | al _ _=>exact o.elim
  | ro _ _=>exact o.elim
 refine⟨⟨λb o q=>?_,ok.good,λb z=>?_,λj sl q=>?_,λj k w s2 v1 v2 b S Y D I Z o2=>?_,by rw[dn,ok.len]⟩,st⟩
 ·rw[gg (λz=>by rw[z,(ok.wl a c).1] at q;cases q)];exact ok.stay b o q
 ·obtain⟨q,us,m⟩:=ok.wl b z
  by_cases h:b=a
  ·exact⟨q,J,by rw[h,j0]⟩
  ·exact⟨q,us,by rw[gg h];exact m⟩
 ·rcases m4 q with⟨rfl,r,_⟩ | ⟨hj,r⟩
  ·cases r
   exact⟨v,R,A⟩
  ·obtain⟨u,f,h⟩:=ok.slot j sl r
   exact⟨u,f,ok.slstep st h λb vs o Y=>⟨h.owns o,by rw[gg (t hj r f o)];exact Y⟩⟩
 ·rcases m4 S with⟨a1,b1,_⟩ | ⟨a1,b1⟩ <;> rcases m4 Y with⟨g,U,_⟩ | ⟨g,U⟩
  ·rw[<-a1,<-g]
  ·subst a1;cases b1
   rw[R] at D;cases D;have o2:=bk g U I o2;rcases m b Z with z | z
   ·exact ok.uniq i k s s2 v v2 b e U R I z o2
   ·subst z;exact absurd o2 (y k s2 v2 U I)
  ·subst g;cases U
   rw[R] at I;cases I;have Z:=bk a1 b1 D Z;rcases m b o2 with z | z
   ·exact ok.uniq j i w s v1 v b b1 e D R Z z
   ·subst z;exact absurd Z (y j w v1 b1 D)
  ·exact ok.uniq j k w s2 v1 v2 b b1 U D I (bk a1 b1 D Z) (bk g U I o2)
def PtsOk.snoc(h:PtsOk K G W H ps as us)(D:W l)(I:H l=some (.lst vs))(r:Reps K H (Ow G W) ds vs):PtsOk K G W H (ps++[.o ds]) (as++[l]) (us++[.ref l]):=by
 induction h with
 | nil=>exact .o D I r .nil
 | d q _ ih=>exact .d q ih
 | o a b c _ ih=>exact .o a b c ih
def zq2{f:Str}{v:V}:∀ {fs:g9} {us:k8},f∉fs->fs.length=us.length->putF f v (fs.zip us)=(fs++[f]).zip (us++[v])
 | [],[],_,_=>rfl
 | g::fs,u::us,hf,hl=>by
   have:g≠f:=λz=>hf (by simp[z]);rw[jt,ph,ph,jt];show(if g=f then(g,v)::fs.zip us else(g,u)::putF f v (fs.zip us))=_;rw[if_neg this,zq2 (λz=>hf (by simp[z])) (by simpa using hl)]
def yg(i:Nat)(cn f:Str)(F:FA):FS:=λe=>(F e).bind λr=>match r.2[i]? with
 | some (some (.ag (.ins true c fs) l ps))=>if c=cn/\f∉fs/\fs.length<900 then some (.nx,r.2.set i (some (.ag (.ins true c (fs++[f])) l (ps++[.o r.1])))) else none
 | _=>none
variable{value:Expr}
theorem zq3(ca:Atr X.K cn m)(an:Ats Nn Cn X)(he:DFx X G H0 value F)(d:Nn[i]?=some x:=by rfl)(hs:swapsWith value (some (.Attribute (.Name x p') m p1)) pos.line X.env=pure false:=by rfl) :
  DSx X G H0 (.Assign [.Attribute (.Name x p') m p1] value pos) (yg i cn m F):=let ⟨C,c,hn,e⟩:=ca;⟨(z1w ((an.a d).pe) he.out hs).imp λDn σ H zq=>by
 obtain⟨W,env,fl,env',ok,q,k⟩:=zq;unfold yg at q;cases e1:F env with
 | none=>rw[e1] at q;cases q
 | some r =>
   rw[e1,ac] at q;split at q;case h_2=>cases q
   rename_i E fs l ps f;split at q;case isFalse=>cases q
   rename_i g;obtain⟨rfl,hf,L⟩:=g;cases q;refine⟨W,env,r.1,r.2,ok,e1,λW1 ad vs H1 s1 R D M N rp=>?_⟩;obtain⟨v,t,p,as,us,rfl,O,U,hr,⟨C',dx,z1,I,Y⟩,J⟩:=D.slot i _ f;rw[Cl.inj z1 e] at I;have P:p≠ad:=λz=>by rw[z,N] at I;cases I
   have na:ad∉as:=λz=>by
    obtain⟨v',Z,h⟩:=R.slot i _ f;rw[t] at Z;cases Z;exact M (h.owns (.inr ⟨p,us,rfl,⟨Y,C,dx,I⟩,J.parts_iff.mpr z⟩))
   refine⟨_,t,p,C,dx,fs.zip us,rfl,I,c,hn,?_,?_⟩
   ·rw[List.length_zip];lia
   ·have st:Step (addW W1 ad) H1 (addW W1 ad) (upd H1 p (.ins C dx ((fs++[m]).zip (us++[.ref ad])))):=⟨λb o q n=>by rw[gg (λz:b=p=>n (by rw[z];exact O))];exact q,λb z=>.inl z⟩
    have u:upd H1 p (.ins C dx ((fs++[m]).zip (us++[.ref ad]))) ad=some (.lst vs):=by rw[gg (Ne.symm P)];exact N
    have A:PtsOk X.K G (addW W1 ad) (upd H1 p (.ins C dx ((fs++[m]).zip (us++[.ref ad])))) ps as us:=J.step (λb ws Q z=>⟨(J.own Q).1,by rw[gg (λy:b=p=>by subst y;exact(bx.mp U).1 Q)];exact z⟩) (λ_ _ r=>D.rep st r) λ_ _ r=>D.reps st r;have S:(fs++[m]).length=(us++[V.ref ad]).length:=by rw[am,am,Y];rfl
    obtain⟨w1,w2⟩:=D.chgN (l:=ad) (s':=.ag (.ins true E (fs++[m])) l (ps++[.o r.1])) (.i C dx ((fs++[m]).zip (us++[.ref ad]))) f t (.inl rfl)
     ⟨p,as++[ad],us++[.ref ad],rfl,O,by
      rw[bx] at U ⊢;refine⟨λz=>?_,List.nodup_append.mpr ⟨U.2,by simp,λy hy z g=>?_⟩⟩
      ·rcases cz.mp z with z | z
       ·exact U.1 z
       ·exact P (cy.mp z)
      ·rw[cy.mp g];exact λw=>na (w ▸ hy),hr,⟨C,dx,e,j0,S⟩,A.snoc (.inr rfl) u (D.reps st rp)⟩
     (λj s v Z e4=>R.noOwn M j s v Z e4) λb B=>by
       rcases B with B | ⟨p',us',z,y,j,ds,h1,h2⟩
       ·exact .inl (.inl B)
       ·cases z
        have ey:us'=us++[.ref ad]:=vd (K:=X.K) (k:=.ins true E (fs++[m])) (us:=us++[.ref ad]) ⟨C,dx,e,j0,S⟩ y;rw[ey] at h2;by_cases T:j<ps.length
        ·rw[aw T] at h1
         rw[aw (by rw[<-J.length];exact T)] at h2;exact .inl (.inr ⟨p,us,rfl,⟨Y,C,dx,I⟩,j,ds,h1,h2⟩)
        ·rw[df (by rw[<-J.length];lia),<-J.length] at h2
         cases hjj:j-ps.length with
         | zero=>rw[hjj] at h2;simp at h2;exact .inr h2.symm
         | succ n=>rw[hjj] at h2;simp at h2
    rw[zq2 hf Y];exact k _ σ _ (s1.trans w2) w1⟩
end L2
namespace L2
open PySem
abbrev il:g9:=["kept", "states"]
end L2
namespace L2
open PySem PySem.Spec PyProof.Rows
def tz(i:Nat)(g:FE)(F:FA):FS:=λe=>(F e).bind λr=>match r.2[i]? with
 | some (some (.o2 dss))=>(g (frsE r.2)).bind λq=>(match q.1 with | .int k=>(ixN dss.length k).map λj=>(.nx,r.2.set i (some (.o2 (dss.set j r.1)))) | _=>none)
 | _=>none
def zq4(i:Nat)(g h f:FE):FS:=λe=>(f e).bind λr=>match r.2[i]? with
 | some (some (.o2 dss))=>(g (frsE r.2)).bind λq=>(h (frsE r.2)).bind λp=>(match q.1,p.1 with
   | .int k,.int m=>(ixN dss.length k).bind λj=>(dss[j]?).bind λds=>(ixN ds.length m).map λn=>(.nx,r.2.set i (some (.o2 (dss.set j (ds.set n r.1)))))
   | _,_=>none)
 | _=>none
variable{G:Gd}{H0 H:Hp}{i:Nat}{K:k4}{W:Addr->Prop}{env:DE0}{σ:St}
theorem Ok.swap2(R:Ok K G H0 W env σ H){l:Addr}{us:k8}{ds:k9}{dss:List k9}{j:Nat}{v:V}(ok:Ok K G H0 (addW W l) env σ H)(p:¬W l)(hl:H l=some (.lst us))(r:Reps K H (Ow G (addW W l)) ds us)(t:env[i]?=some (some (.o2 dss)))(x:σ[i]?=some (some v))(hj:j<dss.length) :
  ∃(L:Addr) (ls:ia),v=.ref L/\H L=some (.lst (ls.map V.ref))/\ls.length=dss.length/\Ok K G H0 (addW W l) (env.set i (some (.o2 (dss.set j ds)))) σ (upd H L (.lst ((ls.set j l).map V.ref)))/\Step (addW W l) H (addW W l) (upd H L (.lst ((ls.set j l).map V.ref))):=by
 obtain⟨v1,Q,L,ls,rfl,T,A,B,hi⟩:=R.slot i _ t;rw[x] at Q;cases Q;have S:addW W l L:=.inl T;have st:Step (addW W l) H (addW W l) (upd H L (.lst ((ls.set j l).map V.ref))):=⟨λb o q n=>by rw[gg (λz:b=L=>n (by rw[z];exact S))];exact q,λb z=>.inl z⟩;have nl:∀(k:Nat) (s:Sl) (u:V),env[k]?=some (some s)->σ[k]?=some (some u)->¬Owns H s u l:=λk s u C g o=>by
  obtain⟨u',X,h⟩:=R.slot k s C;rw[g] at X;cases X;exact p (h.owns o)
 have U:l≠L:=λz=>p (z ▸ T);have I:=hi.1;have J:∀(k:Nat) (c:Addr),(ls.set j l)[k]?=some c->(j=k/\c=l)\/(j≠k/\ls[k]?=some c):=λk c q=>by
  rcases m4 q with⟨e,q,_⟩ | q
  ·exact .inl ⟨e,q⟩
  ·exact .inr q
 have E:(L::ls.set j l).Nodup:=by
  refine bx.mpr ⟨λz=>?_,?_⟩
  ·obtain⟨k,Y⟩:=List.mem_iff_getElem?.mp z
   rcases J k L Y with⟨_,e⟩ | ⟨_,e⟩
   ·exact U e.symm
   ·exact(bx.mp B).1 (bi e)
  ·refine vz.mpr λk1 k2 F Z aa z=>?_
   obtain⟨c2,hc2⟩:∃c,(ls.set j l)[k2]?=some c:=⟨_,ay Z⟩;have M:(ls.set j l)[k1]?=some c2:=by rw[<-hc2,ay F,ay Z,z]
   have a:∀k c,ls[k]?=some c->c≠l:=λk c q w=>p (w ▸ (hi.2 k (dss[k]'(by rw[<-I];exact(aj.mp q).1)) c (ay _) q).1);rcases J k1 c2 M with⟨a1,b1⟩ | ⟨a1,b1⟩ <;> rcases J k2 c2 hc2 with⟨a2,m⟩ | ⟨a2,m⟩
   ·lia
   ·exact a _ _ m b1
   ·exact a _ _ b1 m
   ·have:=zmi (bx.mp B).2 b1 m;lia
 refine⟨L,ls,rfl,A,I,?_⟩;refine ok.chgN (.l _) t x (.inl rfl) ⟨L,ls.set j l,rfl,S,j0,E,by simp[I],λk es c C g=>?_⟩ nl λb o=>?_
 ·rcases m4 C with⟨rfl,z,_⟩ | ⟨Y,q'⟩
  ·cases z
   rcases J j c g with⟨_,rfl⟩ | ⟨y,_⟩
   ·exact⟨.inr rfl,us,by rw[gg U];exact hl,ok.reps st r⟩
   ·exact absurd rfl y
  ·rcases J k c g with⟨y,_⟩ | ⟨_,y⟩
   ·exact absurd y Y
   ·obtain⟨N,vs,hc,rc⟩:=hi.2 k es c q' y
    have ne:c≠L:=λz=>(bx.mp B).1 (z ▸ bi y);refine⟨.inl N,vs,by rw[gg ne];exact hc,?_⟩;obtain⟨v2,e2,L2,ab,e3,_,d,_,O⟩:=ok.slot i _ t;rw[x] at e2;cases e2;cases e3;rw[A] at d;have:=vk (by simpa using d);subst this;obtain⟨_,vs',f,P⟩:=O.2 k es c q' y;rw[hc] at f;cases f;exact ok.reps st P
 ·rcases o with o | ⟨L',ls',z,q,hb⟩
  ·exact .inl (.inl o)
  ·cases z
   rw[j0] at q;have:=vk (show(ls.set j l).map V.ref=ls'.map V.ref by simpa using q);subst this;obtain⟨k,Y⟩:=List.mem_iff_getElem?.mp hb;rcases J k b Y with⟨_,e⟩ | ⟨_,e⟩
   ·exact .inr e
   ·exact .inl (.inr ⟨L,ls,rfl,A,bi e⟩)
variable{Nn Cn:g9}{X:Cx}{b e:Expr}{g:FE}{F:FA}{x:Str}{pos p' p1:Pos}
def zq5(h:∀G H0,DEx X G H0 b g)(m:DFx X G H0 e F)(an:Ats Nn Cn X)(Y:Nn[i]?=some x:=by rfl)(n:swapsWithSole [.Subscript (.Name x p') b p1] e pos.line X.env=pure false:=by rfl)(o:swappedStores [.Subscript (.Name x p') b p1] e X.env=pure none:=by rfl)(h1:(assignEach [.Subscript (.Name x p') b p1] X.env).map (·.2)=[assign (.Subscript (.Name x p') b p1) X.env]:=by rfl)(J:∀v,assign (.Subscript (.Name x p') b p1) X.env v=(do
   let ov <-holding [v] (eval (.Name x p') X.env);let iv <-holding [v,ov] (eval b X.env)
   standAt p1
   holding [v,ov,iv] (setItem ov iv v)
   release [v,ov,iv] []):=by intro _;rfl) :
  DSx X G H0 (.Assign [.Subscript (.Name x p') b p1] e pos) (tz i g F):=⟨λpins s σ H Dn I p=>by
 obtain⟨W,env,fl,env',ok,q,k⟩:=p;unfold tz at q;cases e1:F env with
 | none=>rw[e1] at q;cases q
 | some r =>
   rw[e1,ac] at q;split at q;case h_2=>cases q
   rename_i dss c;cases e2:g (frsE r.2) with
   | none=>rw[e2] at q;cases q
   | some r2 =>
     rw[e2,ac] at q;split at q;case h_2=>cases q
     rename_i kk Z;cases e3:ixN dss.length kk with
     | none=>rw[e3] at q;cases q
     | some j =>
       rw[e3] at q;cases q;have t:j<dss.length:=(zpa e3).2.1;refine(yq m.out (zqg ((an.a Y).pe) (el_x (X:=X) rfl h) zkl J) n o h1) pins s σ H Dn I ⟨W,env,r.1,r.2,ok,e1,λW1 l us H1 u R D w y z=>?_⟩;obtain⟨v,d,_⟩:=R.slot i _ c;refine⟨_,d,OwG G (addW W1 l) H1,H1,NoW,frsE r.2,r2.1,r2.2,D.freezeS,e2,λC v2 H2 s2 A S=>?_⟩;have sm:=s2.noW;rw[Z] at S;obtain⟨L,ls,rfl,B,U,f,V⟩:=Ok.swap2 (R.same sm) (D.same sm) w (sm _ _ y) ((D.reps (Step.same sm) z)) c d t;exact⟨L,_,kk,j,rfl,S.int_,B,by rw[ah,U];exact e3,by rw[gl] at f V;exact k _ _ _ ((u.trans (Step.same sm)).trans V) f⟩⟩
variable{a:Expr}{f h:FE}{p2:Pos}
theorem zt4(C:∀G H0,DEx X G H0 a g)(E:∀G H0,DEx X G H0 b h)(F:DEx X G H0 e f)(an:Ats Nn Cn X)(Z:Nn[i]?=some x:=by rfl)(d:vi a:=by intro _ _;rfl)(K:swapsWithSole [.Subscript (.Subscript (.Name x p') a p2) b p1] e pos.line X.env=pure false:=by rfl)(M:swappedStores [.Subscript (.Subscript (.Name x p') a p2) b p1] e X.env=pure none:=by rfl)(h1:(assignEach [.Subscript (.Subscript (.Name x p') a p2) b p1] X.env).map (·.2)=[assign (.Subscript (.Subscript (.Name x p') a p2) b p1) X.env]:=by rfl)(U:∀v,assign (.Subscript (.Subscript (.Name x p') a p2) b p1) X.env v=(do
   let ov <-holding [v] (eval (.Subscript (.Name x p') a p2) X.env);let iv <-holding [v,ov] (eval b X.env)
   standAt p1
   holding [v,ov,iv] (setItem ov iv v)
   release [v,ov,iv] []):=by intro _;rfl) :
  DSx X G H0 (.Assign [.Subscript (.Subscript (.Name x p') a p2) b p1] e pos) (zq4 i g h f):=⟨λpins s σ H Dn I N=>by
 obtain⟨W,env,fl,env',ok,q,k⟩:=N;unfold zq4 at q;cases e1:f env with
 | none=>rw[e1] at q;cases q
 | some r =>
   rw[e1,ac] at q;split at q;case h_2=>cases q
   rename_i dss l;cases e2:g (frsE r.2) with
   | none=>rw[e2] at q;cases q
   | some r2 =>
     rw[e2,ac] at q;cases e3:h (frsE r.2) with
     | none=>rw[e3] at q;cases q
     | some r3 =>
       rw[e3,ac] at q;split at q;case h_2=>cases q
       rename_i kk mm m p;cases e4:ixN dss.length kk with
       | none=>rw[e4] at q;cases q
       | some j =>
         rw[e4,ac] at q;cases e5:dss[j]? with
         | none=>rw[e5] at q;cases q
         | some ds =>
           rw[e5,ac] at q;cases e6:ixN ds.length mm with
           | none=>rw[e6] at q;cases q
           | some n =>
             rw[e6] at q;cases q;refine(yq F.out (zqg (yi zme ((an.a Z).pe) (el_x (X:=X) rfl C) d) (el_x (X:=X) rfl E) zkl U) K M h1) pins s σ H Dn I ⟨W,env,r.1,r.2,ok,e1,λW1 v1 H1 O J P=>?_⟩;obtain⟨v,t,_⟩:=J.slot i _ l;refine⟨_,t,OwG G W1 H1,H1,NoW,frsE r.2,r2.1,r2.2,J.freezeS,e2,λW2 v2 H2 s2 Q V=>?_⟩;have sm:=s2.noW;rw[m] at V;have R:=J.same sm;obtain⟨L,ls,c,vs,rfl,A,u,w,T,B⟩:=zv0 R l t e4 e5;refine⟨L,_,kk,.ref c,rfl,V.int_,.inl (.inl A),w,OwG G W1 H2,H2,NoW,frsE r.2,r3.1,r3.2,R.freezeS,e3,λW3 v3 H3 s3 aa Y=>?_⟩;have D:=s3.noW;rw[p] at Y;have y:=R.same D;have S:Same H1 H3:=λb o z=>D b o (sm b o z);obtain⟨t1,t2⟩:=y.turn2 l t (D _ _ A) e5 u (Reps.set (J.rep (Step.same S) P) n (R.reps (Step.same D) B));exact⟨c,vs,mm,n,rfl,Y.int_,D _ _ T,by rw[<-B.length];exact e6,k _ _ _ ((O.trans (Step.same S)).trans t2) t1⟩⟩
end L2
namespace L2
open PySem PySem.Spec PyProof.Rows PySem.F
variable{prog:Program}{w:World}{A:Around}{E:Value->Shared->Prop}{s:Shared}
theorem zor{it t:Addr}{D:k7}(U:t≠it):∀(n i:Nat) (s:Shared) (Q:h7->Shared->Prop),s.heap.IsListIter it t i->s.heap.IsList t D->i+n<=D.size ->
  (∀h',h'.IsListIter it t (i+n)->Heap.SameBut it s.heap h'->Q ((D.toList.drop i).take n) { s with heap:=h' })->wpAny (model prog w) A (draw (.ref it) n) Q E s
 | 0,i,s,Q,hit,_,_,hQ=>by
   exact wpAny_pure (by simpa using hQ s.heap hit (Heap.SameBut.refl ..))
 | n+1,i,s,Q,hit,ht,hle,hQ=>by
   have V:i<D.size:=by lia
   refine wpAny_bind (wpAny_pyNext_list_item hit ht (x:=D[i]) (by simp[V]) λh₁ J I=>?_);refine wpAny_bind (wpAny_holding (zor U n (i+1) _ _ J (ht.extBut I.extBut U) (by lia) λY R S=>wpAny_pure ?_));have Z:D.toList.drop i=D[i]::D.toList.drop (i+1):=by simp[eg,V]
   have:=hQ Y (by rw[show i+(n+1)=i+1+n by lia];exact R) (I.trans S);rw[Z,List.take_succ_cons] at this;exact this
variable{pos:Pos}
theorem zj4{env:Env}{I:ka}{x1}{t:Addr}{D:k7}{Q:Unit->Shared->Prop}(f:A.handled=none)(Y:s.heap.IsList t D)(g:(assignEach I env).length=D.size)(S:(assignEach I env).findIdx? (·.1)=none)(h:∀h',Heap.ExtBut s.heap.objs.size s.heap h'->wpAny (model prog w) A (assignInOrder ((assignEach I env).map (·.2)) D.toList) Q E { s with heap:=h' }):wpAny (model prog w) A (assign (.Tuple I x1 pos) env (.ref t)) Q E s:=by
 refine wpAny_bind (wpAny_standAt ?_);unfold unpack;rw[g,S];refine wpAny_bind (wpAny_holding ?_);have Z:t≠s.heap.objs.size:=by obtain⟨o,i,_⟩:=Y;exact b6 (bg i)
 refine wpAny_bind ?_;refine wpAny_bind (wpAny_specialOf Y.typeIs PySem.slot_list_iter.lookup ?_);refine wpAny_pure ?_;refine wpAny_bind (wpAny_holding (wpAny_pyIter_list Y ?_));refine wpAny_bind (wpAny_holding (zor Z D.size 0 _ _ ⟨_,ci _ rfl,rfl,rfl⟩ (Y.push _) (by lia) λh₁ R J=>?_));have a:List.take D.size (List.drop 0 D.toList)=D.toList:=by
  rw[List.drop_zero];exact gk (by simp)
 rw[a];rw[if_neg (by simp)];have U:h₁.IsList t D:=(Y.push _).extBut J.extBut Z;refine wpAny_bind (wpAny_holding (wpAny_pyNext_list_end f R U (by simp) λc V=>?_));exact wpAny_pure (h c λb o d e=>V b o d (J.extBut b o d (ao _ e)))
def wn(r:Nat):ic->ll->Nat->DE0->Option DE0
 | [],[],_,e=>some e
 | i::ix,.d d::ps,n,e=>wn r ix ps n (e.set i (some (.sh d)))
 | i::ix,.o _::ps,n,e=>wn r ix ps (n+1) (e.set i (some (.al r n)))
 | _,_,_,_=>none
def uz(i:Nat)(ix:ic):FS:=λe=>match e[i]? with
 | some (some (.ag .ls (some r) ps))=>if i∈ix then none else(wn r ix ps 0 e).map λe'=>(.nx,e')
 | _=>none
variable{G:Gd}{H0:Hp}{ix:ic}
theorem zpq{K:k4}{W:Addr->Prop}{H:Hp}{r:Nat}{p:Addr}{D:ia}(J:G.r r=p::D):∀(ix:ic) (ps:ll) (n:Nat) (as:ia) (us:k8) (env env':DE0) (σ:St) (Q:St->Hp->Prop),Ok K G H0 W env σ H->PtsOk K G W H ps as us->(∀(m:Nat) (a:Addr),as[m]?=some a->D[n+m]?=some a) ->
  wn r ix ps n env=some env'->(∀I,Ok K G H0 W env' I H->Q I H)->gIs ix us σ H Q
 | [],[],_,_,_,_,_,σ,Q,ok,.nil,_,e,k=>by cases e;exact⟨rfl,k σ ok⟩
 | i::ix,.d d::ps,n,as,_,env,env',σ,Q,ok,.d (v:=v) (us:=us) q t,ha,e,k =>
   ⟨v,us,rfl,zpq J ix ps n as us _ env' _ Q (ok.put (s:=.sh d) (v:=v) q λ_ _ _ _ _ _ o=>o.elim) t ha e k⟩
 | i::ix,.o ds::ps,n,_,_,env,env',σ,Q,ok,.o (a:=a) (as:=as) (us:=us) hW hl q t,ha,e,k =>
   ⟨.ref a,us,rfl,zpq J ix ps (n+1) as us _ env' _ Q (ok.put (s:=.al r n) (v:=.ref a) ⟨p,D,a,J,by simpa using ha 0 a rfl,rfl⟩ λ_ _ _ _ _ _ o=>o.elim) t (λm b R=>by have:=ha (m+1) b (by simpa using R);rwa [show n+1+m=n+(m+1) by lia]) e k⟩
variable{X:Cx}{es:ka}{x:Str}{p' p1:Pos}{i:Nat}
def zwn{Nn Cn:g9}{k:Nat}(h:PGs X es (gIs ix))(an:Ats Nn Cn X)(R:Nn[i]?=some x:=by rfl)(f:X.calm=true:=by rfl)(g:(assignEach es X.env).length=ix.length:=by rfl)(S:(assignEach es X.env).findIdx? (·.1)=none:=by rfl)(j:swapsWithSole [.Tuple es k p1] (.Name x p') pos.line X.env=pure false:=by rfl)(J:swappedStores [.Tuple es k p1] (.Name x p') X.env=pure none:=by rfl)(h1:(assignEach [.Tuple es k p1] X.env).map (·.2)=[assign (.Tuple es k p1) X.env]:=by rfl):DSx X G H0 (.Assign [.Tuple es k p1] (.Name x p') pos) (uz i ix):=⟨by
 have pg:PG X (.Tuple es k p1) (λv σ H Q=>∃a xs,v=.ref a/\H a=some (.lst xs)/\xs.length=ix.length/\gIs ix xs σ H Q):=by
  intro pins s σ H v u Q I r J;obtain⟨a,xs,D,U,V,J⟩:=J;subst D;cases r;obtain⟨its,c,l,C⟩:=I.list (.inl (.inl U));refine zj4 (I.ok.hd f) l.isList (by simp[g,<-V,c.length]) S λh' t=>?_;have w:Inv X pins σ H { s with heap:=h' }:=I.kept (t':=s.toks) λb o e=>t b o (b6 (bg e)) e;exact h pins _ σ H xs _ Q w (by simpa using c) J
 refine(yq ((an.a R).pe) pg j J h1).imp λDn σ H y=>?_;obtain⟨W,env,fl,env',ok,q,kk⟩:=y;unfold uz at q;split at q;case h_2=>cases q
 rename_i r ps U;split at q;case isTrue=>cases q
 cases D:wn r ix ps 0 env with
 | none=>rw[D] at q;cases q
 | some e' =>
   rw[D] at q;cases q;obtain⟨v,z,p,as,us,rfl,E,F,A,B,d⟩:=ok.slot i _ U;have V:∀(ix:ic) (ps:ll) (n:Nat) (env e':DE0),wn r ix ps n env=some e'->ix.length=ps.length:=λix=>by
    induction ix with
    | nil=>intro ps n env e' e;cases ps with | nil=>rfl | cons p _=>cases p <;> cases e
    | cons i ix ih =>
      intro ps n env e' e;cases ps with
      | nil=>cases e
      | cons p ps=>cases p <;> exact congrArg Nat.succ (ih ps _ _ _ e)
   exact⟨_,z,p,us,rfl,B,by rw[<-d.length];exact(V _ _ _ _ _ D).symm,zpq (A r rfl) ix ps 0 as us env _ σ _ ok d (λm a K=>by rwa [i4]) D λY Z=>kk W Y H Step.refl Z⟩⟩
end L2
namespace L2
open PySem PySem.Spec PyProof.Rows
def dPow:D->D->la | .int i,.int j=>if i=10/\0<=j/\j<=30 then some (.int (i ^ j.toNat)) else none | _,_=>none
variable{X:Cx}{G:Gd}{H0:Hp}
theorem z3g:OpD X G H0 (rI CPow λi j=>.int (i ^ j.toNat)) dPow:=od_I λI J d h=>by
 unfold dPow at h;split at h
 ·rename_i i j
  split at h;case isFalse=>cases h
  rename_i D;cases h;obtain⟨rfl,R,h1⟩:=D;exact⟨10,j,rfl,rfl,by unfold CPow;lia,rfl⟩
 ·cases h
variable{f:Addr}{g:FS}{pos:Pos}
def yj{a b:Expr}{f g:FE}(D:DEx X G H0 a f)(I:DEx X G H0 b g):DEx X G H0 (.BinOp a .Pow b pos) (fBin dPow f g):=vb z1r z3g D I
def celN(N:g9)(sc:Scope):g9:=N.filter λu=>sc.names.lookup u==some .cell
def scB(N ps:g9)(sc:Scope):Bool:=decide (sc.kind=.function) && !sc.isCoroutine && !sc.isGenerator && decide N.Nodup && decide (N.take ps.length=ps) && decide (∀y∈sc.names,y.2≠.free) && N.all λx=>okN x && (sc.names.lookup x==some .local || sc.names.lookup x==some .cell)
variable{N ps:g9}{sc:Scope}
def ny(h:scB N ps sc=true):pz N ps sc/\∀x∈N,Loc sc x/\(x==("__debug__" : Str))=false/\(x==("__classdict__" : Str))=false:=by
 unfold scB at h;simp only[dr,decide_eq_true_eq,j2,f9] at h;obtain⟨⟨⟨⟨⟨⟨h1,h2⟩,R⟩,S⟩,I⟩,U⟩,V⟩:=h;have J:∀x∈N,Loc sc x/\(x==("__debug__" : Str))=false/\(x==("__classdict__" : Str))=false:=λx D=>by
  obtain⟨a,b⟩:=V x D;have a:=se a;rcases Bool.or_eq_true _ _ ▸ b with b | b
  ·exact⟨.inl (ud b),a⟩
  ·exact⟨.inr (ud b),a⟩
 exact⟨⟨h1,h2,R,S,I,λx D=>(J x (by rw[<-I] at D;exact List.mem_of_mem_take D)).1,U⟩,J⟩
variable{P:Program}{w:World}{K:k4}{mg:Str->h8}{base:Heap}{CX:CXT}{qual:Str}{cdv:Value}{A:Around}{outer:i0}{s:Shared}{H:Hp}{E:XK}
def qh(h:scB N ps sc=true):Ats N (celN N sc) (cxOf CX P w K mg base N qual sc f cdv A outer s H E) :=
 ⟨rfl,λi x e=>let z:=(ny h).2 x (bi e);⟨e,z.1.elim .inl λq=>.inr (.inl q),z.2.1,z.2.2⟩,λu D=>by
  obtain⟨_,h2⟩:=ji.mp D;exact .inl (ud h2)⟩
def qg(h:scB N ps sc=true):Tos N (cxOf CX P w K mg base N qual sc f cdv A outer s H E) :=
 ⟨λi x e=>⟨(ny h).1.nd,e,((ny h).2 x (bi e)).1,.inl rfl⟩⟩
variable{i:Nat}{x:Str}
def Tos.pg(t:Tos N X)(h:N[i]?=some x:=by rfl):PG X (.Name x pos) (ml i):=zso (t.t h).nd (t.t h).n (t.t h).l (t.t h).f
variable{e:Expr}{p':Pos}{F:FA}
def Tos.psF(t:Tos N X)(D:DFx X G H0 e F)(h:N[i]?=some x:=by rfl)(I:swapsWith e (some (.Name x p')) pos.line X.env=pure false:=by rfl):PS X (.Assign [.Name x p'] e pos) (tAsg (tDF X.K G H0 F) (ml i)):=zsp (t.t h).nd (t.t h).n (t.t h).l D.out I (t.t h).f
variable{P:h7->Prop}
def us0(h:P [])(us:h7)(e:us.length=0):P us:=jb e ▸ h
variable{n:Nat}
def usn(h:∀a,∀us:h7,us.length=n->P (a::us))(us:h7)(e:us.length=n+1):P us:=by
 cases us with
 | nil=>cases e
 | cons a us=>exact h a us (Nat.succ.inj e)
def us1(h:∀a,P [a]):∀us,us.length=1->P us:=usn λa=>us0 (h a)
def us2(h:∀a b,P [a,b]):∀us,us.length=2->P us:=usn λa=>us1 (P:=λus=>P (a::us)) (h a)
def us3(h:∀a b c,P [a,b,c]):∀us,us.length=3->P us:=usn λa=>us2 (P:=λus=>P (a::us)) (h a)
def us4(h:∀a b c d,P [a,b,c,d]):∀us,us.length=4->P us:=usn λa=>us3 (P:=λus=>P (a::us)) (h a)
def us5(h:∀a b c d e,P [a,b,c,d,e]):∀us,us.length=5->P us:=usn λa=>us4 (P:=λus=>P (a::us)) (h a)
def Def(K:k4)(mg:Str->h8)(st:Stmt)(x:Str)(ps:g9):Prop:=∃f fd,Fun K x x st f fd/\Binds K fd ps []/\mg x=some (.ref f)
def Mef(K:k4)(C:Addr)(st:Stmt)(x qual:Str)(ps:g9):Prop:=∃f fd,Fun K x qual st f fd/\Binds K fd ps []/\Meth K C x f
variable{P:Program}{st:Stmt}{k ar:Nat}
theorem iw(T:Def K mg st x ps)(N:g9)(D:∀ {f:Addr} {cdv:Value} {A:Around} {outer:i0} {s:Shared} {H:Hp} {E:XK} {G:Gd} {H0:Hp},Room k (A.deeper (envOfC x (fx st) s.heap.objs.size f cdv)) ->
   Ats N (celN N (fx st)) (cxOf CX0 P w K mg base N x (fx st) f cdv A outer s H E).nox->Tos N (cxOf CX0 P w K mg base N x (fx st) f cdv A outer s H E).nox->DBx (cxOf CX0 P w K mg base N x (fx st) f cdv A outer s H E).nox G H0 (lg st) g)(h:scB N ps (fx st)=true:=by decide +kernel)(I:okN x=true:=by decide +kernel)(J:n=N.length:=by rfl)(R:ar=ps.length:=by rfl):Cal P w K mg base CX0 x (k+1) (dSp K (runD n ar g)):=by
 obtain⟨f,fd,F,b,m⟩:=T;exact⟨f,fd,ps,fn_D F (ny h).1 J R λcdv A outer s H E G H0 S=>D S (qh h).nox (qg h).nox,m,F.kp,b,(se I).1⟩
theorem z3h(T:Def K mg st x ps)(N:g9)(D:∀ {f:Addr} {cdv:Value} {A:Around} {outer:i0} {s:Shared} {H:Hp} {E:XK} {G:Gd} {H0:Hp},Room k (A.deeper (envOfC x (fx st) s.heap.objs.size f cdv)) ->
   Ats N (celN N (fx st)) (cxOf CX0 P w K mg base N x (fx st) f cdv A outer s H E).nox->Tos N (cxOf CX0 P w K mg base N x (fx st) f cdv A outer s H E).nox->DBx (cxOf CX0 P w K mg base N x (fx st) f cdv A outer s H E).nox G H0 (lg st) g)(h:scB N ps (fx st)=true:=by decide +kernel)(I:okN x=true:=by decide +kernel)(J:n=N.length:=by rfl)(R:ar=ps.length:=by rfl):Cal P w K mg base CX0 x (k+1) (fSp K (runF n ar g)):=by
 obtain⟨f,fd,F,b,m⟩:=T;exact⟨f,fd,ps,fn_F F (ny h).1 J R λcdv A outer s H E G H0 S=>D S (qh h).nox (qg h).nox,m,F.kp,b,(se I).1⟩
abbrev Bd(P:Program)(w:World)(K:k4)(mg:Str->h8)(base:Heap)(N:g9)(qual:Str)(st:Stmt)(k:Nat)(g:FS):Prop:=∀ {f:Addr} {cdv:Value} {A:Around} {outer:i0} {s:Shared} {H:Hp} {E:XK} {G:Gd} {H0:Hp},Room k (A.deeper (envOfC qual (fx st) s.heap.objs.size f cdv)) ->
   Ats N (celN N (fx st)) (cxOf (CXr P w) P w K mg base N qual (fx st) f cdv A outer s H E)->Tos N (cxOf (CXr P w) P w K mg base N qual (fx st) f cdv A outer s H E)->DBx (cxOf (CXr P w) P w K mg base N qual (fx st) f cdv A outer s H E) G H0 (lg st) g
theorem Def.cal{sp:Sp}(T:Def K mg st x ps)(D:okN x=true)(h:∀f fd,Fun K x x st f fd->FnOk P w K mg base CX k f fd ps sp):Cal P w K mg base CX x k sp:=by
 obtain⟨f,fd,F,b,m⟩:=T;exact⟨f,fd,ps,h f fd F,m,F.kp,b,(se D).1⟩
variable{p:Nat}
def rj(T:Def K mg st x ps)(N:g9)(D:Bd P w K mg base N x st k g)(h:scB N ps (fx st)=true:=by decide +kernel)(I:okN x=true:=by decide +kernel)(J:n=N.length:=by rfl)(R:p+ar=ps.length:=by rfl):Cal P w K mg base (CXr P w) x (k+1) (qSp K (runQ n p ar g) (xQ n p ar g)) :=
 T.cal I λf fd F=>z29 F (ny h).1 J R λcdv A outer s H E G H0 S=>D S (qh h) (qg h)
def zzz(T:Def K mg st x ps)(N:g9)(D:Bd P w K mg base N x st k g)(h:scB N ps (fx st)=true:=by decide +kernel)(I:okN x=true:=by decide +kernel)(J:n=N.length:=by rfl)(R:p+ar=ps.length:=by rfl):Cal P w K mg base (CXr P w) x (k+1) (lSp K (runL n p ar g) (xL n p ar g)) :=
 T.cal I λf fd F=>zzw F (ny h).1 J R λcdv A outer s H E G H0 S=>D S (qh h) (qg h)
def z5e(T:Def K mg st x ps)(N:g9)(D:Bd P w K mg base N x st k g)(h:scB N ps (fx st)=true:=by decide +kernel)(I:okN x=true:=by decide +kernel)(J:n=N.length:=by rfl)(R:ar=ps.length:=by rfl):Cal P w K mg base (CXr P w) x (k+1) (gSp K (runG n ar g) (xG n ar g)) :=
 T.cal I λf fd F=>z5d F (ny h).1 J R λcdv A outer s H E G H0 S=>D S (qh h) (qg h)
variable{C:Addr}{cn:Str}
def yf(D:Cl K cn C)(c:Cls K C)(T:Mef K C st x qual ps)(N:g9)(I:Bd P w K mg base N qual st k g)(h:scB N ps (fx st)=true:=by decide +kernel)(J:n=N.length:=by rfl)(R:p+ar=ps.length:=by rfl):MCal P w K mg base cn x (k+1) (qSp K (runQ n p ar g) (xQ n p ar g)):=by
 obtain⟨f,fd,F,b,m⟩:=T;exact⟨C,f,fd,ps,c,m,z29 F (ny h).1 J R λcdv A outer s H E G H0 S=>I S (qh h) (qg h),b,D⟩
def we(D:Cl K cn C)(c:Cls K C)(T:Mef K C st x qual ps)(N:g9)(I:Bd P w K mg base N qual st k g)(h:scB N ps (fx st)=true:=by decide +kernel)(J:n=N.length:=by rfl)(R:p+ar=ps.length:=by rfl):MCal P w K mg base cn x (k+1) (lSp K (runL n p ar g) (xL n p ar g)):=by
 obtain⟨f,fd,F,b,m⟩:=T;exact⟨C,f,fd,ps,c,m,zzw F (ny h).1 J R λcdv A outer s H E G H0 S=>I S (qh h) (qg h),b,D⟩
def z5f(D:Cl K cn C)(I:mg cn=some (.ref C))(J:PySem.W.makesIn K C=true)(kp:PySem.W.keepIn K (.ref C)=true)(T:Mef K C st "__init__" qual ps)(N:g9)(R:Bd P w K mg base N qual st k g)(h:scB N ps (fx st)=true:=by decide +kernel)(S:okN cn=true:=by decide +kernel)(U:n=N.length:=by rfl)(V:p+ar=ps.length:=by rfl) :
  KCal P w K mg base cn (k+1) (lSp K (runL n p ar g) (xL n p ar g)):=by
 obtain⟨f,fd,F,b,m⟩:=T;exact⟨C,f,fd,ps,⟨J,m.at_,m.fn,kp⟩,zzw F (ny h).1 U V λcdv A outer s H E G H0 Y=>R Y (qh h) (qg h),I,b,D,(se S).1⟩
def z5g(N:g9)(D:∀ {f:Addr} {cdv:Value} {A:Around} {outer:i0} {s:Shared} {H:Hp} {E:XK} {G:Gd} {H0:Hp},Room k (A.deeper (envOfC x (fx st) s.heap.objs.size f cdv)) ->
   Ats N (celN N (fx st)) (cxOf CX0 P w K mg base N x (fx st) f cdv A outer s H E).nox->Tos N (cxOf CX0 P w K mg base N x (fx st) f cdv A outer s H E).nox->DBx (cxOf CX0 P w K mg base N x (fx st) f cdv A outer s H E).nox G H0 (lg st) g)(h:scB N ps (fx st)=true:=by decide +kernel)(I:n=N.length:=by rfl)(J:ar=ps.length:=by rfl):∀f fd,Fun K x x st f fd->FnOk P w K mg base CX0 (k+1) f fd ps (dSp K (runD n ar g)) :=
 λf fd F=>fn_D F (ny h).1 I J λcdv A outer s H E G H0 R=>D R (qh h).nox (qg h).nox
variable{h:Heap}{oc:Value}{od an:Option Addr}{osl:Array h8}
def law_mk{fa:Addr}{s:Str}{m:k9->la}{kV I R cdv ct:Value}(X:K.In h)(G:h.Ns mainGlobals mg)(J:mg x=some (.ref fa))(a:PySem.W.nsIn K mainGlobals x=some (some (.ref f)))(l:K.lookup f=some ⟨oc,od,.func (PySem.W.fnOf x x (sj st) (lg st) (fx st) .none kV I R an cdv ct),osl⟩)(c:PySem.W.codeIn K cdv x=true)(k':PySem.W.keepIn K (.ref f)=true)(U:∀v:Value,bindArgs (PySem.W.fnOf x x (sj st) (lg st) (fx st) .none kV I R an cdv ct) ⟨[v],[]⟩=pure [(s,v)])(F:∀base f fd,Fun K x x st f fd->FnOk P w K mg base CX0 k f fd [s] (dSp K m))(good:∀S:ik,S.length<=63->m [.lst (S.map D.int)]=some (.bl true)) :
  ∃fd:FuncData,(∀(t:Shared) (v:Value),BindsTo t fd ⟨[v],[]⟩ [(s,v)])/\∀base:Heap,K.In base->base.Ns mainGlobals mg->FnOk P w K mg base CX0 k fa fd [s] (zqp K):=by
 have e:=J.symm.trans (j4 X G a);cases e;exact⟨_,λt v=>.of_eq (U v),λbase _ _=>z43 (F base _ _ (zs8 l c k')) good⟩
def walkD{l:PySem.W.OpenLaw}{q:Program}{D:g9}{R:(Str->h8)->Heap->Prop}{J:World->Heap->Prop}{d:DefRec}{K:Params->k4}{s:Str}(S:Room k callerA)(U:l.most=some 63)(I:d.params.defaults=[])(V:∀(w:World) (h:Heap),J w h->(K w.params).In h)(F:∀(w:World) (mg:Str->h8) (fa:Addr) (h:Heap),(K w.params).In h->h.Ns mainGlobals mg->mg d.name=some (.ref fa) ->
   ∃fd:FuncData,(∀(t:Shared) (u:Value),BindsTo t fd ⟨[u],[]⟩ [(s,u)])/\∀base:Heap,(K w.params).In base->base.Ns mainGlobals mg->FnOk l.prog w (K w.params) mg base CX0 k fa fd [s] (zqp (K w.params))) :
  PySem.W.WalkO q D R J l.row.toRowW d [] (λf vs=>PySem.call f vs) :=
 zy3 (n:=63) (k:=k) (x:=s) (CX:=λ_=>CX0) (sp:=λw=>zqp (K w.params)) U (by decide) I S V F (λ_ _ a Y Z _ b=>⟨a,Y,rfl,b,Z,λ_=>rfl⟩) λ_ _ _ _ _ z=>z
def def_mk{kV D I cdv ct:Value}(X:K.In h)(G:h.Ns mainGlobals mg)(a:PySem.W.nsIn K mainGlobals x=some (some (.ref f)))(l:K.lookup f=some ⟨oc,od,.func (PySem.W.fnOf x x (sj st) (lg st) (fx st) .none kV D I an cdv ct),osl⟩)(c:PySem.W.codeIn K cdv x=true)(k:PySem.W.keepIn K (.ref f)=true)(J:∀us:h7,us.length=ps.length->bindArgs (PySem.W.fnOf x x (sj st) (lg st) (fx st) .none kV D I an cdv ct) ⟨us,[]⟩=pure (ps.zip us)):Def K mg st x ps :=
 ⟨f,_,zs8 l c k,.all J,j4 X G a⟩
def exc_mk{c:Str}(X:K.In h)(G:h.Ns mainGlobals mg)(a:PySem.W.nsIn K mainGlobals c=some (some (.ref C)))(b:PySem.W.excIn K C VEs "ValueError.__new__" = true)(d:okN c=true):Exc K mg c:=⟨C,a,b,j4 X G a,(se d).1⟩
def con_mk{z:Int}{t:Tok}(X:K.In h)(G:h.Ns mainGlobals mg)(a:PySem.W.nsIn K mainGlobals x=some (some (.int z t))):∃t,mg x=some (.int z t):=⟨t,j4 X G a⟩
def mef_mk{kV D I cdv ct:Value}(a:PySem.W.findIn K (.ref C) x=some (some (.ref f)))(l:K.lookup f=some ⟨oc,od,.func (PySem.W.fnOf x qual (sj st) (lg st) (fx st) .none kV D I an cdv ct),osl⟩)(c:PySem.W.codeIn K cdv qual=true)(k:PySem.W.keepIn K (.ref f)=true)(i:PySem.W.isFn K (.ref f)=true)(J:∀us:h7,us.length=ps.length->bindArgs (PySem.W.fnOf x qual (sj st) (lg st) (fx st) .none kV D I an cdv ct) ⟨us,[]⟩=pure (ps.zip us)):Mef K C st x qual ps :=
 ⟨f,_,zs8 l c k,.all J,a,i,k⟩
def ExcO(o:Obj)(C:Addr):Prop:=∃vs,o.cls=.ref C/\o.data=.fields vs/\vs[2]?=some .none
def zm6:entryFor table "proto.unchain" = some Builtin.«proto.unchain»:=entryFor_of_fast (by kernel_rfl)
variable{E:Value->Shared->Prop}{oc:Obj}{prog:Program}
def zr6{α:Type}{x c:Addr}{ox:Obj}{D:k7}{Q:α->Shared->Prop}(J:A.handled=some (.ref c))(R:s.heap.get? c=some oc)(S:ExcO oc C)(I:s.heap.get? x=some ox)(U:ox.data=.fields D)(h2:2<D.size)(V:c≠x)(h:E (.ref x) { s with heap:=s.heap.update x (Obj.mapFields (·.setIfInBounds 2 (.ref c))) }):wpAny (model prog w) A (raiseNew (.ref x):Sem α) Q E s:=by
 refine wpAny_bind (wpAny_handled ?_);rw[J];dsimp only;rw[if_pos (by simp[V])];obtain⟨a,b,Y,Z⟩:=S;refine wpAny_bind (wpAny_holding (wpAny_runValue (codeAny_builtin zm6 ?_)));refine wpAny_bind (wpAny_field R Y Z ?_);refine wpAny_bind (wpAny_pure (wpAny_pure ?_));refine wpAny_bind ?_;refine wpAny_bind (wpAny_load I ?_);rw[U];dsimp only;rw[if_pos h2];exact wpAny_update I (wpAny_throw h)
theorem zpr{it:Addr}{x left step:Int}{c:Addr}{Q:h8->Shared->Prop}(R:A.handled=some (.ref c))(J:s.heap.get? c=some oc)(S:ExcO oc C)(D:IsRangeIter s.heap it x left step)(I:left<=0)(U:∀h',Heap.ExtBut it s.heap h'->Q none { s with heap:=h' }):wpAny (model prog w) A (pyNext (.ref it)) Q E s:=by
 have hT:s.TypeIs (.ref it) "range_iterator":=⟨_,D,rfl⟩;refine wpAny_bind (wpAny_attempt (wpAny_callSpecial?_slot (name:=Str.ofString "__next__") hT F.slot_range_iterator_next
  (wpAny_call_entry F.slot_range_iterator_next hT F.entry_range_iterator_next ?_ (F.args_range_iterator_next_1 _))))
 show wpAny _ _ (field (.ref it) 0 >>= _) _ _ s;refine wpAny_bind (wpAny_field D rfl (x:=rawInt x) rfl ?_);show wpAny _ _ (field (.ref it) 1 >>= _) _ _ s;refine wpAny_bind (wpAny_field D rfl (x:=rawInt left) rfl ?_);refine wpAny_bind (wpAny_field D rfl (x:=rawInt step) rfl ?_);show wpAny _ _ (if left<=0 then _ else _) _ _ s;rw[if_pos I];refine wpAny_bind (wpAny_rule ?_);refine wpAny_bind ?_;refine wpAny_bind ?_;refine wpAny_bind (m:=firstArgMember _ _) (wpAny_of_eq (a:=Value.none) (by first | rfl | (simp only[firstArgMember];rfl)) ?_);refine wpAny_newObj_type ?_ (by size_fits);refine zr6 (show A.in1.handled=some (.ref c) from R) (ao _ (ao _ J)) S (ci _ rfl) rfl (by simp;lia) (b6 (by rw[ij];exact fz (bg J))) ?_;refine wpAny_bind (wpAny_isInstance (T:="StopIteration") (b:=true) ⟨_,fj _ (ci _ rfl) (by rfl),rfl⟩ isSubtype_stop ?_);refine wpAny_pure (U _ λb o V e=>?_);rw[cj _ _ (λz=>absurd (z ▸ bg e) (by rw[ij];exact Nat.not_lt.mpr (qa _)))];exact ao _ (ao _ e)
end L2
namespace L2
open PySem PySem.Spec PyProof.Rows PySem.W
structure ECls (K:k4) (C:Addr):Prop where
 ga:PySem.W.findIn K (.ref C) "__getattribute__" = some (some (.builtin "BaseException.__getattribute__"))
 hk:PySem.W.findIn K (.ref C) "__getattr__" = some none
 fd:PySem.W.findObj K C none "__class__" = some (.bind (.builtin "getset_descriptor.__get__") (.builtin "object.__class__"))
 ob:PySem.W.mroIn K C (.type "object")=some true
 be:PySem.W.mroIn K C (.type "BaseException")=some true
variable{K:k4}{w:World}{A:Around}{E:Value->Shared->Prop}{s:Shared}{x:Str}{C:Addr}{Q:Unit->Shared->Prop}
theorem zt6{prog:Program}{x:Addr}{ox:Obj}{Q:h8->Shared->Prop}(c:ECls K C)(X:K.In s.heap)(I:PySem.W.InstAt s.heap x ox C none)(h:Q (some (.ref C)) { s with toks:=s.toks+1 }):wpAny (model prog w) A (getAttr? (.ref x) "__class__") Q E s:=by
 obtain⟨D,g,d,t,os⟩:=s;have J:=I.type (M:=model prog w);have R:=looks_findIn (M:=model prog w) X c.ga;have S:=looks_findIn (M:=model prog w) X c.hk;have U:=looks_find (M:=model prog w) X I c.fd;have V:=looks_mroIn (M:=model prog w) X c.be;refine wpAny_bind (wpAny_mkText (wpAny_bind (wpAny_attempt (wpAny_holding (wpAny_bind (J.at (wpAny_bind (R.at ?_))))))));refine wpAny_bind (m:=hookBefore _) (S.at ?_);refine wpAny_bind (wpAny_attempt (wpAny_holding ?_));refine wpAny_bind (wpAny_pure (wpAny_call ?_));refine codeAny_call_builtin F.excAttr_ValueError.ga.plain F.entry_bexc_ga ?_;have Y:Looks (model prog w) D (isInstance (.ref x) (.type "BaseException")) true:=J.andThen V;refine wpAny_bind (Y.at ?_);repeat (first | wp_step | assumption)
 refine wpAny_loadPart_at I.at_ ?_;rw[I.cls];refine wpAny_pure (wpAny_bind (U.at ?_));refine wpAny_bind (wpAny_holding (wpAny_call (class_get (s:=⟨D,g,d,t+1,os⟩) (ox:=ox) (od:=none) X I c.ob ?_)));exact wpAny_pure (handed_on rfl (wpAny_pure h))
def Exo(o:Obj)(C:Addr):Prop:=ExcO o C/\o.dict=none
variable{h:Heap}{ea:Addr}{o:Obj}
def Exo.inst(e:h.get? ea=some o)(x:Exo o C):PySem.W.InstAt h ea o C none:=by
 obtain⟨⟨vs,h1,h2,_⟩,D⟩:=x;exact⟨e,h1,by unfold notCls;rw[h2],by rw[D];trivial⟩
def zwo(c:ECls K C):KitX K (.ref ea) (.ref C) (λh=>∃ox,PySem.W.InstAt h ea ox C none):=by
 obtain⟨Y,D,_⟩:=dh.mp c.fd;unfold clsIn at D;split at D;case h_2=>cases D
 rename_i Z d' S U R;exact⟨λ_ _ _ ⟨_,I⟩=>I.type,λ_ _ X _ a b d s' k q=>by
   exact wpAny_bind (wpAny_loadPart (k _ _ (X _ _ R)) (wpAny_pure q)),
  λh V dd its n sl X J=>Bool.eq_false_iff.mpr λq=>by
   have e:C=V:=Value.ref.inj (beq_iff_eq.mp q);subst e;have z:=(X _ _ R).symm.trans J
   (injection z with z;injection z with _ _ z;cases z),
  λX ⟨_,I⟩ k=>zt6 c X I k⟩
structure Hd (ea C:Addr) (X:Cx):Prop where
 hh:X.A.handled=some (.ref ea)
 ob:∃o,X.s₀.heap.get? ea=some o/\Exo o C
 h0:X.H₀ ea=none
 nf:ea∉X.fs
 nx:ea∉X.ex
variable{X:Cx}{pins:k6}{σ:St}{H:Hp}
def Hd.at(h:Hd ea C X)(I:Inv X pins σ H s):∃o,s.heap.get? ea=some o/\Exo o C/\H ea=none :=
 let ⟨o,e,c⟩:=h.ob;⟨o,I.base.keep ea o e h.h0 h.nf h.nx,c,I.base.free ea o e h.h0 h.nx⟩
def Hd.comp{N':g9}{sc:Scope}{cl:List (Str×Addr)}{D:Addr}{fp:ia}(h:Hd ea C X)(I:Inv X pins σ H s)(J:∀b∈fp,FpOk X pins H b):Hd ea C (ip X x N' sc cl D s H fp):=by
 obtain⟨S,R,_⟩:=h.ob;obtain⟨o,e,c,n⟩:=h.at I;have lt:=bg R;refine⟨h.hh,⟨o,e,c⟩,n,λz=>?_,λz=>?_⟩
 ·rcases cb.mp (I.stkSub ea z) with q | q
  ·exact absurd (az lt (q ▸ I.ok.above)) (ff _)
  ·exact h.nf q
 ·rcases(J ea z).2.2.2.1 with q | q
  ·exact h.nx q
  ·exact absurd (az lt q) (ff _)
variable{P:Program}
theorem zps{tg:Expr}(it:Addr)(lo:Int)(n:Nat):u7 (Hd ea C) P w K tg (Itr lo n) [it] it (λi h=>IsRangeIter h it (lo+(i:Nat)*1) ((n:Int)-(i:Nat)) 1) where
 mem:=by simp
 obj:=(zic (P:=P) (w:=w) (K:=K) (tg:=tg) it lo n).obj
 keep:=(zic (P:=P) (w:=w) (K:=K) (tg:=tg) it lo n).keep
 item:=by
  intro X hP j k V i pins s σ H E I S st U;obtain⟨Y,Z,l,a,d,f⟩:=S it (by simp);have U:i<n:=U;refine wpAny_pyNext_range_item st (by lia) λh' D g=>?_;have m:Inv X pins σ H { s with heap:=h',toks:=s.toks+1 }:=I.turned (λb o J e=>g.extBut b o J e) Y Z a d f;have p:lo+((i+1:Nat):Int)*1=lo+(i:Int)*1+1:=by lia
  have q:(n:Int)-((i+1:Nat):Int)=(n:Int)-(i:Int)-1:=by lia
  have R:IsRangeIter h' it (lo+((i+1:Nat):Int)*1) ((n:Int)-((i+1:Nat):Int)) 1:=by rw[p,q];exact D
  refine⟨_,rfl,zvc (s:={ s with heap:=h',toks:=s.toks+1 }) (n:="range_iterator") R rfl rfl (by decide) ⟨.int (lo+i),H,m,⟨s.toks,?_⟩,⟨rfl,rfl⟩,R,λb J=>(S b J).1⟩⟩;rw[Int.mul_one]
 done:=by
  intro X hP j k V i pins s σ H E I S st U;obtain⟨Y,Z,l,a,d,f⟩:=S it (by simp);obtain⟨o,e,⟨c,_⟩,_⟩:=V.at I;exact zpr V.hh e c st (by have:n<=i:=U;lia) λh' r=>⟨rfl,I.turned (t':=s.toks) (λb o J e=>r b o J e) Y Z a d f⟩
 self:=(zic (P:=P) (w:=w) (K:=K) (tg:=tg) it lo n).self
variable{a e:Expr}
def fIsx(ea:Addr)(i:Nat)(b:Bool):FE:=λe=>match e[i]? with | some (some (.sh (.exc a)))=>if a=ea then some (.bl b,e) else none | _=>none
variable{b:Expr}
def zwp(J:Hd ea C X)(R:ECls X.K C):nv X (.builtin "isinstance") (λxs H Q=>∃v u b,xs=[.ref ea,v]/\RelV v u/\(∀D,RelV v D->D=u)/\PySem.W.kitOne X.K (.ref C) u=some b/\Q (.bl b) H):=by
 intro pins s σ H xs us Q I r h;obtain⟨v,u,b,rfl,_,S,e,q⟩:=h;obtain⟨U,D,rfl,V,rt⟩:=zyq r;cases (show U=Value.ref ea from V);cases S D rt;obtain⟨o,Y,Z,_⟩:=J.at I;exact d6 (zwo R) I.kIn ⟨o,Z.inst Y⟩ e (λz=>nomatch z) λtk=>⟨.bl b,H,I.tok tk,rfl,q⟩
variable{b:Bool}{Nn Cn:g9}{i:Nat}{cn:Str}{G:Gd}{H0:Hp}{pos p' p1 p2:Pos}
def zx4{v:V}{u:Value}(Z:Hd ea C X)(c:ECls X.K C)(e:PE X (.Name cn p2) (tC v))(f:RelV v u)(h:∀S,RelV v S->S=u)(j:PySem.W.kitOne X.K (.ref C) u=some b)(an:Ats Nn Cn X)(U:Bn X "isinstance":=by walk_at "b")(D:Nn[i]?=some x:=by rfl)(Y:starEach [.Name x p1,.Name cn p2] X.env=(false,eval (.Name x p1) X.env)::starEach [.Name cn p2] X.env:=by rfl)(I:starEach [.Name cn p2] X.env=(false,eval (.Name cn p2) X.env)::starEach [] X.env:=by rfl)(J:(backTo pos (starEach [.Name cn p2] X.env)).any (·.1)=false:=by rfl) :
  DEx X G H0 (.Call (.Name "isinstance" p') [.Name x p1,.Name cn p2] [] pos) (fIsx ea i b) :=
 ⟨(yx (zwp Z c) U.g U.m zqn (mn ((an.a D).pe) (mn e pq I) Y) (by decide) (by decide) Y J).imp λσ H Q l=>by
  obtain⟨W,env,d,env',ok,q,k⟩:=l;unfold fIsx at q;split at q
  ·rename_i p n
   split at q;case isFalse=>cases q
   rename_i R;subst R;cases q;obtain⟨s,o,r⟩:=ok.slot i _ n;obtain rfl:=Rep.exc_ r;exact⟨_,o,v,u,b,rfl,f,h,j,k W _ H Step.refl ok (.bl b)⟩
  ·cases q⟩
variable{g:FE}
def z3i{R:Addr}(U:Hd ea C X)(V:ECls X.K C)(Y:X.mg cn=some (.ref R))(Z:PySem.W.kitOne X.K (.ref C) (.ref R)=some b)(an:Ats Nn Cn X)(a:Gl X cn:=by walk_at "g")(D:(cn==("__debug__" : Str))=false:=by decide)(c:Bn X "isinstance":=by walk_at "b")(I:Nn[i]?=some x:=by rfl)(d:starEach [.Name x p1,.Name cn p2] X.env=(false,eval (.Name x p1) X.env)::starEach [.Name cn p2] X.env:=by rfl)(J:starEach [.Name cn p2] X.env=(false,eval (.Name cn p2) X.env)::starEach [] X.env:=by rfl)(S:(backTo pos (starEach [.Name cn p2] X.env)).any (·.1)=false:=by rfl) :
  DEx X G H0 (.Call (.Name "isinstance" p') [.Name x p1,.Name cn p2] [] pos) (fIsx ea i b):=zx4 U V (zsl (v:=.ref R) a Y rfl D) rfl (λ_ z=>z) Z an c I d J S
def zz0:bootBuiltins "ValueError" = some (.type "ValueError"):=by decide +kernel
def zz1(S:Hd ea C X)(U:ECls X.K C)(V:PySem.W.kitOne X.K (.ref C) (.type "ValueError")=some b)(an:Ats Nn Cn X)(R:Bn X "ValueError":=by walk_at "b")(Y:Bn X "isinstance":=by walk_at "b")(D:Nn[i]?=some x:=by rfl)(Z:starEach [.Name x p1,.Name "ValueError" p2] X.env=(false,eval (.Name x p1) X.env)::starEach [.Name "ValueError" p2] X.env:=by rfl)(I:starEach [.Name "ValueError" p2] X.env=(false,eval (.Name "ValueError" p2) X.env)::starEach [] X.env:=by rfl)(J:(backTo pos (starEach [.Name "ValueError" p2] X.env)).any (·.1)=false:=by rfl) :
  DEx X G H0 (.Call (.Name "isinstance" p') [.Name x p1,.Name "ValueError" p2] [] pos) (fIsx ea i b):=zx4 S U (zsm (v:=.ty "ValueError") R.g R.m zz0 rfl) rfl (λ_ z=>z) V an Y D Z I J
def bTup:k9->la | [.lst ds]=>some (.tup ds) | _=>none
def zwq:bootBuiltins "tuple" = some (.type "tuple"):=by decide +kernel
def z3j:ub X G H0 (λxs H Q=>∃p ys,xs=[.ref p]/\((SqL X.K H p ys/\∀l,H l=none->Q (.ref l) (upd H l (.tup ys)))\/(SqT X.K H p ys/\Q (.ref p) H))) bTup:=by
 intro W env σ H vs ds d Q ok r e k;unfold bTup at e;split at e
 ·cases e
  obtain⟨v,rfl,D⟩:=qf r;obtain⟨a,us,rfl,h,r⟩:=D.lst_;refine⟨a,us,rfl,.inl ⟨h.sq,λl I=>?_⟩⟩;have sm:Same H (upd H l (.tup us)):=oh I;exact k _ _ (Step.same sm) (ok.same sm) (.tup j0 (ok.reps (Step.same sm) r))
 ·cases e
variable{b:Expr}{F:FA}
def zz2(I:DAx X G H0 [e] F)(D:Bn X "tuple":=by walk_at "b")(J:starEach [e] X.env=(false,eval e X.env)::starEach [] X.env:=by rfl):DEx X G H0 (.Call (.Name "tuple" p') [e] [] pos) (dw bTup F):=zql zmg z3j D.g D.m zwq I (by decide) (by decide) J rfl
abbrev Cx.hush(X:Cx)(A:Around)(p:k6):Cx:={ X with A:=A,calm:=false,pn:=p++X.pn }
variable{p:k6}
def Inv.hush(I:Inv X pins σ H s)(hA:A.frames=X.A.frames)(D:∀q∈p,s.heap.get? q.1=some q.2/\H q.1=none/\q.1≠X.env.locals/\q.1∉X.fs/\∀v,q.2.data≠.cell v):Inv (X.hush A p) pins σ H s :=
 ⟨⟨I.ok.mod,I.ok.kind,I.ok.glob,I.ok.blt,I.ok.above,I.ok.inj,I.ok.has,I.ok.cab,(λz=>nomatch z),hA.trans I.ok.frames,I.ok.stk,I.ok.exf,I.ok.bs,I.ok.bsz,I.ok.noex,I.ok.exfs,I.ok.funs,I.ok.frf⟩,I.os,I.bare,I.base,I.loc,I.cell,I.free,I.freeC,λq hq=>by
  rw[d4] at hq;rcases cz.mp hq with hq | hq
  ·exact D q hq
  ·exact I.pin q hq,I.hok,I.len⟩
def Inv.unhush(ok:X.Ok)(J:Inv (X.hush A p) pins σ H s):Inv X pins σ H s :=
 ⟨ok,J.os,J.bare,J.base,J.loc,J.cell,J.free,J.freeC,λq D=>J.pin q (by rw[d4];exact bz _ D),J.hok,J.len⟩
structure KOk (P:Program) (w:World) (K:k4) (mg:Str->h8) (base:Heap) (k:Nat) (f:Addr) (fd:FuncData) (ps:g9) (kd:Str->la):Prop where
 len:ps.length=1
 run:∀(A:Around) (outer:i0) (s:Shared) (H:Hp) (ea C:Addr) (c:Str) (o:Obj) (d:D) (O:Addr->Prop) (Q:VK) (args:Args),Room k { A with handled:=none }->A.handled=some (.ref ea)->Env0 P w K mg base A outer s H->BindsTo s fd args (ps.zip [.ref ea]) ->
  s.heap.get? ea=some o->Exo o C->Cl K c C->H ea=none->ea∉frs outer->kd c=some d->(∀v H',Same H H'->Rep K H' (λa=>O a\/H a=none) d v->Q v H')->codeAny (model P w) A (.call (.ref f) args) (CR CX0 outer P w H s Q E0) s
abbrev cxH(P:Program)(w:World)(K:k4)(mg:Str->h8)(base:Heap)(N:g9)(qual:Str)(scope:Scope)(f:Addr)(cdv:Value)(A:Around)(outer:i0)(s:Shared)(H:Hp):Cx :=
 ((cxOf CX0 P w K mg base N qual scope f cdv { A with handled:=none } outer s H E0).nox).hush (A.deeper (envOfC qual scope s.heap.objs.size f cdv)) []
def runK(n:Nat)(g:Addr->Str->FS)(c:Str)(d:D):Prop:=∀ea,∃e',g ea c (iz n [.exc ea])=some (.rt d,e')
variable{g:Addr->Str->FS}{st:Stmt}{N ps:g9}{k:Nat}{kd:Str->la}{mg:Str->h8}{base:Heap}
theorem fn_K{qual:Str}{f:Addr}{fd:FuncData}{n:Nat}(F:Fun K x qual st f fd)(S:pz N ps (fx st))(T:n=N.length)(E:ps.length=1)(j:∀c d,kd c=some d->runK n g c d)(U:∀(cdv:Value) (A:Around) (outer:i0) (s:Shared) (H:Hp) (ea C:Addr) (c:Str) (G:Gd) (H0:Hp),(kd c).isSome=true->Cl K c C->Hd ea C (cxH P w K mg base N qual (fx st) f cdv A outer s H)->DBx (cxH P w K mg base N qual (fx st) f cdv A outer s H) G H0 (lg st) (g ea c)) :
  KOk P w K mg base (k+1) f fd ps kd:=by
 subst T;refine⟨E,λA outer s H ea C c o d O Q args X hh D hb ho hx hc hH l L hQ=>?_⟩;obtain⟨oc,od,kV,aa,pm,an,cdv,ct,osl,rfl,lk,m⟩:=F.ex;have hl:[V.ref ea].length=ps.length:=E.symm;have M:K.In s.heap:=D.mod.kin.keeps λb o e=>(D.bs b o e).1;have p:s.heap.NoLimit:=D.mod.nolimit.keeps λb o e=>(D.bs b o e).1;have Y:∀y∈ps.zip [Value.ref ea],(fx st).names.lookup y.1=some .local\/((fx st).names.lookup y.1=some .cell/\((cellsFrom (s.heap.objs.size+1) (fx st).names []).lookup y.1).isSome=true):=λ⟨n,v⟩ hy=>by
  rcases S.par n (jh hy).1 with q | q
  ·exact .inl q
  ·exact .inr ⟨q,kr _ _ _ (.inl q)⟩
 refine codeAny_call_function (A:=A) X.depth (M _ _ lk) rfl S.co S.gen rfl (PySem.W.codeRec_of M m) (hb _ _ _ _ ?_);refine wpAny_newFunctionEnv_cells S.kind Y λenv he r x=>?_;subst he;refine⟨p.keeps x.toInCall.keep,codeAny_func ?_⟩;have e1:Env0 P w K mg base { A with handled:=none } outer s H:=⟨D.frames,D.mod,D.bs,D.bsz,D.funs,D.frf,D.hok,D.bare⟩;have I0:Inv (cxOf CX0 P w K mg base N qual (fx st) f cdv { A with handled:=none } outer s H E0) [] (start N [.ref ea]) H r:=znx S rfl e1 hl (.cons rfl .nil) x;have I:Inv (cxH P w K mg base N qual (fx st) f cdv A outer s H) [] (start N [.ref ea]) H r:=(I0.wish _).hush rfl λq hq=>absurd hq (by simp);have hD:Hd ea C (cxH P w K mg base N qual (fx st) f cdv A outer s H):=⟨hh,⟨o,ho,hx⟩,hH,l,by simp[cxOf]⟩;obtain⟨e',hg⟩:=j c d L ea;have t:=(U cdv A outer s H ea C c (gd λa=>O a\/H a=none) H (by rw[L];rfl) hc hD).out [] r (start N [.ref ea]) H { nx:=λ_ H'=>Q .non H',rt:=Q } I
  ⟨NoW,_,_,e',um (K:=K) (O:=O) (.cons (.exc ea) .nil),hg,λW' R v H' st z rp=>hQ v H' z.stay (rp.mono (λ_ _ h=>h) λa us o h=>⟨o.1,h⟩)⟩
 refine wpAny_mono t (λfl s' Z=>?_) λe s' Z=>False.elim Z;have i:∀ {R:St} {H':Hp} {v:V} {u:Value},Inv (cxH P w K mg base N qual (fx st) f cdv A outer s H) [] R H' s'->RelV v u->Q v H'->CE outer P w H s Q u s' :=
  λ{R H' v u} J B q=>⟨v,H',J.os,J.bare,J.base,J.hok,B,q⟩
 cases fl with
 | ret u =>
   obtain⟨v,R,H',J,B,q⟩:=Z;exact i J B q
 | next =>
   obtain⟨R,H',J,q⟩:=Z;exact i (v:=V.non) (u:=Value.none) J rfl q
 | brk =>
   obtain⟨_,_,_,q⟩:=Z;exact False.elim q
 | cont =>
   obtain⟨_,_,_,q⟩:=Z;exact False.elim q
def KCl(P:Program)(w:World)(K:k4)(mg:Str->h8)(base:Heap)(x:Str)(k:Nat)(kd:Str->la):Prop :=
 ∃f fd ps,KOk P w K mg base k f fd ps kd/\mg x=some (.ref f)/\PySem.W.keepIn K (.ref f)=true/\Binds K fd ps []/\(x==("__debug__" : Str))=false
def fKd(ea:Addr)(c:Str)(kd:Str->la)(i:Nat):FE:=λe=>match e[i]? with | some (some (.sh (.exc a)))=>if a=ea then(kd c).map λd=>(d,e) else none | _=>none
variable{c:Str}
theorem zz3{y:Str}{p:Pos}(g:X.A.handled=some (.ref ea))(j:(ea,o)∈X.pn)(l:Exo o C)(m:Cl X.K c C)(n:KCl X.prog X.w X.K X.mg X.base x k kd)(t:Room k { X.A with handled:=none })(an:Ats Nn Cn X)(B:Gl X x)(R:Nn[i]?=some y)(Z:starEach [.Name y p1] X.env=(false,eval (.Name y p1) X.env)::starEach [] X.env)(S:(backTo pos (starEach [] X.env)).any (·.1)=false):DEx X G H0 (.Call (.Name x p) [.Name y p1] [] pos) (fKd ea c kd i):=⟨λpins s σ H Q I U=>by
 obtain⟨W,env,d,env',ok,q,k⟩:=U;obtain⟨f,fd,ps,F,E,L,M,Y⟩:=n;unfold fKd at q;split at q;case h_2=>cases q
 rename_i a N;split at q;case isFalse=>cases q
 rename_i O;subst O;cases e2:kd c with
 | none=>rw[e2] at q;cases q
 | some d' =>
   rw[e2] at q;cases q;obtain⟨v',P,T⟩:=ok.slot i _ N;obtain rfl:=Rep.exc_ T;refine wpAny_Call_Name_kw (vf I B E ?_ Y);refine im (h₀:=X.base) I.ok.mod.kin L (thn ((mn (an.a R).pe pq Z) pos pins s σ H (λvs H1=>vs=[V.ref a]/\H1=H) I ⟨_,P,rfl,rfl⟩) λus b U=>?_) Z S;obtain⟨vs,H1,D,r,q1,q2⟩:=U;refine⟨D.kIn,?_⟩;subst q1 q2;obtain⟨u,rfl,hu⟩:=u6 r;cases (show u=Value.ref a from hu);obtain⟨g1,g2,g3,g4,_⟩:=D.pin (a,o) (du _ j);have hl:([Value.ref a]++[]).length=ps.length:=by rw[F.len];rfl
   have hz:=M b [Value.ref a] D.kIn hl;refine wpAny_call (codeAny_mono (F.run X.A X.stack b H1 a C c o _ (Ow G W) Q ⟨[.ref a],[]⟩ t g D.env0 hz g1 l m g2 (λz=>?_) e2 λv H2 sm r2=>?_) λr s' J=>?_)
   ·rcases cb.mp (D.stkSub a z) with z | z
    ·exact g3 z
    ·exact g4 z
   ·refine k W v H2 (Step.same sm) (ok.same sm) (r2.mono (λ_ _ h=>h) λa us o h=>⟨?_,h⟩)
    rcases o with o | o
    ·exact o
    ·exact⟨ok.good a (ok.stay.free o),λz=>by obtain⟨_,us,q⟩:=ok.wl a z;rw[o] at q;cases q⟩
   ·cases r with
    | error e=>exact False.elim J
    | ok fl =>
      cases fl with
      | ret u=>exact D.after J
      | next=>exact False.elim J
      | brk=>exact False.elim J
      | cont=>exact False.elim J⟩
variable{M:Model}
def zt7(I:Inv X pins σ H s)(l:X.N.Nodup)(hi:X.N[i]?=some x)(r:X.env.kindOf x=some .local)(h:∀s',Inv X pins (σ.set i none) H s'->Q () s'):wpAny M A (do bindName X.env x .none;unbindBehindTheSuite X.env x pos) Q E s:=by
 obtain⟨m,t,u⟩:=id I.loc;have R:(X.env.scope.kind==.class || (X.env.scope.kind==.module && X.env.locals != X.env.globals))=false:=by rw[I.ok.kind];rfl
 have S:i<σ.length:=by rw[I.len];exact(aj.mp hi).1
 refine wpAny_nameGoes_keeps r t R λh' v Y D=>?_;refine h _ ⟨I.ok,I.os,I.bare,⟨λb o e n Z U=>?_,λb o e n Z U=>?_,I.base.free,λb o e U=>?_,I.base.tups,I.base.frzs,I.base.tbls⟩,⟨_,Y,λj y w J V B=>?_⟩,λy c e=>?_,I.free,I.freeC,λp C=>?_,λb F e=>?_,by simpa using I.len⟩
 ·exact(D.2 b (b6 (az (bg e) I.ok.above))).trans (I.base.keep b o e n Z U)
 ·obtain⟨sl,J⟩:=I.base.slot b o e n Z U
  exact⟨sl,(D.2 b (b6 (az (bg e) I.ok.above))).trans J⟩
 ·obtain⟨o',J⟩:=I.base.there b o e U
  exact⟨o',(D.2 b (b6 (az (bg e) I.ok.above))).trans J⟩
 ·by_cases a:j=i
  ·subst a
   rw[d5 S] at V;cases V
  ·rw[db (Ne.symm a)] at V
   obtain⟨G,K,q⟩:=u j y w J V B;refine⟨G,K,?_⟩;rcases q with⟨k,e⟩ | ⟨k,c,e,z⟩
   ·refine .inl ⟨k,?_⟩
    have:y≠x:=λe=>a (zmc l J (e ▸ hi));simp[this,e]
   ·exact .inr ⟨k,c,e,z.sameBut D (I.cne y c e)⟩
 ·obtain⟨f,z⟩:=I.cell y c e
  exact⟨f,z.sameBut D (I.cne y c e)⟩
 ·obtain⟨e,n,g,L,d⟩:=I.pin p C
  exact⟨(D.2 p.1 g).trans e,n,g,L,d⟩
 ·refine(I.hok b F e).stay (λc f hc q=>(D.2 c ?_).trans q) (λ_ q=>q) λ_ _ q=>q
  rintro rfl;rcases hc with hc | hc
  ·rw[<-hc,I.free] at e;cases e
  ·rw[I.free] at hc;cases hc
def ObjOk.here{a:Addr}{o:HO}(x:ObjOk P w H h a o):∃u,h.get? a=some u:=by
 induction o with
 | lst xs=>obtain⟨_,_,_,_,e⟩:=x;exact⟨_,e⟩
 | tup xs=>obtain⟨_,_,_,o,e,_⟩:=x;exact⟨_,e⟩
 | dK kvs=>obtain⟨_,_,_,_,o,_,_,e,_⟩:=x;exact⟨_,e⟩
 | dT kvs=>obtain⟨_,_,_,_,o,_,_,e,_⟩:=x;exact⟨_,e⟩
 | set S n=>obtain⟨o,_,_,_,e,_⟩:=x;exact⟨_,e⟩
 | ins C dx fs=>exact⟨_,x.2.2.2.1⟩
 | own _=>exact x
 | xd fs=>obtain⟨_,⟨_,_,_,e,_⟩,_⟩:=x;exact⟨_,e⟩
 | met f y=>exact⟨_,x⟩
 | rng lo hi=>obtain⟨_,_,_,e⟩:=x;exact⟨_,e⟩
 | frz o u _=>exact⟨_,x.1⟩
 | tbl ps=>exact⟨_,x⟩
 | ext φ=>exact x.2.1
variable{W:Addr->Prop}{env:DE0}
def Ok.unset(ok:Ok K G H0 W env σ H)(i:Nat):Ok K G H0 W (env.set i none) (σ.set i none) H:=by
 have gt:∀ {α:Type} {l:List (Option α)} {j:Nat} {a:α},(l.set i none)[j]?=some (some a)->i≠j/\l[j]?=some (some a):=λ{α l j a} e=>by
  by_cases h:i=j
  ·subst h
   rw[gp] at e;simp at e
  ·rw[db h] at e
   exact⟨h,e⟩
 refine⟨ok.stay,ok.good,ok.wl,λj s e=>?_,λj I s s' v J a D R S U=>ok.uniq j I s s' v J a (gt D).2 (gt R).2 (gt S).2 (gt U).2,by rw[dn,dn];exact ok.len⟩;obtain⟨h,e⟩:=gt e;obtain⟨v,D,h1⟩:=ok.slot j s e;exact⟨v,by rw[db h];exact D,h1⟩
abbrev Cx.tr(X:Cx)(E:Value->Shared->Prop)(pp:k6):Cx:={ X with xe:=E,pn:=pp++X.pn }
def Inv.tr(I:Inv X pins σ H s):Inv (X.tr E pins) [] σ H s :=
 ⟨⟨I.ok.mod,I.ok.kind,I.ok.glob,I.ok.blt,I.ok.above,I.ok.inj,I.ok.has,I.ok.cab,I.ok.hd,I.ok.frames,I.ok.stk,I.ok.exf,I.ok.bs,I.ok.bsz,I.ok.noex,I.ok.exfs,I.ok.funs,I.ok.frf⟩,I.os,I.bare,I.base,I.loc,I.cell,I.free,I.freeC,λq D=>I.pin q (by
  rw[dc] at D;exact cz.mpr (cz.mp D).symm),I.hok,I.len⟩
variable{pp:k6}
def Inv.untr(ok:X.Ok)(I:Inv (X.tr E pins) pp σ H s):Inv X pins σ H s :=
 ⟨ok,I.os,I.bare,I.base,I.loc,I.cell,I.free,I.freeC,λq D=>I.pin q (du _ (cz.mpr (cz.mp D).symm)),I.hok,I.len⟩
variable{cs:g9}
def Ats.tr(h:Ats N cs X):Ats N cs (X.tr E pp):=⟨h.n,λi x e=>let z:=h.get i x e;⟨z.n,z.v,z.d,z.c⟩,h.ck⟩
def Tos.tr(h:Tos N X):Tos N (X.tr E pp):=⟨λi x e=>let z:=h.to i x e;⟨z.nd,z.n,z.l,z.f⟩⟩
def Ats.hush(h:Ats N cs X):Ats N cs (X.hush A pp):=⟨h.n,λi x e=>let z:=h.get i x e;⟨z.n,z.v,z.d,z.c⟩,h.ck⟩
def Tos.hush(h:Tos N X):Tos N (X.hush A pp):=⟨λi x e=>let z:=h.to i x e;⟨z.nd,z.n,z.l,z.f⟩⟩
def sTry(u:FS)(i j:Nat)(kd:Str->la):FS:=λe=>(u e).bind λr=>match r.1 with | .xc c=>(kd c).map λd=>(.nx,((r.2.set i none).set j (some (.sh d))).set i none) | _=>some r
def set3{α:Type}(l:List (Option α))(i j:Nat)(a b:Option α):((l.set i a).set j b).set i none=((l.set i none).set j b).set i none:=by
 by_cases h:i=j
 ·subst h;simp[List.set_set]
 ·rw[List.set_comm _ _ h,List.set_set,List.set_comm _ _ h,List.set_set]
variable{e:Addr}{H':Hp}{s':Shared}
def Fly.obj(R:X.stack=X.env::X.outer)(S:X.env.frame=some X.env.locals)(f:Fly X.prog X.w X.stack H s C e H' s'):∃o,s'.heap.get? e=some o/\Exo o C/\H' e=none/\e≠X.env.locals/\e∉X.fs/\∀v,o.data≠.cell v:=by
 obtain⟨B,x,a,U,un,os,b⟩:=f;obtain⟨V,vs,T,c,ts,J,Y,gd,I,d,Z,_⟩:=x.tr;have D:e∉frs X.stack:=λz=>by
  obtain⟨_,g,y,n⟩:=x.fr.mem z;rw[J] at y;cases y;exact n vs I
 rw[R] at D;have D:e∉X.env.locals::X.fs:=by unfold frs at D;rw[jk,S] at D;exact D
 refine⟨V,J,⟨⟨vs,Y,I,Z⟩,gd⟩,?_,λz=>D (z ▸ bn),λz=>D (ax _ z),λv z=>by rw[I] at z;cases z⟩;cases q:H' e with
 | none=>rfl
 | some o =>
   obtain⟨u,z⟩:=(U e o q).here;rw[x.new] at z;cases z
def Fly.flight(I:Inv X pins σ H s)(f:Fly X.prog X.w X.stack H s C e H' s')(h:∀h2,Fly X.prog X.w X.stack H s C e H' { s' with heap:=h2 }->Q () { s' with heap:=h2 }):wpAny M A (setFlight (.ref e) none) Q E s':=by
 obtain⟨B,x,S,V,un,os,Y⟩:=f;refine zpf x λh2 U Z a=>h h2 ⟨B,U,S,V,⟨λb o q n D _=>U.stay b o (S b o q n D),λb o q n D J=>?_,un.free,λb o q J=>?_,un.tups,un.frzs,un.tbls⟩,os,Y⟩
 ·obtain⟨sl,z⟩:=un.slot b o q n D J
  obtain⟨_,g,y,c⟩:=I.stack.mem D;rw[q] at y;cases y;obtain⟨R,d⟩:=Z b _ z c;exact⟨R,d⟩
 ·obtain⟨o',z⟩:=un.there b o q J
  exact a b o' z
def zz4{body:List Stmt}{u:FS}{j jr:Nat}{R y z:Str}{RA:Addr}{T h O p6 p7:Pos}(hR:X.mg R=some (.ref RA))(m:∀c C,(kd c).isSome=true->Cl X.K c C->PySem.W.exmOne X.K (.ref C) (.ref RA)=some true)(kc:KCl X.prog X.w X.K X.mg X.base x k kd)(rm:Room jr X.A)(an:Ats Nn Cn X)(U:Tos Nn X)(hb:∀E pp,Ats Nn Cn (X.tr E pp)->Tos Nn (X.tr E pp)->DBx (X.tr E pp) G H0 body u)(B:k<=jr:=by decide)(aa:Gl X R:=by walk_at "g")(ab:Gl X x:=by walk_at "g")(hi:Nn[i]?=some y:=by rfl)(hj:Nn[j]?=some z:=by rfl)(hl:X.env.kindOf y=some .local:=by kernel_rfl)(hX:X.stack=X.env::X.outer:=by rfl)(hf:X.env.frame=some X.env.locals:=by rfl)(ag:(R==("__debug__" : Str))=false:=by decide)(he:starEach [.Name y h] X.env=(false,eval (.Name y h) X.env)::starEach [] X.env:=by rfl)(al:(backTo O (starEach [] X.env)).any (·.1)=false:=by rfl)(ap:swapsWith (.Call (.Name x T) [.Name y h] [] O) (some (.Name z p2)) p6.line X.env=pure false:=by rfl) :
  DSx X G H0 (.Try body [.ExceptHandler (some (.Name R p1)) (some y) [.Assign [.Name z p2] (.Call (.Name x T) [.Name y h] [] O) p6] p7] [] [] pos) (sTry u i j kd):=⟨λpins s σ H Dn I zq=>by
 obtain⟨W,env,fl,env',ok,q,k⟩:=zq;unfold sTry at q;cases e1:u env with
 | none=>rw[e1] at q;cases q
 | some r =>
   obtain⟨F,S⟩:=r;rw[e1,ac] at q;refine wpAny_Try_except ?_;refine wpAny_mono ((hb _ pins an.tr U.tr).out [] s σ H Dn I.tr ⟨W,env,F,S,ok,e1,?_⟩) (λf s1 h1=>?_) (λe s1 h1=>h1)
   ·cases F with
    | xc c=>?_
    | nx=>cases q;exact k
    | bk=>cases q;exact k
    | ct=>cases q;exact k
    | rt d=>cases q;exact k
    | rf d=>cases q;exact k
    | r2 d=>cases q;exact k
    | ra d d'=>cases q;exact k
    cases e2:kd c with
    | none=>simp only[e2,kx] at q;cases q
    | some d =>
      simp only[e2,ai] at q;cases q;intro W' D H' C hc st L ar e s' xs;refine xs.come hX hf λh2 s1 H1 I1 f=>?_;have J:Inv X pins D H' { s' with heap:=h2 }:=(f.inv I1).untr I.ok;obtain⟨o,P,g2,_⟩:=Fly.obj (X:=X) hX hf f;refine wpAny_handleBy_cons (codeAny_handlers_test ?_) (λz=>nomatch z);refine vf (J.hush (A:=X.A.mark (some (.ref e))) (p:=[]) rfl (by simp)) aa hR ?_ ag;refine(exm_one (M:=model X.prog X.w) J.kIn (g2.inst P).type (m c C (by rw[e2];rfl) hc)).here ?_;refine codeAny_handlers_suite_as ?_;refine f.flight I1 λh3 f3=>?_;have J3:Inv X pins D H' { s' with heap:=h3 }:=(f3.inv I1).untr I.ok;obtain⟨N,P,g2,g3,g4,g5,g6⟩:=Fly.obj (X:=X) hX hf f3;have a0:i<S.length:=by
       rw[L.len,J3.len];exact(aj.mp (U.t hi).n).1
      refine zkv (X:=X.hush (X.A.mark (some (.ref e))) []) (J3.hush rfl (by simp)) (U.t hi).nd (U.t hi).n (U.t hi).l (v:=.ref e) rfl (λs4 I4 zq=>?_) (U.t hi).f;obtain⟨a,sb,ha⟩:=zq;have ge:s4.heap.get? e=some N:=(sb.2 e λz=>by
       rcases ha with ha | ha
       ·exact g4 (z.trans ha)
       ·obtain⟨v,oc,h1,h2⟩:=J3.cell _ _ ha
        rw[<-z] at h1;cases P.symm.trans h1;exact g6 v h2).trans P
      have I5:Inv ((X.hush (X.A.mark (some (.ref e))) [(e,N)]).nox) pins (D.set i (some (.ref e))) H' s4:=((I4.unhush I.ok).hush (A:=X.A.mark (some (.ref e))) (p:=[(e,N)]) rfl (λq hq=>by cases cy.mp hq;exact⟨ge,g3,g4,g5,g6⟩)).wish _;have hs:=(dq (fb (X:=(X.hush (X.A.mark (some (.ref e))) [(e,N)]).nox) (G:=G) (H0:=H0) (pos:=p6) (p':=p2) U.hush.nox (zz3 (C:=C) (c:=c) (o:=N) (p:=T) (p1:=h) (pos:=O) rfl (du _ bn) g2 hc kc ⟨rfl,(rm.mono B).dp,(rm.mono B).un⟩ an.hush.nox ab hi he al) hj ap)).out pins s4 _ H' { nx:=λV Q=>∃b,Step W' H' b Q/\Ok X.K G H0 b ((S.set i (some (.sh (.exc e)))).set j (some (.sh d))) V Q,rt:=λ_ _=>False } I5 ⟨W',S.set i (some (.sh (.exc e))),.nx,_,L.set (.exc e),by
       unfold sSet fKd;rw[d5 a0];dsimp only;rw[if_pos rfl,e2];rfl,λb V Q Y Z=>⟨b,Y,Z⟩⟩
      refine wpAny_mono hs (λf5 s5 g=>?_) (λx s5 g=>False.elim g);cases f5 with
      | next =>
        obtain⟨V,Q,J5,b,Y,Z⟩:=g;refine zt7 (J5.unwish.unhush I.ok) (U.t hi).nd (U.t hi).n hl λs6 J7=>⟨_,_,J7,k b _ _ (st.trans Y) ?_⟩;rw[<-set3];exact Z.unset i
      | brk=>obtain⟨_,_,_,z⟩:=g;exact z.elim
      | cont=>obtain⟨_,_,_,z⟩:=g;exact z.elim
      | ret u=>obtain⟨_,_,_,_,_,z⟩:=g;exact z.elim
   ·cases f with
    | next =>
      obtain⟨D,H',J,q⟩:=h1;exact wpAny_execs_nil ⟨D,H',J.untr I.ok,q⟩
    | brk=>obtain⟨D,H',J,q⟩:=h1;exact⟨D,H',J.untr I.ok,q⟩
    | cont=>obtain⟨D,H',J,q⟩:=h1;exact⟨D,H',J.untr I.ok,q⟩
    | ret u=>obtain⟨v,D,H',J,r,q⟩:=h1;exact⟨v,D,H',J.untr I.ok,r,q⟩⟩
def kn:g9:=["UnknownStack", "EmptyStack", "UnknownPlace", "BadHours", "BadLoss", "BadCount", "HouseFull", "DeedsFull", "NothingWaits", "NothingDone", "ShortOrder", "TooManyOrders", "NotGone"]
def oy:g9:=["unknown stack", "empty stack", "unknown place", "bad hours", "bad loss", "bad count", "house full", "deeds full", "nothing waits", "nothing done", "short order", "too many orders", "not gone"]
def wm(c:Str):kb:=(kn.zip oy).lookup c
def kdT(c:Str):la:=(wm c).map λw=>.tup [.str "refused",.str w]
def zz5(K:k4)(C:Addr):Bool:=findIn K (.ref C) "__getattribute__"==some (some (.builtin "BaseException.__getattribute__")) && findIn K (.ref C) "__getattr__"==some none && (match findObj K C none "__class__" with | some (.bind (.builtin g) (.builtin a))=>g=="getset_descriptor.__get__" && a=="object.__class__" | _=>false) && mroIn K C (.type "object")==some true && mroIn K C (.type "BaseException")==some true
def refB(K:k4)(n:Str)(p:Addr->Bool):Bool:=match nsIn K mainGlobals n with | some (some (.ref R))=>p R | _=>false
def z3k(K:k4):Bool:=kn.all λc=>refB K c λC=>zz5 K C && kitOne K (.ref C) (.type "ValueError")==some true && refB K "RotError" (λR=>exmOne K (.ref C) (.ref R)==some true) && kn.all λn=>refB K n λR=>kitOne K (.ref C) (.ref R)==some (c==n)
def zm7{n:Str}{p:Addr->Bool}(h:refB K n p=true):∃R,nsIn K mainGlobals n=some (some (.ref R))/\p R=true:=by
 unfold refB at h;split at h
 ·exact⟨_,by assumption,h⟩
 ·cases h
def zwr(h:zz5 K C=true):ECls K C:=by
 unfold zz5 at h;simp only[dr,beq_iff_eq] at h;obtain⟨⟨⟨⟨h1,h2⟩,D⟩,I⟩,J⟩:=h;refine⟨h1,h2,?_,I,J⟩;split at D
 ·rename_i g a e
  rw[dr,beq_iff_eq,beq_iff_eq] at D;rw[e,D.1,D.2]
 ·cases D
def zl7(h:(kdT c).isSome=true):c∈kn:=by
 unfold kdT at h;rw[Option.isSome_map] at h;obtain⟨w,e⟩:=j5.mp h;exact(jh (d7 e)).1
structure KFacts (K:k4) (mg:Str->h8):Prop where
 b:z3k K=true
 m:∀n∈("RotError" : Str)::kn,∀R,nsIn K mainGlobals n=some (some (.ref R))->mg n=some (.ref R)
def kf_mk(X:K.In h)(G:h.Ns mainGlobals mg)(b:z3k K=true):KFacts K mg:=⟨b,λ_ _ _ e=>mg_of X G e⟩
def KFacts.all(k:KFacts K mg)(S:(kdT c).isSome=true)(cl:Cl K c C):ECls K C/\kitOne K (.ref C) (.type "ValueError")=some true/\(∃R,mg "RotError" = some (.ref R)/\exmOne K (.ref C) (.ref R)=some true)/\∀n∈kn,∃R,mg n=some (.ref R)/\kitOne K (.ref C) (.ref R)=some (c==n):=by
 have h:=f9.mp k.b c (zl7 S);obtain⟨Y,e,h⟩:=zm7 h;cases e.symm.trans cl;simp only[dr,beq_iff_eq] at h;obtain⟨⟨⟨h1,h2⟩,D⟩,I⟩:=h;obtain⟨R,U,D⟩:=zm7 D;refine⟨zwr h1,h2,⟨R,k.m _ bn R U,beq_iff_eq.mp D⟩,λn J=>?_⟩;obtain⟨R,V,I⟩:=zm7 (f9.mp I n J);exact⟨R,k.m _ (ax _ J) R V,beq_iff_eq.mp I⟩
def KFacts.rot(k:KFacts K mg):∃R,mg "RotError" = some (.ref R)/\∀c C,(kdT c).isSome=true->Cl K c C->exmOne K (.ref C) (.ref R)=some true:=by
 have h:=f9.mp k.b "UnknownStack" (by decide);obtain⟨S,e,_⟩:=zm7 h;obtain⟨_,_,⟨R,D,_⟩,_⟩:=k.all (c:="UnknownStack") (by decide) e;refine⟨R,D,λc C I cl=>?_⟩;obtain⟨_,_,⟨U,J,z⟩,_⟩:=k.all I cl;cases D.symm.trans J;exact z
def n8(U:KFacts X.K X.mg)(V:(kdT c).isSome=true)(cl:Cl X.K c C)(Y:Hd ea C X)(an:Ats Nn Cn X)(Z:cn∈kn:=by decide)(a:Gl X cn:=by walk_at "g")(D:(cn==("__debug__" : Str))=false:=by decide)(b:Bn X "isinstance":=by walk_at "b")(I:Nn[i]?=some x:=by rfl)(d:starEach [.Name x p1,.Name cn p2] X.env=(false,eval (.Name x p1) X.env)::starEach [.Name cn p2] X.env:=by rfl)(J:starEach [.Name cn p2] X.env=(false,eval (.Name cn p2) X.env)::starEach [] X.env:=by rfl)(S:(backTo pos (starEach [.Name cn p2] X.env)).any (·.1)=false:=by rfl) :
  DEx X G H0 (.Call (.Name "isinstance" p') [.Name x p1,.Name cn p2] [] pos) (fIsx ea i (c==cn)):=by
 obtain⟨e,_,_,h⟩:=U.all V cl;obtain⟨R,f,g⟩:=h cn Z;exact z3i Y e f g an a D b I d J S
def z3l(R:KFacts X.K X.mg)(S:(kdT c).isSome=true)(cl:Cl X.K c C)(U:Hd ea C X)(an:Ats Nn Cn X)(V:Bn X "ValueError":=by walk_at "b")(Y:Bn X "isinstance":=by walk_at "b")(D:Nn[i]?=some x:=by rfl)(Z:starEach [.Name x p1,.Name "ValueError" p2] X.env=(false,eval (.Name x p1) X.env)::starEach [.Name "ValueError" p2] X.env:=by rfl)(I:starEach [.Name "ValueError" p2] X.env=(false,eval (.Name "ValueError" p2) X.env)::starEach [] X.env:=by rfl)(J:(backTo pos (starEach [.Name "ValueError" p2] X.env)).any (·.1)=false:=by rfl) :
  DEx X G H0 (.Call (.Name "isinstance" p') [.Name x p1,.Name "ValueError" p2] [] pos) (fIsx ea i true):=zz1 U (R.all S cl).1 (R.all S cl).2.1 an V Y D Z I J
theorem z5h(T:Def K mg st x ps)(N:g9)(D:∀c d,kd c=some d->runK N.length g c d)(I:∀ {f:Addr} {cdv:Value} {A:Around} {outer:i0} {s:Shared} {H:Hp} {ea C:Addr} {c:Str} {G:Gd} {H0:Hp},(kd c).isSome=true->Cl K c C->Hd ea C (cxH P w K mg base N x (fx st) f cdv A outer s H)->Ats N (celN N (fx st)) (cxH P w K mg base N x (fx st) f cdv A outer s H)->Tos N (cxH P w K mg base N x (fx st) f cdv A outer s H) ->
   DBx (cxH P w K mg base N x (fx st) f cdv A outer s H) G H0 (lg st) (g ea c))(h:scB N ps (fx st)=true:=by decide +kernel)(J:okN x=true:=by decide +kernel)(R:ps.length=1:=by rfl):KCl P w K mg base x (k+1) kd:=by
 obtain⟨f,fd,F,b,m⟩:=T;exact⟨f,fd,ps,fn_K F (ny h).1 rfl R D λcdv A outer s H ea C c G H0 S U V=>I S U V (qh h).nox.hush (qg h).nox.hush,m,F.kp,b,(se J).1⟩
def zz6(ea:Addr)(c:Str):FS:=sSeq (sSet 1 (fLst (fo (au (fIsx ea 0 (c=="UnknownStack")) (au (fIsx ea 0 (c=="EmptyStack")) fNil))))) (sSeq (sSet 1 (fLst (fCat (fVar 1) (fLst (fo (au (fIsx ea 0 (c=="UnknownPlace")) (au (fIsx ea 0 (c=="BadHours")) fNil))))))) (sSeq (sSet 1 (fLst (fCat (fVar 1) (fLst (fo (au (fIsx ea 0 (c=="BadLoss")) (au (fIsx ea 0 (c=="BadCount")) fNil))))))) (sSeq (sSet 1 (fLst (fCat (fVar 1) (fLst (fo (au (fIsx ea 0 (c=="HouseFull")) (au (fIsx ea 0 (c=="DeedsFull")) fNil))))))) (sSeq (sSet 1 (fLst (fCat (fVar 1) (fLst (fo (au (fIsx ea 0 (c=="NothingWaits")) (au (fIsx ea 0 (c=="NothingDone")) fNil))))))) (sSeq (sSet 1 (fLst (fCat (fVar 1) (fLst (fo (au (fIsx ea 0 (c=="ShortOrder")) (au (fIsx ea 0 (c=="TooManyOrders")) fNil))))))) (sSeq (sSet 1 (fLst (fCat (fVar 1) (fLst (fo (au (fIsx ea 0 (c=="NotGone")) fNil)))))) (sSeq (sSet 2 (fLst (fo (au (fC (.str "unknown stack")) (au (fC (.str "empty stack")) (au (fC (.str "unknown place")) (au (fC (.str "bad hours")) (au (fC (.str "bad loss")) (au (fC (.str "bad count")) fNil))))))))) (sSeq (sSet 2 (fLst (fCat (fVar 2) (fLst (fo (au (fC (.str "house full")) (au (fC (.str "deeds full")) (au (fC (.str "nothing waits")) (au (fC (.str "nothing done")) (au (fC (.str "short order")) fNil)))))))))) (sSeq (sSet 2 (fLst (fCat (fVar 2) (fLst (fo (au (fC (.str "too many orders")) (au (fC (.str "not gone")) fNil))))))) (sSeq (sSet 3 (fLst (gv (i3 iR1 (au (fC (.int 13)) fNil)) [2,1,0] (fAnd (fTst (fIxV 2 (fVar 0))) (fTst (fIsx ea 3 true))) (fIxV 1 (fVar 0))))) (sRet (dw bTup (au (fLst (fCat (fLst (fo (au (fC (.str "refused")) fNil))) (fVar 3))) fNil)))))))))))))
end L2
namespace LB
open PySem L2
def zla:FS:=sRet (fBin dSub (fBin dMul (fIxV 0 (fC (.int 1))) (fIxV 1 (fC (.int 0)))) (fBin dMul (fIxV 1 (fC (.int 1))) (fIxV 0 (fC (.int 0)))))
def xl:k9->la:=runD 2 2 zla
def zgj:FS:=sSeq (sSet 2 (dw xl (au (fVar 0) (au (fVar 1) (fNil))))) (sSeq (sIf (fTst (fBin dGt (fVar 2) (fC (.int 0)))) (sRet (fC (.int 1))) (sNil)) (sSeq (sIf (fTst (fBin dLt (fVar 2) (fC (.int 0)))) (sRet (fUn dNeg (fC (.int 1)))) (sNil)) (sRet (fC (.int 0)))))
def tu:k9->la:=runD 3 2 zgj
def zkb:FS:=sRet (wf (fIsi "int" (fVar 0)) (zy6 (fIsi "bool" (fVar 0))))
def qx:k9->la:=runD 1 1 zkb
def zlb:FS:=sSeq (sIf (fTst (fBin dLt (fVar 1) (h9 0))) (sRet (fIxV 0 (fVar 1))) (sNil)) (sRet (fC (.int 0)))
def yy:k9->la:=runD 2 2 zlb
def zev:FS:=sSeq (sSet 5 (dw yy (au (fVar 0) (au (fVar 4) (fNil))))) (sSeq (sIf (fTst (fBin dEq (fBin dMod (h9 0) (fC (.int 2))) (fC (.int 1)))) (sSeq (sSet 3 (fBin dMod (fBin gz (fBin gz (fBin gz (fBin dMul (fVar 3) (fC (.int 48271))) (fVar 5)) (fVar 4)) (fC (.int 1))) (fC (.int 2147483647)))) (sSet 5 (fBin dMod (fBin dMul (fBin gz (fVar 3) (fVar 4)) (fC (.int 69621))) (fC (.int 2147483647))))) (sNil)) (iu (oa 2 (fVar 5))))
def zkc:FS:=sSeq (sOwn 2 (fo (fNil))) (sSeq (sSet 3 (fC (.int 7))) (sSeq (sFor 4 (i3 iR1 (au (fVar 1) (fNil))) (zev)) (sRet (fVar 2))))
def zc:k9->la:=runD 6 2 zkc
def zot:FS:=sRet (fIxV 0 (fC (.int 1)))
def vt:k9->la:=runD 1 1 zot
def zpt:FS:=sRet (fIxV 0 (fC (.int 2)))
def vo:k9->la:=runD 1 1 zpt
def zlq:FS:=sRet (fTup (au (fC (.int 1)) (au (dw vt (au (fVar 0) (fNil))) (au (dw vo (au (fVar 0) (fNil))) (fNil)))))
def zew:k9->la:=runD 1 1 zlq
def ziv:FS:=sRet (fTup (au (fBin gz (fIxV 0 (fC (.int 0))) (fIxV 1 (fC (.int 0)))) (au (fBin gz (fIxV 0 (fC (.int 1))) (fIxV 1 (fC (.int 1)))) (au (fBin gz (fIxV 0 (fC (.int 2))) (fIxV 1 (fC (.int 2)))) (fNil)))))
def zex:k9->la:=runD 2 2 ziv
def zjn:FS:=sRet (fTup (au (fIxV 0 (fC (.int 1))) (au (fIxV 0 (fC (.int 2))) (fNil))))
def zt:k9->la:=runD 1 1 zjn
def zck:FS:=sRet (fBin dGt (dw tu (au (dw zt (au (fVar 0) (fNil))) (au (dw zt (au (fVar 1) (fNil))) (fNil)))) (fC (.int 0)))
def tw:List D->Option D:=runD 2 2 zck
def zdn:FS:=sSet 3 (dw zex (au (fPop 1) (au (fVar 3) (fNil))))
def zdo:FS:=sSeq (sSet 3 (dw zew (au (fVar 2) (fNil)))) (sSeq (l8 (fAnd (fTst (fBin dGt (h9 1) (fC (.int 0)))) (fNot (fTst (dw tw (au (fIxV 1 (fUn dNeg (fC (.int 1)))) (au (fVar 3) (fNil))))))) (zdn) 10000) (iu (oa 1 (fVar 3))))
def zgq:FS:=sSeq (sOwn 1 (fo (fNil))) (sSeq (sFor 2 (fiS (fVar 0)) (zdo)) (sRet (fVar 1)))
def zey:k9->la:=runD 4 1 zgq
def vw:FS:=sSeq (sIf (fAnd (fTst (fIsi "str" (fIxV 1 (fVar 2)))) (fNot (fTst (fIsi "str" (fIxV 0 (fVar 2)))))) (sRet (fC (.bl false))) (sNil)) (sSeq (sIf (fAnd (fNot (fTst (fIsi "str" (fIxV 1 (fVar 2))))) (fNot (fTst (dw qx (au (fIxV 0 (fVar 2)) (fNil)))))) (sRet (fC (.bl false))) (sNil)) (sIf (fTst (fBin dNe (fIxV 0 (fVar 2)) (fIxV 1 (fVar 2)))) (sRet (fC (.bl false))) (sNil)))
def zy:FS:=sSeq (sIf (fOr (fNot (fTst (fIsi "tuple" (fVar 0)))) (fTst (fBin dNe (h9 0) (h9 1)))) (sRet (fC (.bl false))) (sNil)) (sSeq (sFor 2 (i3 iR1 (au (h9 1) (fNil))) (vw)) (sRet (fC (.bl true))))
def rd:k9->la:=runD 3 2 zy
def zjo:FS:=sRet (fBin dLt (fBin dMul (fIxV 0 (fC (.int 2))) (fIxV 1 (fC (.int 1)))) (fBin dMul (fIxV 1 (fC (.int 2))) (fIxV 0 (fC (.int 1)))))
def zfs:k9->la:=runD 2 2 zjo
def zkd:FS:=sRet (fTup (au (fIxV 0 (fC (.int 2))) (au (fIxV 0 (fC (.int 3))) (fNil))))
def qw:k9->la:=runD 1 1 zkd
def zw:FS:=sSet 2 (fBin gz (fVar 2) (fC (.int 1)))
def zf5:FS:=sSeq (sSet 2 (fC (.int 0))) (sSeq (l8 (fAnd (fTst (fBin dLt (fVar 2) (h9 0))) (fTst (fBin dGe (dw tu (au (dw qw (au (fIxV 0 (fVar 2)) (fNil))) (au (dw qw (au (fVar 1) (fNil))) (fNil)))) (fC (.int 0))))) (zw) 10000) (sRet (fVar 2)))
def zf6:k9->la:=runD 3 2 zf5
def zx:FS:=sSeq (sSet 7 (fTup (au (fVar 2) (au (fVar 4) (au (fVar 5) (au (fVar 6) (fNil))))))) (iu (zmq 1 (yl zf6 (zwa 1 (au (fVar 7) (fNil)))) (fVar 7)))
def zd7:FS:=pi [4,5,6] (fiS (dw zey (au (fVar 3) (fNil)))) (zx)
def zg5:FS:=sSeq (sOwn 1 (fo (fNil))) (sSeq (pi [2,3] (i3 (iEn 1) (au (fVar 0) (fNil))) (zd7)) (sRet (fVar 1)))
def x3:k9->la:=runD 8 1 zg5
def zi4:FS:=zzc (gv (fiS (fVar 0)) [] fYes (fLst (i3 pj (au (fVar 0) (fNil)))))
def zi5:k9->Option k9:=runF 1 1 zi4
def b__law_good_run_0:FS:=sSeq (sSet 4 (fBin gz (fVar 4) (fIxV 6 (fC (.int 1))))) (sSeq (sSet 5 (fBin gz (fVar 5) (fIxV 6 (fC (.int 2))))) (sIf (fTst (fBin dGt (fBin dMul (fVar 5) (fVar 2)) (fBin dMul (fVar 3) (fVar 4)))) (sRet (fC (.bl false))) (sNil)))
def s__law_good_run:FS:=sSeq (sSet 2 (dw bSum (au (fLst (gv (fiS (fVar 1)) [] fYes (fIxV 0 (fC (.int 1))))) (fNil)))) (sSeq (sSet 3 (dw bSum (au (fLst (gv (fiS (fVar 1)) [] fYes (fIxV 0 (fC (.int 2))))) (fNil)))) (sSeq (sIf (fNot (fTst (dw rd (au (fVar 0) (au (fTup (au (fIxV 0 (fC (.int 0))) (au (h9 1) (au (fVar 2) (au (fVar 3) (fNil)))))) (fNil)))))) (sRet (fC (.bl false))) (sNil)) (sSeq (sSet 4 (fC (.int 0))) (sSeq (sSet 5 (fC (.int 0))) (sSeq (sFor 6 (fiS (fVar 1)) (b__law_good_run_0)) (sRet (fC (.bl true))))))))
def m__law_good_run:k9->la:=runD 7 2 s__law_good_run
def zez:FS:=iu (zmt 1 (fRep (fo (au (fVar 2) (fNil))) (fVar 3)))
def zhz:FS:=sSeq (sOwn 1 (fo (fNil))) (sSeq (pi [2,3,4,5] (fiS (dw x3 (au (fVar 0) (fNil)))) (zez)) (zvw 1))
def xp:k9->Option k9:=runF 6 1 zhz
def zr:FS:=sSeq (sSet 2 (fBin gz (fVar 2) (fBin dIx (fIxV 0 (fVar 4)) (fC (.int 1))))) (sSeq (sSet 3 (fBin gz (fVar 3) (fBin dIx (fIxV 0 (fVar 4)) (fC (.int 2))))) (sIf (fTst (fBin dGe (fBin dMul (fVar 3) (fIxV 1 (fC (.int 1)))) (fBin dMul (fIxV 1 (fC (.int 2))) (fVar 2)))) (sSet 1 (fLst (fo (au (fBin gz (fVar 4) (fC (.int 1))) (au (fVar 2) (au (fVar 3) (fNil))))))) (sNil)))
def zg6:FS:=sSeq (sSet 1 (fLst (fo (au (fC (.int 0)) (au (fC (.int 1)) (au (fUn dNeg (fC (.int 1))) (fNil))))))) (sSeq (sSet 2 (fC (.int 0))) (sSeq (sSet 3 (fC (.int 0))) (sSeq (sFor 4 (i3 iR1 (au (h9 0) (fNil))) (zr)) (sRet (fVar 1)))))
def ze:k9->la:=runD 5 1 zg6
def xy:FS:=sIf (fTst (fBin dGt (fBin dMul (fBin dIx (fIxV 3 (fVar 5)) (fC (.int 2))) (fBin dIx (fIxV 3 (fVar 4)) (fC (.int 1)))) (fBin dMul (fBin dIx (fIxV 3 (fVar 4)) (fC (.int 2))) (fBin dIx (fIxV 3 (fVar 5)) (fC (.int 1)))))) (sSet 4 (fVar 5)) (sNil)
def ze0:FS:=sSeq (sSet 3 (fLst (gv (fiV 1) [] fYes (dw ze (au (fVar 0) (fNil)))))) (sSeq (sSet 4 (fC (.int 0))) (sSeq (sFor 5 (i3 iR1 (au (h9 3) (fNil))) (xy)) (sSeq (iu (oa 2 (fTup (au (fBin gz (fVar 4) (fC (.int 1))) (au (fBin dIx (fIxV 3 (fVar 4)) (fC (.int 0))) (au (fBin dIx (fIxV 3 (fVar 4)) (fC (.int 1))) (au (fBin dIx (fIxV 3 (fVar 4)) (fC (.int 2))) (fNil)))))))) (va 1 (fVar 4) (fLst (fSl (fIxV 1 (fVar 4)) (fO1 (fBin dIx (fIxV 3 (fVar 4)) (fC (.int 0)))) (fO0)))))))
def zh0:FS:=sSeq (sOwn 1 (gv (fiS (fVar 0)) [] fYes (fLst (i3 pj (au (fVar 0) (fNil)))))) (sSeq (sOwn 2 (fo (fNil))) (sSeq (l8 (fTst (fBin dGt (dw bSum (au (fLst (gv (fiV 1) [] fYes (h9 0))) (fNil))) (fC (.int 0)))) (ze0) 10000) (sRet (fVar 2))))
def zb:k9->la:=runD 6 1 zh0
def zg7:FS:=sOwn 1 (fCat (fVar 1) (fLst (fRep (fo (au (fIxV 2 (fC (.int 0))) (fNil))) (fIxV 2 (fC (.int 1))))))
def zi6:FS:=sSeq (sOwn 1 (fo (fNil))) (sSeq (sFor 2 (fiS (dw zb (au (fVar 0) (fNil)))) (zg7)) (zvw 1))
def zpu:k9->Option k9:=runF 3 1 zi6
def zc4:FS:=sIf (fOr (fNot (fTst (dw qx (au (fIxV 0 (fVar 2)) (fNil))))) (fTst (fBin dNe (fIxV 0 (fVar 2)) (fIxV 1 (fVar 2))))) (sRet (fC (.bl false))) (sNil)
def zdt:FS:=sSeq (sIf (fOr (fNot (fTst (fIsi "list" (fVar 0)))) (fTst (fBin dNe (h9 0) (h9 1)))) (sRet (fC (.bl false))) (sNil)) (sSeq (sFor 2 (i3 iR1 (au (h9 1) (fNil))) (zc4)) (sRet (fC (.bl true))))
def zcl:k9->la:=runD 3 2 zdt
def zm8:FS:=sRet (fIxV 0 (fC (.int 0)))
def zjp:k9->la:=runD 1 1 zm8
def ze1:FS:=sSeq (sSet 8 (fIxV 2 (fBin dSub (fVar 4) (fC (.int 1))))) (sSeq (va 2 (fBin dSub (fVar 4) (fC (.int 1))) (fBin gz (fVar 8) (fVar 5))) (iu (oa 3 (fLst (fSl (fIxV 0 (fBin dSub (fVar 4) (fC (.int 1)))) (fO1 (fVar 8)) (fO1 (fBin gz (fVar 8) (fVar 5))))))))
def zh1:FS:=sSeq (sOwn 2 (gv (fiS (fVar 0)) [] fYes (fC (.int 0)))) (sSeq (sOwn 3 (fo (fNil))) (sSeq (pi [4,5,6,7] (fiS (fVar 1)) (ze1)) (sRet (fVar 3))))
def zh2:k9->la:=runD 9 2 zh1
def zf8:FS:=sSeq (sSet 3 (fBin gz (fVar 3) (dw vt (au (fVar 5) (fNil))))) (sSeq (sSet 4 (fBin gz (fVar 4) (dw vo (au (fVar 5) (fNil))))) (iu (oa 2 (dw xl (au (fVar 0) (au (fTup (au (fVar 3) (au (fVar 4) (fNil)))) (fNil)))))))
def zg8:FS:=sSeq (sOwn 2 (fo (fNil))) (sSeq (sSet 3 (fC (.int 0))) (sSeq (sSet 4 (fC (.int 0))) (sSeq (sFor 5 (fiS (fLst (fSl (fVar 1) (fO0) (fO1 (fUn dNeg (fC (.int 1))))))) (zf8)) (sRet (fVar 2)))))
def zg9:k9->la:=runD 6 2 zg8
def zd:FS:=sSeq (sIf (fTst (fBin dEq (fBin gz (fVar 1) (fC (.int 1))) (h9 0))) (sRet (fC (.int 0))) (sNil)) (sRet (dw xl (au (dw qw (au (fIxV 0 (fVar 1)) (fNil))) (au (dw qw (au (fIxV 0 (fBin gz (fVar 1) (fC (.int 1)))) (fNil))) (fNil)))))
def zi7:k9->la:=runD 2 2 zd
def zha:FS:=sSeq (sSet 5 (fIxV 1 (fVar 3))) (iu (oa 2 (fBin yc (fVar 5) (fTup (au (dw zg9 (au (dw qw (au (fVar 5) (fNil))) (au (fVar 4) (fNil)))) (au (dw zi7 (au (fVar 1) (au (fVar 3) (fNil)))) (fNil)))))))
def zi8:FS:=sSeq (sSet 1 (dw x3 (au (fVar 0) (fNil)))) (sSeq (sOwn 2 (fo (fNil))) (sSeq (pi [3,4] (i3 (iEn 0) (au (dw zh2 (au (fVar 0) (au (fVar 1) (fNil)))) (fNil))) (zha)) (sRet (fVar 2))))
def zhb:k9->la:=runD 6 1 zi8
def zgr:FS:=sRet (dw bSum (au (fLst (gv (fiS (fVar 0)) [] fYes (h9 0))) (fNil)))
def ze2:k9->la:=runD 1 1 zgr
def zd9:FS:=sSet 1 (fBin gz (fVar 1) (dw bSum (au (fLst (gv (fiS (fVar 2)) [] fYes (dw vo (au (fVar 0) (fNil))))) (fNil))))
def zhc:FS:=sSeq (sSet 1 (fC (.int 0))) (sSeq (sFor 2 (fiS (fVar 0)) (zd9)) (sRet (fVar 1)))
def zhd:k9->la:=runD 3 1 zhc
def zj6:FS:=sRet (fBin dIx (fIxV 0 (fBin dSub (fVar 1) (fC (.int 1)))) (fC (.int 0)))
def zig:k9->la:=runD 2 2 zj6
def zh3:FS:=sRet (fLst (fCat (fLst (fCat (fLst (fSl (fVar 0) (fO0) (fO1 (fBin dSub (fVar 1) (fC (.int 1)))))) (fLst (fo (au (fVar 2) (fNil)))))) (fLst (fSl (fVar 0) (fO1 (fVar 1)) (fO0)))))
def xo:k9->la:=runD 3 3 zh3
def zhe:FS:=sRet (dw xo (au (fVar 0) (au (fVar 1) (au (fLst (fSl (fIxV 0 (fBin dSub (fVar 1) (fC (.int 1)))) (fO1 (fC (.int 1))) (fO0))) (fNil)))))
def zft:k9->la:=runD 2 2 zhe
theorem z5i(I:ik)(k:Nat):∃c,yy [.lst (I.map D.int),.int k]=some (.int c):=by
 by_cases h:(k:Int)<I.length
 ·obtain⟨x,h1,h2⟩:=z26 (xs:=I.map D.int) (i:=(k:Int)) (by lia) (by simpa using h)
  rw[b7] at h2;cases q:I[(k:Int).toNat]? with
  | none=>rw[q] at h2;cases h2
  | some c =>
    rw[q] at h2;cases h2;simp[yy,runD,zlb,iz,h,h1]
 ·refine⟨0,?_⟩
  simp[yy,runD,zlb,iz,h]
theorem zws(I:ik)(n:Nat)(b:n<=1000):∃cs:ik,cs.length=n/\zc [.lst (I.map D.int),.int n]=some (.lst (cs.map D.int)):=by
 have loop:=sx (i:=4) (g:=zev)
  (λk e=>∃(cs:ik) (st:Int) (S v5:ln),cs.length=k/\e=[some (.sh (.lst (I.map D.int))),some (.sh (.int n)),some (.ow (cs.map D.int)),some (.sh (.int st)),S,v5])
  (rngD 0 n) [some (.sh (.lst (I.map D.int))),some (.sh (.int n)),some (.ow []),some (.sh (.int 7)),none,none] ⟨[],7,none,none,rfl,rfl⟩ ?_
 ·obtain⟨e',h1,cs,st,S,v5,R,rfl⟩:=loop
  refine⟨cs,by rw[R,uq],?_⟩;have Y:=n4 n (by lia);simp[zc,runD,zkc,iz,Y,h1]
 ·rintro k d e Z ⟨cs,st,S,v5,R,rfl⟩
  obtain⟨rfl,f⟩:=ul Z;obtain⟨c,U⟩:=z5i I k;have J:Few (cs.length+1):=few (by lia);by_cases V:(I.length:Int) % 2=1
  ·refine⟨_,?_,cs++[((st*48271+c+k+1) % 2147483647+k)*69621 % 2147483647],(st*48271+c+k+1) % 2147483647,some (.sh (.int (0+k))),some (.sh (.int (((st*48271+c+k+1) % 2147483647+k)*69621 % 2147483647))),by simp[R],rfl⟩
   have a:kq 48271:=qt (by decide);have s2:kq 69621:=qt (by decide);simp[zev,U,V,dMod,dMul,a,s2,J]
  ·refine⟨_,?_,cs++[c],st,some (.sh (.int (0+k))),some (.sh (.int c)),by simp[R],rfl⟩
   simp[zev,U,V,dMod,J]
def zt8(a b c d:Int)(D:kq b)(I:kq d) :
  xl [.tup [.int a,.int b],.tup [.int c,.int d]]=some (.int (b*c-d*a)):=by
 simp[xl,runD,zla,iz,dMul,D,I,atI,ixN]
theorem zq6(a b c d:Int)(R:kq b)(S:kq d) :
  tu [.tup [.int a,.int b],.tup [.int c,.int d]]=some (.int (if d*a<b*c then 1 else if b*c<d*a then -1 else 0)):=by
 have I:=zt8 a b c d R S;by_cases h1:d*a<b*c
 ·have D:0<b*c-d*a:=by lia
  simp[tu,runD,zgj,iz,I,h1,D]
 ·have D:¬0<b*c-d*a:=by lia
  by_cases h2:b*c<d*a
  ·have J:b*c-d*a<0:=by lia
   simp[tu,runD,zgj,iz,I,h1,h2,D,J]
  ·have J:¬b*c-d*a<0:=by lia
   simp[tu,runD,zgj,iz,I,h1,h2,D,J]
def xf(i:Int):qx [.int i]=some (.bl true):=by
 simp[qx,runD,zkb,iz]
abbrev Sk:=Int×Int×Int
abbrev mu:=List Sk
abbrev mv:=List (List Sk)
def sD(s:Sk):D:=.tup [.int s.1,.int s.2.1,.int s.2.2]
def gy(s:Sk):Prop:=1<=s.1/\s.1<=60/\1<=s.2.1/\s.2.1<=60/\0<=s.2.2/\s.2.2<=100
def b3:Bnd 1 1073741824 3:=⟨by decide,by decide⟩
def b12:Bnd 1 1073741824 12:=⟨by decide,by decide⟩
variable{n i:Nat}
def sg{i:Int}(D:0<=i)(h1:i<n):ixN n i=some i.toNat:=by unfold ixN;rw[if_pos D,if_pos h1]
noncomputable def hl:FS:=sSeq (sSet 10 (fBin gz (fC (.int 1)) (fBin dMod (fVar 9) (fC (.int 60))))) (sSeq (sSet 11 (fBin dMod (fBin dDiv (fVar 9) (fC (.int 60))) (fC (.int 101)))) (sSeq (sIf (fTst (fBin dEq (fVar 4) (fC (.int 1)))) (sSeq (sSet 10 (fBin gz (fC (.int 1)) (fBin dMod (fVar 9) (fBin dSub (fC (.int 4)) (fBin dMul (fC (.int 2)) (fVar 5)))))) (sSet 11 (fBin dMod (fBin dDiv (fVar 9) (fC (.int 60))) (fBin dSub (fC (.int 4)) (fBin dMul (fC (.int 2)) (fVar 5)))))) (sNil)) (sSeq (sIf (fTst (fBin dEq (fVar 4) (fC (.int 2)))) (sSeq (sSet 10 (fBin dIx (fLst (fo (au (fC (.int 1)) (au (fC (.int 60)) (au (fC (.int 2)) (au (fC (.int 59)) (fNil))))))) (fBin dMod (fVar 9) (fC (.int 4))))) (sSet 11 (fBin dIx (fLst (fo (au (fC (.int 0)) (au (fC (.int 100)) (au (fC (.int 1)) (au (fC (.int 99)) (fNil))))))) (fBin dMod (fBin dDiv (fVar 9) (fC (.int 60))) (fC (.int 4)))))) (sNil)) (sIf (fTst (fBin dEq (fVar 4) (fC (.int 3)))) (sSeq (sSet 10 (fBin dIx (fLst (fo (au (fVar 10) (au (fBin gz (fC (.int 58)) (fBin dMod (fVar 9) (fC (.int 3)))) (fNil))))) (fVar 5))) (sSet 11 (fVar 10))) (sNil)))))
noncomputable def pl:FS:=sSeq (sSet 12 (fBin dMod (fBin dIx (fLst (fo (au (fBin dDiv (fVar 9) (fC (.int 6060))) (au (fVar 8) (fNil))))) (fBin dMul (fBin dDiv (fVar 4) (fC (.int 3))) (fVar 5))) (fVar 2))) (sSeq (sSet 13 (z2z 7 (fBin dMod (fBin dDiv (fVar 9) (fC (.int 30300))) (h9 7)))) (iu (zv1 6 (fVar 12) (fTup (au (fVar 13) (au (fVar 10) (au (fVar 11) (fNil))))))))
def z5z(s:mu):mu:=match s.getLast? with
 | none=>[]
 | some x=>s.dropLast++[(x.1,x.2.1,x.2.2+1)]
structure SInv (menu:Int) (many k:Nat) (sss:mv) (pool:ik):Prop where
 len:sss.length=many
 tot:sss.flatten.length=k
 good:∀x∈sss.flatten,gy x/\(menu=3->x.2.2<=60)
 perm:(pool++sss.flatten.map (·.1)).Perm (rngL 1 61)
structure Stk (most:Nat) (ss:mv):Prop where
 many:ss.length<=5
 tot:ss.flatten.length<=most
 good:∀x∈ss.flatten,gy x
 nd:(ss.flatten.map (·.1)).Nodup
def iT(xs:ik):D:=.tup (xs.map D.int)
variable{α:Type}{k:Nat}
theorem j6(f:α->D){xs:List α}{x:α}(h:xs[k]?=some x):atI (xs.map f) (k:Int)=some (f x):=by
 have I:=(aj.mp h).1;unfold atI;rw[sg (by lia) (by rw[ah];lia)];simp[h]
theorem zpv(xs:ik)(U:xs.length<=1000):rd [iT xs,iT xs]=some (.bl true):=by
 obtain⟨e',h1,v2,rfl⟩:=sx (i:=2) (g:=vw) (λk e=>∃v2,e=[some (.sh (iT xs)),some (.sh (iT xs)),v2]) (rngD 0 xs.length) [some (.sh (iT xs)),some (.sh (iT xs)),none] ⟨none,rfl⟩ (by
  rintro k d e J ⟨v2,rfl⟩;obtain⟨rfl,R⟩:=ul J;have S:atI (xs.map D.int) (k:Int)=some (.int xs[k]):=j6 D.int (by simp[R]);exact⟨[some (.sh (iT xs)),some (.sh (iT xs)),some (.sh (.int (0+k)))],by simp[vw,iT,S,xf],_,rfl⟩)
 have hi:=n4 xs.length (by lia);refine je (e':=?w) rfl ?h;show zy [some (.sh (iT xs)),some (.sh (iT xs)),none]=_;have I:forL 2 vw (rngD 0 xs.length) [some (.sh (.tup (xs.map D.int))),some (.sh (.tup (xs.map D.int))),none]=some (.nx,[some (.sh (.tup (xs.map D.int))),some (.sh (.tup (xs.map D.int))),v2]):=h1;simp[zy,iT,hi,I];rfl
abbrev Bk:=Int×Int×Int
def hrs(r:mu):Int:=(r.map (·.2.1)).sum
def lss(r:mu):Int:=(r.map (·.2.2)).sum
def blk(r:mu):Bk:=(r.length,hrs r,lss r)
def jn(u b:Bk):Bk:=(u.1+b.1,u.2.1+b.2.1,u.2.2+b.2.2)
def gt(u b:Bk):Prop:=b.2.2*u.2.1<u.2.2*b.2.1
instance (u b:Bk):Decidable (gt u b):=inferInstanceAs (Decidable (_<_))
def SmB(b:Bk):Prop:=kq b.2.1/\kq b.2.2
def zt9(s:Sk):zew [sD s]=some (sD (1,s.2.1,s.2.2)):=by
 rfl
def zua(u b:Bk):zex [sD u,sD b]=some (sD (jn u b)):=by
 simp[zex,runD,ziv,iz,sD,z48,u4,t5,jn]
def zr7(u b:Bk)(U:SmB u)(V:SmB b):tw [sD u,sD b]=some (.bl (decide (gt u b))):=by
 obtain⟨Y,I,J⟩:=u;obtain⟨Z,R,b3⟩:=b;have S:∀x y z:Int,zt [sD (x,y,z)]=some (.tup [.int y,.int z]):=λx y z=>by simp[zt,runD,zjn,iz,sD,u4,t5]
 have D:=zq6 I J R b3 U.2 V.2;by_cases h1:b3*I<J*R
 ·rw[if_pos h1] at D
  simp[tw,runD,zck,iz,S,D,gt,h1]
 ·rw[if_neg h1] at D
  by_cases h2:J*R<b3*I
  ·rw[if_pos h2] at D
   simp[tw,runD,zck,iz,S,D,gt,h1]
  ·rw[if_neg h2] at D
   simp[tw,runD,zck,iz,S,D,gt,h1]
def zub(bs:k9)(x:D):atI (bs++[x]) (-1)=some x:=zvi bs x
def o7(a b:mu):hrs (a++b)=hrs a+hrs b:=by simp[hrs]
def n9(a b:mu):lss (a++b)=lss a+lss b:=by simp[lss]
def z3m(a b:mu):jn (blk a) (blk b)=blk (a++b):=by
 simp only[jn,blk,o7,n9,am];simp
theorem u8(r:mu)(h:∀x∈r,gy x):(r.length:Int)<=hrs r/\hrs r<=60*r.length/\0<=lss r/\lss r<=100*r.length:=by
 induction r with
 | nil=>simp[hrs,lss]
 | cons x r ih =>
   obtain⟨h1,h2,D,I⟩:=ih λy J=>h y (ax _ J);obtain⟨_,_,R,S,U,V⟩:=h x bn;simp[hrs,lss,ii] at h1 h2 D I ⊢
   lia
theorem smB(r:mu)(h:∀x∈r,gy x)(D:r.length<=1000):SmB (blk r):=by
 obtain⟨h1,h2,I,J⟩:=u8 r h;exact⟨qt (by show -1000000000000<hrs r/\hrs r<1000000000000;lia),qt (by show -1000000000000<lss r/\lss r<1000000000000;lia)⟩
def lb:mv->mu->mv×mu
 | [],b=>([],b)
 | u::r,b=>if gt (blk u) (blk b) then(u::r,b) else lb r (u++b)
def bD(r:mu):D:=sD (blk r)
def zpw(v0 v2:ln)(bs:k9)(u b:mu):zdn [v0,some (.ow (bs++[bD u])),v2,some (.sh (bD b))]=some (.nx,[v0,some (.ow bs),v2,some (.sh (bD (u++b)))]):=by
 have e:=zua (blk u) (blk b);rw[z3m] at e;simp[zdn,bD,e]
theorem zq7(v0 v2:ln):∀(n:Nat) (rs:mv) (b:mu),rs.length<n->(∀r∈rs,∀x∈r,gy x)->(∀x∈b,gy x)->(rs.flatten.length+b.length<=1000) ->
  l8 (fAnd (fTst (fBin dGt (h9 1) (fC (.int 0)))) (fNot (fTst (dw tw (au (fIxV 1 (fUn dNeg (fC (.int 1)))) (au (fVar 3) (fNil))))))) zdn n
   [v0,some (.ow (rs.reverse.map bD)),v2,some (.sh (bD b))]=some (.nx,[v0,some (.ow ((lb rs b).1.reverse.map bD)),v2,some (.sh (bD (lb rs b).2))])
 | n+1,[],b,_,_,_,_=>by simp[l8,lb]
 | n+1,u::r,b,h,hs,hb,hl=>by
   rw[cg,am] at hl;have I:tw [bD u,bD b]=some (.bl (decide (gt (blk u) (blk b)))):=zr7 (blk u) (blk b) (smB u (hs u (by simp)) (by lia)) (smB b hb (by lia));have J:(0:Int)<(r.length:Int)+1:=by lia
   have D:=zpw v0 v2 (r.reverse.map bD) u b;unfold l8;rw[List.reverse_cons,b9,cf,di];by_cases h1:gt (blk u) (blk b)
   ·simp[lb,h1,I,J,zub]
   ·have R:=zq7 v0 v2 n r (u++b) (by simpa using h) (λt S=>hs t (by simp[S])) (λx hx=>by
     rcases cz.mp hx with hx | hx
     ·exact hs u (by simp) x hx
     ·exact hb x hx) (by rw[am];lia)
    have U:lb (u::r) b=lb r (u++b):=by simp[lb,h1]
    rw[U];have V:(fAnd (fTst (fBin dGt (h9 1) (fC (.int 0)))) (fNot (fTst (dw tw (au (fIxV 1 (fUn dNeg (fC (.int 1)))) (au (fVar 3) (fNil)))))))
      [v0,some (.ow (r.reverse.map bD++[bD u])),v2,some (.sh (bD b))]=some (true,[v0,some (.ow (r.reverse.map bD++[bD u])),v2,some (.sh (bD b))]):=by
     simp[h1,I,J,zub]
    rw[V,ac];rw[if_pos rfl,D,ac];exact R
structure Good (r:mu):Prop where
 ne:r≠[]
 beg:∀p,p <+: r->lss p*hrs r<=lss r*hrs p
theorem zx5(r:mu)(h:∀x∈r,gy x):0<=hrs r:=by have:=u8 r h;lia
theorem ql(r:mu)(h:∀x∈r,gy x)(D:r≠[]):0<hrs r:=by
 have h1:=u8 r h;have:0<r.length:=ft.mpr D
 lia
def zpx{α:Type}:∀ {u b p:List α},p <+: u++b->p <+: u\/∃t,p=u++t/\t <+: b
 | [],b,p,h=>.inr ⟨p,rfl,h⟩
 | a::u,b,[],h=>.inl List.nil_prefix
 | a::u,b,c::p,h=>by
   rw[ph,List.cons_prefix_cons] at h;obtain⟨rfl,h⟩:=h;rcases zpx h with h | ⟨t,rfl,ht⟩
   ·exact .inl (by rw[List.cons_prefix_cons];exact⟨rfl,h⟩)
   ·exact .inr ⟨t,rfl,ht⟩
variable{b:Bk}
theorem Good.join{u b:mu}(I:Good u)(R:Good b)(S:∀x∈u,gy x)(U:∀x∈b,gy x)(h:¬gt (blk u) (blk b)):Good (u++b):=by
 have h':lss u*hrs b<=lss b*hrs u:=Int.not_lt.mp h;have c:=ql u S I.ne;have V:=ql b U R.ne;refine⟨by simp[I.ne],λp D=>?_⟩;rw[o7,n9];rcases zpx D with D | ⟨t,rfl,ht⟩
 ·-- within u
  have h1:=I.beg p D;have pp:0<=hrs p:=zx5 p λx J=>S x (D.subset J);have k:lss p*hrs u*(hrs u+hrs b)<=lss u*hrs p*(hrs u+hrs b):=gc h1 (by lia);have l:hrs p*(lss u*hrs b)<=hrs p*(lss b*hrs u):=qb h' pp;have d:lss p*(hrs u+hrs b)*hrs u<=(lss u+lss b)*hrs p*hrs u:=by
   have Y:lss p*(hrs u+hrs b)*hrs u=lss p*hrs u*(hrs u+hrs b):=by rw[gn,jp (hrs u+hrs b),<-gn]
   have Z:lss u*hrs p*(hrs u+hrs b)=lss u*hrs p*hrs u+hrs p*(lss u*hrs b):=by rw[jc,jp (lss u) (hrs p),gn (hrs p) (lss u) (hrs b)]
   have e:(lss u+lss b)*hrs p*hrs u=lss u*hrs p*hrs u+hrs p*(lss b*hrs u):=by rw[gx,gx,jp (lss b) (hrs p),gn (hrs p) (lss b) (hrs u)]
   lia
  exact ux d c
 ·-- u and a beginning of b
  rw[o7,n9];have h1:=R.beg t ht;obtain⟨q,rfl⟩:=ht;rw[o7,n9] at h1 h' ⊢;rw[o7] at V;have f:0<=hrs q:=zx5 q λx J=>U x (bz _ J);have g:lss t*hrs q<=lss q*hrs t:=by
   have Y:lss t*(hrs t+hrs q)=lss t*hrs t+lss t*hrs q:=jc _ _ _;have Z:(lss t+lss q)*hrs t=lss t*hrs t+lss q*hrs t:=gx _ _ _
   lia
  have m:lss u*(hrs t+hrs q)*hrs q<=(lss t+lss q)*hrs u*hrs q:=gc h' f;have i:0<=hrs u:=by lia
  have b3:hrs u*(lss t*hrs q)<=hrs u*(lss q*hrs t):=qb g i;have j:lss u*hrs q*(hrs t+hrs q)<=lss q*hrs u*(hrs t+hrs q):=by
   have Y:lss u*hrs q*(hrs t+hrs q)=lss u*(hrs t+hrs q)*hrs q:=by rw[gn,jp (hrs q),<-gn]
   have Z:(lss t+lss q)*hrs u*hrs q=hrs u*(lss t*hrs q)+lss q*hrs u*hrs q:=by rw[gx,gx,jp (lss t) (hrs u),gn (hrs u) (lss t) (hrs q)]
   have e:lss q*hrs u*(hrs t+hrs q)=hrs u*(lss q*hrs t)+lss q*hrs u*hrs q:=by rw[jc,jp (lss q) (hrs u),gn (hrs u) (lss q) (hrs t)]
   lia
  have n:lss u*hrs q<=lss q*hrs u:=ux j V;simp only[jc,gx]
  lia
def Desc:mv->Prop
 | []=>True
 | [_]=>True
 | b::u::r=>gt (blk u) (blk b)/\Desc (u::r)
structure Runs (rs:mv) (s:mu):Prop where
 flat:rs.reverse.flatten=s
 good:∀r∈rs,Good r
 desc:Desc rs
def zq8:∀(rs:mv) (b:mu) (s:mu),Runs rs s->Good b->(∀x∈s++b,gy x)->Runs ((lb rs b).2::(lb rs b).1) (s++b)
 | [],b,s,h,gb,_=>by
   have:s=[]:=by have:=h.flat;simpa using this.symm
   subst this;exact⟨by simp[lb],λr I=>by simp[lb] at I;rw[I];exact gb,trivial⟩
 | u::r,b,s,h,gb,hx=>by
   have J:s=r.reverse.flatten++u:=by rw[<-h.flat];simp
   by_cases h1:gt (blk u) (blk b)
   ·have e:lb (u::r) b=(u::r,b):=by simp[lb,h1]
    rw[e];refine⟨by simp[J],λt ht=>?_,h1,h.desc⟩;rcases cb.mp ht with rfl | ht
    ·exact gb
    ·exact h.good t ht
   ·have e:lb (u::r) b=lb r (u++b):=by simp[lb,h1]
    rw[e];have I:Runs r r.reverse.flatten:=⟨rfl,λt ht=>h.good t (ax _ ht),by
     have:=h.desc;cases r with
     | nil=>trivial
     | cons v r=>exact this.2⟩
    have R:Good (u++b):=(h.good u (by simp)).join gb (λx D=>hx x (by rw[J];simp[D])) (λx D=>hx x (by simp[D])) h1;have:=zq8 r (u++b) r.reverse.flatten I R (λx D=>hx x (by rw[J];simpa[or_assoc] using D));rw[J,d4];exact this
def zwt(x:Sk)(h:gy x):Good [x]:=⟨by simp,λp I=>by
 have:p=[]\/p=[x]:=by
  obtain⟨t,D⟩:=I;cases p with
  | nil=>exact .inl rfl
  | cons y q=>simp at D;simp[D]
 rcases this with rfl | rfl
 ·simp[lss,hrs]
 ·exact Int.le_refl _⟩
def zuc(x:Sk):zew [sD x]=some (bD [x]):=by
 rw[zt9];simp[bD,blk,hrs,lss]
theorem zpy(S:D)(rs:mv)(s:mu)(x:Sk)(v2 d:ln)(h:Runs rs s)(V:∀y∈s++[x],gy y)(m:s.length<900) :
  ∃J Z,Runs J (s++[x])/\zdo [some (.sh S),some (.ow (rs.reverse.map bD)),some (.sh (sD x)),d]=some (.nx,[some (.sh S),some (.ow (J.reverse.map bD)),some (.sh (sD x)),Z]):=by
 have R:rs.flatten.length=s.length:=by
  rw[<-h.flat,ie,ie,List.map_reverse,List.sum_reverse]
 have f:rs.length<=s.length:=by
  rw[<-R];have:∀(l:mv),(∀r∈l,r≠[])->l.length<=l.flatten.length:=λl=>by
   induction l with
   | nil=>intro _;simp
   | cons a l ih =>
     intro U;have:=ih λr I=>U r (ax _ I);have g:0<a.length:=ft.mpr (U a bn);rw[ak,cg,am]
     lia
  exact this rs λr I=>(h.good r I).ne
 have i:=zq7 (some (.sh S)) (some (.sh (sD x))) 10000 rs [x] (by lia) (λr I y Y=>V y (by
  rw[<-h.flat];exact du _ (fc.mpr ⟨r,by simpa using I,Y⟩))) (λy Y=>V y (by simp at Y;simp[Y])) (by rw[R];simp;lia)
 have I:=zq8 rs [x] s h (zwt x (V x (by simp))) V;refine⟨_,some (.sh (bD (lb rs [x]).2)),I,?_⟩;have c:(lb rs [x]).1.length<=s.length:=by
  have e:=I.flat;have:∀(l:mv),(∀r∈l,r≠[])->l.length<=l.flatten.length:=λl=>by
   induction l with
   | nil=>intro _;simp
   | cons a l ih =>
     intro U;have:=ih λr I=>U r (ax _ I);have g:0<a.length:=ft.mpr (U a bn);rw[ak,cg,am]
     lia
  have h2:=this _ λr b=>(I.good r b).ne;have j:(((lb rs [x]).2::(lb rs [x]).1).flatten).length=(s++[x]).length:=by
   rw[<-e,ie,ie,List.map_reverse,List.sum_reverse]
  rw[j] at h2;simp at h2;exact h2
 have k:Few ((lb rs [x]).1.length+1):=few (by lia);unfold zdo;simp only[sSeq,sSet,dw,au,fVar,fNil,ae,af,ac,ai,zuc,aq,av,i,iu,oa,zvx,ah,List.length_reverse,k,if_true];simp
theorem zga(s:mu)(U:∀y∈s,gy y)(Z:s.length<=14):∃rs,Runs rs s/\zey [.lst (s.map sD)]=some (.lst (rs.reverse.map bD)):=by
 obtain⟨e',h1,rs,v2,D,I,rfl⟩:=uk (i:=2) (g:=zdo) sD (λp e=>∃rs v2 D,Runs rs p/\e=[some (.sh (.lst (s.map sD))),some (.ow (rs.reverse.map bD)),v2,D]) s
  [some (.sh (.lst (s.map sD))),some (.ow []),none,none] ⟨[],none,none,⟨rfl,λr I=>by simp at I,trivial⟩,rfl⟩ (by
   rintro p x q e J ⟨rs,v2,D,I,rfl⟩;obtain⟨R,V,S,Y⟩:=zpy (.lst (s.map sD)) rs p x v2 D I (λy hy=>U y (by
    rw[J];rcases cz.mp hy with hy | hy
    ·simp[hy]
    ·simp at hy;simp[hy])) (by
    have:s.length=p.length+(q.length+1):=by rw[J];simp
    lia)
   exact⟨_,Y,R,_,_,S,rfl⟩)
 refine⟨rs,I,?_⟩;refine je (e':=[some (.sh (.lst (s.map sD))),some (.sh (.lst (rs.reverse.map bD))),v2,D]) rfl ?_;show zgq [some (.sh (.lst (s.map sD))),none,none,none]=_;simp[zgq,h1]
theorem zud(a b c:k9):cutD (a++(b++c)) (some ((a.length:Int))) (some ((a.length:Int)+(b.length:Int)))=b:=by
 unfold cutD;rw[HT.sIx_nat,show(a.length:Int)+(b.length:Int)=((a.length+b.length:Nat):Int) by lia,HT.sIx_nat];simp
def z5j(r:mu):bD r=.tup [.int (r.length:Int),.int (hrs r),.int (lss r)]:=rfl
def pv(f:α->Int)(r:List α):bSum [.lst (r.map λx=>.int (f x))]=some (.int (r.map f).sum):=by
 have:(r.map λx=>D.int (f x))=(r.map f).map D.int:=by rw[i5];rfl
 rw[this];show(ints? ((r.map f).map D.int)).map _=_;rw[zy9];rfl
def zue(a b:mu)(D:SmB (blk a))(I:SmB (blk b)):zfs [bD a,bD b]=some (.bl (decide (lss a*hrs b<lss b*hrs a))):=by
 have J:kq (lss a):=D.2;have s2:kq (lss b):=I.2;simp[zfs,runD,zjo,iz,z5j,u4,t5,dMul,J,s2]
def zq9:∀ {rs:mv} {k:Nat} {b u:mu},Desc rs->rs[k]?=some b->rs[k+1]?=some u->gt (blk u) (blk b)
 | a::c::r,0,b,u,d,h1,h2=>by simp at h1 h2;subst h1 h2;exact d.1
 | a::c::r,k+1,b,u,d,h1,h2=>zq9 (rs:=c::r) (k:=k) d.2 (by simpa using h1) (by simpa using h2)
def zou{α:Type}{ix:ic}{g:FS}(I:α->k9)(P:List α->DE0->Prop)(all:List α)(R:∀x∈all,(I x).length=ix.length)(S:∀(p:List α) (x:α) (q:List α) (e:DE0),all=p++x::q->P p e->∃e',g (qi ix (I x) e)=some (.nx,e')/\P (p++[x]) e') :
  ∀(xs J:List α) (e:DE0),all=J++xs->P J e->∃e',forU ix g (xs.map λx=>D.tup (I x)) e=some (.nx,e')/\P all e'
 | [],J,e,h,hp=>⟨e,rfl,by rw[h,dc];exact hp⟩
 | x::xs,J,e,h,hp=>by
   obtain⟨U,h1,p1⟩:=S J x xs e h hp;obtain⟨V,h2,p2⟩:=zou I P all R S xs (J++[x]) U (by rw[h];simp) p1;have Y:=R x (by rw[h];simp);exact⟨V,by simp[forU,unp,Y,h1,h2],p2⟩
variable{g:FS}
def xb{ix:ic}(I:α->k9)(P:List α->DE0->Prop)(all:List α)(e:DE0)(J:P [] e)(R:∀x∈all,(I x).length=ix.length)(S:∀(p:List α) (x:α) (q:List α) (e:DE0),all=p++x::q->P p e->∃e',g (qi ix (I x) e)=some (.nx,e')/\P (p++[x]) e') :
  ∃e',forU ix g (all.map λx=>D.tup (I x)) e=some (.nx,e')/\P all e':=zou I P all R S all [] e rfl J
def zld{α:Type}(f:α->D):∀(xs:List α) (c:Nat),nr c (xs.map f)=(xs.zipIdx c).map λp=>D.tup [.int (p.2:Nat),f p.1]
 | [],c=>rfl
 | x::xs,c=>by simp[nr,List.zipIdx_cons,zld f xs (c+1)]
theorem ui{u:Bk}(h:gt u b):¬gt b u:=λz=>by
 unfold gt at h z
 lia
variable{c:Bk}
theorem z7{n:Bk}(J:0<n.2.1)(R:0<c.2.1)(D:0<b.2.1)(h1:gt n c)(h2:¬gt b c):gt n b:=by
 have h2:b.2.2*c.2.1<=c.2.2*b.2.1:=Int.not_lt.mp h2;have S:b.2.2*c.2.1*n.2.1<=c.2.2*b.2.1*n.2.1:=gc h2 (by lia);have U:c.2.2*n.2.1*b.2.1<n.2.2*c.2.1*b.2.1:=tx h1 D;have I:b.2.2*n.2.1*c.2.1<n.2.2*b.2.1*c.2.1:=by
  have V:b.2.2*n.2.1*c.2.1=b.2.2*c.2.1*n.2.1:=gm ..;have Y:n.2.2*b.2.1*c.2.1=n.2.2*c.2.1*b.2.1:=gm ..;have Z:c.2.2*b.2.1*n.2.1=c.2.2*n.2.1*b.2.1:=gm ..
  lia
 exact uw I (by lia)
theorem z5k{n:Bk}(D:0<n.2.1)(J:0<c.2.1)(R:0<b.2.1)(h1:¬gt c n)(h2:gt c b):gt n b:=by
 have h1:c.2.2*n.2.1<=n.2.2*c.2.1:=Int.not_lt.mp h1;have S:c.2.2*n.2.1*b.2.1<=n.2.2*c.2.1*b.2.1:=gc h1 (by lia);have U:b.2.2*c.2.1*n.2.1<c.2.2*b.2.1*n.2.1:=tx h2 D;have I:b.2.2*n.2.1*c.2.1<n.2.2*b.2.1*c.2.1:=by
  have V:b.2.2*n.2.1*c.2.1=b.2.2*c.2.1*n.2.1:=gm ..;have Y:n.2.2*b.2.1*c.2.1=n.2.2*c.2.1*b.2.1:=gm ..;have Z:c.2.2*b.2.1*n.2.1=c.2.2*n.2.1*b.2.1:=gm ..
  lia
 exact uw I (by lia)
def z3n{n:Bk}(D:0<n.2.1)(I:0<c.2.1)(J:0<b.2.1)(h1:¬gt c n)(h2:¬gt b c):¬gt b n:=λz=>by
 have:=z7 (n:=b) (c:=n) (b:=c) J D I z h1;exact h2 this
abbrev Tn:=Nat×mu
abbrev mx:=List Tn
def tnD(t:Tn):D:=.tup [.int (t.1:Int),.int (t.2.length:Int),.int (hrs t.2),.int (lss t.2)]
def zle(t:Tn):qw [tnD t]=some (.tup [.int (hrs t.2),.int (lss t.2)]):=by
 simp[qw,runD,zkd,iz,tnD,z5b,z5c]
def geT(a b:Tn):Bool:=!decide (gt (blk b.2) (blk a.2))
variable{b:Int}{a:Nat}
def zz7{a b:Tn}:geT a b=true↔¬gt (blk b.2) (blk a.2):=by simp[geT]
theorem zz8(t n:Tn)(D:SmB (blk t.2))(I:SmB (blk n.2)):∃z:Int,tu [.tup [.int (hrs t.2),.int (lss t.2)],.tup [.int (hrs n.2),.int (lss n.2)]]=some (.int z)/\decide (0<=z)=geT t n:=by
 refine⟨_,zq6 _ _ _ _ D.2 I.2,?_⟩;show decide ((0:Int)<=if lss n.2*hrs t.2<lss t.2*hrs n.2 then 1 else if lss t.2*hrs n.2<lss n.2*hrs t.2 then -1 else 0)=!decide (lss t.2*hrs n.2<lss n.2*hrs t.2);by_cases h1:lss n.2*hrs t.2<lss t.2*hrs n.2
 ·rw[if_pos h1]
  have h2:¬lss t.2*hrs n.2<lss n.2*hrs t.2:=by lia
  simp[h2]
 ·rw[if_neg h1]
  by_cases h2:lss t.2*hrs n.2<lss n.2*hrs t.2
  ·simp[h2]
  ·simp[h2]
def plc(ts:mx)(n:Tn):Nat:=(ts.takeWhile λt=>geT t n).length
noncomputable def zl8:FT:=fAnd (fTst (fBin dLt (fVar 2) (h9 0))) (fTst (fBin dGe (dw tu (au (dw qw (au (fIxV 0 (fVar 2)) (fNil))) (au (dw qw (au (fVar 1) (fNil))) (fNil)))) (fC (.int 0))))
theorem zlf(n:Tn)(V:SmB (blk n.2)):∀(I D:mx) (J:Nat),I.length<J->(∀t∈I,SmB (blk t.2)) ->
  l8 zl8 zw J [some (.sh (.lst ((D++I).map tnD))),some (.sh (tnD n)),some (.sh (.int (D.length:Int)))]=some (.nx,[some (.sh (.lst ((D++I).map tnD))),some (.sh (tnD n)),some (.sh (.int ((D.length+plc I n:Nat):Int)))])
 | [],D,f+1,h,_=>by
   unfold l8 zl8;simp[plc]
 | t::r,D,f+1,h,hs=>by
   obtain⟨z,Z,a⟩:=zz8 t n (hs t (by simp)) V;have R:atI ((D++t::r).map tnD) (D.length:Int)=some (tnD t):=j6 tnD (by simp);have S:(D.length:Int)<((D++t::r).map tnD).length:=by simp;lia
   have b:zl8 [some (.sh (.lst ((D++t::r).map tnD))),some (.sh (tnD n)),some (.sh (.int (D.length:Int)))]=some (geT t n,[some (.sh (.lst ((D++t::r).map tnD))),some (.sh (tnD n)),some (.sh (.int (D.length:Int)))]):=by
    unfold zl8;generalize (D++t::r).map tnD=L at R S;simp[S,R,zle,Z,a]
   unfold l8;rw[b,ac];cases hg:geT t n with
   | false =>
     simp[plc,hg]
   | true =>
     rw[if_pos rfl];have c:zw [some (.sh (.lst ((D++t::r).map tnD))),some (.sh (tnD n)),some (.sh (.int (D.length:Int)))]=some (.nx,[some (.sh (.lst ((D++t::r).map tnD))),some (.sh (tnD n)),some (.sh (.int ((D++[t]).length:Int)))]):=by
      simp[zw]
     rw[c,ac];have Y:=zlf n V r (D++[t]) f (by simpa using h) λt' U=>hs t' (by simp[U]);rw[d4,li] at Y;rw[Y];have:(D++[t]).length+plc r n=D.length+plc (t::r) n:=by simp[plc,hg];lia
     rw[this]
theorem zwv(ts:mx)(n:Tn)(D:SmB (blk n.2))(I:∀t∈ts,SmB (blk t.2))(J:ts.length<9000):zf6 [.lst (ts.map tnD),tnD n]=some (.int (plc ts n:Int)):=by
 have h:=zlf n D ts [] 10000 (by lia) I;refine je (e':=[some (.sh (.lst (ts.map tnD))),some (.sh (tnD n)),some (.sh (.int (plc ts n:Int)))]) rfl ?_;show zf5 [some (.sh (.lst (ts.map tnD))),some (.sh (tnD n)),none]=_;have h':l8 zl8 zw 10000 [some (.sh (.lst (ts.map tnD))),some (.sh (tnD n)),some (.sh (.int 0))]=_:=h;unfold zl8 at h';simp[zf5,h']
def ins(ts:mx)(n:Tn):mx:=(ts.takeWhile λt=>geT t n)++n::ts.dropWhile λt=>geT t n
def z3o(ts:mx)(n:Tn):(ts.map tnD).take (plc ts n)++tnD n::(ts.map tnD).drop (plc ts n)=(ins ts n).map tnD:=by
 have e:=i7 (p:=λt=>geT t n) (l:=ts);have D:plc ts n=(ts.takeWhile λt=>geT t n).length:=rfl;have h1:ts.take (plc ts n)=ts.takeWhile λt=>geT t n:=by
  rw[D];generalize (ts.takeWhile λt=>geT t n)=A at e;rw[<-e];exact uv
 have h2:ts.drop (plc ts n)=ts.dropWhile λt=>geT t n:=by
  rw[D];generalize (ts.takeWhile λt=>geT t n)=A at e
  conv=>lhs;rw[<-e]
  exact List.drop_left
 rw[<-List.map_take,<-List.map_drop,h1,h2];simp[ins]
def z3p(ts:mx)(n:Tn):plc ts n<=ts.length:=(List.takeWhile_sublist _).length_le
theorem zr8(v0 J v7:ln)(ts:mx)(I:Nat)(r:mu)(U:SmB (blk r))(V:∀t∈ts,SmB (blk t.2))(Y:ts.length<9000) :
  zx [v0,some (.ow (ts.map tnD)),some (.sh (.int (I:Int))),J,some (.sh (.int (r.length:Int))),some (.sh (.int (hrs r))),some (.sh (.int (lss r))),v7] =
   some (.nx,[v0,some (.ow ((ins ts (I,r)).map tnD)),some (.sh (.int (I:Int))),J,some (.sh (.int (r.length:Int))),some (.sh (.int (hrs r))),some (.sh (.int (lss r))),some (.sh (tnD (I,r)))]):=by
 have R:=zwv ts (I,r) U V Y;have S:=z3o ts (I,r);have h1:(plc ts (I,r):Int)<=((ts.map tnD).length:Nat):=by rw[ah];have:=z3p ts (I,r);lia
 have h2:Few ((ts.map tnD).length+1):=few (by rw[ah];lia);have Z:D.tup [.int (I:Int),.int (r.length:Int),.int (hrs r),.int (lss r)]=tnD (I,r):=rfl;have a:(0:Int)<=(plc ts (I,r):Int):=by lia
 generalize ts.map tnD=L at R S h1 h2;simp[zx,zmq,yl,zwa,Z,R,zzs,zzk,a,h1,h2,gq,S]
def bef(a b:Tn):Prop:=gt (blk a.2) (blk b.2)\/(¬gt (blk b.2) (blk a.2)/\a.1<b.1)
def ofS(ts:mx)(j:Nat):mv:=(ts.filter λt=>t.1==j+1).map (·.2)
structure TurnsOk (ss:mv) (ts:mx):Prop where
 lo:∀t∈ts,1<=t.1/\t.1<=ss.length
 good:∀t∈ts,Good t.2
 part:∀(j:Nat) (s:mu),ss[j]?=some s->(ofS ts j).flatten=s
 srt:ts.Pairwise bef
 perm:(ts.map (·.2)).flatten.Perm ss.flatten
variable{ss:mv}{ts:mx}
def TurnsOk.sk(h:TurnsOk ss ts)(D:∀x∈ss.flatten,gy x):∀t∈ts,∀x∈t.2,gy x:=λt I x J =>
 D x (h.perm.mem_iff.mp (fc.mpr ⟨t.2,fg.mpr ⟨t,I,rfl⟩,J⟩))
def TurnsOk.len1(h:TurnsOk ss ts):∀t∈ts,t.2.length<=ss.flatten.length:=λt D=>by
 rw[<-h.perm.length_eq];exact(d9 (fg.mpr ⟨t,D,rfl⟩)).length_le
theorem zpz{α:Type}:∀(l:List (List α)),(∀r∈l,r≠[])->l.length<=l.flatten.length
 | [],_=>by simp
 | a::l,h=>by
   have:=zpz l λr D=>h r (ax _ D);have I:0<a.length:=ft.mpr (h a bn);rw[ak,cg,am]
   lia
def TurnsOk.len(h:TurnsOk ss ts):ts.length<=ss.flatten.length:=by
 have:=zpz (ts.map (·.2)) λr D=>by
  obtain⟨t,I,rfl⟩:=fg.mp D;exact(h.good t I).ne
 rw[ah,h.perm.length_eq] at this;exact this
protected def TurnsOk.pos(h:TurnsOk ss ts)(I:∀x∈ss.flatten,gy x):∀t∈ts,0<hrs t.2:=λt D=>ql t.2 (h.sk I t D) (h.good t D).ne
def TurnsOk.sm(h:TurnsOk ss ts)(I:∀x∈ss.flatten,gy x)(J:ss.flatten.length<=1000):∀t∈ts,SmB (blk t.2):=λt D=>smB t.2 (h.sk I t D) (cx (h.len1 t D) J)
theorem TurnsOk.more(h:TurnsOk ss ts):TurnsOk (ss++[[]]) ts/\ofS ts ss.length=[]:=by
 have e:ofS ts ss.length=[]:=by
  unfold ofS;rw[List.filter_eq_nil_iff.mpr λt I=>by have:=(h.lo t I).2;simp;lia];rfl
 refine⟨⟨λt I=>⟨(h.lo t I).1,by have:=(h.lo t I).2;simp;lia⟩,h.good,λj s D=>?_,h.srt,by simpa using h.perm⟩,e⟩;by_cases J:j<ss.length
 ·rw[aw J] at D
  exact h.part j s D
 ·have:j=ss.length:=by
   have:=(aj.mp D).1;simp at this
   lia
  subst this;simp at D;subst D;rw[e];rfl
def zz9{ts:mx}{n t:Tn}:t∈ins ts n↔t∈ts\/t=n:=by
 unfold ins;have e:=i7 (p:=λt=>geT t n) (l:=ts);have D:t∈ts↔t∈(ts.takeWhile λt=>geT t n)\/t∈ts.dropWhile λt=>geT t n:=by
  conv=>lhs;rw[<-e]
  exact cz
 rw[D];simp[cz];constructor
 ·rintro(h | h | h)
  ·exact .inl (.inl h)
  ·exact .inr h
  ·exact .inl (.inr h)
 ·rintro((h | h) | h)
  ·exact .inl h
  ·exact .inr (.inr h)
  ·exact .inr (.inl h)
theorem TurnsOk.ins{ss:mv}{ts:mx}{D r:mu}{p:mv}(h:TurnsOk (ss++[D]) ts)(V:ofS ts ss.length=p)(m:Good r)(g:∀x∈r,gy x)(v:∀x∈(ss++[D]).flatten,gy x)(w:∀u∈p,gt (blk u) (blk r)):TurnsOk (ss++[D++r]) (LB.ins ts (ss.length+1,r))/\ofS (LB.ins ts (ss.length+1,r)) ss.length=p++[r]:=by
 have e:=i7 (p:=λt=>geT t (ss.length+1,r)) (l:=ts);have hA:∀t∈(ts.takeWhile λt=>geT t (ss.length+1,r)),geT t (ss.length+1,r)=true:=λt R=>by
  have:=List.all_takeWhile (p:=λt=>geT t (ss.length+1,r)) (l:=ts);exact f9.mp this t R
 have y:0<hrs r:=ql r g m.ne;have I:=@zz9 ts (ss.length+1,r);have i:∀S c,ts.dropWhile (λt=>geT t (ss.length+1,r))=S::c->gt (blk r) (blk S.2):=λS c hb=>by
  have:geT S (ss.length+1,r)=false:=by
   have:=List.head?_dropWhile_not (p:=λt=>geT t (ss.length+1,r)) ts;rw[hb] at this;simpa using this
  unfold geT at this;simpa using this
 unfold LB.ins at I ⊢;have srt:=h.srt;have pos:=h.pos v;have U:∀t∈ts,t.1=ss.length+1->gt (blk t.2) (blk r):=λt R Y=>w t.2 (by
  rw[<-V];exact fg.mpr ⟨t,ji.mpr ⟨R,by simp[Y]⟩,rfl⟩)
 have lo:=h.lo;have part:=h.part;have J:=h.perm;rw[<-e] at srt pos U lo part J V;generalize (ts.takeWhile λt=>geT t (ss.length+1,r))=A at *;generalize (ts.dropWhile λt=>geT t (ss.length+1,r))=B at *;have n:∀b∈B,gt (blk r) (blk b.2):=λb hb=>by
  cases B with
  | nil=>simp at hb
  | cons S c =>
    have o:=i S c rfl;rcases cb.mp hb with rfl | hb'
    ·exact o
    ·have C:=(gw.mp srt).2.1
     have:=(ei.mp C).1 b hb';have E:¬gt (blk b.2) (blk S.2):=by
      rcases this with z | z
      ·exact ui z
      ·exact z.1
     exact z7 y (pos S (by simp)) (pos b (by simp[hb'])) o E
 have q:(B.filter λt=>t.1==ss.length+1)=[]:=List.filter_eq_nil_iff.mpr λt R=>by
  intro z;exact ui (n t R) (U t (by simp[R]) (by simpa using z))
 have of:ofS (A++(ss.length+1,r)::B) ss.length=p++[r]:=by
  unfold ofS at V ⊢;rw[io,q,dc] at V;rw[io,kh (by simp),q,b9,V];rfl
 refine⟨⟨λt R=>?_,λt R=>?_,λj s d=>?_,?_,?_⟩,of⟩
 ·rcases(I.mp R) with z | z
  ·have:=h.lo t z;simp at this ⊢;lia
  ·subst z;simp
 ·rcases(I.mp R) with z | z
  ·exact h.good t z
  ·subst z;exact m
 ·by_cases Z:j<ss.length
  ·rw[aw Z] at d
   have:=part j s (by rw[aw Z];exact d);rw[<-this];unfold ofS;rw[io,io,ki (by simp;lia)]
  ·have:j=ss.length:=by
    have:=(aj.mp d).1;simp at this
    lia
   subst this;have F:D++r=s:=by simpa using d
   rw[of,<-F];have:=part ss.length D (by simp);rw[show ofS (A++B) ss.length=p from V] at this;simp[this]
 ·have k:=gw.mp srt
  refine gw.mpr ⟨k.1,ei.mpr ⟨λb hb=>.inl (n b hb),k.2.1⟩,λa f b hb=>?_⟩;rcases cb.mp hb with rfl | hb
  ·have G:=hA a f
   by_cases Y:a.1=ss.length+1
   ·exact .inl (U a (by simp[f]) Y)
   ·have:=(lo a (by simp[f])).2
    exact .inr ⟨zz7.mp G,by simp at this ⊢;lia⟩
  ·exact k.2.2 a f b hb
 ·have Y:((A++(ss.length+1,r)::B).map (·.2)).flatten=(A.map (·.2)).flatten++(r++(B.map (·.2)).flatten):=by simp
  have H:(ss++[D++r]).flatten=(ss++[D]).flatten++r:=by simp
  rw[Y,H];have K:((A++B).map (·.2)).flatten=(A.map (·.2)).flatten++(B.map (·.2)).flatten:=by simp
  rw[K] at J;refine List.Perm.trans ?_ (J.append_right r);rw[d4];exact List.Perm.append_left _ List.perm_append_comm
def zp0:∀(rs:mv),Desc rs->(∀r∈rs,0<hrs r)->rs.Pairwise (λb u=>gt (blk u) (blk b))
 | [],_,_=>.nil
 | [b],_,_=>by simp
 | b::u::r,h,hp=>by
   have I:=zp0 (u::r) h.2 λx D=>hp x (ax _ D);refine ei.mpr ⟨λx D=>?_,I⟩;rcases cb.mp D with rfl | hx'
   ·exact h.1
   ·have:=(ei.mp I).1 x hx'
    exact z7 (hp x (by simp[hx'])) (hp u (by simp)) (hp b (by simp)) this (ui h.1)
theorem zp1(S:D)(ss:mv)(s:mu)(ts:mx)(k v5 v6 v7:ln)(h:TurnsOk ss ts)(w:∀x∈(ss++[s]).flatten,gy x)(m:(ss++[s]).flatten.length<=14) :
  ∃I d f i Y,TurnsOk (ss++[s]) I/\zd7 [some (.sh S),some (.ow (ts.map tnD)),some (.sh (.int ((ss.length+1:Nat):Int))),some (.sh (.lst (s.map sD))),k,v5,v6,v7] =
   some (.nx,[some (.sh S),some (.ow (I.map tnD)),some (.sh (.int ((ss.length+1:Nat):Int))),some (.sh (.lst (s.map sD))),d,f,i,Y]):=by
 have Z:∀x∈s,gy x:=λx hx=>w x (by simp[hx]);have n:s.length<=14:=by simp at m;lia
 obtain⟨rs,l,z⟩:=zga s Z n;have J:=l.flat;have a:∀r∈rs.reverse,Good r:=λr h=>l.good r (List.mem_reverse.mp h);have c:∀r∈rs.reverse,∀x∈r,gy x:=λr h x hx=>Z x (by rw[<-J];exact fc.mpr ⟨r,h,hx⟩);have j:rs.reverse.Pairwise (λu b=>gt (blk u) (blk b)):=by
  rw[List.pairwise_reverse];exact zp0 rs l.desc λr h=>ql r (c r (List.mem_reverse.mpr h)) (l.good r h).ne
 have y:=h.more;obtain⟨e',h1,I,d,f,i,Y,o,A,rfl⟩:=xb (ix:=[4,5,6]) (g:=zx) (λr:mu=>[D.int (r.length:Int),.int (hrs r),.int (lss r)])
  (λp e=>∃I d f i Y,TurnsOk (ss++[p.flatten]) I/\ofS I ss.length=p/\e=[some (.sh S),some (.ow (I.map tnD)),some (.sh (.int ((ss.length+1:Nat):Int))),some (.sh (.lst (s.map sD))),d,f,i,Y]) rs.reverse
  [some (.sh S),some (.ow (ts.map tnD)),some (.sh (.int ((ss.length+1:Nat):Int))),some (.sh (.lst (s.map sD))),k,v5,v6,v7] ⟨ts,k,v5,v6,v7,y.1,y.2,rfl⟩ (λ_ _=>rfl) (by
   rintro p r q e R ⟨I,d,f,i,Y,ok,of,rfl⟩;have U:r∈rs.reverse:=by rw[R];simp
   have V:∀x∈(ss++[p.flatten]).flatten,gy x:=λx hx=>by
    rw[dy,cz] at hx;rcases hx with hx | hx
    ·exact w x (by rw[dy];exact du _ hx)
    ·refine Z x ?_
     rw[<-J,R,dy];exact du _ (by simpa using hx)
   have B:(ss++[p.flatten]).flatten.length<=14:=by
    have:p.flatten.length<=s.length:=by rw[<-J,R,dy,am];lia
    rw[dy,am] at m ⊢;simp only[cg,pf,dc] at m ⊢
    lia
   have t:∀u∈p,gt (blk u) (blk r):=λu C=>by
    rw[R] at j;exact(gw.mp j).2.2 u C r (by simp)
   obtain⟨E,F⟩:=ok.ins of (a r U) (c r U) V t;have G:r.length<=14:=by
    have:r.length<=rs.reverse.flatten.length:=(d9 U).length_le;rw[J] at this;lia
   have body:=zr8 (some (.sh S)) (some (.sh (.lst (s.map sD)))) Y I (ss.length+1) r (smB r (c r U) (by lia)) (ok.sm V (by lia)) (by have:=ok.len;lia);exact⟨_,body,_,_,_,_,_,by simpa using E,F,rfl⟩)
 refine⟨I,d,f,i,Y,by rw[<-J];exact o,?_⟩;have v:forU [4,5,6] zx (rs.reverse.map bD) [some (.sh S),some (.ow (ts.map tnD)),some (.sh (.int ((ss.length+1:Nat):Int))),some (.sh (.lst (s.map sD))),k,v5,v6,v7]=_:=h1;simp only[zd7,pi,fiS,dw,au,fVar,fNil,ae,af,ac,ai,z,v]
def ssL(ss:mv):D:=.lst (ss.map λs=>D.lst (s.map sD))
theorem ziw(ss:mv)(b:∀x∈ss.flatten,gy x)(c:ss.flatten.length<=14):∃ts,TurnsOk ss ts/\x3 [ssL ss]=some (.lst (ts.map tnD)):=by
 obtain⟨e',h1,ts,v2,S,I,v5,v6,v7,ok,rfl⟩:=xb (ix:=[2,3]) (g:=zd7) (λp:mu×Nat=>[D.int (p.2:Int),D.lst (p.1.map sD)])
  (λp e=>∃ts v2 S I v5 v6 v7,TurnsOk (p.map (·.1)) ts/\e=[some (.sh (ssL ss)),some (.ow (ts.map tnD)),v2,S,I,v5,v6,v7]) (ss.zipIdx 1)
  [some (.sh (ssL ss)),some (.ow []),none,none,none,none,none,none] ⟨[],none,none,none,none,none,none,⟨by simp,by simp,by simp,.nil,by simp⟩,rfl⟩ (λ_ _=>rfl) (by
   rintro p x q e J ⟨ts,v2,S,I,v5,v6,v7,ok,rfl⟩;have V:ss=p.map (·.1)++x.1::q.map (·.1):=by
    have:=congrArg (List.map (·.1)) J;simpa using this
   have Y:x.2=(p.map (·.1)).length+1:=by
    have:(ss.zipIdx 1)[p.length]?=some x:=by rw[J];simp
    rw[lz] at this;cases hs:ss[p.length]? with
    | none=>rw[hs] at this;cases this
    | some s =>
      rw[hs] at this;cases this;simp;lia
   have R:ss.flatten=(p.map (·.1)++[x.1]).flatten++(q.map (·.1)).flatten:=by rw[V];simp
   obtain⟨Z,f,h,i,j,a,U⟩:=zp1 (ssL ss) (p.map (·.1)) x.1 ts I v5 v6 v7 ok (λy d=>b y (by rw[R];exact du _ d)) (by rw[R,am] at c;lia);rw[<-Y] at U;exact⟨_,U,Z,_,_,_,_,_,_,by simpa using a,rfl⟩)
 refine⟨ts,by simpa using ok,?_⟩;refine je (e':=[some (.sh (ssL ss)),some (.sh (.lst (ts.map tnD))),v2,S,I,v5,v6,v7]) rfl ?_;show zg5 [some (.sh (ssL ss)),none,none,none,none,none,none,none]=_;have U:iEn 1 [ssL ss]=some ((ss.zipIdx 1).map λp=>D.tup [D.int (p.2:Int),D.lst (p.1.map sD)]):=by
  show some (nr 1 (ss.map λs=>D.lst (s.map sD)))=_;rw[zld]
 simp only[zg5,sSeq,sOwn,fo,fNil,ac,ai,bu,fu,if_true,aq,av,pi,i3,au,fVar,ae,af,U,h1,sRet]
def gf(n:Nat)(ts:mx):mv:=(List.range n).map λj=>(ofS ts j).flatten
def lr(n:Nat)(ts:mx):(gf n ts).length=n:=by simp[gf]
variable{j:Nat}
def oj(h:j<n):(gf n ts)[j]?=some ((ofS ts j).flatten):=by simp[gf,h]
protected theorem TurnsOk.left(h:TurnsOk ss ts):gf ss.length ts=ss:=by
 apply eh;intro j;by_cases D:j<ss.length
 ·rw[oj D,h.part j ss[j] (by simp[D])]
  simp[D]
 ·rw[cr (by rw[lr];lia),cr (by lia)]
def xk(t:Tn)(ts:mx)(j:Nat)(h:t.1=j+1):ofS (t::ts) j=t.2::ofS ts j:=by
 unfold ofS;rw[kh (by simp[h])];rfl
def y7(t:Tn)(ts:mx)(j:Nat)(h:t.1≠j+1):ofS (t::ts) j=ofS ts j:=by
 unfold ofS;rw[ki (by simp[h])]
variable{t:Tn}
theorem zj7(h1:1<=t.1)(h2:t.1<=n):(gf n (t::ts))[t.1-1]?=some (t.2++(ofS ts (t.1-1)).flatten):=by
 rw[oj (by lia),xk t ts (t.1-1) (by lia)];simp
theorem zlg(h1:1<=t.1)(h2:t.1<=n):gf n ts=(gf n (t::ts)).set (t.1-1) ((ofS ts (t.1-1)).flatten):=by
 apply eh;intro j;by_cases D:j<n
 ·rw[gp,oj D,oj D,lr]
  by_cases e:t.1-1=j
  ·subst e
   simp[D]
  ·rw[if_neg e,y7 t ts j (by lia)]
 ·rw[cr (by rw[lr];lia),cr (by rw[dn,lr];lia)]
theorem zov(h1:1<=t.1)(h2:t.1<=n):gf n (t::ts)=(gf n ts).set (t.1-1) (t.2++(ofS ts (t.1-1)).flatten):=by
 apply eh;intro j;by_cases D:j<n
 ·rw[gp,oj D,oj D,lr]
  by_cases e:t.1-1=j
  ·subst e
   rw[xk t ts (t.1-1) (by lia)];simp[D]
  ·rw[if_neg e,y7 t ts j (by lia)]
 ·rw[cr (by rw[lr];lia),cr (by rw[dn,lr];lia)]
def zlh{α:Type}:∀ {l:List (List α)} {j:Nat} {s x:List α},l[j]?=some s->(l.set j (x++s)).flatten.Perm (x++l.flatten)
 | a::l,0,s,x,h=>by
   simp at h;subst h;simp
 | a::l,j+1,s,x,h=>by
   have D:=zlh (l:=l) (j:=j) (s:=s) (x:=x) (by simpa using h);simp;refine(D.append_left a).trans ?_;rw[<-d4,<-d4];exact List.perm_append_comm.append_right _
theorem zi9{n:Nat}:∀ {ts:mx},(∀t∈ts,1<=t.1/\t.1<=n)->(ts.map (·.2)).flatten.Perm (gf n ts).flatten
 | [],_=>by
   have:(gf n []).flatten=[]:=by simp[gf,ofS]
   rw[this];exact .nil
 | t::ts,h=>by
   have D:=zi9 (n:=n) (ts:=ts) λt' I=>h t' (ax _ I);obtain⟨h1,h2⟩:=h t bn;rw[zov h1 h2,cf,cg];exact(D.append_left t.2).trans (zlh (oj (by lia))).symm
def TurnsOk.tail(h:TurnsOk (gf n (t::ts)) (t::ts)):TurnsOk (gf n ts) ts:=by
 have lo:∀t'∈ts,1<=t'.1/\t'.1<=n:=λt' D=>by
  have:=h.lo t' (ax _ D);rw[lr] at this;exact this
 refine⟨λt' D=>by rw[lr];exact lo t' D,λt' D=>h.good t' (ax _ D),λj s I=>?_,(ei.mp h.srt).2,zi9 lo⟩;have J:=(aj.mp I).1;rw[lr] at J;rw[oj J] at I;exact bq I
def zuf(a b:k9):cutD (a++b) none (some (a.length:Int))=a:=by
 unfold cutD;rw[HT.sIx_none,HT.sIx_nat];simp
def zp2(a b:k9):cutD (a++b) (some (a.length:Int)) none=b:=by
 unfold cutD;rw[HT.sIx_none,HT.sIx_nat];simp
variable{ar:Nat}{ds:k9}{e':DE0}
def zp3{rs:k9}(h:ds.length=ar)(I:g (iz n ds)=some (.rf rs,e')):runF n ar g ds=some rs:=by
 unfold runF;rw[if_pos h,I]
theorem z0a(ss:mv)(J:ss.length<=1000):zi5 [ssL ss]=some (ss.map λs=>D.lst (s.map sD)):=by
 have c:=md (te:=fLst (i3 pj (au (fVar 0) (fNil)))) (base:=[]) (λs:mu=>D.lst (s.map sD)) (λs:mu=>D.lst (s.map sD)) ss λs _=>⟨_,by simp;rfl⟩;have I:Few ss.length:=few (by lia);refine zp3 (e':=[some (.sh (ssL ss))]) rfl ?_;show zi4 [some (.sh (.lst (ss.map λs:mu=>D.lst (s.map sD))))]=_;simp[zi4,gv,I,c];rfl
theorem zli(xs:ik)(S:xs.length<=1000):zcl [.lst (xs.map D.int),.lst (xs.map D.int)]=some (.bl true):=by
 obtain⟨e',h1,v2,rfl⟩:=sx (i:=2) (g:=zc4) (λk e=>∃v2,e=[some (.sh (.lst (xs.map D.int))),some (.sh (.lst (xs.map D.int))),v2]) (rngD 0 xs.length) [some (.sh (.lst (xs.map D.int))),some (.sh (.lst (xs.map D.int))),none] ⟨none,rfl⟩ (by
  rintro k d e I ⟨v2,rfl⟩;obtain⟨rfl,J⟩:=ul I;have R:atI (xs.map D.int) (k:Int)=some (.int xs[k]):=j6 D.int (by simp[J]);exact⟨[some (.sh (.lst (xs.map D.int))),some (.sh (.lst (xs.map D.int))),some (.sh (.int (0+k)))],by simp[zc4,R,xf],_,rfl⟩)
 have hi:=n4 xs.length (by lia);refine je (e':=[some (.sh (.lst (xs.map D.int))),some (.sh (.lst (xs.map D.int))),v2]) rfl ?_;show zdt [some (.sh (.lst (xs.map D.int))),some (.sh (.lst (xs.map D.int))),none]=_;simp[zdt,hi,h1]
theorem good_run_ok(t:Tn)(g:Good t.2)(Z:∀x∈t.2,gy x)(S:t.2.length<=900):m__law_good_run [tnD t,.lst (t.2.map sD)]=some (.bl true):=by
 obtain⟨a,r⟩:=t;have g:Good r:=g;have U:=smB r Z (by simp at S;lia);have b:=md (te:=fIxV 0 (fC (.int 1))) (base:=[]) sD (λx:Sk=>D.int x.2.1) r λx _=>⟨_,by simp[sD,u4];rfl⟩;have c:=md (te:=fIxV 0 (fC (.int 2))) (base:=[]) sD (λx:Sk=>D.int x.2.2) r λx _=>⟨_,by simp[sD,t5];rfl⟩;have d:bSum [.lst (r.map λx:Sk=>D.int x.2.1)]=some (.int (hrs r)):=pv (λx:Sk=>x.2.1) r;have f:bSum [.lst (r.map λx:Sk=>D.int x.2.2)]=some (.int (lss r)):=pv (λx:Sk=>x.2.2) r;have j:Few r.length:=few (by simp at S;lia);have J:rd [tnD (a,r),.tup [.int (a:Int),.int (r.length:Int),.int (hrs r),.int (lss r)]]=some (.bl true):=zpv [(a:Int),(r.length:Int),hrs r,lss r] (by simp);have k:ixSl (.int 0) (some (some (.sh (tnD (a,r)))))=some (.int (a:Int)):=rfl;obtain⟨e',h1,v6,rfl⟩:=uk (i:=6) (g:=b__law_good_run_0) sD (λp e=>∃v6,e=[some (.sh (tnD (a,r))),some (.sh (.lst (r.map sD))),some (.sh (.int (hrs r))),some (.sh (.int (lss r))),some (.sh (.int (hrs p))),some (.sh (.int (lss p))),v6]) r
  [some (.sh (tnD (a,r))),some (.sh (.lst (r.map sD))),some (.sh (.int (hrs r))),some (.sh (.int (lss r))),some (.sh (.int 0)),some (.sh (.int 0)),none] ⟨none,rfl⟩ (by
   rintro p x q e R ⟨v6,rfl⟩;have I:=g.beg (p++[x]) ⟨q,by rw[R];simp⟩;have V:hrs (p++[x])=hrs p+x.2.1:=by rw[o7];simp[hrs]
   have Y:lss (p++[x])=lss p+x.2.2:=by rw[n9];simp[lss]
   rw[V,Y] at I;have n:¬(lss r*(hrs p+x.2.1)<(lss p+x.2.2)*hrs r):=by lia
   obtain⟨m,h,l⟩:=x;have o:kq (hrs r):=U.1;have s2:kq (lss r):=U.2;refine⟨[some (.sh (tnD (a,r))),some (.sh (.lst (r.map sD))),some (.sh (.int (hrs r))),some (.sh (.int (lss r))),some (.sh (.int (hrs p+h))),some (.sh (.int (lss p+l))),some (.sh (sD (m,h,l)))],?_,_,by rw[V,Y]⟩;simp[b__law_good_run_0,sD,u4,t5,dMul,o,s2,n])
 refine je (e':=[some (.sh (tnD (a,r))),some (.sh (.lst (r.map sD))),some (.sh (.int (hrs r))),some (.sh (.int (lss r))),some (.sh (.int (hrs r))),some (.sh (.int (lss r))),v6]) rfl ?_;show s__law_good_run [some (.sh (tnD (a,r))),some (.sh (.lst (r.map sD))),none,none,none,none,none]=_;simp[s__law_good_run,-ixSl,k,gv,j,b,c,d,f,J,h1]
def hT:mv->Bk
 | []=>(0,1,-1)
 | r::_=>blk r
def kD(b:Bk):D:=.lst [.int b.1,.int b.2.1,.int b.2.2]
variable{r:mu}
theorem z3q{b q:mu}(h1:gt (blk r) (blk b))(h2:gt (blk r) (blk q)):gt (blk r) (blk (b++q)):=by
 have h1:lss b*hrs r<lss r*hrs b:=h1;have h2:lss q*hrs r<lss r*hrs q:=h2;show lss (b++q)*hrs r<lss r*hrs (b++q);rw[n9,o7,gx,jc]
 lia
theorem zx6{r:mu}(I:0<hrs r):∀(rest:mv) (q:mu),(∀b∈rest,gt (blk r) (blk b))->(∀b∈rest,Good b)->(∀b∈rest,∀x∈b,gy x)->q <+: rest.flatten->q≠[]->gt (blk r) (blk q)
 | [],q,_,_,_,hq,ne=>by simp at hq;exact absurd hq ne
 | b::rest,q,hd,hg,hs,hq,ne=>by
   have J:=hg b (by simp);have R:=hs b (by simp);rcases zpx hq with hq | ⟨q',rfl,hq'⟩
   ·have sq:∀x∈q,gy x:=λx U=>R x (hq.subset U)
    refine z7 I (ql b R J.ne) (ql q sq ne) (hd b (by simp)) ?_;have:=J.beg q hq;show ¬(lss b*hrs q<lss q*hrs b)
    lia
   ·by_cases S:q'=[]
    ·subst S
     rw[dc];exact hd b (by simp)
    ·exact z3q (hd b (by simp)) (zx6 I rest q' (λc D=>hd c (by simp[D])) (λc D=>hg c (by simp[D])) (λc D=>hs c (by simp[D])) hq' S)
variable{s:mu}
def zm9(D:k<s.length):hrs (s.take (k+1))=hrs (s.take k)+s[k].2.1/\lss (s.take (k+1))=lss (s.take k)+s[k].2.2:=by
 rw[nn D,o7,n9];simp[hrs,lss]
theorem z0b(D:∀x∈s,gy x)(J:s.length<=14)(k:Nat):0<=hrs (s.take k)/\hrs (s.take k)<=840/\0<=lss (s.take k)/\lss (s.take k)<=1400:=by
 have:=u8 (s.take k) λx I=>D x (List.mem_of_mem_take I);have h2:(s.take k).length<=14:=by rw[dm];lia
 lia
theorem z0c(rs:mv)(N:rs.Pairwise λu b=>gt (blk u) (blk b))(F:∀r∈rs,Good r)(a:∀x∈rs.flatten,gy x)(G:rs.flatten.length<=14):ze [.lst (rs.flatten.map sD)]=some (kD (hT rs)):=by
 cases rs with
 | nil=>simp[ze,runD,zg6,iz,hT,kD,n4 0 (by lia),rngD,forL,show iR1 [.int 0]=some (rngD 0 0) from n4 0 (by lia)]
 | cons r rest =>
   have m:(r::rest).flatten=r++rest.flatten:=cg ..;rw[m] at a G ⊢;have n:=F r (by simp);have H:∀x∈r,gy x:=λx o=>a x (by simp[o]);have O:=ql r H n.ne;have T:=u8 r H;have p:=(ei.mp N).1;generalize V:r++rest.flatten=s at *;have t:r.length<=s.length:=by rw[<-V];simp
   have tk:∀k,k<=r.length->s.take k <+: r:=λk c=>by
    rw[<-V,gh c];exact List.take_prefix _ _
   obtain⟨e',h1,W,f,rfl,J,R⟩:=sx (i:=4) (g:=zr) (λk e=>∃(b:Bk) (f:ln),e=[some (.sh (.lst (s.map sD))),some (.sh (kD b)),some (.sh (.int (hrs (s.take k)))),some (.sh (.int (lss (s.take k)))),f] /\
     (k<r.length->b=(0,1,-1)\/∃q,q <+: r/\b=blk q)/\(r.length<=k->b=blk r)) (rngD 0 s.length)
    [some (.sh (.lst (s.map sD))),some (.sh (kD (0,1,-1))),some (.sh (.int 0)),some (.sh (.int 0)),none] ⟨(0,1,-1),none,by simp[hrs,lss],λ_=>.inl rfl,λh=>absurd (kg.mp (Nat.le_zero.mp h)) n.ne⟩ (by
     rintro k d e v ⟨b,f,rfl,J,R⟩;obtain⟨rfl,c⟩:=ul v;obtain⟨j,l⟩:=zm9 c;have X:=z0b a G (k+1);have K:atI (s.map sD) (0+(k:Int))=some (sD s[k]):=by rw[ku];exact j6 sD (by simp[c])
     have D:kq (hrs (s.take (k+1))):=qt (by lia);have I:kq (lss (s.take (k+1))):=qt (by lia);have L:dIx (sD s[k]) (.int 1)=some (.int s[k].2.1):=rfl;have M:dIx (sD s[k]) (.int 2)=some (.int s[k].2.2):=rfl;have w:zr [some (.sh (.lst (s.map sD))),some (.sh (kD b)),some (.sh (.int (hrs (s.take k)))),some (.sh (.int (lss (s.take k)))),some (.sh (.int (0+(k:Int))))] =
       some (.nx,[some (.sh (.lst (s.map sD))),some (.sh (kD (if b.2.2*hrs (s.take (k+1))<=lss (s.take (k+1))*b.2.1 then blk (s.take (k+1)) else b))),some (.sh (.int (hrs (s.take (k+1))))),some (.sh (.int (lss (s.take (k+1))))),some (.sh (.int (0+(k:Int))))]):=by
      have Z:((s.take (k+1)).length:Int)=0+(k:Int)+1:=by rw[dm];lia
      by_cases Y:b.2.2*hrs (s.take (k+1))<=lss (s.take (k+1))*b.2.1
      ·rw[if_pos Y,show blk (s.take (k+1))=(0+(k:Int)+1,hrs (s.take (k+1)),lss (s.take (k+1))) by unfold blk;rw[Z]]
       rw[j] at D;rw[l] at I;rw[j,l] at Y ⊢;simp only[zr,kD,sSeq,sSet,sIf,sNil,fBin,fVar,fIxV,ixSl,fC,fTst,fLst,fo,au,fNil,ae,af,ac,ai,aq,av,K,L,M,gz,u4,t5,rq I,ztw D,dGe,decide_eq_true Y,if_true,ak,bu,show(0+1+1+1<=64)=True by simp]
      ·rw[if_neg Y]
       rw[j] at D;rw[l] at I;rw[j,l] at Y ⊢;simp only[zr,kD,sSeq,sSet,sIf,sNil,fBin,fVar,fIxV,ixSl,fC,fTst,fLst,fo,au,fNil,ae,af,ac,ai,aq,av,K,L,M,gz,u4,t5,rq I,ztw D,dGe,decide_eq_false Y,bj,if_false]
     refine⟨_,w,_,_,rfl,λS=>?_,λP=>?_⟩
     ·split
      ·exact .inr ⟨_,tk (k+1) (by lia),rfl⟩
      ·exact J (by lia)
     ·by_cases y:r.length<=k
      ·have U:=R y
       subst U;rw[if_neg];have A:s.take (k+1)=r++rest.flatten.take (k+1-r.length):=by
        rw[<-V,List.take_append,gk (by lia)]
       have B:(rest.flatten.take (k+1-r.length))≠[]:=by
        intro z;have:=congrArg List.length z;rw[dm] at this;have Q:s.length=r.length+rest.flatten.length:=by rw[<-V,am]
        simp only[bu] at this
        lia
       have S:=zx6 O rest _ p (λb U=>F b (by simp[U])) (λb U x o=>a x (by rw[<-V];exact bz _ (fc.mpr ⟨b,U,o⟩))) (List.take_prefix (k+1-r.length) rest.flatten) B;rw[A,o7,n9];have S:lss (rest.flatten.take (k+1-r.length))*hrs r<lss r*hrs (rest.flatten.take (k+1-r.length)):=S;show ¬(lss r*(hrs r+hrs _)<=(lss r+lss _)*hrs r);rw[jc,gx]
       lia
      ·have C:k+1=r.length:=by lia
       have A:s.take (k+1)=r:=by rw[C,<-V];exact uv
       rw[A,if_pos];rcases J (by lia) with rfl | ⟨q,B,rfl⟩
       ·show -1*hrs r<=lss r*1
        lia
       ·exact n.beg q B)
   rw[uq,List.take_length] at h1;have U:=R (by rw[uq];exact t);subst U;have hi:iR1 [.int (s.length:Int)]=some (rngD 0 s.length):=n4 s.length (by lia);refine je (e':=[some (.sh (.lst (s.map sD))),some (.sh (kD (blk r))),some (.sh (.int (hrs s))),some (.sh (.int (lss s))),f]) rfl ?_;show zg6 [some (.sh (.lst (s.map sD))),none,none,none,none]=_;have E:kD (0,1,-1)=.lst [.int 0,.int 1,.int (-1)]:=rfl;rw[E] at h1;simp[zg6,hi,h1];rfl
def zp4(h:r∈ofS ts j):(j+1,r)∈ts:=by
 obtain⟨t,D,rfl⟩:=fg.mp h;obtain⟨h1,h2⟩:=ji.mp D;have:t.1=j+1:=by simpa using h2
 rw[<-this];exact h1
theorem z3r(h:ts.Pairwise bef):(ofS ts j).Pairwise λu b=>gt (blk u) (blk b):=by
 unfold ofS;rw[List.pairwise_map,List.pairwise_filter];refine h.imp λ{a b} hab ha hb=>?_;rcases hab with z | z
 ·exact z
 ·have h1:a.1=j+1:=by simpa using ha
  have h2:b.1=j+1:=by simpa using hb
  lia
def m9(n:Nat)(ts:mx):List Bk:=(List.range n).map λj=>hT (ofS ts j)
def zlj(h:j<n):(m9 n ts)[j]?=some (hT (ofS ts j)):=by simp[m9,h]
theorem zkt(ok:TurnsOk (gf n (t::ts)) (t::ts)):hT (ofS (t::ts) (t.1-1))=blk t.2:=by
 have h1:=(ok.lo t (by simp)).1;rw[xk t ts (t.1-1) (by lia)];rfl
theorem zx7(ok:TurnsOk (gf n (t::ts)) (t::ts))(D:∀x∈(gf n (t::ts)).flatten,gy x)(j:Nat) :
  ¬gt (hT (ofS (t::ts) j)) (blk t.2)/\(j<t.1-1->gt (blk t.2) (hT (ofS (t::ts) j))):=by
 have pt:=ok.pos D t (by simp);have st:=u8 t.2 (ok.sk D t (by simp));cases h:ofS (t::ts) j with
 | nil =>
   have g:gt (blk t.2) (0,1,-1):=by
    show -1*hrs t.2<lss t.2*1
    lia
   exact⟨ui g,λ_=>g⟩
 | cons r rest =>
   have hm:(j+1,r)∈t::ts:=zp4 (by rw[h];simp);rcases cb.mp hm with e | hm
   ·subst e
    exact⟨λz=>ui z z,λz=>by simp at z⟩
   ·have I:=(ei.mp ok.srt).1 _ hm
    rcases I with z | ⟨z,z'⟩
    ·exact⟨ui z,λ_=>z⟩
    ·exact⟨z,λw=>by simp at z';lia⟩
def zr9(n:Nat)(ts:mx):(gf n ts).map (λs=>D.lst (s.map sD))=(List.range n).map λj=>D.lst ((ofS ts j).flatten.map sD):=by
 unfold gf;rw[i5];rfl
def zsa(h:j<n):∀x∈(ofS ts j).flatten,x∈(gf n ts).flatten:=λx D =>
 fc.mpr ⟨_,bi (oj (ts:=ts) h),D⟩
def zug(h:j<n):(ofS ts j).flatten.length<=(gf n ts).flatten.length :=
 (d9 (bi (oj (ts:=ts) h))).length_le
theorem z3s(ok:TurnsOk (gf n ts) ts)(D:∀x∈(gf n ts).flatten,gy x)(I:(gf n ts).flatten.length<=14)(j:Nat):SmB (hT (ofS ts j)):=by
 cases h:ofS ts j with
 | nil=>exact⟨qt (by decide),qt (by decide)⟩
 | cons r rest=>exact ok.sm D (by lia) (j+1,r) (zp4 (by rw[h];simp))
def zuh(H:List Bk)(v0 v1 v2:ln)(k p:Nat)(bk D:Bk)(Y:H[k]?=some bk)(Z:H[p]?=some D)(sk:SmB bk)(sp:SmB D) :
  xy [v0,v1,v2,some (.sh (.lst (H.map kD))),some (.sh (.int (p:Int))),some (.sh (.int (0+(k:Int))))] =
   some (.nx,[v0,v1,v2,some (.sh (.lst (H.map kD))),some (.sh (.int ((if gt bk D then k else p:Nat):Int))),some (.sh (.int (0+(k:Int))))]):=by
 rw[ku];have R:atI (H.map kD) (k:Int)=some (kD bk):=j6 kD Y;have S:atI (H.map kD) (p:Int)=some (kD D):=j6 kD Z;have U:∀b:Bk,dIx (kD b) (.int 1)=some (.int b.2.1):=λ_=>rfl;have V:∀b:Bk,dIx (kD b) (.int 2)=some (.int b.2.2):=λ_=>rfl;by_cases J:gt bk D
 ·have I:D.2.2*bk.2.1<bk.2.2*D.2.1:=J
  rw[if_pos J];simp only[xy,sIf,sSet,sNil,fTst,fBin,fIxV,ixSl,fVar,fC,ae,af,ac,ai,aq,av,R,S,U,V,rq sk.2,rq sp.2,dGt,decide_eq_true I,if_true]
 ·have I:¬D.2.2*bk.2.1<bk.2.2*D.2.1:=J
  rw[if_neg J];simp only[xy,sIf,sSet,sNil,fTst,fBin,fIxV,ixSl,fVar,fC,ae,af,ac,ai,aq,av,R,S,U,V,rq sk.2,rq sp.2,dGt,decide_eq_false I,bj,if_false]
theorem z0d(ok:TurnsOk (gf n (t::ts)) (t::ts))(R:∀x∈(gf n (t::ts)).flatten,gy x)(a:(gf n (t::ts)).flatten.length<=14)(v0 v1 v2 v5:ln) :
  ∃I,forL 5 xy (rngD 0 n) [v0,v1,v2,some (.sh (.lst ((m9 n (t::ts)).map kD))),some (.sh (.int 0)),v5] =
   some (.nx,[v0,v1,v2,some (.sh (.lst ((m9 n (t::ts)).map kD))),some (.sh (.int ((t.1-1:Nat):Int))),I]):=by
 have lo:=ok.lo t (by simp);rw[lr] at lo;have S:t.1-1<n:=by lia
 obtain⟨e',h1,p,I,rfl,_,J,D⟩:=sx (i:=5) (g:=xy) (λk e=>∃(p:Nat) (v5:ln),e=[v0,v1,v2,some (.sh (.lst ((m9 n (t::ts)).map kD))),some (.sh (.int (p:Int))),v5]/\p<n/\(k<=t.1-1->p<=t.1-1/\(p<k\/p=0))/\(t.1-1<k->p=t.1-1))
  (rngD 0 n) [v0,v1,v2,some (.sh (.lst ((m9 n (t::ts)).map kD))),some (.sh (.int 0)),v5] ⟨0,v5,rfl,by lia,λ_=>⟨fu _,.inr rfl⟩,λh=>absurd h (Nat.not_lt_zero _)⟩ (by
    rintro k d e U ⟨p,v5,rfl,hpn,J,D⟩;obtain⟨rfl,b⟩:=ul U;have body:=zuh (m9 n (t::ts)) v0 v1 v2 k p _ _ (zlj b) (zlj hpn) (z3s ok R a k) (z3s ok R a p);refine⟨_,body,_,_,rfl,?_,λc=>?_,λV=>?_⟩
    ·split <;> lia
    ·have:=J (by lia)
     split
     ·exact⟨by lia,.inl (by lia)⟩
     ·exact⟨this.1,by lia⟩
    ·rcases Nat.lt_or_eq_of_le (Nat.le_of_lt_succ V) with hlt' | heq
     ·have Y:=D hlt'
      subst Y;rw[zkt ok,if_neg (zx7 ok R k).1]
     ·have:=J (by lia)
      subst heq;rw[zkt ok];by_cases Z:p=t.1-1
      ·subst Z
       rw[zkt ok,if_neg (λz=>ui z z)]
      ·rw[if_pos ((zx7 ok R p).2 (by lia))])
 rw[uq] at D;have Y:=D S;subst Y;exact⟨I,h1⟩
noncomputable def zra:FT:=fTst (fBin dGt (dw bSum (au (fLst (gv (fiV 1) [] fYes (h9 0))) (fNil))) (fC (.int 0)))
theorem zsb(ok:TurnsOk (gf n (t::ts)) (t::ts))(e:∀x∈(gf n (t::ts)).flatten,gy x)(f:(gf n (t::ts)).flatten.length<=14)(B:n<=1000)(v0 g h v5:ln)(M:k9)(C:M.length<=1000) :
  ∃i k V,ze0 [v0,some (.ow ((gf n (t::ts)).map λs=>D.lst (s.map sD))),some (.ow M),g,h,v5]=some (.nx,[v0,some (.ow ((gf n ts).map λs=>D.lst (s.map sD))),some (.ow (M++[tnD t])),i,k,V]):=by
 have lo:=ok.lo t (by simp);rw[lr] at lo;have c:=md (te:=dw ze (au (fVar 0) (fNil))) (base:=[]) (λj:Nat=>D.lst ((ofS (t::ts) j).flatten.map sD)) (λj:Nat=>kD (hT (ofS (t::ts) j))) (List.range n) (λj U=>by
  have U:j<n:=ju.mp U;have l:=z0c (ofS (t::ts) j) (z3r ok.srt) (λr m=>ok.good _ (zp4 m)) (λx o=>e x (zsa U x o)) (cx (zug U) f);refine⟨[some (.sh (.lst ((ofS (t::ts) j).flatten.map sD)))],?_⟩;simp only[dw,au,fVar,fNil,ae,ac,l,ai])
 have p:(List.range n).map (λj:Nat=>kD (hT (ofS (t::ts) j)))=(m9 n (t::ts)).map kD:=by unfold m9;rw[i5];rfl
 rw[p,<-zr9] at c;obtain⟨V,q⟩:=z0d ok e f v0 (some (.ow ((gf n (t::ts)).map λs=>D.lst (s.map sD)))) (some (.ow M)) v5;have Y:atI ((m9 n (t::ts)).map kD) ((t.1-1:Nat):Int)=some (kD (blk t.2)):=by
  rw[<-zkt ok];exact j6 kD (zlj (by lia))
 have R:=zj7 (ts:=ts) lo.1 lo.2;have S:=zlg (ts:=ts) lo.1 lo.2;have Z:atI ((gf n (t::ts)).map λs=>D.lst (s.map sD)) ((t.1-1:Nat):Int)=some (.lst ((t.2++(ofS ts (t.1-1)).flatten).map sD)):=j6 (λs:mu=>D.lst (s.map sD)) R;have I:=zp2 (t.2.map sD) ((ofS ts (t.1-1)).flatten.map sD);rw[<-b9,ah] at I;have a:ixN ((gf n (t::ts)).map λs=>D.lst (s.map sD)).length ((t.1-1:Nat):Int)=some (t.1-1):=by
  rw[sg (by lia) (by rw[ah,lr];lia)];congr 1
 have J:((gf n (t::ts)).map λs=>D.lst (s.map sD)).set (t.1-1) (.lst ((ofS ts (t.1-1)).flatten.map sD))=(gf n ts).map λs=>D.lst (s.map sD):=by
  rw[S,gl]
 have u:Few ((gf n (t::ts)).map λs=>D.lst (s.map sD)).length:=few (by rw[ah,lr];lia);have b:Few (M.length+1):=few (by lia);have hi:iR1 [.int (((m9 n (t::ts)).map kD).length:Int)]=some (rngD 0 n):=by
  rw[ah,show(m9 n (t::ts)).length=n by simp[m9]];exact n4 n (by lia)
 have v:((t.1-1:Nat):Int)+1=(t.1:Int):=by lia
 generalize ((m9 n (t::ts)).map kD)=HL at *;generalize w:((t.1-1:Nat):Int)=pp at *;have y:dIx (kD (blk t.2)) (.int 0)=some (.int (t.2.length:Int)):=rfl;have z:dIx (kD (blk t.2)) (.int 1)=some (.int (hrs t.2)):=rfl;have A:dIx (kD (blk t.2)) (.int 2)=some (.int (lss t.2)):=rfl;have d:D.tup [.int (t.1:Int),.int (t.2.length:Int),.int (hrs t.2),.int (lss t.2)]=tnD t:=rfl;refine⟨some (.sh (.lst HL)),some (.sh (.int pp)),V,?_⟩;simp only[ze0,sSeq,sSet,sFor,iu,va,zvy,fLst,gv,fiV,i3,au,fNil,h9,fC,oa,zvx,fTup,fBin,gz,fIxV,ixSl,fVar,fSl,fO0,fO1,ae,af,ac,ai,aq,av,di,u,b,if_true,c,hi,q,Y,y,z,A,v,d,Z,I,a,J,ak,bu,show(0+1+1+1+1<=64)=True by simp]
theorem zlk{n:Nat}(p:n<=1000)(v0:ln):∀(ts:mx) (I:Nat) (S U v5:ln) (M:k9),ts.length<I->M.length+ts.length<=1000->TurnsOk (gf n ts) ts->(∀x∈(gf n ts).flatten,gy x)->(gf n ts).flatten.length<=14 ->
  ∃Y Z b d,l8 zra ze0 I [v0,some (.ow ((gf n ts).map λs=>D.lst (s.map sD))),some (.ow M),S,U,v5]=some (.nx,[v0,Y,some (.ow (M++ts.map tnD)),Z,b,d])
 | _,0,_,_,_,_,h,_,_,_,_=>by lia
 | ts,f+1,S,U,v5,M,h,hM,ok,hg,hl=>by
   have c:=md (te:=h9 0) (base:=[]) (λs:mu=>D.lst (s.map sD)) (λs:mu=>D.int (s.length:Int)) (gf n ts) λs _=>⟨_,by simp;rfl⟩;have q:=pv (λs:mu=>(s.length:Int)) (gf n ts);have u:Few ((gf n ts).map λs=>D.lst (s.map sD)).length:=few (by rw[ah,lr];lia);have V:((gf n ts).map λs:mu=>(s.length:Int)).sum=((ts.map (·.2)).flatten.length:Int):=by
    have e:∀l:mv,(l.map λs:mu=>(s.length:Int)).sum=(l.flatten.length:Int):=λl=>by
     induction l with
     | nil=>rfl
     | cons a l g=>rw[cf,ii,g,cg,am];lia
    rw[e,ok.perm.length_eq]
   rw[V] at q;have v:zra [v0,some (.ow ((gf n ts).map λs=>D.lst (s.map sD))),some (.ow M),S,U,v5]=some (decide (0<((ts.map (·.2)).flatten.length:Int)),[v0,some (.ow ((gf n ts).map λs=>D.lst (s.map sD))),some (.ow M),S,U,v5]):=by
    unfold zra;generalize ((gf n ts).map λs=>D.lst (s.map sD))=L at *;simp[gv,fiV,u,c,q]
   unfold l8;rw[v,ac];dsimp only;cases ts with
   | nil =>
     rw[if_neg (by simp)];exact⟨some (.ow ((gf n []).map λs=>D.lst (s.map sD))),S,U,v5,by rw[di,dc]⟩
   | cons t ts =>
     have r:0<t.2.length:=ft.mpr (ok.good t (by simp)).ne;rw[if_pos (by simp[decide_eq_true_eq];lia)];obtain⟨Z,b,d,R⟩:=zsb ok hg hl p v0 S U v5 M (by simp at hM;lia);rw[R,ac];dsimp only;have i:=ok.tail;have lo:=ok.lo t (by simp);rw[lr] at lo;have J:(t.2++(gf n ts).flatten).Perm (gf n (t::ts)).flatten:=by
      rw[zov lo.1 lo.2];exact(zlh (oj (by lia))).symm
     have j:=J.length_eq;rw[am] at j;obtain⟨Y,k,m,o,g⟩:=zlk p v0 ts f Z b d (M++[tnD t]) (by simp at h;lia) (by simp at hM ⊢;lia) i (λx w=>hg x (J.mem_iff.mp (bz _ w))) (by lia);exact⟨Y,k,m,o,by rw[g];simp⟩
theorem zrb(ok:TurnsOk ss ts)(J:∀x∈ss.flatten,gy x)(R:ss.flatten.length<=14)(b:ss.length<=900):zb [ssL ss]=some (.lst (ts.map tnD)):=by
 have S:=ok.len;have I:=ok.left;have c:=md (te:=fLst (i3 pj (au (fVar 0) (fNil)))) (base:=[]) (λs:mu=>D.lst (s.map sD)) (λs:mu=>D.lst (s.map sD)) ss λs _=>⟨_,by simp;rfl⟩;have U:Few (ss.map λs=>D.lst (s.map sD)).length:=few (by rw[ah];lia);obtain⟨V,Y,Z,a,h⟩:=zlk (n:=ss.length) (by lia) (some (.sh (ssL ss))) ts 10000 none none none [] (by lia) (by simp;lia) (by rw[I];exact ok) (by rw[I];exact J) (by rw[I];exact R);rw[I,ky] at h;refine je (e':=[some (.sh (ssL ss)),V,some (.sh (.lst (ts.map tnD))),Y,Z,a]) rfl ?_;show zh0 [some (.sh (.lst (ss.map λs=>D.lst (s.map sD)))),none,none,none,none,none]=_;unfold zra ssL at h;unfold ssL;generalize (ss.map λs=>D.lst (s.map sD))=L at *;simp[zh0,gv,U,c,h]
def ir(ts:mx):ic:=(ts.map λt=>List.replicate t.2.length t.1).flatten
def iD(I:ic):k9:=I.map λn:Nat=>D.int (n:Int)
def o9(a b:mx):ir (a++b)=ir a++ir b:=by simp[ir]
def uo(t:Tn):ir [t]=List.replicate t.2.length t.1:=by simp[ir]
def zow(ts:mx):(ir ts).length=(ts.map (·.2)).flatten.length:=by
 induction ts with
 | nil=>rfl
 | cons t ts ih =>
   rw[show t::ts=[t]++ts from rfl,o9,uo,am,d8,ih];simp
def zna(d:D)(k:Nat):(List.replicate k [d]).flatten=List.replicate k d:=by simp_all
def zui(a b:ic):iD (a++b)=iD a++iD b:=by simp[iD]
def zuj(k a:Nat):iD (List.replicate k a)=List.replicate k (.int (a:Int)):=by simp[iD]
def zuk(a:ic):(iD a).length=a.length:=by simp[iD]
theorem bndN(k:Nat)(h:k<=1000000):Bnd (-(2 ^ 62)) (2 ^ 62) (k:Int):=⟨by lia,by lia⟩
theorem z0e(ok:TurnsOk ss ts)(S:∀x∈ss.flatten,gy x)(R:ss.flatten.length<=14)(U:ss.length<=900):zpu [ssL ss]=some (iD (ir ts)):=by
 have V:=zrb ok S R U;have I:(ir ts).length<=14:=by rw[zow,ok.perm.length_eq];exact R
 obtain⟨e',h1,v2,rfl⟩:=uk (i:=2) (g:=zg7) tnD (λp e=>∃v2,e=[some (.sh (ssL ss)),some (.ow (iD (ir p))),v2]) ts
  [some (.sh (ssL ss)),some (.ow []),none] ⟨none,rfl⟩ (by
   rintro p t q e J ⟨v2,rfl⟩;have Y:(ir p).length+t.2.length<=14:=by
    rw[J,o9,show t::q=[t]++q from rfl,o9,uo] at I;simp at I
    lia
   have Z:Few (1*t.2.length):=few (by lia);have a:Few ((iD (ir p)).length+(List.replicate t.2.length (D.int (t.1:Int))).length):=few (by rw[zuk,d8];lia);have b:=bndN t.2.length (by lia);have c:iD (ir p)++List.replicate t.2.length (D.int (t.1:Int))=iD (ir (p++[t])):=by rw[o9,uo,zui,zuj]
   refine⟨[some (.sh (ssL ss)),some (.ow (iD (ir (p++[t])))),some (.sh (tnD t))],?_,_,rfl⟩;rw[<-c];unfold tnD;simp only[zg7,sOwn,fCat,fVar,fLst,fRep,fo,au,fIxV,ixSl,fC,fNil,ae,af,ac,ai,aq,av,z49,z5a,ak,bu,show(0+1<=64)=True by simp,if_true,gq,i4,Z,b,and_self,zna,a])
 refine zp3 (e':=[some (.sh (ssL ss)),some (.ow (iD (ir ts))),v2]) rfl ?_;show zi6 [some (.sh (ssL ss)),none,none]=_;simp[zi6,V,h1]
theorem zjq(ok:TurnsOk ss ts)(S:x3 [ssL ss]=some (.lst (ts.map tnD)))(Y:ss.flatten.length<=14):xp [ssL ss]=some (iD (ir ts)):=by
 have I:(ir ts).length<=14:=by rw[zow,ok.perm.length_eq];exact Y
 obtain⟨e',h1,v2,J,R,v5,rfl⟩:=xb (ix:=[2,3,4,5]) (g:=zez) (λt:Tn=>[D.int (t.1:Int),.int (t.2.length:Int),.int (hrs t.2),.int (lss t.2)]) (λp e=>∃v2 J R v5,e=[some (.sh (ssL ss)),some (.ow (iD (ir p))),v2,J,R,v5]) ts
  [some (.sh (ssL ss)),some (.ow []),none,none,none,none] ⟨none,none,none,none,rfl⟩ (λ_ _=>rfl) (by
   rintro p t q e U ⟨v2,J,R,v5,rfl⟩;have Z:(ir p).length+t.2.length<=14:=by
    rw[U,o9,show t::q=[t]++q from rfl,o9,uo] at I;simp at I
    lia
   have a:Few (1*t.2.length):=few (by lia);have b:Few ((iD (ir p)).length+(List.replicate t.2.length (D.int (t.1:Int))).length):=few (by rw[zuk,d8];lia);have c:=bndN t.2.length (by lia);have d:iD (ir p)++List.replicate t.2.length (D.int (t.1:Int))=iD (ir (p++[t])):=by rw[o9,uo,zui,zuj]
   refine⟨[some (.sh (ssL ss)),some (.ow (iD (ir (p++[t])))),some (.sh (.int (t.1:Int))),some (.sh (.int (t.2.length:Int))),some (.sh (.int (hrs t.2))),some (.sh (.int (lss t.2)))],?_,_,_,_,_,rfl⟩;rw[<-d];simp only[qi,zez,iu,zmt,zzp,fRep,fo,au,fVar,fNil,ae,af,ac,ai,aq,av,ak,bu,show(0+1<=64)=True by simp,if_true,gq,i4,a,c,and_self,zna,b])
 refine zp3 (e':=[some (.sh (ssL ss)),some (.ow (iD (ir ts))),v2,J,R,v5]) rfl ?_;show zhz [some (.sh (ssL ss)),none,none,none,none,none]=_;have V:forU [2,3,4,5] zez (ts.map tnD) [some (.sh (ssL ss)),some (.ow []),none,none,none,none]=_:=h1;simp[zhz,S,V]
def z0f(I:ic):iD I=(I.map λn:Nat=>(n:Int)).map D.int:=by unfold iD;rw[i5];rfl
def zp5(D:ic)(I:D.length<=1000):zcl [.lst (iD D),.lst (iD D)]=some (.bl true):=by
 rw[z0f];exact zli _ (by rw[ah];exact I)
structure Whole (ss:mv) (os:ic):Prop where
 lo:∀a∈os,1<=a/\a<=ss.length
 cnt:∀(j:Nat) (s:mu),ss[j]?=some s->os.count (j+1)=s.length
theorem zul(m:Nat):∀n:Nat,((List.range n).map λj=>if j=m then 1 else 0).sum=if m<n then 1 else 0
 | 0=>by simp
 | n+1=>by
   rw[List.range_succ,b9,List.sum_append,zul m n];simp only[cf,di,ii,List.sum_nil];by_cases h1:m<n
   ·rw[if_pos h1,if_neg (by lia),if_pos (by lia)];rfl
   ·rw[if_neg h1]
    by_cases h2:n=m
    ·rw[if_pos h2,if_pos (by lia)];rfl
    ·rw[if_neg h2,if_neg (by lia)];rfl
theorem zum{α:Type}(f g:α->Nat):∀l:List α,(l.map λx=>f x+g x).sum=(l.map f).sum+(l.map g).sum
 | []=>rfl
 | x::l=>by
   simp[ii,zum f g l]
   lia
theorem zun(n:Nat):∀(p:ic),(∀a∈p,1<=a/\a<=n)->((List.range n).map λj=>p.count (j+1)).sum=p.length
 | [],_=>by
   have:∀l:ic,(l.map λj=>([]:ic).count (j+1)).sum=0:=λl=>by
    induction l with
    | nil=>rfl
    | cons a l D=>rw[cf,ii,D];rfl
   rw[this];rfl
 | a::p,h=>by
   have D:=zun n p λb J=>h b (ax _ J);have R:=h a bn;have e:(λj=>(a::p).count (j+1))=λj=>p.count (j+1)+if j=a-1 then 1 else 0:=by
    funext j;rw[List.count_cons];by_cases I:j=a-1
    ·rw[if_pos I,if_pos (by simp;lia)]
    ·rw[if_neg I,if_neg (by simp;lia)]
   rw[e,zum,D,zul,if_pos (by lia),ak]
def zww(ss:mv):((List.range ss.length).map λj=>(ss.getD j []).length).sum=ss.flatten.length:=by
 have:(List.range ss.length).map (λj=>(ss.getD j []).length)=ss.map List.length:=by
  apply eh;intro i;by_cases h:i<ss.length
  ·simp[h]
  ·simp[h]
 rw[this,ie]
variable{os:ic}
def Whole.len(h:Whole ss os):os.length=ss.flatten.length:=by
 rw[<-zun ss.length os h.lo,<-zww];congr 1;apply List.map_congr_left;intro j D;have D:j<ss.length:=ju.mp D;rw[h.cnt j ss[j] (by simp[D])];simp[D]
def z3t(ss:mv)(a c:Nat):Sk:=(ss.getD (a-1) []).getD c (0,0,0)
def tk(ss:mv)(os:ic):mu:=(List.range os.length).map λi=>z3t ss (os.getD i 0) ((os.take i).count (os.getD i 0))
theorem zwx(ts:mx)(j:Nat):(ir ts).count (j+1)=(ofS ts j).flatten.length:=by
 induction ts with
 | nil=>simp[ir,ofS]
 | cons t ts ih =>
   rw[show t::ts=[t]++ts from rfl,o9,uo,List.count_append,ih];by_cases e:t.1=j+1
   ·rw[li,xk t ts j e,cg,am,e,List.count_replicate_self]
   ·rw[li,y7 t ts j e,List.count_replicate,if_neg (by simpa using e)]
    lia
def TurnsOk.whole(ok:TurnsOk ss ts):Whole ss (ir ts):=by
 refine⟨λa I=>?_,λj s J=>?_⟩
 ·obtain⟨l,R,D⟩:=fc.mp I
  obtain⟨t,S,rfl⟩:=fg.mp R;rw[List.eq_of_mem_replicate D];exact ok.lo t S
 ·rw[zwx,ok.part j s J]
def cntD(n:Nat)(f:Nat->Int):k9:=(List.range n).map λj=>D.int (f j)
def zwy(n:Nat)(f:Nat->Int):(cntD n f).length=n:=by simp[cntD]
def z0g(n:Nat)(f:Nat->Int)(j:Nat)(h:j<n):atI (cntD n f) (j:Int)=some (.int (f j)):=j6 (λj:Nat=>D.int (f j)) (by simp[h])
def zwz(n:Nat)(f g:Nat->Int)(j:Nat)(h:∀i,i<n->i≠j->g i=f i):(cntD n f).set j (.int (g j))=cntD n g:=by
 apply eh;intro i;unfold cntD;rw[gp];by_cases hi:i<n
 ·by_cases e:j=i
  ·subst e;simp[hi]
  ·rw[if_neg e]
   simp[hi,h i hi (Ne.symm e)]
 ·by_cases e:j=i
  ·subst e;simp[hi]
  ·rw[if_neg e];simp[hi]
def cntF(p:ic)(j:Nat):Int:=(p.count (j+1):Int)
def zsc(ss:mv):mi fYes (fC (.int 0)) [] (ss.map λs=>D.lst (s.map sD))=some (cntD ss.length (cntF [])):=by
 rw[md (te:=fC (.int 0)) (base:=[]) (λs:mu=>D.lst (s.map sD)) (λs:mu=>D.int 0) ss λs _=>⟨_,by simp;rfl⟩];congr 1;apply eh;intro i;unfold cntD cntF;by_cases h:i<ss.length
 ·simp[h]
 ·simp[h]
def zrc(x:Sk):vt [sD x]=some (.int x.2.1):=rfl
def zp6(x:Sk):vo [sD x]=some (.int x.2.2):=rfl
def znb(p q:mx)(j:Nat):ofS (p++q) j=ofS p j++ofS q j:=by unfold ofS;rw[io,b9]
def begF(p:mx)(j:Nat):Int:=((ofS p j).flatten.length:Int)
theorem zuo(p:mx)(t:Tn)(h1:1<=t.1):begF (p++[t]) (t.1-1)=begF p (t.1-1)+(t.2.length:Int)/\∀i,i≠t.1-1->begF (p++[t]) i=begF p i:=by
 unfold begF;refine⟨?_,λi hi=>?_⟩
 ·rw[znb,xk t [] (t.1-1) (by lia)]
  simp[ofS]
 ·rw[znb,y7 t [] i (by lia)]
  simp[ofS]
def slD(r:mu):D:=.lst (r.map sD)
theorem znc(ok:TurnsOk ss ts)(r:ss.length<=1000)(u:ss.flatten.length<=14):zh2 [ssL ss,.lst (ts.map tnD)]=some (.lst (ts.map λt=>slD t.2)):=by
 have f:=ok.len;obtain⟨e',h1,V,v5,v6,v7,v8,rfl⟩:=xb (ix:=[4,5,6,7]) (g:=ze1) (λt:Tn=>[D.int (t.1:Int),.int (t.2.length:Int),.int (hrs t.2),.int (lss t.2)])
  (λp e=>∃V v5 v6 v7 v8,e=[some (.sh (ssL ss)),some (.sh (.lst (ts.map tnD))),some (.ow (cntD ss.length (begF p))),some (.ow (p.map λt=>slD t.2)),V,v5,v6,v7,v8]) ts
  [some (.sh (ssL ss)),some (.sh (.lst (ts.map tnD))),some (.ow (cntD ss.length (begF []))),some (.ow []),none,none,none,none,none] ⟨none,none,none,none,none,rfl⟩ (λ_ _=>rfl) (by
   rintro p t q e R ⟨V,v5,v6,v7,v8,rfl⟩;obtain⟨h,v⟩:=ok.lo t (by rw[R];simp);obtain⟨j,k⟩:=zuo p t h;have l:(t.1:Int)-1=((t.1-1:Nat):Int):=by lia
   have Y:=z0g ss.length (begF p) (t.1-1) (by lia);have Z:ixN (cntD ss.length (begF p)).length ((t.1-1:Nat):Int)=some (t.1-1):=by
    rw[sg (by lia) (by rw[zwy];lia)];congr 1
   have J:=zwz ss.length (begF p) (begF (p++[t])) (t.1-1) (λi _ hi=>k i hi);rw[j] at J;have S:t.1-1<ss.length:=by lia
   have d:=ok.part (t.1-1) ss[t.1-1] (by simp[S]);rw[R,znb,xk t q (t.1-1) (by lia),dy,cg] at d;have a:atI (ss.map λs=>D.lst (s.map sD)) ((t.1-1:Nat):Int)=some (.lst (ss[t.1-1].map sD)):=j6 (λs:mu=>D.lst (s.map sD)) (by simp[S]);have I:=zud ((ofS p (t.1-1)).flatten.map sD) (t.2.map sD) ((ofS q (t.1-1)).flatten.map sD);rw[<-b9,<-b9,d,ah,ah] at I;have m:begF p (t.1-1)=((ofS p (t.1-1)).flatten.length:Int):=rfl;rw[<-m] at I;have n:p.length<=ts.length:=by rw[R];simp
   have b:Few ((p.map λt=>slD t.2).length+1):=few (by rw[ah];lia);rw[<-J,b9,cf,di];unfold ssL;generalize (p.map λt=>slD t.2)=M at *;have c:D.lst (t.2.map sD)=slD t.2:=rfl;simp[qi,ze1,l,Y,Z,a,I,c,b])
 have o:mi fYes (fC (.int 0)) [] (ss.map λs=>D.lst (s.map sD))=some (cntD ss.length (begF [])):=by
  rw[zsc];congr 1
 have b:Few (ss.map λs=>D.lst (s.map sD)).length:=few (by rw[ah];lia);refine je (e':=[some (.sh (ssL ss)),some (.sh (.lst (ts.map tnD))),some (.ow (cntD ss.length (begF ts))),some (.sh (.lst (ts.map λt=>slD t.2))),V,v5,v6,v7,v8]) rfl ?_;show zh1 [some (.sh (ssL ss)),some (.sh (.lst (ts.map tnD))),none,none,none,none,none,none,none]=_;have U:forU [4,5,6,7] ze1 (ts.map tnD) [some (.sh (ssL ss)),some (.sh (.lst (ts.map tnD))),some (.ow (cntD ss.length (begF []))),some (.ow []),none,none,none,none,none]=_:=h1;unfold ssL at U ⊢;generalize (ss.map λs=>D.lst (s.map sD))=L at *;simp[zh1,gv,b,o,U]
def rg(r p:mu):ik:=(List.range p.length).map λi=>lss r*hrs (p.take (i+1))-lss (p.take (i+1))*hrs r
theorem zsd(r p:mu)(x:Sk):rg r (p++[x])=rg r p++[lss r*hrs (p++[x])-lss (p++[x])*hrs r]:=by
 unfold rg;rw[am,i8,List.range_succ,b9];congr 1
 ·apply List.map_congr_left
  intro i hi;have hi:i<p.length:=ju.mp hi;rw[gh (by lia)]
 ·simp
  rw[gk (by simp)]
def zup(r p:mu):(rg r p).length=p.length:=by simp[rg]
def debts(r:mu):ik:=rg r r.dropLast
theorem zw0(a:k9):cutD a none (some (-1))=a.dropLast:=by
 unfold cutD;rw[HT.sIx_none];have:HT.sIx a.length a.length (some (-1))=a.length-1:=by
  unfold HT.sIx;dsimp only;rw[if_pos (by lia)]
  lia
 rw[this,lj];simp
theorem zlr(r:mu)(V:∀x∈r,gy x)(f:r.length<=14):zg9 [.tup [.int (hrs r),.int (lss r)],slD r]=some (.lst ((debts r).map D.int)):=by
 have Y:=smB r V (by lia);obtain⟨e',h1,v5,rfl⟩:=uk (i:=5) (g:=zf8) sD (λp e=>∃v5,e=[some (.sh (.tup [.int (hrs r),.int (lss r)])),some (.sh (slD r)),some (.ow ((rg r p).map D.int)),some (.sh (.int (hrs p))),some (.sh (.int (lss p))),v5]) r.dropLast
  [some (.sh (.tup [.int (hrs r),.int (lss r)])),some (.sh (slD r)),some (.ow []),some (.sh (.int 0)),some (.sh (.int 0)),none] ⟨none,rfl⟩ (by
   rintro p x q e R ⟨v5,rfl⟩;have Z:hrs (p++[x])=hrs p+x.2.1:=by rw[o7];simp[hrs]
   have a:lss (p++[x])=lss p+x.2.2:=by rw[n9];simp[lss]
   have b:p.length+1<=r.length:=by
    have:=congrArg List.length R;simp at this
    lia
   have S:∀y∈p++[x],gy y:=λy c=>V y (List.dropLast_subset r (by rw[R];rw[show p++x::q=(p++[x])++q by simp];exact du _ c));have U:=smB (p++[x]) S (by simp;lia);have I:=zt8 (hrs r) (lss r) (hrs (p++[x])) (lss (p++[x])) Y.2 U.2;have d:Few (((rg r p).map D.int).length+1):=few (by rw[ah,zup];lia);rw[zsd,b9,cf,di];rw[Z,a] at I ⊢;generalize (rg r p).map D.int=M at *;simp[zf8,zrc,zp6,I,d])
 refine je (e':=[some (.sh (.tup [.int (hrs r),.int (lss r)])),some (.sh (slD r)),some (.sh (.lst ((debts r).map D.int))),some (.sh (.int (hrs r.dropLast))),some (.sh (.int (lss r.dropLast))),v5]) rfl ?_;show zg8 [some (.sh (.tup [.int (hrs r),.int (lss r)])),some (.sh (slD r)),none,none,none,none]=_;have J:=zw0 (r.map sD);rw[<-List.map_dropLast] at J;unfold slD at h1 ⊢;unfold debts;simp only[zg8,sSeq,sSet,sOwn,sFor,sRet,fo,fNil,fC,fiS,fLst,fSl,fO0,fO1,fUn,dNeg,fVar,ae,af,ac,ai,aq,av,bu,fu,if_true,J,h1]
def oo(ts:mx)(k:Nat):Int:=match ts[k]?,ts[k+1]? with
 | some t,some n=>lss t.2*hrs n.2-lss n.2*hrs t.2
 | _,_=>0
theorem zox(ts:mx)(k:Nat)(J:k<ts.length)(U:∀t∈ts,SmB (blk t.2)):zi7 [.lst (ts.map tnD),.int (k:Int)]=some (.int (oo ts k)):=by
 by_cases Z:k+1=ts.length
 ·have R:oo ts k=0:=by
   unfold oo;rw[cr (i:=k+1) (by lia)];cases ts[k]? <;> rfl
  rw[R];have S:decide ((k:Int)+1=((ts.map tnD).length:Int))=true:=by simp;lia
  refine je (e':=[some (.sh (.lst (ts.map tnD))),some (.sh (.int (k:Int)))]) rfl ?_;show zd [some (.sh (.lst (ts.map tnD))),some (.sh (.int (k:Int)))]=_;generalize ts.map tnD=T at *;simp[zd,S]
 ·have D:k+1<ts.length:=by lia
  have R:oo ts k=lss ts[k].2*hrs ts[k+1].2-lss ts[k+1].2*hrs ts[k].2:=by
   unfold oo;rw[ay J,ay D]
  rw[R];have S:decide ((k:Int)+1=((ts.map tnD).length:Int))=false:=by simp;lia
  have V:atI (ts.map tnD) (k:Int)=some (tnD ts[k]):=j6 tnD (by simp[J]);have Y:atI (ts.map tnD) ((k:Int)+1)=some (tnD ts[k+1]):=by
   exact j6 tnD (by simp[D])
  have I:=zt8 (hrs ts[k].2) (lss ts[k].2) (hrs ts[k+1].2) (lss ts[k+1].2) (U _ (fe J)).2 (U _ (fe D)).2;refine je (e':=[some (.sh (.lst (ts.map tnD))),some (.sh (.int (k:Int)))]) rfl ?_;show zd [some (.sh (.lst (ts.map tnD))),some (.sh (.int (k:Int)))]=_;generalize ts.map tnD=T at *;simp[zd,S,V,Y,zle,I]
def rowW(ts:mx)(x:Tn×Nat):D:=.tup [.int (x.1.1:Int),.int (x.1.2.length:Int),.int (hrs x.1.2),.int (lss x.1.2),.lst ((debts x.1.2).map D.int),.int (oo ts x.2)]
theorem zoy(ok:TurnsOk ss ts)(Y:x3 [ssL ss]=some (.lst (ts.map tnD)))(f:∀x∈ss.flatten,gy x)(j:ss.length<=1000)(h:ss.flatten.length<=14) :
  zhb [ssL ss]=some (.lst ((ts.zipIdx).map (rowW ts))):=by
 have Z:=znc ok j h;have l:=ok.len;have a:=ok.sm f (by lia);obtain⟨e',h1,U,V,v5,rfl⟩:=xb (ix:=[3,4]) (g:=zha) (λx:Tn×Nat=>[D.int (x.2:Int),slD x.1.2])
  (λp e=>∃U V v5,e=[some (.sh (ssL ss)),some (.sh (.lst (ts.map tnD))),some (.ow (p.map (rowW ts))),U,V,v5]) ts.zipIdx
  [some (.sh (ssL ss)),some (.sh (.lst (ts.map tnD))),some (.ow []),none,none,none] ⟨none,none,none,rfl⟩ (λ_ _=>rfl) (by
   rintro p x q e J ⟨U,V,v5,rfl⟩;have R:ts.zipIdx[p.length]?=some x:=by rw[J];simp
   have I:ts[x.2]?=some x.1:=by
    rw[lz] at R;cases hs:ts[p.length]? with
    | none=>rw[hs] at R;cases R
    | some t=>rw[hs] at R;cases R;simpa using hs
   obtain⟨t,k⟩:=x;have m:=(aj.mp I).1;have i:t∈ts:=bi I;have b:atI (ts.map tnD) (k:Int)=some (tnD t):=j6 tnD I;have c:=zlr t.2 (ok.sk f t i) (cx (ok.len1 t i) h);have d:=zox ts k m a;have n:Few ((p.map (rowW ts)).length+1):=few (by
    rw[ah];have:=congrArg List.length J;simp at this
    lia)
   have S:yc (tnD t) (.tup [.lst ((debts t.2).map D.int),.int (oo ts k)])=some (rowW ts (t,k)):=by
    rfl
   rw[b9,cf,di];generalize p.map (rowW ts)=M at *;simp[qi,zha,b,zle,c,d,S,n])
 refine je (e':=[some (.sh (ssL ss)),some (.sh (.lst (ts.map tnD))),some (.sh (.lst ((ts.zipIdx).map (rowW ts)))),U,V,v5]) rfl ?_;show zi8 [some (.sh (ssL ss)),none,none,none,none,none]=_;have o:iEn 0 [.lst (ts.map λt=>slD t.2)]=some (ts.zipIdx.map λx=>D.tup [D.int (x.2:Int),slD x.1.2]):=by
  show some (nr 0 (ts.map λt=>slD t.2))=_;rw[zld]
 simp only[zi8,sSeq,sSet,sOwn,pi,sRet,fo,fNil,i3,dw,au,fVar,ae,af,ac,ai,aq,av,bu,fu,if_true,Y,Z,o,h1]
def r3(r:ik):Int:=r.getD 2 0
def srt(r:ik):ik:=[if r.getD 0 0<=r.getD 1 0 then r.getD 0 0 else r.getD 1 0,if r.getD 0 0<=r.getD 1 0 then r.getD 1 0 else r.getD 0 0]
def cmp(h:Int):mu->Int->Int
 | [],_=>0
 | x::r,k=>if x.1=k then h+x.2.1 else cmp (h+x.2.1) r k
def PS(w C:Sk->Int)(P:Int):mu->Int
 | x::y::r=>-(P+w x)*(C y-C x-y.2.1)+PS w C (P+w x) (y::r)
 | _=>0
theorem zp7(l:mv):(l.map λs:mu=>(s.length:Int)).sum=(l.flatten.length:Int):=by
 induction l with
 | nil=>rfl
 | cons a l ih=>rw[cf,ii,ih,cg,am];lia
theorem zoz(ss:mv)(R:ss.length<=1000):ze2 [ssL ss]=some (.int (ss.flatten.length:Int)):=by
 have c:=md (te:=h9 0) (base:=[]) (λs:mu=>D.lst (s.map sD)) (λs:mu=>D.int (s.length:Int)) ss λs _=>⟨_,by simp;rfl⟩;have I:=pv (λs:mu=>(s.length:Int)) ss;have J:Few (ss.map λs=>D.lst (s.map sD)).length:=few (by rw[ah];lia);rw[zp7] at I;refine je (e':=[some (.sh (ssL ss))]) rfl ?_;show zgr [some (.sh (ssL ss))]=_;unfold ssL;generalize (ss.map λs=>D.lst (s.map sD))=L at *;simp[zgr,gv,J,c,I]
theorem zp8(ss:mv)(R:∀s∈ss,s.length<=1000):zhd [ssL ss]=some (.int (lss ss.flatten)):=by
 obtain⟨e',h1,v2,rfl⟩:=uk (i:=2) (g:=zd9) (λs:mu=>D.lst (s.map sD)) (λp e=>∃v2,e=[some (.sh (ssL ss)),some (.sh (.int (lss p.flatten))),v2]) ss
  [some (.sh (ssL ss)),some (.sh (.int 0)),none] ⟨none,rfl⟩ (by
   rintro p s q e I ⟨v2,rfl⟩;have c:=md (te:=dw vo (au (fVar 0) fNil)) (base:=[]) sD (λx:Sk=>D.int x.2.2) s λx _=>⟨_,by simp[zp6];rfl⟩;have S:=pv (λx:Sk=>x.2.2) s;have U:Few (s.map sD).length:=few (by rw[ah];have:=R s (by rw[I];simp);lia);have V:lss (p++[s]).flatten=lss p.flatten+(s.map λx:Sk=>x.2.2).sum:=by rw[dy,n9];simp[lss]
   rw[V];generalize s.map sD=L at *;simp[zd9,gv,U,c,S])
 refine je (e':=[some (.sh (ssL ss)),some (.sh (.int (lss ss.flatten))),v2]) rfl ?_;show zhc [some (.sh (ssL ss)),none,none]=_;have J:forL 2 zd9 (ss.map λs=>D.lst (s.map sD)) [some (.sh (ssL ss)),some (.sh (.int 0)),none]=_:=h1;unfold ssL at *;simp[zhc,J]
theorem qd(h:ss[a-1]?=some s)(I:1<=a):atI (ss.map λs=>D.lst (s.map sD)) ((a:Int)-1)=some (.lst (s.map sD)):=by
 rw[show((a:Int)-1)=((a-1:Nat):Int) by lia];exact j6 _ h
variable{x:Sk}
def zx8(h:ss[a-1]?=some (x::r))(D:1<=a):zig [ssL ss,.int (a:Int)]=some (sD x):=by
 have h1:=qd h D;have h2:atI ((x::r).map sD) (0:Int)=some (sD x):=j6 sD (k:=0) rfl;refine je (e':=[some (.sh (ssL ss)),some (.sh (.int (a:Int)))]) rfl ?_;show zj6 [some (.sh (ssL ss)),some (.sh (.int (a:Int)))]=_;unfold ssL;generalize (x::r).map sD=M at *;simp[zj6,h1,h2]
def zuq(l:List α)(k:Nat)(x:α)(h:k<l.length):l.take k++[x]++l.drop (k+1)=l.set k x:=by
 rw[List.set_eq_take_append_cons_drop,if_pos h];simp
def zrd(l:k9)(k:Nat)(h:k<=l.length):cutD l none (some (k:Int))=l.take k:=by
 have:=zuf (l.take k) (l.drop k);rwa [lh,dm,Nat.min_eq_left h] at this
def zku(l:k9)(k:Nat)(h:k<=l.length):cutD l (some (k:Int)) none=l.drop k:=by
 have:=zp2 (l.take k) (l.drop k);rwa [lh,dm,Nat.min_eq_left h] at this
theorem zhg(s:mu)(Z:1<=a)(b:a<=ss.length)(c:ss.length<=1000):xo [ssL ss,.int (a:Int),.lst (s.map sD)]=some (ssL (ss.set (a-1) s)):=by
 have d:(ss.map λs=>D.lst (s.map sD)).length=ss.length:=ah ..;have J:=zrd (ss.map λs=>D.lst (s.map sD)) (a-1) (by lia);have R:=zku (ss.map λs=>D.lst (s.map sD)) a (by lia);have S:((a:Int)-1)=((a-1:Nat):Int):=by lia
 have I:=zuq (ss.map λs=>D.lst (s.map sD)) (a-1) (D.lst (s.map sD)) (by lia);rw[show a-1+1=a by lia] at I;have U:Few ((((ss.map λs=>D.lst (s.map sD)).take (a-1)).length)+(0+1)):=few (by simp only[dm];lia);have V:Few (((ss.map λs=>D.lst (s.map sD)).take (a-1)++[D.lst (s.map sD)]).length+((ss.map λs=>D.lst (s.map sD)).drop a).length):=few (by simp[dm,em];lia);have Y:ssL (ss.set (a-1) s)=.lst ((ss.map λs=>D.lst (s.map sD)).set (a-1) (D.lst (s.map sD))):=by unfold ssL;rw[gl]
 refine je (e':=[some (.sh (ssL ss)),some (.sh (.int (a:Int))),some (.sh (.lst (s.map sD)))]) rfl ?_;show zh3 [some (.sh (ssL ss)),some (.sh (.int (a:Int))),some (.sh (.lst (s.map sD)))]=_;rw[Y,<-I];unfold ssL;generalize s.map sD=M at *;simp only[zh3,sRet,fLst,fCat,fSl,fO0,fO1,fo,au,fNil,fVar,fBin,fC,dSub,S,ae,af,ac,ai,J,R,U,V,if_true,ak,bu,show(0+1<=64)=True by simp]
theorem zl9(h:ss[a-1]?=some (x::r))(D:1<=a)(I:ss.length<=1000):zft [ssL ss,.int (a:Int)]=some (ssL (ss.set (a-1) r)):=by
 have h1:=qd h D;have R:=(aj.mp h).1;have c:cutD ((x::r).map sD) (some ((1:Nat):Int)) none=((x::r).map sD).drop 1:=zku _ 1 (by simp);have J:=zhg (ss:=ss) r D (by lia) I;refine je (e':=[some (.sh (ssL ss)),some (.sh (.int (a:Int)))]) rfl ?_;show zhe [some (.sh (ssL ss)),some (.sh (.int (a:Int)))]=_;have c:cutD ((x::r).map sD) (some (1:Int)) none=r.map sD:=c;unfold ssL at *;generalize (x::r).map sD=M at *;simp[zhe,h1,c,J]
variable{p:List Hs}
theorem z3u{p b:mu}{B:mu}(h:B=p++b)(g:Good B):¬gt (blk B) (blk b):=by
 have h1:=g.beg p ⟨b,h.symm⟩;have D:hrs B=hrs p+hrs b:=by rw[h,o7]
 have I:lss B=lss p+lss b:=by rw[h,n9]
 show ¬lss b*hrs B<lss B*hrs b;rw[D,I] at h1 ⊢;simp only[gx,jc] at h1 ⊢
 lia
def zw1(a:Nat)(rs:mv)(j:Nat):ofS (rs.map λb=>(a,b)) j=if a=j+1 then rs else[]:=by
 unfold ofS;induction rs with
 | nil=>simp
 | cons b r ih =>
   rw[cf];by_cases h:a=j+1
   ·rw[kh (by simp[h]),cf,ih,if_pos h,if_pos h]
   ·rw[ki (by simp[h]),ih,if_neg h,if_neg h]
def zse(a:Nat)(rs:mv):ir (rs.map λb=>(a,b))=List.replicate rs.flatten.length a:=by
 unfold ir;induction rs with
 | nil=>simp
 | cons b r ih =>
   rw[cf,cf,cg,ih,cg,am,List.replicate_append_replicate]
theorem zur(ok:TurnsOk ss ((a,x::r)::ts))(q:∀y∈ss.flatten,gy y)(f:ss.flatten.length<=14) :
  ∃tl S,ss[a-1]?=some (x::tl)/\1<=a/\a<=ss.length/\TurnsOk (ss.set (a-1) tl) S/\ir S=List.replicate r.length a++ir ts/\(S.map (·.2)).flatten=r++(ts.map (·.2)).flatten:=by
 have lo:=ok.lo (a,x::r) (by simp);have E:=ok.good (a,x::r) (by simp);have U:=ok.sk q (a,x::r) (by simp);have g:=ok.len1 (a,x::r) (by simp);have i:=ok.left;have I:=zj7 (n:=ss.length) (t:=(a,x::r)) (ts:=ts) lo.1 lo.2;rw[i] at I;obtain⟨rs,J,_⟩:=zga r (λy k=>U y (by simp[k])) (by rw[ak] at g;lia);have pos:∀b∈rs,0<hrs b:=λb D=>ql b (λy k=>U y (ax _ (by rw[<-J.flat];exact fc.mpr ⟨b,by simpa using D,k⟩))) (J.good b D).ne;have l:0<hrs (x::r):=ql _ U (by simp);have v:=zp0 rs J.desc pos;have w:∀b∈rs,¬gt (blk (x::r)) (blk b):=by
  cases rs with
  | nil=>intro b D;cases D
  | cons bl rs' =>
    have m:x::r=(x::rs'.reverse.flatten)++bl:=by rw[<-J.flat];simp
    have A:=z3u m E;intro b D;rcases cb.mp D with rfl | hb'
    ·exact A
    ·exact z3n (pos b D) (pos bl (by simp)) l (λz=>ui ((ei.mp v).1 b hb') z) A
 have Z:=ok.srt;obtain⟨o,p⟩:=ei.mp Z;have d:∀t∈rs.reverse.map (λb=>(a,b))++ts,1<=t.1/\t.1<=ss.length:=λt V=>by
  rcases cz.mp V with h | h
  ·obtain⟨b,_,rfl⟩:=fg.mp h;exact lo
  ·exact ok.lo t (by simp[h])
 have Y:gf ss.length (rs.reverse.map (λb=>(a,b))++ts)=ss.set (a-1) (r++(ofS ts (a-1)).flatten):=by
  apply eh;intro j;by_cases R:j<ss.length
  ·rw[oj R,gp,znb,zw1]
   by_cases e:a-1=j
   ·subst e
    rw[if_pos (by lia),if_pos rfl,if_pos R,dy,J.flat]
   ·rw[if_neg (by lia),if_neg e]
    have:=ok.part j ss[j] (by simp[R]);rw[y7 _ _ _ (by simp;lia)] at this;simp[this,R]
  ·rw[cr (by rw[lr];lia),cr (by rw[dn];lia)]
 refine⟨r++(ofS ts (a-1)).flatten,rs.reverse.map (λb=>(a,b))++ts,I,lo.1,lo.2,?_,?_,?_⟩
 ·rw[<-Y]
  refine⟨λt V=>by rw[lr];exact d t V,λt V=>?_,λj s R=>?_,?_,zi9 d⟩
  ·rcases cz.mp V with h | h
   ·obtain⟨b,D,rfl⟩:=fg.mp h;exact J.good b (by simpa using D)
   ·exact ok.good t (by simp[h])
  ·have f:=(aj.mp R).1
   rw[lr] at f;rw[oj f] at R;exact bq R
  ·rw[gw]
   refine⟨?_,p,λt V u B=>?_⟩
   ·rw[List.pairwise_map,List.pairwise_reverse]
    exact v.imp λh=>.inl h
   ·obtain⟨b,D,rfl⟩:=fg.mp V
    have D:b∈rs:=by simpa using D
    have C:0<hrs u.2:=ok.pos q u (by simp[B]);rcases o u B with z | ⟨z1,z2⟩
    ·exact .inl (z5k (n:=blk b) (c:=blk (x::r)) (b:=blk u.2) (pos b D) l C (w b D) z)
    ·exact .inr ⟨z3n (n:=blk b) (c:=blk (x::r)) (b:=blk u.2) (pos b D) l C (w b D) z1,z2⟩
 ·rw[o9,zse,J.flat]
 ·rw[b9,dy,i5]
  show((rs.reverse.map λb=>b).flatten)++_=_;rw[List.map_id',J.flat]
def zp:FS:=sIf (fOr (fTst (fBin dLt (fVar 1) (fC (.int 1)))) (fTst (fBin dGt (fVar 1) (h9 0)))) (kl "UnknownStack" (some)) (sNil)
def xw:lx->k9->la:=runQ 2 0 2 zp
def ur:lx->k9->kb:=xQ 2 0 2 zp
def zh6:FS:=sSeq (sIf (fTst (fBin dEq (h9 0) (fC (.int 0)))) (sRet (fC (.int 0))) (sNil)) (sRet (fBin dIx (fIxV 0 (fUn dNeg (fC (.int 1)))) (fC (.int 1))))
def zgk:k9->la:=runD 1 1 zh6
def zgt:FS:=sIf (fOr (fTst (fBin dLt (fVar 0) (fC (.int 0)))) (fTst (fBin dGt (fVar 0) (fC (.int 5))))) (kl "BadCount" ((λz=>(some z).bind ((λz=>((vInt (fC (.int 5))) z).bind ((λz=>(some z).bind (some)))))))) (sNil)
def ze3:lx->k9->la:=runQ 1 0 1 zgt
def ze4:lx->k9->kb:=xQ 1 0 1 zgt
def zo:FS:=sIf (fOr (fTst (fBin dLt (fVar 0) (fC (.int 1)))) (fTst (fBin dGt (fVar 0) (fC (.int 60))))) (kl "BadHours" ((λz=>(some z).bind ((λz=>((vInt (fC (.int 60))) z).bind ((λz=>(some z).bind (some)))))))) (sNil)
def ze5:lx->k9->la:=runQ 1 0 1 zo
def xv:lx->k9->kb:=xQ 1 0 1 zo
def zk:FS:=sIf (fOr (fTst (fBin dLt (fVar 0) (fC (.int 0)))) (fTst (fBin dGt (fVar 0) (fC (.int 100))))) (kl "BadLoss" ((λz=>(some z).bind ((λz=>((vInt (fC (.int 100))) z).bind (some)))))) (sNil)
def zj:lx->k9->la:=runQ 1 0 1 zk
def vq:lx->k9->kb:=xQ 1 0 1 zk
def zfu:FS:=sIf (fTst (fBin dGe (dw ze2 (au (fVar 0) (fNil))) (fC (.int 14)))) (kl "HouseFull" ((λz=>((vInt (fC (.int 14))) z).bind ((λz=>(some z).bind (some)))))) (sNil)
def zfv:lx->k9->la:=runQ 1 0 1 zfu
def x0:lx->k9->kb:=xQ 1 0 1 zfu
def ze6:FS:=sIf (fTst (fBin dGe (h9 0) (fC (.int 60)))) (kl "DeedsFull" ((λz=>((vInt (fC (.int 60))) z).bind ((λz=>(some z).bind (some)))))) (sNil)
def vy:lx->k9->la:=runQ 1 0 1 ze6
def tm:lx->k9->kb:=xQ 1 0 1 ze6
def zjr:FS:=sRet (fBin gz (fC (.int 1)) (dw bLen (au (fLst (gv (fiS (fVar 0)) [] (fTst (fBin dEq (fIxV 0 (fC (.int 0))) (fC (.str "put")))) (fVar 0))) (fNil))))
def zfw:k9->la:=runD 1 1 zjr
def zc8:FS:=sSeq (sXp (lp ze4 [] (au (fVar 1) (fNil))) (iu (iy ze3 [] (au (fVar 1) (fNil))))) (sSeq (yg 0 "House" "kept" (fo (fNil))) (yg 0 "House" "states" (fo (au (fTup (au (fLst (gv (i3 iR1 (au (fVar 1) (fNil))) [] fYes (fLst (fo (fNil))))) (au (fLst (fo (fNil))) (fNil)))) (fNil)))))
def zu:lx->k9->l0:=runL 2 1 1 zc8
def zeq:lx->k9->Option (Str×lx):=xL 2 1 1 zc8
def zgu:FS:=sRet (fBin dIx (pIx (.at (.ins false "House" il)) 0 1 (-1)) (fC (.int 0)))
def p9:lx->k9->la:=runQ 1 1 0 zgu
def zlt:lx->k9->kb:=xQ 1 1 0 zgu
def zgv:FS:=sRet (fBin dIx (pIx (.at (.ins false "House" il)) 0 1 (-1)) (fC (.int 1)))
def qz:lx->k9->la:=runQ 1 1 0 zgv
def zlu:lx->k9->kb:=xQ 1 1 0 zgv
def zhh:FS:=sSeq (iu (qm (.at (.ins false "House" il)) 0 0 (fVar 1))) (iu (qm (.at (.ins false "House" il)) 0 1 (fTup (au (fVar 2) (au (fVar 3) (fNil))))))
def p8:lx->k9->l0:=runL 4 1 3 zhh
def zne:lx->k9->Option (Str×lx):=xL 4 1 3 zhh
def tq:FS:=sSeq (sSet 4 (fK (.ins false "House" il) 0 (iy p9 [0] (fNil)))) (sSeq (sXp (lp ur [] (au (fVar 4) (au (fVar 1) (fNil)))) (iu (iy xw [] (au (fVar 4) (au (fVar 1) (fNil)))))) (sSeq (sXp (lp xv [] (au (fVar 2) (fNil))) (iu (iy ze5 [] (au (fVar 2) (fNil))))) (sSeq (sXp (lp vq [] (au (fVar 3) (fNil))) (iu (iy zj [] (au (fVar 3) (fNil))))) (sSeq (sXp (lp x0 [] (au (fVar 4) (fNil))) (iu (iy zfv [] (au (fVar 4) (fNil))))) (sSeq (sXp (xFrz true (lp tm [] (au (nz (.ins false "House" il) 0 0) (fNil)))) (iu (fFrz true (iy vy [] (au (nz (.ins false "House" il) 0 0) (fNil)))))) (sSeq (sSet 5 (fFrz true (dw zfw (au (nz (.ins false "House" il) 0 0) (fNil))))) (sSeq (sSet 6 (fLst (fCat (fLst (fo (au (fTup (au (fVar 5) (au (fVar 2) (au (fVar 3) (fNil))))) (fNil)))) (fIxV 4 (fBin dSub (fVar 1) (fC (.int 1))))))) (sSeq (iu (fK (.ins false "House" il) 0 (j9 p8 [0] (au (fTup (au (fC (.str "put")) (au (fVar 1) (au (fVar 2) (au (fVar 3) (fNil)))))) (au (dw xo (au (fVar 4) (au (fVar 1) (au (fVar 6) (fNil))))) (au (fK (.ins false "House" il) 0 (iy qz [0] (fNil))) (fNil))))))) (sRet (fVar 5))))))))))
def za:lx->k9->l0:=runL 7 1 3 tq
def xn:lx->k9->Option (Str×lx):=xL 7 1 3 tq
def zhi:FS:=sRet (dw zgk (au (fK (.ins false "House" il) 0 (iy qz [0] (fNil))) (fNil)))
def zfx:lx->k9->la:=runQ 1 1 0 zhi
def znf:lx->k9->kb:=xQ 1 1 0 zhi
def ze7:FS:=sIf (fTst (fBin dEq (dw ze2 (au (fVar 0) (fNil))) (fC (.int 0)))) (kl "NothingWaits" (some)) (sNil)
def ze8:lx->k9->la:=runQ 1 0 1 ze7
def xu:lx->k9->kb:=xQ 1 0 1 ze7
def xm:FS:=sSeq (sSet 1 (fK (.ins false "House" il) 0 (iy p9 [0] (fNil)))) (sSeq (sXp (lp xu [] (au (fVar 1) (fNil))) (iu (iy ze8 [] (au (fVar 1) (fNil))))) (sSeq (sXp (xFrz true (lp tm [] (au (nz (.ins false "House" il) 0 0) (fNil)))) (iu (fFrz true (iy vy [] (au (nz (.ins false "House" il) 0 0) (fNil)))))) (sSeq (sSet 2 (fBin dIx (fLst (i3 xp (au (fVar 1) (fNil)))) (fC (.int 0)))) (sSeq (sSet 3 (dw zig (au (fVar 1) (au (fVar 2) (fNil))))) (sSeq (sSet 4 (fK (.ins false "House" il) 0 (iy zfx [0] (fNil)))) (sSeq (sSet 5 (fTup (au (fVar 4) (au (fBin gz (fVar 4) (dw vt (au (fVar 3) (fNil)))) (au (dw zhd (au (fVar 1) (fNil))) (fNil)))))) (sSeq (iu (fK (.ins false "House" il) 0 (j9 p8 [0] (au (fTup (au (fC (.str "dry")) (fNil))) (au (dw zft (au (fVar 1) (au (fVar 2) (fNil)))) (au (fLst (fCat (fK (.ins false "House" il) 0 (iy qz [0] (fNil))) (fLst (fo (au (fVar 5) (fNil)))))) (fNil))))))) (sRet (fVar 3)))))))))
def y9:lx->k9->l0:=runL 6 1 0 xm
def xr:lx->k9->Option (Str×lx):=xL 6 1 0 xm
def zgw:FS:=sRet (fLst (i3 xp (au (fK (.ins false "House" il) 0 (iy p9 [0] (fNil))) (fNil))))
def zn:lx->k9->la:=runQ 1 1 0 zgw
def zlv:lx->k9->kb:=xQ 1 1 0 zgw
def zja:FS:=sRet (dw bSum (au (fLst (gv (fiS (fVar 0)) [] fYes (dw bSum (au (fLst (gv (fiS (fVar 0)) [] fYes (fIxV 0 (fC (.int 2))))) (fNil))))) (fNil)))
def zhj:k9->la:=runD 1 1 zja
def ze9:FS:=sSet 1 (fLst (fCat (fVar 1) (fLst (fRep (fo (au (fVar 4) (fNil))) (fBin dSub (fVar 3) (fVar 2))))))
def zh7:FS:=sSeq (sSet 1 (fLst (fo (fNil)))) (sSeq (pi [2,3,4] (fiS (fVar 0)) (ze9)) (sRet (fVar 1)))
def zh8:k9->la:=runD 5 1 zh7
def zll:FS:=sRet (fBin dIx (fLst (fo (au (fC (.int 5)) (au (fC (.int 3)) (au (fC (.int 2)) (au (fC (.int 4)) (au (fC (.int 1)) (au (fC (.int 5)) (au (fC (.int 0)) (au (fC (.int 4)) (au (fC (.int 3)) (au (fC (.int 5)) (au (fC (.int 2)) (au (fC (.int 4)) (fNil))))))))))))))) (fBin dMod (fVar 0) (fC (.int 12))))
def zhk:k9->la:=runD 1 1 zll
def zh9:FS:=sRet (dw zhb (au (fK (.ins false "House" il) 0 (iy p9 [0] (fNil))) (fNil)))
def y8:lx->k9->la:=runQ 1 1 0 zh9
def zo0:lx->k9->kb:=xQ 1 1 0 zh9
def zlm:FS:=sSeq (sSet 2 (h9 1)) (sSeq (sSet 3 (fLst (fo (au (fC (.str "put")) (au (fC (.str "put")) (au (fC (.str "tell")) (au (fC (.str "dry")) (au (fC (.str "put")) (au (fC (.str "go")) (au (fC (.str "put")) (au (fC (.str "put")) (au (fC (.str "back")) (au (fC (.str "tell")) (au (fC (.str "put")) (au (fC (.str "dry")) (fNil)))))))))))))))) (sSeq (sSet 4 (fIxV 3 (fBin dMod (fVar 0) (fC (.int 12))))) (sSeq (sSet 5 (fBin dMod (fBin dDiv (fVar 0) (fC (.int 12))) (fC (.int 16)))) (sSeq (sSet 6 (fBin dDiv (fVar 0) (fC (.int 192)))) (sSeq (sSet 7 (fBin gz (fC (.int 1)) (fBin dMod (fVar 6) (dw bMax (au (fVar 2) (au (fC (.int 1)) (fNil))))))) (sSeq (sSet 6 (fBin dDiv (fVar 6) (fC (.int 5)))) (sSeq (sIf (fOr (fTst (fBin dEq (fVar 5) (fC (.int 5)))) (fTst (fBin dEq (fVar 2) (fC (.int 0))))) (sSet 7 (fBin dIx (fLst (fo (au (fC (.int 0)) (au (fBin gz (fVar 2) (fC (.int 1))) (au (fUn dNeg (fC (.int 1))) (au (fBin dPow (fC (.int 10)) (fC (.int 12))) (fNil))))))) (fBin dMod (fVar 6) (fC (.int 4))))) (sNil)) (sSeq (sSet 8 (fBin gz (fC (.int 1)) (fBin dMod (fVar 6) (fC (.int 60))))) (sSeq (sIf (fTst (fBin dEq (fVar 5) (fC (.int 6)))) (sSet 8 (fBin dIx (fLst (fo (au (fC (.int 0)) (au (fC (.int 61)) (au (fUn dNeg (fC (.int 1))) (au (fBin dPow (fC (.int 10)) (fC (.int 12))) (fNil))))))) (fBin dMod (fVar 6) (fC (.int 4))))) (sNil)) (sSeq (sSet 9 (fBin dMod (fBin dDiv (fVar 6) (fC (.int 60))) (fC (.int 101)))) (sSeq (sIf (fTst (fBin dGt (fVar 5) (fC (.int 9)))) (sSeq (sSet 8 (fBin gz (fC (.int 1)) (fBin dMod (fVar 8) (fC (.int 3))))) (sSet 9 (fBin dMod (fVar 9) (fC (.int 4))))) (sNil)) (sSeq (sIf (fTst (fBin dEq (fVar 5) (fC (.int 7)))) (sSet 9 (fBin dIx (fLst (fo (au (fUn dNeg (fC (.int 1))) (au (fC (.int 101)) (au (fUn dNeg (fBin dPow (fC (.int 10)) (fC (.int 12)))) (au (fBin dPow (fC (.int 10)) (fC (.int 12))) (fNil))))))) (fBin dMod (fBin dDiv (fVar 6) (fC (.int 60))) (fC (.int 4))))) (sNil)) (sSeq (sSet 10 (fC (.int 0))) (sSeq (sIf (fAnd (fTst (fBin dLe (fC (.int 1)) (fVar 7))) (fTst (fBin dLe (fVar 7) (fVar 2)))) (sSet 10 (dw bLen (au (fIxV 1 (fBin dSub (fVar 7) (fC (.int 1)))) (fNil)))) (sNil)) (sSeq (sSet 11 (fBin gz (fC (.int 1)) (fBin dMod (fBin dDiv (fVar 6) (fC (.int 6060))) (dw bMax (au (fVar 10) (au (fC (.int 1)) (fNil))))))) (sSeq (sIf (fTst (fBin dEq (fVar 5) (fC (.int 8)))) (sSet 11 (fBin dIx (fLst (fo (au (fC (.int 0)) (au (fBin gz (fVar 10) (fC (.int 1))) (au (fUn dNeg (fC (.int 1))) (au (fBin dPow (fC (.int 10)) (fC (.int 12))) (fNil))))))) (fBin dMod (fBin dDiv (fVar 6) (fC (.int 6060))) (fC (.int 4))))) (sNil)) (sSeq (sIf (fTst (fBin dEq (fVar 4) (fC (.str "put")))) (sRet (fTup (au (fC (.str "put")) (au (fVar 7) (au (fVar 8) (au (fVar 9) (fNil))))))) (sNil)) (sSeq (sIf (fTst (fBin dEq (fVar 4) (fC (.str "tell")))) (sRet (fTup (au (fC (.str "tell")) (au (fVar 7) (au (fVar 11) (au (fVar 9) (fNil))))))) (sNil)) (sSeq (sIf (fTst (fBin dEq (fVar 4) (fC (.str "go")))) (sRet (fTup (au (fC (.str "go")) (au (fVar 7) (fNil))))) (sNil)) (sRet (fTup (au (fVar 4) (fNil)))))))))))))))))))))))
def y0:k9->la:=runD 12 2 zlm
def zix:FS:=sSeq (sSet 3 (fIxV 2 (fC (.int 0)))) (sSeq (sIf (fTst (fBin dEq (fVar 3) (fC (.str "back")))) (sRet (fBin dIx (fLst (fo (au (fC (.str "")) (au (fC (.str "nothing done")) (fNil))))) (dw bInt (au (fBin dEq (fVar 1) (fC (.int 0))) (fNil))))) (sNil)) (sSeq (sIf (fTst (fBin dEq (fVar 3) (fC (.str "dry")))) (sIf (fTst (fBin dEq (dw bSum (au (fLst (gv (fiS (fVar 0)) [] fYes (h9 0))) (fNil))) (fC (.int 0)))) (sRet (fC (.str "nothing waits"))) (sNil)) (sIf (fOr (fTst (fBin dLt (fIxV 2 (fC (.int 1))) (fC (.int 1)))) (fTst (fBin dGt (fIxV 2 (fC (.int 1))) (h9 0)))) (sRet (fC (.str "unknown stack"))) (sIf (fAnd (fTst (fBin dNe (fVar 3) (fC (.str "put")))) (fTst (fBin dEq (dw bLen (au (fIxV 0 (fBin dSub (fIxV 2 (fC (.int 1))) (fC (.int 1)))) (fNil))) (fC (.int 0))))) (sRet (fC (.str "empty stack"))) (sNil)))) (sSeq (sIf (fAnd (fTst (fBin dEq (fVar 3) (fC (.str "tell")))) (fOr (fTst (fBin dLt (fIxV 2 (fC (.int 2))) (fC (.int 1)))) (fTst (fBin dGt (fIxV 2 (fC (.int 2))) (dw bLen (au (fIxV 0 (fBin dSub (fIxV 2 (fC (.int 1))) (fC (.int 1)))) (fNil))))))) (sRet (fC (.str "unknown place"))) (sNil)) (sSeq (sIf (fAnd (fTst (fBin dEq (fVar 3) (fC (.str "put")))) (fOr (fTst (fBin dLt (fIxV 2 (fC (.int 2))) (fC (.int 1)))) (fTst (fBin dGt (fIxV 2 (fC (.int 2))) (fC (.int 60)))))) (sRet (fC (.str "bad hours"))) (sNil)) (sSeq (sIf (fAnd (fOr (fTst (fBin dEq (fVar 3) (fC (.str "put")))) (fTst (fBin dEq (fVar 3) (fC (.str "tell"))))) (fOr (fTst (fBin dLt (fIxV 2 (fC (.int 3))) (fC (.int 0)))) (fTst (fBin dGt (fIxV 2 (fC (.int 3))) (fC (.int 100)))))) (sRet (fC (.str "bad loss"))) (sNil)) (sSeq (sIf (fAnd (fTst (fBin dEq (fVar 3) (fC (.str "put")))) (fTst (fBin dGe (dw bSum (au (fLst (gv (fiS (fVar 0)) [] fYes (h9 0))) (fNil))) (fC (.int 14))))) (sRet (fC (.str "house full"))) (sNil)) (sSeq (sIf (fTst (fBin dGe (fVar 1) (fC (.int 60)))) (sRet (fC (.str "deeds full"))) (sNil)) (sRet (fC (.str ""))))))))))
def zm:k9->la:=runD 4 3 zix
def tf:FS:=sSeq (yd 3 (ym (fiS (fVar 0)) [] (i3 pj (au (fVar 0) (fNil))))) (sSeq (sSet 4 (fC (.int 0))) (sSeq (sIf (fTst (fBin dGt (h9 1) (fC (.int 1)))) (sSet 4 (fBin dSub (fIxV 1 (fC (.int 1))) (fC (.int 1)))) (sNil)) (sSeq (sIf (fTst (fBin dEq (fIxV 1 (fC (.int 0))) (fC (.str "put")))) (sSeq (tz 3 (fVar 4) (rk false (fCat (fLst (fo (au (fTup (au (fVar 2) (au (fIxV 1 (fC (.int 2))) (au (fIxV 1 (fC (.int 3))) (fNil))))) (fNil)))) (fIxV 3 (fVar 4))))) (sRet (fLst (fo (au (fVar 3) (au (fVar 2) (fNil))))))) (sNil)) (sSeq (sIf (fTst (fBin dEq (fIxV 1 (fC (.int 0))) (fC (.str "tell")))) (sSeq (sSet 5 (fFrz false (fBin dIx (fIxV 3 (fVar 4)) (fBin dSub (fIxV 1 (fC (.int 2))) (fC (.int 1)))))) (sSeq (zq4 3 (fVar 4) (fBin dSub (fIxV 1 (fC (.int 2))) (fC (.int 1))) (fTup (au (fIxV 5 (fC (.int 0))) (au (fIxV 5 (fC (.int 1))) (au (fIxV 1 (fC (.int 3))) (fNil)))))) (sRet (fLst (fo (au (fVar 3) (au (fIxV 5 (fC (.int 2))) (fNil)))))))) (sNil)) (sSeq (sIf (fTst (fBin dEq (fIxV 1 (fC (.int 0))) (fC (.str "dry")))) (sSet 4 (fBin dSub (fBin dIx (fBin dIx (dw zb (au (fVar 0) (fNil))) (fC (.int 0))) (fC (.int 0))) (fC (.int 1)))) (sNil)) (sSeq (sSet 5 (fFrz false (fBin dIx (fIxV 3 (fVar 4)) (fC (.int 0))))) (sSeq (tz 3 (fVar 4) (rk false (fSl (fIxV 3 (fVar 4)) (fO1 (fC (.int 1))) (fO0)))) (sRet (fLst (fo (au (fVar 3) (au (fVar 5) (fNil)))))))))))))
def q9:k9->la:=runD 6 3 tf
def zed:FS:=sSeq (sIf (fTst (fIsi "tuple" (fVar 1))) (sRet (dw rd (au (fVar 0) (au (fVar 1) (fNil))))) (sNil)) (sRet (wf (dw qx (au (fVar 0) (fNil))) (fBin dEq (fVar 0) (fVar 1))))
def x4:k9->la:=runD 2 2 zed
def zjb:FS:=z9 (fAgL (pCd (fLst (gv (i3 iR1 (au (fVar 0) (fNil))) [] fYes (fLst (fo (fNil))))) (pCo (fo (fNil)) (pCo (fo (fNil)) (pCd (fLst (fo (fNil))) (pNil))))))
def zhl:k9->Option Ag:=runG 1 1 zjb
def zp9:k9->kb:=xG 1 1 zjb
def zfa:FS:=sSeq (iu (oa 1 (fVar 2))) (sIf (fTst (fBin dEq (fBin dMod (fBin dDiv (fVar 2) (fC (.int 12))) (fC (.int 4))) (fC (.int 1)))) (sSeq (iu (oa 1 (fVar 2))) (iu (oa 1 (fVar 2)))) (sNil))
def zke:FS:=sSeq (sOwn 1 (fo (fNil))) (sSeq (sFor 2 (fiS (fVar 0)) (zfa)) (sRet (fVar 1)))
def zia:k9->la:=runD 3 1 zke
def zfy:FS:=sIf (fTst (fBin dEq (dw bLen (au (fIxV 0 (fBin dSub (fVar 1) (fC (.int 1)))) (fNil))) (fC (.int 0)))) (kl "EmptyStack" ((λz=>(some z).bind ((λz=>((vInt (fVar 1)) z).bind (some)))))) (sNil)
def zi:lx->k9->la:=runQ 2 0 2 zfy
def vp:lx->k9->kb:=xQ 2 0 2 zfy
def vn:FS:=sSeq (sSet 2 (fK (.ins false "House" il) 0 (iy p9 [0] (fNil)))) (sSeq (sXp (lp ur [] (au (fVar 2) (au (fVar 1) (fNil)))) (iu (iy xw [] (au (fVar 2) (au (fVar 1) (fNil)))))) (sSeq (sXp (lp vp [] (au (fVar 2) (au (fVar 1) (fNil)))) (iu (iy zi [] (au (fVar 2) (au (fVar 1) (fNil)))))) (sSeq (sXp (xFrz true (lp tm [] (au (nz (.ins false "House" il) 0 0) (fNil)))) (iu (fFrz true (iy vy [] (au (nz (.ins false "House" il) 0 0) (fNil)))))) (sSeq (iu (fK (.ins false "House" il) 0 (j9 p8 [0] (au (fTup (au (fC (.str "go")) (au (fVar 1) (fNil)))) (au (dw zft (au (fVar 2) (au (fVar 1) (fNil)))) (au (fK (.ins false "House" il) 0 (iy qz [0] (fNil))) (fNil))))))) (sRet (dw zig (au (fVar 2) (au (fVar 1) (fNil)))))))))
def yz:lx->k9->l0:=runL 3 1 1 vn
def xj:lx->k9->Option (Str×lx):=xL 3 1 1 vn
def zl:FS:=sIf (fOr (fTst (fBin dLt (fVar 1) (fC (.int 1)))) (fTst (fBin dGt (fVar 1) (h9 0)))) (kl "UnknownPlace" (some)) (sNil)
def zfb:lx->k9->la:=runQ 2 0 2 zl
def xt:lx->k9->kb:=xQ 2 0 2 zl
def zqa:FS:=sRet (fTup (au (dw zjp (au (fVar 0) (fNil))) (au (dw vt (au (fVar 0) (fNil))) (au (fVar 1) (fNil)))))
def zjc:k9->la:=runD 2 2 zqa
def qy:FS:=sSeq (sSet 4 (fK (.ins false "House" il) 0 (iy p9 [0] (fNil)))) (sSeq (sXp (lp ur [] (au (fVar 4) (au (fVar 1) (fNil)))) (iu (iy xw [] (au (fVar 4) (au (fVar 1) (fNil)))))) (sSeq (sXp (lp vp [] (au (fVar 4) (au (fVar 1) (fNil)))) (iu (iy zi [] (au (fVar 4) (au (fVar 1) (fNil)))))) (sSeq (sSet 5 (fIxV 4 (fBin dSub (fVar 1) (fC (.int 1))))) (sSeq (sXp (lp xt [] (au (fVar 5) (au (fVar 2) (fNil)))) (iu (iy zfb [] (au (fVar 5) (au (fVar 2) (fNil)))))) (sSeq (sXp (lp vq [] (au (fVar 3) (fNil))) (iu (iy zj [] (au (fVar 3) (fNil))))) (sSeq (sXp (xFrz true (lp tm [] (au (nz (.ins false "House" il) 0 0) (fNil)))) (iu (fFrz true (iy vy [] (au (nz (.ins false "House" il) 0 0) (fNil)))))) (sSeq (sSet 6 (fIxV 5 (fBin dSub (fVar 2) (fC (.int 1))))) (sSeq (sSet 7 (fLst (fCat (fLst (fCat (fLst (fSl (fVar 5) (fO0) (fO1 (fBin dSub (fVar 2) (fC (.int 1)))))) (fLst (fo (au (dw zjc (au (fVar 6) (au (fVar 3) (fNil)))) (fNil)))))) (fLst (fSl (fVar 5) (fO1 (fVar 2)) (fO0)))))) (sSeq (iu (fK (.ins false "House" il) 0 (j9 p8 [0] (au (fTup (au (fC (.str "tell")) (au (fVar 1) (au (fVar 2) (au (fVar 3) (fNil)))))) (au (dw xo (au (fVar 4) (au (fVar 1) (au (fVar 7) (fNil))))) (au (fK (.ins false "House" il) 0 (iy qz [0] (fNil))) (fNil))))))) (sRet (dw vo (au (fVar 6) (fNil)))))))))))))
def zh:lx->k9->l0:=runL 8 1 3 qy
def xz:lx->k9->Option (Str×lx):=xL 8 1 3 qy
inductive Deed where
 | put (a h l:Int) | tell (a p l:Int) | go (a:Int) | dry
abbrev nb:=List Deed
def dD:Deed->D
 | .put a h l=>.tup [.str "put",.int a,.int h,.int l]
 | .tell a p l=>.tup [.str "tell",.int a,.int p,.int l]
 | .go a=>.tup [.str "go",.int a]
 | .dry=>.tup [.str "dry"]
def Deed.isPut:Deed->Bool | .put ..=>true | _=>false
abbrev Spn:=Int×Int×Int
abbrev np:=List Spn
abbrev Hs:=mv×np
abbrev nq:=List Hs
def spL(sp:np):D:=.lst (sp.map sD)
def stD(s:Hs):D:=.tup [ssL s.1,spL s.2]
abbrev kH:AK:=.ins false "House" il
def hP(k:nb)(s:nq):ll:=[.o (k.map dD),.o (s.map stD)]
abbrev hA(k:nb)(s:nq):Ag:=(kH,hP k s)
variable{e:DE0}{κ:AK}{l:Option Nat}{ps:ll}
def zre(h:e[i]?=some (some (.ag κ l ps)))(D:ps[j]?=some (.o ds)):ko (.at κ) i j e=some ds:=by
 unfold ko agAt;rw[if_pos (show Acc.ok (.at κ) e i j from(show isK κ e i from .inl ⟨_,_,h⟩)),h];dsimp;rw[D]
def zrf(h:e[i]?=some (some (.ro κ ps)))(D:ps[j]?=some (.o ds)):ko (.at κ) i j e=some ds:=by
 unfold ko agAt;rw[if_pos (show Acc.ok (.at κ) e i j from(show isK κ e i from .inr ⟨_,h⟩)),h];dsimp;rw[D]
variable{f:FE}
def z0h(h:e[i]?=some (some (.ag κ l ps))):fK κ i f e=f e:=if_pos (.inl ⟨_,_,h⟩)
def z0i(h:e[i]?=some (some (.ro κ ps))):fK κ i f e=f e:=if_pos (.inr ⟨_,h⟩)
def z3v{f:XF}(h:e[i]?=some (some (.ag κ l ps))):xK κ i f e=f e:=if_pos (.inl ⟨_,_,h⟩)
variable{r:k9×DE0}{m:lx->k9->la}{F:FA}
def zrg(h:e[i]?=some (some (.ro κ ps)))(D:F e=some r)(h2:r.2[i]?=some (some (.ro κ ps))):iy m [i] F e=(m [(κ,ps)] r.1).map λd=>(d,r.2):=by
 unfold iy;rw[if_pos (show aggs e [i] from λk I=>by rw[cy.mp I];exact⟨_,h⟩),D];simp[getR,h2]
def zw2(h:e[i]?=some (some (.ag κ l ps)))(D:F e=some r)(h2:r.2[i]?=some (some (.ag κ l ps))):iy m [i] F e=(m [(κ,ps)] r.1).map λd=>(d,r.2):=by
 unfold iy;rw[if_pos (show aggs e [i] from λk I=>by rw[cy.mp I];exact⟨_,h⟩),D];simp[getR,h2]
def l7:iy m [] F e=(F e).bind λr=>(m [] r.1).map λd=>(d,r.2):=by
 unfold iy;rw[if_pos (show aggs e [] from λk D=>nomatch D)];rfl
variable{x:lx->k9->Option (Str×lx)}
def lw{x:lx->k9->kb}:lp x [] F e=(F e).bind λr=>(x [] r.1).map λd=>(d,r.2):=by
 unfold lp;rw[if_pos (show aggs e [] from λk I=>nomatch I)];rfl
variable{d:D}{ps':ll}
def zw3{m:lx->k9->l0}(h:e[i]?=some (some (.ag κ l ps)))(I:F e=some r)(h2:r.2[i]?=some (some (.ag κ l ps)))(J:m [(κ,ps)] r.1=some (d,[(κ,ps')])):j9 m [i] F e=some (d,r.2.set i (some (.ag κ l ps'))):=by
 unfold j9;rw[if_pos (show aggs e [i] from λk R=>by rw[cy.mp R];exact⟨_,h⟩),I];simp[getA,h2,J,putA]
def zus(h:e[i]?=some (some (.ag κ l ps)))(D:F e=some r)(h2:r.2[i]?=some (some (.ag κ l ps))){d:Str}(I:x [(κ,ps)] r.1=some (d,[(κ,ps')])):l4 x [i] F e=some (d,r.2.set i (some (.ag κ l ps'))):=by
 unfold l4;rw[if_pos (show aggs e [i] from λk J=>by rw[cy.mp J];exact⟨_,h⟩),D];simp[getA,h2,I,putA]
def zut(h:e[i]?=some (some (.ag κ l ps)))(D:F e=some r)(h2:r.2[i]?=some (some (.ag κ l ps)))(I:x [(κ,ps)] r.1=none):l4 x [i] F e=none:=by
 unfold l4;rw[if_pos (show aggs e [i] from λk J=>by rw[cy.mp J];exact⟨_,h⟩),D];simp only[getA,h2,ai,ac,I];rfl
theorem zqb(xs:k9)(x:D):atI (xs++[x]) (-1)=some x:=by
 unfold atI ixN;rw[if_neg (by decide),if_pos (by simp;lia),show(-1+((xs++[x]).length:Int)).toNat=xs.length by simp;lia];simp
variable{k:nb}{s:Hs}
def qp:p9 [hA k (p++[s])] []=some (ssL s.1):=by
 unfold p9 runQ;have h:ko (.at kH) 0 1 (j7 1 [hA k (p++[s])] [])=some ((p++[s]).map stD):=zrf (ps:=hP k (p++[s])) rfl rfl;simp[zgu,pIx,h,zqb,stD];rfl
def yu:qz [hA k (p++[s])] []=some (spL s.2):=by
 unfold qz runQ;have h:ko (.at kH) 0 1 (j7 1 [hA k (p++[s])] [])=some ((p++[s]).map stD):=zrf (ps:=hP k (p++[s])) rfl rfl;simp[zgv,pIx,h,zqb,stD];rfl
def hrOf(sp:np):Int:=match sp.getLast? with | none=>0 | some x=>x.2.1
theorem zng(sp:np):zgk [spL sp]=some (.int (hrOf sp)):=by
 unfold zgk runD spL hrOf;cases h:sp.getLast? with
 | none =>
   rw[wc.mp h];simp[zh6,iz]
 | some x =>
   obtain⟨q,rfl⟩:=wb.mp h;have I:iz 1 [D.lst ((q++[x]).map sD)]=[some (.sh (.lst (q.map sD++[sD x])))]:=by simp[iz]
   have h1:atI (q.map sD++[sD x]) (-1)=some (sD x):=zqb _ _;have h2:((q.map sD++[sD x]).length:Int)≠0:=by simp;lia
   rw[I];generalize q.map sD++[sD x]=L at *;have J:decide ((L.length:Int)=0)=false:=decide_eq_false h2;simp only[zh6,sSeq,sIf,fTst,fBin,h9,ae,ac,fC,dEq,ai,J,bj,if_false,sNil,sRet,fIxV,fUn,dNeg,ixSl,h1,sD,dIx];rfl
def z0j:zfx [hA k (p++[s])] []=some (.int (hrOf s.2)):=by
 unfold zfx runQ;have D:(j7 1 [hA k (p++[s])] [])[0]?=some (some (.ro kH (hP k (p++[s])))):=rfl;have h1:=zrg (m:=qz) (F:=fNil) D (r:=([],j7 1 [hA k (p++[s])] [])) rfl D;have h2:=z0i (f:=iy qz [0] fNil) D;simp[yu] at h1;simp[zhi,h2,h1,zng]
theorem wz{a:Int}(h1:1<=a)(h2:a<=ss.length):ur [] [ssL ss,.int a]=none/\xw [] [ssL ss,.int a]=some .non:=by
 have e:j7 2 [] [ssL ss,.int a]=[some (.sh (ssL ss)),some (.sh (.int a))]:=rfl;have l:((ss.map λs=>D.lst (s.map sD)).length:Int)=ss.length:=by rw[ah]
 unfold ur xw xQ runQ;rw[if_pos ⟨rfl,rfl⟩,if_pos ⟨rfl,rfl⟩,e];unfold ssL at *;generalize (ss.map λs=>D.lst (s.map sD))=L at *;simp[zp,show ¬a<1 by lia,show ¬((L.length:Int)<a) by lia]
theorem zqc{a:Int}(h:a<1\/ss.length<a):ur [] [ssL ss,.int a]=some ("UnknownStack" : Str):=by
 have e:j7 2 [] [ssL ss,.int a]=[some (.sh (ssL ss)),some (.sh (.int a))]:=rfl;have l:((ss.map λs=>D.lst (s.map sD)).length:Int)=ss.length:=by rw[ah]
 unfold ur xQ;rw[if_pos ⟨rfl,rfl⟩,e];unfold ssL at *;generalize (ss.map λs=>D.lst (s.map sD))=L at *;by_cases h1:a<1
 ·simp[zp,h1,kl]
 ·simp[zp,h1,show((L.length:Int)<a) by lia,kl]
variable{h:Int}
theorem zrh(h1:1<=h)(h2:h<=60):xv [] [.int h]=none/\ze5 [] [.int h]=some .non:=by
 unfold xv ze5 xQ runQ;rw[if_pos ⟨rfl,rfl⟩,if_pos ⟨rfl,rfl⟩,show j7 1 [] [.int h]=[some (.sh (.int h))] from rfl];simp[zo,show ¬h<1 by lia,show ¬60<h by lia]
theorem z0k(D:h<1\/60<h):xv [] [.int h]=some ("BadHours" : Str):=by
 unfold xv xQ;rw[if_pos ⟨rfl,rfl⟩,show j7 1 [] [.int h]=[some (.sh (.int h))] from rfl];by_cases h1:h<1
 ·simp[zo,h1,kl,vInt]
 ·simp[zo,h1,show 60<h by lia,kl,vInt]
theorem znh(h1:0<=h)(h2:h<=100):vq [] [.int h]=none/\zj [] [.int h]=some .non:=by
 unfold vq zj xQ runQ;rw[if_pos ⟨rfl,rfl⟩,if_pos ⟨rfl,rfl⟩,show j7 1 [] [.int h]=[some (.sh (.int h))] from rfl];simp[zk,show ¬h<0 by lia,show ¬100<h by lia]
theorem zx9(D:h<0\/100<h):vq [] [.int h]=some ("BadLoss" : Str):=by
 unfold vq xQ;rw[if_pos ⟨rfl,rfl⟩,show j7 1 [] [.int h]=[some (.sh (.int h))] from rfl];by_cases h1:h<0
 ·simp[zk,h1,kl,vInt]
 ·simp[zk,h1,show 100<h by lia,kl,vInt]
theorem zw4(h1:0<=h)(h2:h<=5):ze4 [] [.int h]=none/\ze3 [] [.int h]=some .non:=by
 unfold ze4 ze3 xQ runQ;rw[if_pos ⟨rfl,rfl⟩,if_pos ⟨rfl,rfl⟩,show j7 1 [] [.int h]=[some (.sh (.int h))] from rfl];simp[zgt,show ¬h<0 by lia,show ¬5<h by lia]
theorem zuu(ss:mv)(D:ss.length<=1000):(if ss.flatten.length<14 then x0 [] [ssL ss]=none/\zfv [] [ssL ss]=some .non else x0 [] [ssL ss]=some ("HouseFull" : Str)):=by
 have h:=zoz ss D;generalize ss.flatten.length=n at *;split <;> rename_i I
 ·unfold x0 zfv xQ runQ
  rw[if_pos ⟨rfl,rfl⟩,if_pos ⟨rfl,rfl⟩,show j7 1 [] [ssL ss]=[some (.sh (ssL ss))] from rfl];simp[zfu,h,show ¬(14:Int)<=(n:Int) by lia]
 ·unfold x0 xQ
  rw[if_pos ⟨rfl,rfl⟩,show j7 1 [] [ssL ss]=[some (.sh (ssL ss))] from rfl];simp[zfu,h,show(14:Int)<=(n:Int) by lia,kl,vInt]
theorem uj(ds:k9):(if ds.length<60 then tm [] [.lst ds]=none/\vy [] [.lst ds]=some .non else tm [] [.lst ds]=some ("DeedsFull" : Str)):=by
 split <;> rename_i I
 ·unfold tm vy xQ runQ
  rw[if_pos ⟨rfl,rfl⟩,if_pos ⟨rfl,rfl⟩,show j7 1 [] [.lst ds]=[some (.sh (.lst ds))] from rfl];simp[ze6,show ¬(60:Int)<=(ds.length:Int) by lia]
 ·unfold tm xQ
  rw[if_pos ⟨rfl,rfl⟩,show j7 1 [] [.lst ds]=[some (.sh (.lst ds))] from rfl];simp[ze6,show(60:Int)<=(ds.length:Int) by lia,kl,vInt]
def jq(k:nb):Int:=1+(k.filter Deed.isPut).length
theorem z0l(k:nb)(J:k.length<=1000):zfw [.lst (k.map dD)]=some (.int (jq k)):=by
 have c:=zko (tt:=fTst (fBin dEq (fIxV 0 (fC (.int 0))) (fC (.str "put")))) (te:=fVar 0) (base:=[]) dD dD Deed.isPut k λx _=>by
  cases x with
  | put a h l=>exact⟨_,rfl,λ_=>⟨_,rfl⟩⟩
  | tell a p l=>exact⟨_,rfl,λz=>nomatch z⟩
  | go a=>exact⟨_,rfl,λz=>nomatch z⟩
  | dry=>exact⟨_,rfl,λz=>nomatch z⟩
 have I:Few (k.map dD).length:=few (by rw[ah];lia);unfold zfw runD;rw[if_pos (show[D.lst (k.map dD)].length=1 from rfl),show iz 1 [D.lst (k.map dD)]=[some (.sh (.lst (k.map dD)))] from rfl];unfold jq;generalize k.map dD=L at *;simp[zjr,gv,I,c]
def fK0:fK κ 0 f (some (.ag κ l ps)::e)=f (some (.ag κ l ps)::e):=z0h rfl
def fK0r:fK κ 0 f (some (.ro κ ps)::e)=f (some (.ro κ ps)::e):=z0i rfl
variable{sl:Sl}
def cQ0:iy m [0] F (some sl::e)=(F (some sl::e)).bind λr=>(getR r.2 [0]).bind λags=>(m ags r.1).map λd=>(d,r.2):=if_pos λk D=>by rw[cy.mp D];exact⟨_,rfl⟩
def cL0{m:lx->k9->l0}:j9 m [0] F (some sl::e)=(F (some sl::e)).bind λr=>(getA r.2 [0]).bind λags=>(m ags r.1).bind λq=>if q.2.map (·.1)=ags.map (·.1) then some (q.1,putA r.2 [0] q.2) else none:=if_pos λk I=>by rw[cy.mp I];exact⟨_,rfl⟩
def zw5:getA (some (.ag κ l ps)::e) [0]=some [(κ,ps)]:=rfl
variable{κ':AK}
def zw6:putA (some (.ag κ l ps)::e) [0] [(κ',ps')]=some (.ag κ' l ps')::e:=rfl
def l3:getR (some (.ag κ l ps)::e) [0]=some [(κ,ps)]:=rfl
def z3w:getR (some (.ro κ ps)::e) [0]=some [(κ,ps)]:=rfl
def ua:nz kH 0 0 (frz true (some (.ag kH l (hP k p))::e))=some (.lst (k.map dD),frz true (some (.ag kH l (hP k p))::e)):=by
 unfold nz;rw[if_pos (show isK kH (frz true (some (.ag kH l (hP k p))::e)) 0 from .inr ⟨[.d (.lst (k.map dD)),.d (.lst (p.map stD))],rfl⟩)];rfl
variable{r:Nat}
def zma(h:e[i]?=some (some (.ag κ (some r) ps)))(I:∀c fs,κ≠.ins true c fs)(D:ps[j]?=some (.o ds))(J:f e=some (d,e))(R:Few (ds.length+1)) :
  qm (.at κ) i j f e=some (.non,e.set i (some (.ag κ (some r) (ps.set j (.o (ds++[d])))))):=by
 unfold qm;rw[h];dsimp only;rw[if_pos (show labO κ (some r) from⟨rfl,I⟩),zre h D,ac,J,ac];unfold appP;rw[h];dsimp only;rw[D];dsimp only;rw[if_pos ⟨rfl,rfl,rfl,R⟩];unfold setP;rw[h]
theorem zni{d:Deed}{sp:np}(D:k.length<=1000)(I:p.length<=1000):p8 [hA k p] [dD d,ssL ss,spL sp]=some (.non,[hA (k++[d]) (p++[(ss,sp)])]):=by
 have h1:=zma (e:=[some (.ag kH (some 0) (hP k p)),some (.sh (dD d)),some (.sh (ssL ss)),some (.sh (spL sp))]) (i:=0) (j:=0) (f:=fVar 1) rfl (λc fs z=>nomatch z) rfl rfl (few (by rw[ah];lia));have h2:=zma (e:=[some (.ag kH (some 0) ((hP k p).set 0 (.o (k.map dD++[dD d])))),some (.sh (dD d)),some (.sh (ssL ss)),some (.sh (spL sp))]) (i:=0) (j:=1) (f:=fTup (au (fVar 2) (au (fVar 3) fNil))) (ds:=p.map stD) rfl (λc fs z=>nomatch z) rfl rfl (few (by rw[ah];lia));unfold p8 runL;rw[if_pos ⟨rfl,rfl⟩,show jl 4 [hA k p] [dD d,ssL ss,spL sp]=[some (.ag kH (some 0) (hP k p)),some (.sh (dD d)),some (.sh (ssL ss)),some (.sh (spL sp))] from rfl];simp[zhh,h1,h2];unfold hA hP;rw[b9,b9];rfl
def putX(ss:mv)(n:Nat)(a h l:Int):kb:=if a<1\/(ss.length:Int)<a then some "UnknownStack" else if h<1\/60<h then some "BadHours" else if l<0\/100<l then some "BadLoss" else if ss.flatten.length<14 then(if n<60 then none else some "DeedsFull") else some "HouseFull"
def putS(ss:mv)(a:Nat)(x:Sk):mv:=ss.set (a-1) (x::ss.getD (a-1) [])
theorem z3x{l:Int}(I:putX s.1 k.length a h l=none)(n:s.1.length<=5)(o:p.length<=100) :
  xn [hA k (p++[s])] [.int a,.int h,.int l]=none/\za [hA k (p++[s])] [.int a,.int h,.int l]=some (.int (jq k),[hA (k++[.put a h l]) (p++[s]++[(putS s.1 a (jq k,h,l),s.2)])]):=by
 unfold putX at I;split at I
 ·cases I
 split at I
 ·cases I
 split at I
 ·cases I
 split at I;case isFalse=>cases I
 rename_i Y;split at I;case isFalse=>cases I
 rename_i Z;have k1:=wz (ss:=s.1) (a:=a) (by lia) (by lia);have k2:=zrh (h:=h) (by lia) (by lia);have k3:=znh (h:=l) (by lia) (by lia);have V:=zuu s.1 (by lia);rw[if_pos Y] at V;have k5:=uj (k.map dD);rw[if_pos (by rw[ah];exact Z)] at k5;have b:=z0l k (by lia);have J:(a-1:Nat)<s.1.length:=by lia
 have c:atI (s.1.map λs=>D.lst (s.map sD)) ((a:Int)-1)=some (.lst ((s.1.getD (a-1) []).map sD)):=by
  rw[show(a:Int)-1=((a-1:Nat):Int) by lia,j6 (λs:mu=>D.lst (s.map sD)) (ay J),dg,ay J];rfl
 have e:=zhg (ss:=s.1) (a:=a) ((jq k,h,l)::s.1.getD (a-1) []) (by lia) (by lia) (by lia);have f:=zni (k:=k) (p:=p++[s]) (d:=.put a h l) (ss:=putS s.1 a (jq k,h,l)) (sp:=s.2) (by lia) (by simp;lia);have g:=qp (k:=k) (p:=p) (s:=s);have i:=yu (k:=k) (p:=p) (s:=s);have j:Few (0+1+((s.1.getD (a-1) []).map sD).length):=few (by
  have:(s.1.getD (a-1) []).length<=s.1.flatten.length:=by
   rw[dg,ay J];exact(d9 (fe J)).length_le
  rw[ah];lia)
 have m:jl 7 [hA k (p++[s])] [.int a,.int h,.int l]=[some (.ag kH (some 0) (hP k (p++[s]))),some (.sh (.int a)),some (.sh (.int h)),some (.sh (.int l)),none,none,none]:=rfl;have S:p8 [(kH,hP k (p++[s]))] [.tup [.str "put",.int a,.int h,.int l],ssL (putS s.1 a (jq k,h,l)),spL s.2]=some (.non,[hA (k++[.put a h l]) (p++[s]++[(putS s.1 a (jq k,h,l),s.2)])]):=f;have U:xo [ssL s.1,.int a,.lst (.tup [.int (jq k),.int h,.int l]::(s.1.getD (a-1) []).map sD)]=some (ssL (putS s.1 a (jq k,h,l))):=e;have R:tq (jl 7 [hA k (p++[s])] [.int a,.int h,.int l])=some (.rt (.int (jq k)),[some (.ag kH (some 0) (hP (k++[.put a h l]) (p++[s]++[(putS s.1 a (jq k,h,l),s.2)]))),some (.sh (.int a)),some (.sh (.int h)),some (.sh (.int l)),some (.sh (ssL s.1)),some (.sh (.int (jq k))),some (.sh (.lst (.tup [.int (jq k),.int h,.int l]::(s.1.getD (a-1) []).map sD)))]):=by
  rw[m];generalize (s.1.getD (a-1) []).map sD=TL at *;unfold ssL at *;simp[tq,fK0,cQ0,l3,g,lw,l7,k1,k2,k3,V,xFrz,fFrz,ua,k5,noL,b,c,j,cL0,zw5,U,i,S,zw6]
 exact⟨by unfold xn xL;rw[if_pos ⟨rfl,rfl⟩,R],by unfold za runL;rw[if_pos ⟨rfl,rfl⟩,R];rfl⟩
def newS(n:Nat):Hs:=(List.replicate n [],[])
theorem z0m(Y:n<=5):zeq [(.ins true "House" [],[])] [.int n]=none/\zu [(.ins true "House" [],[])] [.int n]=some (.non,[(.ins true "House" il,hP [] [newS n])]):=by
 have k1:=zw4 (h:=n) (by lia) (by lia);have J:Few (rngD 0 n).length:=few (by rw[uq];lia);have c:=md (te:=fLst (fo fNil)) (base:=[]) (λi:Nat=>D.int (0+(i:Int))) (λ_:Nat=>D.lst []) (List.range n) λi _=>⟨_,rfl⟩;have R:=n4 n (by lia);have S:jl 2 [(AK.ins true "House" [],[])] [.int n]=[some (.ag (.ins true "House" []) (some 0) []),some (.sh (.int n))]:=rfl;have U:(List.range n).map (λ_=>D.lst [])=(List.replicate n ([]:mu)).map λs=>D.lst (s.map sD):=by
  rw[List.map_const',j1,mz,di]
 have I:zc8 (jl 2 [(AK.ins true "House" [],[])] [.int n])=some (.nx,[some (.ag (.ins true "House" il) (some 0) (hP [] [newS n])),some (.sh (.int n))]):=by
  rw[S];unfold rngD at R J;rw[U] at c;have V:(True/\(Str.ofString "kept")∉([]:g9)/\0<900):=⟨trivial,by simp,by decide⟩;simp only[zc8,sSeq,sXp,lw,l7,au,fVar,fNil,af,ae,ac,k1,kx,ai,iu,yg,fo,bu,fu,if_true,aq,ky,fTup,fLst,gv,i3,R,J,c,di,ak,show 0+1+1<=64 by decide,show 0+1<=64 by decide];rw[if_pos V];simp only[ac,af,ae,R,J,c,if_true,ai,ak,bu,show 0+1+1<=64 by decide,show 0+1<=64 by decide];rfl
 exact⟨by unfold zeq xL;rw[if_pos ⟨rfl,rfl⟩,I],by unfold zu runL;rw[if_pos ⟨rfl,rfl⟩,I];rfl⟩
def z0n(D:n<=5)(I:F e=some ([.int n],e')):yh "House" zu F e=some ((kH,hP [] [newS n]),e'):=by
 unfold yh;rw[I,ac,(z0m D).2];rfl
def z3y(h:e[i]?=some (some (.ag kH l (hP k p)))):fK kH i (iy m [i] fNil) e=(m [hA k p] []).map λd=>(d,e):=by
 rw[z0h h];exact zw2 h (r:=([],e)) rfl h
variable{m:lx->k9->Option (Str×lx)}
def ww{m:lx->k9->l0}(h:e[i]?=some (some (.ag κ l ps)))(I:F e=some (ds,e))(J:m [(κ,ps)] ds=some (d,[(κ,ps')])):j9 m [i] F e=some (d,e.set i (some (.ag κ l ps'))):=zw3 h (r:=(ds,e)) I h J
def zri{d:Str}(h:e[i]?=some (some (.ag κ l ps)))(D:F e=some (ds,e))(I:m [(κ,ps)] ds=some (d,[(κ,ps')])):l4 m [i] F e=some (d,e.set i (some (.ag κ l ps'))):=zus h (r:=(ds,e)) D h I
def zrj(h:e[i]?=some (some (.ag κ l ps)))(D:F e=some (ds,e))(I:m [(κ,ps)] ds=none):l4 m [i] F e=none:=zut h (r:=(ds,e)) D h I
def plD:D->Prop | .int _=>True | .str _=>True | _=>False
theorem zhn(xs:k9)(R:∀x∈xs,plD x)(V:xs.length<=1000):rd [.tup xs,.tup xs]=some (.bl true):=by
 obtain⟨e',h1,v2,rfl⟩:=sx (i:=2) (g:=vw) (λk e=>∃v2,e=[some (.sh (.tup xs)),some (.sh (.tup xs)),v2]) (rngD 0 xs.length) [some (.sh (.tup xs)),some (.sh (.tup xs)),none] ⟨none,rfl⟩ (by
  rintro k d e S ⟨v2,rfl⟩;obtain⟨rfl,I⟩:=ul S;have J:atI xs (k:Int)=some xs[k]:=by
   unfold atI;rw[sg (by lia) (by lia)];simp[I]
  have U:=R _ (fe I);generalize xs[k]=x at *;cases x with
  | int i=>simp[vw,J,xf]
  | str i=>simp[vw,J]
  | _=>exact U.elim)
 have hi:=n4 xs.length (by lia);refine je (e':=?w) rfl ?h;show zy [some (.sh (.tup xs)),some (.sh (.tup xs)),none]=_;simp[zy,hi,h1];rfl
def zw7(h:xp [ssL s.1]=some (iD os)):zn [hA k (p++[s])] []=some (.lst (iD os)):=by
 unfold zn runQ;have D:(j7 1 [hA k (p++[s])] [])[0]?=some (some (.ro kH (hP k (p++[s])))):=rfl;have h1:=zrg (m:=p9) (F:=fNil) D (r:=([],j7 1 [hA k (p++[s])] [])) rfl D;have h2:=z0i (f:=iy p9 [0] fNil) D;simp[qp] at h1;simp[zgw,h2,h1,h]
theorem zrk(ss:mv)(D:ss.length<=1000):(if 0<ss.flatten.length then xu [] [ssL ss]=none/\ze8 [] [ssL ss]=some .non else xu [] [ssL ss]=some ("NothingWaits" : Str)):=by
 have h:=zoz ss D;generalize ss.flatten.length=n at *;split <;> rename_i I
 ·unfold xu ze8 xQ runQ
  rw[if_pos ⟨rfl,rfl⟩,if_pos ⟨rfl,rfl⟩,show j7 1 [] [ssL ss]=[some (.sh (ssL ss))] from rfl];simp[ze7,h,show ¬n=0 by lia]
 ·unfold xu xQ
  rw[if_pos ⟨rfl,rfl⟩,show j7 1 [] [ssL ss]=[some (.sh (ssL ss))] from rfl];simp[ze7,h,show n=0 by lia,kl]
def dryS(s:Hs)(a:Nat)(x:Sk)(tl:mu):Hs:=(s.1.set (a-1) tl,s.2++[(hrOf s.2,hrOf s.2+x.2.1,lss s.1.flatten)])
variable{x:Sk}{tl:mu}
theorem z3z(V:xp [ssL s.1]=some (iD (a::os)))(R:s.1[a-1]?=some (x::tl))(S:1<=a)(Y:k.length<60)(o:s.1.length<=5)(q:p.length<=100)(Z:∀y∈s.1,y.length<=1000)(b:s.2.length<=1000)(c:0<s.1.flatten.length) :
  xr [hA k (p++[s])] []=none/\y9 [hA k (p++[s])] []=some (sD x,[hA (k++[.dry]) (p++[s]++[dryS s a x tl])]):=by
 have k1:=zrk s.1 (by lia);rw[if_pos c] at k1;have k5:=uj (k.map dD);rw[if_pos (by rw[ah];exact Y)] at k5;have e:=zx8 R S;have f:=zl9 R S (by lia);have g:=zp8 s.1 Z;have h:p8 [(kH,hP k (p++[s]))] [.tup [.str "dry"],ssL (s.1.set (a-1) tl),.lst (s.2.map sD++[.tup [.int (hrOf s.2),.int (hrOf s.2+x.2.1),.int (lss s.1.flatten)]])]=some (.non,[hA (k++[.dry]) (p++[s]++[dryS s a x tl])]):=by
  have:=zni (k:=k) (p:=p++[s]) (d:=.dry) (ss:=s.1.set (a-1) tl) (sp:=s.2++[(hrOf s.2,hrOf s.2+x.2.1,lss s.1.flatten)]) (by lia) (by simp;lia);unfold spL at this;rw[b9] at this;exact this
 have i:=qp (k:=k) (p:=p) (s:=s);have U:=yu (k:=k) (p:=p) (s:=s);have j:=z0j (k:=k) (p:=p) (s:=s);have kd:vt [sD x]=some (.int x.2.1):=zrc x;have l:Few ((s.2.map sD).length+(0+1)):=few (by rw[ah];lia);have J:atI (iD (a::os)) 0=some (.int (a:Int)):=by unfold iD;exact j6 (k:=0) (λn:Nat=>D.int (n:Int)) rfl
 have m:jl 6 [hA k (p++[s])] []=[some (.ag kH (some 0) (hP k (p++[s]))),none,none,none,none,none]:=rfl;have I:∃e',xm (jl 6 [hA k (p++[s])] [])=some (.rt (sD x),some (.ag kH (some 0) (hP (k++[.dry]) (p++[s]++[dryS s a x tl])))::e'):=by
  rw[m];unfold spL at U;generalize s.2.map sD=SP at *;simp[xm,fK0,cQ0,l3,i,lw,l7,k1,xFrz,fFrz,ua,k5,noL,e,V,J,j,kd,g,f,U,l,cL0,zw5,h,zw6]
 obtain⟨e',I⟩:=I;exact⟨by unfold xr xL;rw[if_pos ⟨rfl,rfl⟩,I],by unfold y9 runL;rw[if_pos ⟨rfl,rfl⟩,I];rfl⟩
def t9:Int->np->Prop
 | _,[]=>True
 | b,x::r=>x.1=b/\x.1<=x.2.1/\t9 x.2.1 r
def om:Int->np->Int
 | b,[]=>b
 | _,x::r=>om x.2.1 r
def zln:∀(sp:np) (b:Int) (x:Spn),om b (sp++[x])=x.2.1
 | [],_,_=>rfl
 | y::r,_,x=>zln r y.2.1 x
def zuv(sp:np):hrOf sp=om 0 sp:=by
 unfold hrOf;cases h:sp.getLast? with
 | none=>rw[wc.mp h];rfl
 | some x=>obtain⟨q,rfl⟩:=wb.mp h;rw[zln]
def zo3:∀(sp:np) (b:Int) (x:Spn),t9 b sp->x.1=om b sp->x.1<=x.2.1->t9 b (sp++[x])
 | [],_,_,_,h,h2=>⟨h,h2,trivial⟩
 | y::r,_,x,hc,h,h2=>⟨hc.1,hc.2.1,zo3 r _ x hc.2.2 h h2⟩
theorem zw8:∀(sp:np) (b:Int),t9 b sp->b<=om b sp
 | [],b,_=>Int.le_refl b
 | y::r,b,hc=>by have:=zw8 r _ hc.2.2;have:=hc.1;have:=hc.2.1;show b<=om y.2.1 r;lia
def rts(sp:np):ik:=(sp.map λx=>List.replicate (x.2.1-x.1).toNat x.2.2).flatten
theorem zqd:∀(sp:np) (b:Int),t9 b sp->((rts sp).length:Int)=om b sp-b
 | [],b,_=>by show(0:Int)=b-b;lia
 | x::r,b,hc=>by
   have D:=zqd r _ hc.2.2;have e:rts (x::r)=List.replicate (x.2.1-x.1).toNat x.2.2++rts r:=rfl;rw[e,am,d8];have:=hc.1;have:=hc.2.1;show _=om x.2.1 r-b
   lia
theorem z0o(ss:mv)(S:ss.length<=1000)(R:∀s∈ss,s.length<=1000):zhj [ssL ss]=some (.int (lss ss.flatten)):=by
 have c:=md (te:=dw bSum (au (fLst (gv (fiS (fVar 0)) [] fYes (fIxV 0 (fC (.int 2))))) (fNil))) (base:=[]) (λs:mu=>D.lst (s.map sD)) (λs:mu=>D.int (s.map λx:Sk=>x.2.2).sum) ss λs U=>by
  have V:=md (te:=fIxV 0 (fC (.int 2))) (base:=[]) sD (λx:Sk=>D.int x.2.2) s λx _=>⟨_,by simp[sD,t5];rfl⟩;have I:=pv (λx:Sk=>x.2.2) s;have J:Few (s.map sD).length:=few (by rw[ah];have:=R s U;lia);generalize s.map sD=L at *;exact⟨_,by simp[gv,J,V,I];rfl⟩
 have I:=pv (λs:mu=>(s.map λx:Sk=>x.2.2).sum) ss;have J:Few (ss.map λs=>D.lst (s.map sD)).length:=few (by rw[ah];lia);have Y:(ss.map λs:mu=>(s.map λx:Sk=>x.2.2).sum).sum=lss ss.flatten:=by
  clear c I J S R;induction ss with
  | nil=>rfl
  | cons a l ih=>rw[cf,ii,ih,cg,n9];rfl
 rw[Y] at I;refine je (e':=[some (.sh (ssL ss))]) rfl ?_;show zja [some (.sh (ssL ss))]=_;unfold ssL;generalize (ss.map λs=>D.lst (s.map sD))=L at *;simp[zja,gv,J] at c ⊢;simp[c,I]
def zuw(a b:np):rts (a++b)=rts a++rts b:=by simp[rts]
theorem zw9(sp:np)(I:t9 b sp)(i:om b sp-b<=100000):zh8 [spL sp]=some (.lst ((rts sp).map D.int)):=by
 have Y:=zqd sp b I;obtain⟨e',U,v2,R,S,rfl⟩:=xb (ix:=[2,3,4]) (g:=ze9) (λx:Spn=>[D.int x.1,.int x.2.1,.int x.2.2]) (λp e=>∃v2 R S,e=[some (.sh (spL sp)),some (.sh (.lst ((rts p).map D.int))),v2,R,S]) sp
  [some (.sh (spL sp)),some (.sh (.lst [])),none,none,none] ⟨none,none,none,rfl⟩ (λ_ _=>rfl) (by
   rintro p x q e J ⟨v2,R,S,rfl⟩;have Z:(rts p).length+(x.2.1-x.1).toNat<=100000:=by
    have:(rts sp).length=(rts p).length+((x.2.1-x.1).toNat+(rts q).length):=by rw[J,zuw,am];congr 1;show(List.replicate _ _++rts q).length=_;simp
    lia
   have V:Bnd (-(2 ^ 62)) (2 ^ 62) (x.2.1-x.1):=by
    have:-100000<=x.2.1-x.1:=by
     have a:∀(l:np) (b:Int),t9 b l->x∈l->x.1<=x.2.1:=by
      intro l;induction l with
      | nil=>intro b _ h;cases h
      | cons y r ih=>intro b I h;rcases cb.mp h with rfl | h;exact I.2.1;exact ih _ I.2.2 h
     have:=a sp b I (by rw[J];simp)
     lia
    exact⟨by lia,by lia⟩
   have c:Few ((0+1)*(x.2.1-x.1).toNat):=by show _<=_;lia
   have d:Few (((rts p).map D.int).length+(List.replicate (x.2.1-x.1).toNat (D.int x.2.2)).length):=by show _<=_;rw[ah,d8];lia
   have f:(rts (p++[x])).map D.int=(rts p).map D.int++List.replicate (x.2.1-x.1).toNat (D.int x.2.2):=by rw[zuw,b9,show rts [x]=List.replicate (x.2.1-x.1).toNat x.2.2 by simp[rts],mz]
   refine⟨[some (.sh (spL sp)),some (.sh (.lst ((rts (p++[x])).map D.int))),some (.sh (.int x.1)),some (.sh (.int x.2.1)),some (.sh (.int x.2.2))],?_,_,_,_,rfl⟩;rw[f];simp only[qi,ze9,sSet,fLst,fCat,fRep,fo,au,fNil,fVar,fBin,dSub,ae,af,ac,ai,aq,av,ak,bu,show 0+1<=64 by decide,if_true,c,V,and_self,zna,d])
 have U:forU [2,3,4] ze9 (sp.map sD) [some (.sh (spL sp)),some (.sh (.lst [])),none,none,none]=_:=U;refine je (e':=[some (.sh (spL sp)),some (.sh (.lst ((rts sp).map D.int))),v2,R,S]) rfl ?_;show zh7 [some (.sh (spL sp)),none,none,none,none]=_;unfold spL at *;simp[zh7,U]
def z30(h:zhb [ssL s.1]=some d):y8 [hA k (p++[s])] []=some d:=by
 unfold y8 runQ;rw[if_pos ⟨rfl,rfl⟩,show j7 1 [hA k (p++[s])] []=[some (.ro kH (hP k (p++[s])))] from rfl];simp[zh9,fK0r,cQ0,z3w,qp,h]
variable{t:mu}
theorem znj(h:ss[a-1]?=some t)(I:1<=a)(J:ss.length<=1000):(if t.length=0 then vp [] [ssL ss,.int (a:Int)]=some ("EmptyStack" : Str) else vp [] [ssL ss,.int (a:Int)]=none/\zi [] [ssL ss,.int (a:Int)]=some .non):=by
 have h1:=qd h I;have R:=(aj.mp h).1;have e:j7 2 [] [ssL ss,.int (a:Int)]=[some (.sh (ssL ss)),some (.sh (.int (a:Int)))]:=rfl;have D:((t.map sD).length:Int)=t.length:=by rw[ah]
 generalize t.map sD=T at *;split <;> rename_i S
 ·unfold vp xQ
  rw[if_pos ⟨rfl,rfl⟩,e];unfold ssL;have c:decide ((T.length:Int)=0)=true:=decide_eq_true (by lia);simp only[zfy,sIf,fTst,fBin,dw,au,fIxV,ixSl,fVar,fC,fNil,dSub,ae,af,ac,ai,h1,bLen,dEq,c,if_true,kl,vInt,show((a:Int)).natAbs<1000000 by lia]
 ·unfold vp zi xQ runQ
  rw[if_pos ⟨rfl,rfl⟩,if_pos ⟨rfl,rfl⟩,e];unfold ssL;have c:decide ((T.length:Int)=0)=false:=decide_eq_false (by lia);simp only[zfy,sIf,fTst,fBin,dw,au,fIxV,ixSl,fVar,fC,fNil,dSub,ae,af,ac,ai,h1,bLen,dEq,c,bj,if_false,sNil,and_self]
def goS(s:Hs)(a:Nat)(tl:mu):Hs:=(s.1.set (a-1) tl,s.2)
theorem z5l(I:s.1[a-1]?=some (x::tl))(J:1<=a)(R:k.length<60)(c:s.1.length<=5)(e:p.length<=100) :
  xj [hA k (p++[s])] [.int (a:Int)]=none/\yz [hA k (p++[s])] [.int (a:Int)]=some (sD x,[hA (k++[.go a]) (p++[s]++[goS s a tl])]):=by
 have f:=(aj.mp I).1;have k1:=wz (ss:=s.1) (a:=a) (by lia) (by lia);have k2:=znj I J (by lia);rw[if_neg (by simp)] at k2;have k5:=uj (k.map dD);rw[if_pos (by rw[ah];exact R)] at k5;have S:=zx8 I J;have U:=zl9 I J (by lia);have V:p8 [(kH,hP k (p++[s]))] [.tup [.str "go",.int (a:Int)],ssL (s.1.set (a-1) tl),spL s.2]=some (.non,[hA (k++[.go a]) (p++[s]++[goS s a tl])]):=zni (k:=k) (p:=p++[s]) (d:=.go a) (ss:=s.1.set (a-1) tl) (sp:=s.2) (by lia) (by simp;lia);have Y:=qp (k:=k) (p:=p) (s:=s);have Z:=yu (k:=k) (p:=p) (s:=s);have b:jl 3 [hA k (p++[s])] [.int (a:Int)]=[some (.ag kH (some 0) (hP k (p++[s]))),some (.sh (.int (a:Int))),none]:=rfl;have D:vn (jl 3 [hA k (p++[s])] [.int (a:Int)])=some (.rt (sD x),[some (.ag kH (some 0) (hP (k++[.go a]) (p++[s]++[goS s a tl]))),some (.sh (.int (a:Int))),some (.sh (ssL s.1))]):=by
  rw[b];generalize spL s.2=SP at *;simp[vn,fK0,cQ0,l3,Y,lw,l7,k1,k2,xFrz,fFrz,ua,k5,noL,S,U,Z,cL0,zw5,V,zw6]
 exact⟨by unfold xj xL;rw[if_pos ⟨rfl,rfl⟩,D],by unfold yz runL;rw[if_pos ⟨rfl,rfl⟩,D];rfl⟩
theorem zrl{m:Int}:(if m<1\/(t.length:Int)<m then xt [] [.lst (t.map sD),.int m]=some ("UnknownPlace" : Str) else xt [] [.lst (t.map sD),.int m]=none/\zfb [] [.lst (t.map sD),.int m]=some .non):=by
 have e:j7 2 [] [.lst (t.map sD),.int m]=[some (.sh (.lst (t.map sD))),some (.sh (.int m))]:=rfl;have D:((t.map sD).length:Int)=t.length:=by rw[ah]
 generalize t.map sD=T at *;split <;> rename_i I
 ·unfold xt xQ
  rw[if_pos ⟨rfl,rfl⟩,e];by_cases h1:m<1
  ·simp[zl,h1,kl]
  ·simp[zl,h1,show(T.length:Int)<m by lia,kl]
 ·unfold xt zfb xQ runQ
  rw[if_pos ⟨rfl,rfl⟩,if_pos ⟨rfl,rfl⟩,e];simp[zl,show ¬m<1 by lia,show ¬(T.length:Int)<m by lia]
def zo4(x:Sk)(l:Int):zjc [sD x,.int l]=some (sD (x.1,x.2.1,l)):=by
 rfl
theorem z0p{m:Nat}{l:Int}(J:s.1[a-1]?=some t)(S:t[m-1]?=some x)(R:1<=a)(A:1<=m)(c:0<=l)(h1:l<=100)(e:k.length<60)(B:s.1.length<=5)(f:t.length<=1000)(C:p.length<=100) :
  xz [hA k (p++[s])] [.int (a:Int),.int (m:Int),.int l]=none/\zh [hA k (p++[s])] [.int (a:Int),.int (m:Int),.int l]=some (.int x.2.2,[hA (k++[.tell a m l]) (p++[s]++[(s.1.set (a-1) (t.set (m-1) (x.1,x.2.1,l)),s.2)])]):=by
 have E:=(aj.mp J).1;have F:=(aj.mp S).1;have k1:=wz (ss:=s.1) (a:=a) (by lia) (by lia);have k2:=znj J R (by lia);rw[if_neg (by lia)] at k2;have k3:=zrl (t:=t) (m:=m);rw[if_neg (by lia)] at k3;have g:=znh (h:=l) c h1;have k5:=uj (k.map dD);rw[if_pos (by rw[ah];exact e)] at k5;have i:=qd J R;have j:atI (t.map sD) ((m:Int)-1)=some (sD x):=by
  rw[show(m:Int)-1=((m-1:Nat):Int) by lia];exact j6 sD S
 have U:=zhg (ss:=s.1) (a:=a) (t.set (m-1) (x.1,x.2.1,l)) R (by lia) (by lia);have G:(t.map sD).length=t.length:=ah ..;have V:=zrd (t.map sD) (m-1) (by lia);rw[show((m-1:Nat):Int)=(m:Int)-1 by lia] at V;have n:=zku (t.map sD) m (by lia);have b:=zuq (t.map sD) (m-1) (sD (x.1,x.2.1,l)) (by lia);rw[show m-1+1=m by lia] at b;have o:Few (((t.map sD).take (m-1)).length+(0+1)):=few (by simp only[dm];lia);have q:Few (((t.map sD).take (m-1)++[sD (x.1,x.2.1,l)]).length+((t.map sD).drop m).length):=few (by simp[dm,em];lia);have r:(t.set (m-1) (x.1,x.2.1,l)).map sD=(t.map sD).set (m-1) (sD (x.1,x.2.1,l)):=gl ..;rw[r,<-b] at U;have u:p8 [(kH,hP k (p++[s]))] [.tup [.str "tell",.int (a:Int),.int (m:Int),.int l],ssL (s.1.set (a-1) (t.set (m-1) (x.1,x.2.1,l))),spL s.2]=some (.non,[hA (k++[.tell a m l]) (p++[s]++[(s.1.set (a-1) (t.set (m-1) (x.1,x.2.1,l)),s.2)])]):=zni (k:=k) (p:=p++[s]) (d:=.tell a m l) (ss:=s.1.set (a-1) (t.set (m-1) (x.1,x.2.1,l))) (sp:=s.2) (by lia) (by simp;lia);have v:=qp (k:=k) (p:=p) (s:=s);have w:=yu (k:=k) (p:=p) (s:=s);have y:=zo4 x l;have kd:=zp6 x;have z:jl 8 [hA k (p++[s])] [.int (a:Int),.int (m:Int),.int l]=[some (.ag kH (some 0) (hP k (p++[s]))),some (.sh (.int (a:Int))),some (.sh (.int (m:Int))),some (.sh (.int l)),none,none,none,none]:=rfl;have I:∃e',qy (jl 8 [hA k (p++[s])] [.int (a:Int),.int (m:Int),.int l])=some (.rt (.int x.2.2),some (.ag kH (some 0) (hP (k++[.tell a m l]) (p++[s]++[(s.1.set (a-1) (t.set (m-1) (x.1,x.2.1,l)),s.2)])))::e'):=by
  rw[z];unfold ssL at *;generalize (s.1.map λs=>D.lst (s.map sD))=SL at *;generalize (t.map sD).take (m-1)=TA at *;generalize (t.map sD).drop m=TB at *;generalize t.map sD=T at *;generalize sD (x.1,x.2.1,l)=Y at *;generalize sD x=Z at *;refine⟨[some (.sh (.int (a:Int))),some (.sh (.int (m:Int))),some (.sh (.int l)),some (.sh (.lst SL)),some (.sh (.lst T)),some (.sh Z),some (.sh (.lst (TA++[Y]++TB)))],?_⟩;simp only[qy,sSeq,sSet,sXp,iu,fK0,cQ0,fNil,ac,l3,v,ai,av,aq,lw,l7,au,fVar,af,ae,k1,k2,k3,g,kx,xFrz,fFrz,ua,k5,noL,if_true,dw,fIxV,ixSl,fBin,fC,dSub,i,j,fLst,fCat,fSl,fO0,fO1,V,n,fo,y,o,q,fTup,ak,bu,show 0+1<=64 by decide,show 0+1+1+1+1<=64 by decide,U,w,cL0,zw5,u,cf,di,zw6,sRet,kd]
 obtain⟨e',I⟩:=I;exact⟨by unfold xz xL;rw[if_pos ⟨rfl,rfl⟩,I],by unfold zh runL;rw[if_pos ⟨rfl,rfl⟩,I];rfl⟩
abbrev dsO(ss:mv):List k9:=ss.map λs=>s.map sD
def zya(h:e[j]?=some (some (.sh d))):(frz false e)[j]?=some (some (.sh d)):=by
 unfold frz;rw[b7,h];rfl
def zyb(h:e[j]?=some (some (.o2 (dsO ss)))):(frz false e)[j]?=some (some (.sh (ssL ss))):=by
 unfold frz;rw[b7,h];show some (some (Sl.sh (.lst ((dsO ss).map D.lst))))=_;unfold dsO ssL;rw[i5];rfl
def zyc(r:mu):noLs (r.map sD)=true:=by
 induction r with
 | nil=>rfl
 | cons x r ih=>rw[cf];unfold noLs;rw[ih];rfl
variable{c w:Str}
def zux(h:wm c=some w):((List.range 13).filter λk=>c==kn.getD k "").map (λk=>D.str (oy.getD k ""))=[D.str w]:=by
 have I:c∈kn:=zl7 (by unfold kdT;rw[h];rfl);simp[kn] at I;rcases I with rfl | rfl | rfl | rfl | rfl | rfl | rfl | rfl | rfl | rfl | rfl | rfl | rfl <;> cases h <;> rfl
theorem zxa(c:Str)(d:D)(h:kdT c=some d):runK 4 zz6 c d:=by
 obtain⟨w,J,rfl⟩:=gi.mp h;intro ea;have R:iR1 [.int 13]=some (rngD 0 13):=n4 13 (by decide);have S:∀n,n<=100->Few n=True:=λn Z=>eq_true (few (by lia));have cmp:=zko (tt:=fAnd (fTst (fIxV 2 (fVar 0))) (fTst (fIsx ea 3 true))) (te:=fIxV 1 (fVar 0)) (base:=[some (.sh (.lst (oy.map D.str))),some (.sh (.lst (kn.map λn=>D.bl (c==n)))),some (.sh (.exc ea))]) (λj:Nat=>D.int (0+(j:Int))) (λk=>D.str (oy.getD k "")) (λk=>c==kn.getD k "") (List.range 13) (λk I=>by
  have I:=ju.mp I;have U:atI (kn.map λn=>D.bl (c==n)) (0+(k:Int))=some (.bl (c==kn.getD k "")):=by
   rw[ku,j6 (λn:Str=>D.bl (c==n)) (ay (show k<kn.length from I)),dg,ay (show k<kn.length from I)];rfl
  have V:atI (oy.map D.str) (0+(k:Int))=some (.str (oy.getD k "")):=by
   rw[ku,j6 D.str (ay (show k<oy.length from I)),dg,ay (show k<oy.length from I)];rfl
  generalize (kn.map λn=>D.bl (c==n))=KL at *;generalize oy.map D.str=WL at *;refine⟨[some (.sh (.int (0+(k:Int)))),some (.sh (.lst WL)),some (.sh (.lst KL)),some (.sh (.exc ea))],?_,λ_=>⟨_,by simp only[fIxV,fVar,ixSl,ae,af,ac,ai,V];rfl⟩⟩;generalize (c==kn.getD k "")=bb at *;cases bb <;> simp only[fAnd,fTst,fIxV,fVar,ixSl,fIsx,U,ae,af,ac,ai,bj,if_false,if_true])
 rw[zux J] at cmp;have cmp:mi (fAnd (fTst (fIxV 2 (fVar 0))) (fTst (fIsx ea 3 true))) (fIxV 1 (fVar 0)) [some (.sh (.lst (oy.map D.str))),some (.sh (.lst (kn.map λn=>D.bl (c==n)))),some (.sh (.exc ea))] (rngD 0 13)=some [D.str w]:=cmp;have Y:(rngD 0 13).length=13:=rfl;refine⟨[some (.sh (.exc ea)),some (.sh (.lst (kn.map λn=>D.bl (c==n)))),some (.sh (.lst (oy.map D.str))),some (.sh (.lst [.str w]))],?_⟩;show zz6 ea c [some (.sh (.exc ea)),none,none,none]=_;simp[kn,oy] at cmp ⊢;simp[zz6,fIsx,S,gv,R,Y,capt,cmp,bTup]
def zg:FS:=sSeq (sIf (fTst (fBin dEq (pLen (.at (.ins false "House" il)) 0 0) (fC (.int 0)))) (kl "NothingDone" (some)) (sNil)) (sSeq (iu (pPop (.at (.ins false "House" il)) 0 1)) (sRet (pPop (.at (.ins false "House" il)) 0 0)))
def zf:lx->k9->l0:=runL 1 1 0 zg
def xq:lx->k9->Option (Str×lx):=xL 1 1 0 zg
def pd:FS:=sSeq (sIf (fTst (fBin dEq (fIxV 1 (fC (.int 0))) (fC (.str "put")))) (sXp (xK (.ins false "House" il) 0 (l4 xn [0] (au (fIxV 1 (fC (.int 1))) (au (fIxV 1 (fC (.int 2))) (au (fIxV 1 (fC (.int 3))) (fNil)))))) (sRet (fK (.ins false "House" il) 0 (j9 za [0] (au (fIxV 1 (fC (.int 1))) (au (fIxV 1 (fC (.int 2))) (au (fIxV 1 (fC (.int 3))) (fNil)))))))) (sNil)) (sSeq (sIf (fTst (fBin dEq (fIxV 1 (fC (.int 0))) (fC (.str "tell")))) (sXp (xK (.ins false "House" il) 0 (l4 xz [0] (au (fIxV 1 (fC (.int 1))) (au (fIxV 1 (fC (.int 2))) (au (fIxV 1 (fC (.int 3))) (fNil)))))) (sRet (fK (.ins false "House" il) 0 (j9 zh [0] (au (fIxV 1 (fC (.int 1))) (au (fIxV 1 (fC (.int 2))) (au (fIxV 1 (fC (.int 3))) (fNil)))))))) (sNil)) (sSeq (sIf (fTst (fBin dEq (fIxV 1 (fC (.int 0))) (fC (.str "go")))) (sXp (xK (.ins false "House" il) 0 (l4 xj [0] (au (fIxV 1 (fC (.int 1))) (fNil)))) (sRet (fK (.ins false "House" il) 0 (j9 yz [0] (au (fIxV 1 (fC (.int 1))) (fNil)))))) (sNil)) (sSeq (sIf (fTst (fBin dEq (fIxV 1 (fC (.int 0))) (fC (.str "dry")))) (sXp (xK (.ins false "House" il) 0 (l4 xr [0] (fNil))) (sRet (fK (.ins false "House" il) 0 (j9 y9 [0] (fNil))))) (sNil)) (sXp (xK (.ins false "House" il) 0 (l4 xq [0] (fNil))) (sRet (fK (.ins false "House" il) 0 (j9 zf [0] (fNil))))))))
def zho:lx->k9->l0:=runL 2 1 1 pd
def xi:lx->k9->Option (Str×lx):=xL 2 1 1 pd
def zgm:FS:=sSeq (sSet 2 (fTup (au (fC (.str "refused")) (au (fC (.str "")) (fNil))))) (sSeq (sTry (sXp (l4 xi [0] (au (fVar 1) (fNil))) (sRet (j9 zho [0] (au (fVar 1) (fNil))))) 3 2 kdT) (sRet (fVar 2)))
def qv:lx->k9->l0:=runL 4 1 1 zgm
def zo5:lx->k9->Option (Str×lx):=xL 4 1 1 zgm
def xh:FS:=sSeq (uz 1 [3,4,5,6]) (sSeq (sSet 7 (dw zm (au (fVar 3) (au (pLen (.al 4) 1 1) (au (fVar 2) (fNil)))))) (sSeq (sSet 8 (j9 qv [0] (au (fVar 2) (fNil)))) (sSeq (sIf (fTst (fBin dNe (fVar 7) (fC (.str "")))) (sRet (dw rd (au (fVar 8) (au (fTup (au (fC (.str "refused")) (au (fVar 7) (fNil)))) (fNil))))) (sNil)) (sSeq (sIf (fTst (fBin dEq (fIxV 2 (fC (.int 0))) (fC (.str "back")))) (sSeq (sSet 9 (pPop (.al 5) 1 2)) (sSeq (qe 1 0 (fIxV 9 (fC (.int 0)))) (sSeq (qe 1 3 (fIxV 9 (fC (.int 1)))) (sRet (dw rd (au (fVar 8) (au (pPop (.al 4) 1 1) (fNil)))))))) (sNil)) (sSeq (sSet 10 (dw q9 (au (fVar 3) (au (fVar 2) (au (fFrz false (fBin gz (fC (.int 1)) (dw bLen (au (fLst (gv (fiS (fVar 4)) [] (fTst (fBin dEq (fIxV 0 (fC (.int 0))) (fC (.str "put")))) (fVar 0))) (fNil))))) (fNil)))))) (sSeq (iu (qm (.al 5) 1 2 (fTup (au (fVar 3) (au (fVar 6) (fNil)))))) (sSeq (iu (qm (.al 4) 1 1 (fVar 2))) (sSeq (qe 1 0 (fIxV 10 (fC (.int 0)))) (sSeq (sIf (fTst (fBin dEq (fIxV 2 (fC (.int 0))) (fC (.str "dry")))) (sSeq (sSet 11 (dw bLen (au (dw zh8 (au (fVar 6) (fNil))) (fNil)))) (qe 1 3 (fLst (fCat (fVar 6) (fLst (fo (au (fTup (au (fVar 11) (au (fBin gz (fVar 11) (fBin dIx (fIxV 10 (fC (.int 1))) (fC (.int 1)))) (au (dw zhj (au (fVar 3) (fNil))) (fNil))))) (fNil)))))))) (sNil)) (sRet (dw x4 (au (fVar 8) (au (fIxV 10 (fC (.int 1))) (fNil))))))))))))))
def sw:lx->k9->l0:=runL 12 2 1 xh
def zsf:lx->k9->Option (Str×lx):=xL 12 2 1 xh
variable{ags:lx}
def wd{p:Nat}{t:lx}(h1:ags.length=p)(h2:ds.length=ar)(D:g (jl n ags ds)=some (.xc c,e))(I:outA e 0 (List.range p)=some t):xL n p ar g ags ds=some (c,t):=by
 unfold xL;rw[if_pos ⟨h1,h2⟩,D];dsimp only;rw[I];rfl
variable{a:Int}
theorem z5m{l:Int}(D:putX s.1 k.length a h l=some c)(b:s.1.length<=5):xn [hA k (p++[s])] [.int a,.int h,.int l]=some (c,[hA k (p++[s])]):=by
 have I:=qp (k:=k) (p:=p) (s:=s);have S:jl 7 [hA k (p++[s])] [.int a,.int h,.int l]=[some (.ag kH (some 0) (hP k (p++[s]))),some (.sh (.int a)),some (.sh (.int h)),some (.sh (.int l)),none,none,none]:=rfl;have k5:=uj (k.map dD);rw[ah] at k5;refine wd (e:=[some (.ag kH (some 0) (hP k (p++[s]))),some (.sh (.int a)),some (.sh (.int h)),some (.sh (.int l)),some (.sh (ssL s.1)),none,none]) rfl rfl ?_ rfl;rw[S];unfold putX at D;have J:=zuu s.1 (by lia);split at D
 ·cases D
  rename_i U;have k1:=zqc (ss:=s.1) (a:=a) U;simp[tq,fK0,cQ0,l3,I,lw,k1]
 have k1:=wz (ss:=s.1) (a:=a) (by lia) (by lia);split at D
 ·cases D
  rename_i V;have k2:=z0k (h:=h) V;simp[tq,fK0,cQ0,l3,I,lw,l7,k1,k2]
 have k2:=zrh (h:=h) (by lia) (by lia);split at D
 ·cases D
  rename_i Y;have k3:=zx9 (h:=l) Y;simp[tq,fK0,cQ0,l3,I,lw,l7,k1,k2,k3]
 have k3:=znh (h:=l) (by lia) (by lia);split at D
 ·rename_i R
  rw[if_pos R] at J;split at D
  ·cases D
  ·cases D
   rename_i Z;rw[if_neg Z] at k5;simp[tq,fK0,cQ0,l3,I,lw,l7,k1,k2,k3,J,xFrz,ua,k5]
 ·cases D
  rename_i R;rw[if_neg R] at J;simp[tq,fK0,cQ0,l3,I,lw,l7,k1,k2,k3,J]
def t6(ss:mv)(n:Nat)(a m l:Int):kb:=if a<1\/(ss.length:Int)<a then some "UnknownStack" else if (ss.getD (a.toNat-1) []).length=0 then some "EmptyStack" else if m<1\/((ss.getD (a.toNat-1) []).length:Int)<m then some "UnknownPlace" else if l<0\/100<l then some "BadLoss" else if n<60 then none else some "DeedsFull"
def goX(ss:mv)(n:Nat)(a:Int):kb:=if a<1\/(ss.length:Int)<a then some "UnknownStack" else if (ss.getD (a.toNat-1) []).length=0 then some "EmptyStack" else if n<60 then none else some "DeedsFull"
def dryX(ss:mv)(n:Nat):kb:=if 0<ss.flatten.length then(if n<60 then none else some "DeedsFull") else some "NothingWaits"
theorem uf(h:¬(a<1\/(ss.length:Int)<a)):ss[a.toNat-1]?=some (ss.getD (a.toNat-1) []):=by
 rw[dg,ay (by lia)];rfl
theorem go_x(D:goX s.1 k.length a=some c)(U:s.1.length<=5):xj [hA k (p++[s])] [.int a]=some (c,[hA k (p++[s])]):=by
 have I:=qp (k:=k) (p:=p) (s:=s);have k5:=uj (k.map dD);rw[ah] at k5;refine wd (e:=[some (.ag kH (some 0) (hP k (p++[s]))),some (.sh (.int a)),some (.sh (ssL s.1))]) rfl rfl ?_ rfl;rw[show jl 3 [hA k (p++[s])] [.int a]=[some (.ag kH (some 0) (hP k (p++[s]))),some (.sh (.int a)),none] from rfl];unfold goX at D;split at D
 ·cases D
  rename_i J;have k1:=zqc (ss:=s.1) (a:=a) J;simp[vn,fK0,cQ0,l3,I,lw,l7,k1]
 rename_i J;have k1:=wz (ss:=s.1) (a:=a) (by lia) (by lia);have k2:=znj (uf J) (by lia) (by lia);rw[show((a.toNat:Nat):Int)=a by lia] at k2;split at D
 ·cases D
  rename_i R;rw[if_pos R] at k2;simp[vn,fK0,cQ0,l3,I,lw,l7,k1,k2]
 rename_i R;rw[if_neg R] at k2;split at D
 ·cases D
 ·cases D
  rename_i S;rw[if_neg S] at k5;simp[vn,fK0,cQ0,l3,I,lw,l7,k1,k2,xFrz,ua,k5]
theorem z31{m l:Int}(I:t6 s.1 k.length a m l=some c)(g:s.1.length<=5):xz [hA k (p++[s])] [.int a,.int m,.int l]=some (c,[hA k (p++[s])]):=by
 have J:=qp (k:=k) (p:=p) (s:=s);have k5:=uj (k.map dD);rw[ah] at k5;have b:jl 8 [hA k (p++[s])] [.int a,.int m,.int l]=[some (.ag kH (some 0) (hP k (p++[s]))),some (.sh (.int a)),some (.sh (.int m)),some (.sh (.int l)),none,none,none,none]:=rfl;suffices U:∃d,qy (jl 8 [hA k (p++[s])] [.int a,.int m,.int l])=some (.xc c,[some (.ag kH (some 0) (hP k (p++[s]))),some (.sh (.int a)),some (.sh (.int m)),some (.sh (.int l)),some (.sh (ssL s.1)),d,none,none]) from let ⟨_,U⟩:=U;wd rfl rfl U rfl;rw[b];unfold t6 at I;split at I
 ·cases I
  rename_i R;have k1:=zqc (ss:=s.1) (a:=a) R;exact⟨_,by simp[qy,fK0,cQ0,l3,J,lw,l7,k1];rfl⟩
 rename_i R;have k1:=wz (ss:=s.1) (a:=a) (by lia) (by lia);have k2:=znj (uf R) (by lia) (by lia);have S:=qd (uf R) (by lia);rw[show((a.toNat:Nat):Int)=a by lia] at k2 S;split at I
 ·cases I
  rename_i V;rw[if_pos V] at k2;generalize ssL s.1=SL at *;exact⟨_,by simp[qy,fK0,cQ0,l3,J,lw,l7,k1,k2];rfl⟩
 rename_i V;rw[if_neg V] at k2;have k3:=zrl (t:=s.1.getD (a.toNat-1) []) (m:=m);unfold ssL at *;split at I
 ·cases I
  rename_i Y;rw[if_pos Y] at k3;generalize (s.1.getD (a.toNat-1) []).map sD=TL at *;exact⟨_,by simp[qy,fK0,cQ0,l3,J,lw,l7,k1,k2,S,k3];rfl⟩
 rename_i Y;rw[if_neg Y] at k3;generalize (s.1.getD (a.toNat-1) []).map sD=TL at *;generalize (s.1.map λs=>D.lst (s.map sD))=SL at *;split at I
 ·cases I
  rename_i e;have Z:=zx9 (h:=l) e;exact⟨_,by simp[qy,fK0,cQ0,l3,J,lw,l7,k1,k2,S,k3,Z];rfl⟩
 have Z:=znh (h:=l) (by lia) (by lia);split at I
 ·cases I
 ·cases I
  rename_i f;rw[if_neg f] at k5;exact⟨_,by simp[qy,fK0,cQ0,l3,J,lw,l7,k1,k2,S,k3,Z,xFrz,ua,k5];rfl⟩
theorem z5n(D:dryX s.1 k.length=some c)(S:s.1.length<=5):xr [hA k (p++[s])] []=some (c,[hA k (p++[s])]):=by
 have J:=qp (k:=k) (p:=p) (s:=s);have k5:=uj (k.map dD);rw[ah] at k5;have k1:=zrk s.1 (by lia);refine wd (e:=[some (.ag kH (some 0) (hP k (p++[s]))),some (.sh (ssL s.1)),none,none,none,none]) rfl rfl ?_ rfl;rw[show jl 6 [hA k (p++[s])] []=[some (.ag kH (some 0) (hP k (p++[s]))),none,none,none,none,none] from rfl];unfold dryX at D;split at D
 ·rename_i I
  rw[if_pos I] at k1;split at D
  ·cases D
  ·cases D
   rename_i R;rw[if_neg R] at k5;simp[xm,fK0,cQ0,l3,J,lw,l7,k1,xFrz,ua,k5]
 ·cases D
  rename_i I;rw[if_neg I] at k1;simp[xm,fK0,cQ0,l3,J,lw,l7,k1]
def znk(D:ps[j]?=some (.o ds)):ko (.at kH) 0 j (some (.ag kH (some 0) ps)::e)=some ds:=zre rfl D
variable{s':Hs}
theorem z0q{d:Deed}:xq [hA (k++[d]) (p++[s]++[s'])] []=none/\zf [hA (k++[d]) (p++[s]++[s'])] []=some (dD d,[hA k (p++[s])]):=by
 have R:jl 1 [hA (k++[d]) (p++[s]++[s'])] []=[some (.ag kH (some 0) (hP (k++[d]) (p++[s]++[s'])))]:=rfl;have h1:ko (.at kH) 0 0 [some (.ag kH (some 0) (hP (k++[d]) (p++[s]++[s'])))]=some (k.map dD++[dD d]):=by rw[znk (j:=0) rfl];simp
 have h2:ko (.at kH) 0 1 [some (.ag kH (some 0) (hP (k++[d]) (p++[s]++[s'])))]=some ((p++[s]).map stD++[stD s']):=by rw[znk (j:=1) rfl];simp
 have I:zg (jl 1 [hA (k++[d]) (p++[s]++[s'])] [])=some (.rt (dD d),[some (.ag kH (some 0) (hP k (p++[s])))]):=by
  rw[R];have S:∀(l:k9) (x:D),(l++[x])[(l++[x]).length-1]?=some x:=λl x=>by simp
  have U:∀(l:k9) (x:D),(l++[x]).dropLast=l:=λl x=>by simp
  have V:¬(((k.map dD++[dD d]).length:Nat):Int)=0:=by simp;lia
  have J:ko (.at kH) 0 0 [some (.ag kH (some 0) [.o (k.map dD++[dD d]),.o ((p++[s]).map stD)])]=some (k.map dD++[dD d]):=znk (j:=0) rfl;unfold hP at *;rw[show((k++[d]).map dD)=k.map dD++[dD d] by simp,show((p++[s]++[s']).map stD)=(p++[s]).map stD++[stD s'] by simp] at *;generalize (p++[s]).map stD=PL at *;simp only[zg,sSeq,sIf,fTst,fBin,pLen,h1,ai,ac,fC,dEq,V,decide_false,bj,if_false,sNil,iu,pPop,ae,h2,S,U,setP,av,aq,J,sRet]
 exact⟨by unfold xq xL;rw[if_pos ⟨rfl,rfl⟩,I],by unfold zf runL;rw[if_pos ⟨rfl,rfl⟩,I];rfl⟩
def z32:xq [hA [] p] []=some (("NothingDone" : Str),[hA [] p]):=by
 have h1:ko (.at kH) 0 0 [some (.ag kH (some 0) (hP [] p))]=some []:=znk (j:=0) rfl;refine wd (e:=[some (.ag kH (some 0) (hP [] p))]) rfl rfl ?_ rfl;rw[show jl 1 [hA [] p] []=[some (.ag kH (some 0) (hP [] p))] from rfl];simp[zg,pLen,h1,show(((0:Nat):Int)=0) from rfl,kl]
inductive Cmd where
 | d (x:Deed) | back
def cD:Cmd->D
 | .d x=>dD x
 | .back=>.tup [.str "back"]
def cmdX(ss:mv)(n:Nat):Cmd->kb
 | .d (.put a h l)=>putX ss n a h l
 | .d (.tell a m l)=>t6 ss n a m l
 | .d (.go a)=>goX ss n a
 | .d .dry=>dryX ss n
 | .back=>if n=0 then some "NothingDone" else none
def dueW(o:kb):Str:=match o with | none=>"" | some c=>(wm c).getD ""
theorem zxb(R:ss.length<=1000)(e:DE0):dw bSum (au (fLst (gv (fiS (fVar 0)) [] fYes (h9 0))) fNil) (some (.sh (ssL ss))::e)=some (.int (ss.flatten.length:Int),some (.sh (ssL ss))::e):=by
 have c:=md (te:=h9 0) (base:=[]) (λs:mu=>D.lst (s.map sD)) (λs:mu=>D.int (s.length:Int)) ss λs _=>⟨_,by simp;rfl⟩;have I:=pv (λs:mu=>(s.length:Int)) ss;have J:Few (ss.map λs=>D.lst (s.map sD)).length:=few (by rw[ah];lia);rw[zp7] at I;unfold ssL;generalize (ss.map λs=>D.lst (s.map sD))=L at *;simp only[dw,au,fLst,gv,fiS,fVar,fNil,ae,ac,ai,J,if_true,di,c,I]
def Rt(r:Option (Fl×DE0))(x:Str):Prop:=∃e',r=some (.rt (.str x),e')
section
variable {c p q:FT} {f g:FE} {u v w:FS} {e:DE0} {i:Nat} {d:D} {x y:Str} {A B:Prop} [Decidable A] [Decidable B] {a b:Int}
def setT(h:f e=some (d,e))(k:Rt (u (e.set i (some (.sh d)))) x):Rt (sSeq (sSet i f) u e) x:=by
 rw[show sSeq (sSet i f) u e=u (e.set i (some (.sh d))) by simp[h]];exact k
def ifN(h:c e=some (false,e))(k:Rt (sSeq v w e) x):Rt (sSeq (sIf c u v) w e) x:=by
 rw[show sSeq (sIf c u v) w e=sSeq v w e by simp[h]];exact k
def ifP(h:c e=some (true,e))(k:Rt (sSeq u w e) x):Rt (sSeq (sIf c u v) w e) x:=by
 rw[show sSeq (sIf c u v) w e=sSeq u w e by simp[h]];exact k
def ifT(h:c e=some (decide A,e))(k:A->y=x)(k':¬A->Rt (sSeq v w e) x):Rt (sSeq (sIf c (sRet (fC (.str y))) v) w e) x:=by
 by_cases z:A
 ·exact⟨e,by simp[h,z,k z]⟩
 ·exact ifN (by rw[h,decide_eq_false z]) (k' z)
def ifN0(h:c e=some (false,e))(k:Rt (w e) x):Rt (sSeq (sIf c u sNil) w e) x:=ifN h k
def ifT0(h:c e=some (decide A,e))(k:A->y=x)(k':¬A->Rt (w e) x):Rt (sSeq (sIf c (sRet (fC (.str y))) sNil) w e) x:=ifT h k k'
def orq(h:p e=some (decide A,e))(h':¬A->q e=some (decide B,e)):fOr p q e=some (decide (A\/B),e):=by
 by_cases z:A
 ·simp[h,z]
 ·simp[h,h' z,z]
def andF(h:p e=some (false,e)):fAnd p q e=some (false,e):=by simp[h]
def andT(h:p e=some (true,e)):fAnd p q e=q e:=by simp[h]
def ltq(h:f e=some (.int a,e))(h':g e=some (.int b,e)):fTst (fBin dLt f g) e=some (decide (a<b),e):=by simp[h,h']
def gtq(h:f e=some (.int a,e))(h':g e=some (.int b,e)):fTst (fBin dGt f g) e=some (decide (b<a),e):=by simp[h,h']
def geq(h:f e=some (.int a,e))(h':g e=some (.int b,e)):fTst (fBin dGe f g) e=some (decide (b<=a),e):=by simp[h,h']
def eqq(h:f e=some (.int a,e))(h':g e=some (.int b,e)):fTst (fBin dEq f g) e=some (decide (a=b),e):=by simp[h,h']
end
def sne:(("put" : Str) = "back")=False/\(("put" : Str) = "dry")=False/\(("put" : Str) = "tell")=False/\(("tell" : Str) = "back")=False/\(("tell" : Str) = "dry")=False/\(("tell" : Str) = "put")=False/\(("go" : Str) = "back")=False/\(("go" : Str) = "dry")=False/\(("go" : Str) = "put")=False/\(("go" : Str) = "tell")=False/\(("dry" : Str) = "back")=False/\(("dry" : Str) = "put")=False/\(("dry" : Str) = "tell")=False:=by
 refine⟨?_,?_,?_,?_,?_,?_,?_,?_,?_,?_,?_,?_,?_⟩ <;> exact eq_false (by decide)
variable{x:Str}
def at_4{x y z w:D}:atI [x,y,z,w] 0=some x/\atI [x,y,z,w] 1=some y/\atI [x,y,z,w] 2=some z/\atI [x,y,z,w] 3=some w:=⟨rfl,rfl,rfl,rfl⟩
theorem zik(ss:mv)(n:Nat)(c:Cmd)(i:ss.length<=5):zm [ssL ss,.int (n:Int),cD c]=some (.str (dueW (cmdX ss n c))):=by
 have U:=λe=>zxb (ss:=ss) (by lia) e;suffices J:Rt (zix [some (.sh (ssL ss)),some (.sh (.int (n:Int))),some (.sh (cD c)),none]) (dueW (cmdX ss n c)) from let ⟨_,J⟩:=J;je rfl J;have I:∀(d w:D),Rt (sSeq (sIf (fTst (fBin dGe (fVar 1) (fC (.int 60)))) (sRet (fC (.str "deeds full"))) (sNil)) (sRet (fC (.str ""))) [some (.sh (ssL ss)),some (.sh (.int (n:Int))),some (.sh d),some (.sh w)]) (dueW (if n<60 then none else some "DeedsFull")):=λd w =>
  ifT0 (geq rfl rfl) (λh=>by rw[if_neg (by lia)];rfl) λh=>by rw[if_pos (by lia)];exact⟨_,rfl⟩
 have R:∀r:DE0,h9 0 (some (.sh (ssL ss))::r)=some (.int (ss.length:Int),some (.sh (ssL ss))::r):=λr=>by unfold ssL;simp
 have len1:∀(d:D) (w:D) (a:Int),fIxV 2 (fC (.int 1)) [some (.sh (ssL ss)),some (.sh (.int (n:Int))),some (.sh d),some (.sh w)]=some (.int a,[some (.sh (ssL ss)),some (.sh (.int (n:Int))),some (.sh d),some (.sh w)])->¬(a<1\/(ss.length:Int)<a)->dw bLen (au (fIxV 0 (fBin dSub (fIxV 2 (fC (.int 1))) (fC (.int 1)))) fNil) [some (.sh (ssL ss)),some (.sh (.int (n:Int))),some (.sh d),some (.sh w)]=some (.int ((ss.getD (a.toNat-1) []).length:Int),[some (.sh (ssL ss)),some (.sh (.int (n:Int))),some (.sh d),some (.sh w)]):=λd w a h V=>by
  have g:=qd (uf V) (by lia);rw[show((a.toNat:Nat):Int)=a by lia] at g;have S:∀F:FE,F [some (.sh (ssL ss)),some (.sh (.int (n:Int))),some (.sh d),some (.sh w)]=some (.int (a-1),[some (.sh (ssL ss)),some (.sh (.int (n:Int))),some (.sh d),some (.sh w)])->dw bLen (au (fIxV 0 F) fNil) [some (.sh (ssL ss)),some (.sh (.int (n:Int))),some (.sh d),some (.sh w)]=some (.int ((ss.getD (a.toNat-1) []).length:Int),[some (.sh (ssL ss)),some (.sh (.int (n:Int))),some (.sh d),some (.sh w)]):=λF Y=>by
   unfold ssL at *;simp only[dw,au,fIxV,Y,fNil,ixSl,ae,g,bLen,ac,ai,ah]
  refine S _ ?_;simp only[fBin,h,fC,dSub,ac,ai]
 cases c with
 | back =>
   refine setT (d:=.str "back") rfl ?_;by_cases z:n=0
   ·subst z;exact⟨_,rfl⟩
   ·have Z:((n:Int)=0)=False:=eq_false (by lia)
    refine⟨[some (.sh (ssL ss)),some (.sh (.int (n:Int))),some (.sh (cD .back)),some (.sh (.str "back"))],?_⟩;rw[show dueW (cmdX ss n .back) = "" by unfold cmdX;rw[if_neg z];rfl];generalize ssL ss=SL at *;have b:dIx (.lst [.str "",.str "nothing done"]) (.int 0)=some (.str ""):=rfl;simp only[sSeq,sIf,fTst,fBin,fVar,fC,dEq,av,aq,af,ae,ac,ai,decide_true,if_true,sRet,fLst,fo,au,fNil,dw,ak,bu,show 0+1+1<=64 by decide,Z,decide_false,bInt,b];rfl
 | d x =>
   cases x with
   | dry =>
     refine setT (d:=.str "dry") rfl (ifN0 (by rfl) (ifP (by rfl) ?_));show Rt _ (dueW (dryX ss n));unfold dryX;refine ifT0 (by exact eqq (U _) rfl) (λz=>by rw[if_neg (by lia)];rfl) λz=>?_;rw[if_pos (by lia)];refine ifN0 (by exact andF rfl) (ifN0 (by exact andF rfl) (ifN0 (by exact andF rfl) (ifN0 (by exact andF rfl) ?_)));exact I _ _
   | put a h l =>
     refine setT (d:=.str "put") rfl (ifN0 (by rfl) (ifN (by rfl) ?_));show Rt _ (dueW (putX ss n a h l));unfold putX;refine ifT (by exact orq (ltq (a:=a) rfl rfl) λ_=>gtq (a:=a) rfl (R _)) (λz=>by rw[if_pos z];rfl) λz=>?_;rw[if_neg z];refine ifN0 (by exact andF rfl) (ifN0 (by exact andF rfl) ?_);refine ifT0 (by exact(andT rfl).trans (orq (ltq (a:=h) rfl rfl) λ_=>gtq (a:=h) rfl rfl)) (λz=>by rw[if_pos z];rfl) λz=>?_;rw[if_neg z];refine ifT0 (by exact(andT rfl).trans (orq (ltq (a:=l) rfl rfl) λ_=>gtq (a:=l) rfl rfl)) (λz=>by rw[if_pos z];rfl) λz=>?_;rw[if_neg z];refine ifT0 (by exact(andT rfl).trans (geq (U _) rfl)) (λz=>by rw[if_neg (by lia)];rfl) λz=>?_;rw[if_pos (by lia)];exact I _ _
   | tell a m l =>
     refine setT (d:=.str "tell") rfl (ifN0 (by rfl) (ifN (by rfl) ?_));show Rt _ (dueW (t6 ss n a m l));unfold t6;refine ifT (by exact orq (ltq (a:=a) rfl rfl) λ_=>gtq (a:=a) rfl (R _)) (λz=>by rw[if_pos z];rfl) λz=>?_;rw[if_neg z];refine ifT0 (by exact(andT rfl).trans (eqq (len1 _ _ a rfl z) rfl)) (λz=>by rw[if_pos (by lia)];rfl) λf=>?_;rw[if_neg (by lia)];refine ifT0 (by exact(andT rfl).trans (orq (ltq (a:=m) rfl rfl) λ_=>gtq (a:=m) rfl (len1 _ _ a rfl z))) (λz=>by rw[if_pos z];rfl) λz=>?_;rw[if_neg z];refine ifN0 (by exact andF rfl) ?_;refine ifT0 (by exact(andT rfl).trans (orq (ltq (a:=l) rfl rfl) λ_=>gtq (a:=l) rfl rfl)) (λz=>by rw[if_pos z];rfl) λz=>?_;rw[if_neg z];refine ifN0 (by exact andF rfl) ?_;exact I _ _
   | go a =>
     refine setT (d:=.str "go") rfl (ifN0 (by rfl) (ifN (by rfl) ?_));show Rt _ (dueW (goX ss n a));unfold goX;refine ifT (by exact orq (ltq (a:=a) rfl rfl) λ_=>gtq (a:=a) rfl (R _)) (λz=>by rw[if_pos z];rfl) λz=>?_;rw[if_neg z];refine ifT0 (by exact(andT rfl).trans (eqq (len1 _ _ a rfl z) rfl)) (λz=>by rw[if_pos (by lia)];rfl) λf=>?_;rw[if_neg (by lia)];refine ifN0 (by exact andF rfl) (ifN0 (by exact andF rfl) (ifN0 (by exact andF rfl) (ifN0 (by exact andF rfl) ?_)));exact I _ _
def askX:Cmd->lx->k9->Option (Str×lx)
 | .d (.put _ _ _)=>xn | .d (.tell _ _ _)=>xz | .d (.go _)=>xj | .d .dry=>xr | .back=>xq
def askM:Cmd->lx->k9->l0
 | .d (.put _ _ _)=>za | .d (.tell _ _ _)=>zh | .d (.go _)=>yz | .d .dry=>y9 | .back=>zf
def askD:Cmd->k9
 | .d (.put a h l)=>[.int a,.int h,.int l] | .d (.tell a m l)=>[.int a,.int m,.int l] | .d (.go a)=>[.int a] | _=>[]
def ve{p:Nat}{t:lx}(h1:ags.length=p)(h2:ds.length=ar)(D:g (jl n ags ds)=some (.rt d,e))(I:outA e 0 (List.range p)=some t):runL n p ar g ags ds=some (d,t)/\xL n p ar g ags ds=none:=by
 unfold runL xL;rw[if_pos ⟨h1,h2⟩,if_pos ⟨h1,h2⟩,D];dsimp only;rw[I];exact⟨rfl,rfl⟩
def xask(D:F (some (.ag kH l ps)::e)=some (ds,some (.ag kH l ps)::e))(I:m [(kH,ps)] ds=some (x,[(kH,ps')])):xK kH 0 (l4 m [0] F) (some (.ag kH l ps)::e)=some (x,some (.ag kH l ps')::e):=by
 rw[z3v (i:=0) rfl];exact zri (i:=0) rfl D I
def xasn(D:F (some (.ag kH l ps)::e)=some (ds,some (.ag kH l ps)::e))(I:m [(kH,ps)] ds=none):xK kH 0 (l4 m [0] F) (some (.ag kH l ps)::e)=none:=by
 rw[z3v (i:=0) rfl];exact zrj (i:=0) rfl D I
variable{m:lx->k9->l0}
def mask{x:D}(I:F (some (.ag kH l ps)::e)=some (ds,some (.ag kH l ps)::e))(J:m [(kH,ps)] ds=some (x,[(kH,ps')])):fK kH 0 (j9 m [0] F) (some (.ag kH l ps)::e)=some (x,some (.ag kH l ps')::e):=by
 rw[z0h (i:=0) rfl];exact ww (i:=0) rfl I J
def z5o(c:Cmd)(h:askX c [(kH,ps)] (askD c)=some (x,[(kH,ps')])):xi [(kH,ps)] [cD c]=some (x,[(kH,ps')]):=by
 refine wd (e:=[some (.ag kH (some 0) ps'),some (.sh (cD c))]) rfl rfl ?_ rfl;rw[show jl 2 [(kH,ps)] [cD c]=[some (.ag kH (some 0) ps),some (.sh (cD c))] from rfl];have sn:=sne;cases c with
 | back =>
   have R:atI [D.str "back"] 0=some (.str "back"):=rfl;have J:(("back" : Str) = "put")=False/\(("back" : Str) = "tell")=False/\(("back" : Str) = "go")=False/\(("back" : Str) = "dry")=False:=by refine⟨?_,?_,?_,?_⟩ <;> exact eq_false (by decide)
   have q:=xask (l:=some 0) (F:=fNil) (e:=[some (.sh (cD .back))]) rfl h;simp only[cD,askX] at q ⊢;simp only[pd,sSeq,sIf,fTst,fBin,fIxV,ixSl,fC,dEq,ae,af,ac,ai,decide_false,bj,if_false,sNil,sXp,sRet, *]
 | d y =>
   cases y with
   | put a b z =>
     have I:=at_4 (x:=D.str "put") (y:=.int a) (z:=.int b) (w:=.int z);have q:=xask (l:=some 0) (F:=au (fIxV 1 (fC (.int 1))) (au (fIxV 1 (fC (.int 2))) (au (fIxV 1 (fC (.int 3))) fNil))) (e:=[some (.sh (cD (.d (.put a b z))))]) rfl h;simp only[cD,dD,askX] at q ⊢;simp only[pd,sSeq,sIf,fTst,fBin,fIxV,ixSl,fC,dEq,ae,af,ac,ai,decide_true,if_true,sNil,sXp,sRet, *]
   | tell a b z =>
     have I:=at_4 (x:=D.str "tell") (y:=.int a) (z:=.int b) (w:=.int z);have q:=xask (l:=some 0) (F:=au (fIxV 1 (fC (.int 1))) (au (fIxV 1 (fC (.int 2))) (au (fIxV 1 (fC (.int 3))) fNil))) (e:=[some (.sh (cD (.d (.tell a b z))))]) rfl h;simp only[cD,dD,askX] at q ⊢;simp only[pd,sSeq,sIf,fTst,fBin,fIxV,ixSl,fC,dEq,ae,af,ac,ai,decide_true,decide_false,bj,if_false,if_true,sNil,sXp,sRet, *]
   | go a =>
     have I:atI [D.str "go",.int a] 0=some (.str "go"):=rfl;have q:=xask (l:=some 0) (F:=au (fIxV 1 (fC (.int 1))) fNil) (e:=[some (.sh (cD (.d (.go a))))]) rfl h;simp only[cD,dD,askX] at q ⊢;simp only[pd,sSeq,sIf,fTst,fBin,fIxV,ixSl,fC,dEq,ae,af,ac,ai,decide_true,decide_false,bj,if_false,if_true,sNil,sXp,sRet, *]
   | dry =>
     have I:atI [D.str "dry"] 0=some (.str "dry"):=rfl;have J:(("dry" : Str) = "go")=False:=eq_false (by decide);have q:=xask (l:=some 0) (F:=fNil) (e:=[some (.sh (cD (.d .dry)))]) rfl h;simp only[cD,dD,askX] at q ⊢;simp only[pd,sSeq,sIf,fTst,fBin,fIxV,ixSl,fC,dEq,ae,af,ac,ai,decide_true,decide_false,bj,if_false,if_true,sNil,sXp,sRet, *]
def z5p(c:Cmd)(J:askX c [(kH,ps)] (askD c)=none)(h:askM c [(kH,ps)] (askD c)=some (d,[(kH,ps')])):zho [(kH,ps)] [cD c]=some (d,[(kH,ps')])/\xi [(kH,ps)] [cD c]=none:=by
 refine ve (e:=[some (.ag kH (some 0) ps'),some (.sh (cD c))]) rfl rfl ?_ rfl;rw[show jl 2 [(kH,ps)] [cD c]=[some (.ag kH (some 0) ps),some (.sh (cD c))] from rfl];have sn:=sne;cases c with
 | back =>
   have U:atI [D.str "back"] 0=some (.str "back"):=rfl;have S:(("back" : Str) = "put")=False/\(("back" : Str) = "tell")=False/\(("back" : Str) = "go")=False/\(("back" : Str) = "dry")=False:=by refine⟨?_,?_,?_,?_⟩ <;> exact eq_false (by decide)
   have I:=xasn (l:=some 0) (F:=fNil) (e:=[some (.sh (cD .back))]) rfl J;have q:=mask (l:=some 0) (F:=fNil) (e:=[some (.sh (cD .back))]) rfl h;simp only[cD,askX,askM] at I q ⊢;simp only[pd,sSeq,sIf,fTst,fBin,fIxV,ixSl,fC,dEq,ae,af,ac,ai,decide_false,bj,if_false,sNil,sXp,sRet, *]
 | d y =>
   cases y with
   | put a b z =>
     have R:=at_4 (x:=D.str "put") (y:=.int a) (z:=.int b) (w:=.int z);have I:=xasn (l:=some 0) (F:=au (fIxV 1 (fC (.int 1))) (au (fIxV 1 (fC (.int 2))) (au (fIxV 1 (fC (.int 3))) fNil))) (e:=[some (.sh (cD (.d (.put a b z))))]) rfl J;have q:=mask (l:=some 0) (F:=au (fIxV 1 (fC (.int 1))) (au (fIxV 1 (fC (.int 2))) (au (fIxV 1 (fC (.int 3))) fNil))) (e:=[some (.sh (cD (.d (.put a b z))))]) rfl h;simp only[cD,dD,askX,askM] at I q ⊢;simp only[pd,sSeq,sIf,fTst,fBin,fIxV,ixSl,fC,dEq,ae,af,ac,ai,decide_true,if_true,sNil,sXp,sRet, *]
   | tell a b z =>
     have R:=at_4 (x:=D.str "tell") (y:=.int a) (z:=.int b) (w:=.int z);have I:=xasn (l:=some 0) (F:=au (fIxV 1 (fC (.int 1))) (au (fIxV 1 (fC (.int 2))) (au (fIxV 1 (fC (.int 3))) fNil))) (e:=[some (.sh (cD (.d (.tell a b z))))]) rfl J;have q:=mask (l:=some 0) (F:=au (fIxV 1 (fC (.int 1))) (au (fIxV 1 (fC (.int 2))) (au (fIxV 1 (fC (.int 3))) fNil))) (e:=[some (.sh (cD (.d (.tell a b z))))]) rfl h;simp only[cD,dD,askX,askM] at I q ⊢;simp only[pd,sSeq,sIf,fTst,fBin,fIxV,ixSl,fC,dEq,ae,af,ac,ai,decide_true,decide_false,bj,if_false,if_true,sNil,sXp,sRet, *]
   | go a =>
     have R:atI [D.str "go",.int a] 0=some (.str "go"):=rfl;have I:=xasn (l:=some 0) (F:=au (fIxV 1 (fC (.int 1))) fNil) (e:=[some (.sh (cD (.d (.go a))))]) rfl J;have q:=mask (l:=some 0) (F:=au (fIxV 1 (fC (.int 1))) fNil) (e:=[some (.sh (cD (.d (.go a))))]) rfl h;simp only[cD,dD,askX,askM] at I q ⊢;simp only[pd,sSeq,sIf,fTst,fBin,fIxV,ixSl,fC,dEq,ae,af,ac,ai,decide_true,decide_false,bj,if_false,if_true,sNil,sXp,sRet, *]
   | dry =>
     have R:atI [D.str "dry"] 0=some (.str "dry"):=rfl;have S:(("dry" : Str) = "go")=False:=eq_false (by decide);have I:=xasn (l:=some 0) (F:=fNil) (e:=[some (.sh (cD (.d .dry)))]) rfl J;have q:=mask (l:=some 0) (F:=fNil) (e:=[some (.sh (cD (.d .dry)))]) rfl h;simp only[cD,dD,askX,askM] at I q ⊢;simp only[pd,sSeq,sIf,fTst,fBin,fIxV,ixSl,fC,dEq,ae,af,ac,ai,decide_true,decide_false,bj,if_false,if_true,sNil,sXp,sRet, *]
def z33(c:Cmd)(h:askX c [(kH,ps)] (askD c)=some (x,[(kH,ps)]))(D:wm x=some w):qv [(kH,ps)] [cD c]=some (.tup [.str "refused",.str w],[(kH,ps)]):=by
 have q:=zri (m:=xi) (F:=au (fVar 1) fNil) (e:=[some (.ag kH (some 0) ps),some (.sh (cD c)),some (.sh (.tup [.str "refused",.str ""])),none]) (i:=0) (l:=some 0) (ps:=ps) (ds:=[cD c]) rfl rfl (z5o c h);have k1:kdT x=some (.tup [.str "refused",.str w]):=by unfold kdT;rw[D];rfl
 refine(ve (e:=[some (.ag kH (some 0) ps),some (.sh (cD c)),some (.sh (.tup [.str "refused",.str w])),none]) rfl rfl ?_ rfl).1;rw[show jl 4 [(kH,ps)] [cD c]=[some (.ag kH (some 0) ps),some (.sh (cD c)),none,none] from rfl];simp[zgm] at q ⊢;simp[sTry,q,k1]
def zuy(c:Cmd)(I:askX c [(kH,ps)] (askD c)=none)(h:askM c [(kH,ps)] (askD c)=some (d,[(kH,ps')])):qv [(kH,ps)] [cD c]=some (d,[(kH,ps')]):=by
 obtain⟨J,R⟩:=z5p c I h;have D:=zrj (m:=xi) (F:=au (fVar 1) fNil) (e:=[some (.ag kH (some 0) ps),some (.sh (cD c)),some (.sh (.tup [.str "refused",.str ""])),none]) (i:=0) (l:=some 0) (ps:=ps) (ds:=[cD c]) rfl rfl R;have q:=ww (m:=zho) (F:=au (fVar 1) fNil) (e:=[some (.ag kH (some 0) ps),some (.sh (cD c)),some (.sh (.tup [.str "refused",.str ""])),none]) (i:=0) (l:=some 0) (ps:=ps) (ds:=[cD c]) rfl rfl J;refine(ve (e:=[some (.ag kH (some 0) ps'),some (.sh (cD c)),some (.sh (.tup [.str "refused",.str ""])),none]) rfl rfl ?_ rfl).1;rw[show jl 4 [(kH,ps)] [cD c]=[some (.ag kH (some 0) ps),some (.sh (cD c)),none,none] from rfl];simp[zgm] at D q ⊢;simp[sTry,D,q]
theorem cp_o(ss:mv)(J:ss.length<=1000)(e:DE0):ym (fiS (fVar 0)) [] (i3 pj (au (fVar 0) fNil)) (some (.sh (ssL ss))::e)=some (dsO ss,some (.sh (ssL ss))::e):=by
 have c:=zl3 (te:=i3 pj (au (fVar 0) (fNil))) (base:=[]) (λs:mu=>D.lst (s.map sD)) (λs:mu=>s.map sD) ss λs _=>⟨_,by simp;rfl⟩;have I:Few (ss.map λs=>D.lst (s.map sD)).length:=few (by rw[ah];lia);unfold ssL dsO;generalize (ss.map λs=>D.lst (s.map sD))=L at *;simp[ym,I,c]
def ya(ss:mv):D.lst ((dsO ss).map D.lst)=ssL ss:=by unfold dsO ssL;rw[i5];rfl
variable{x:Sk}
def at_0{x:D}{l:k9}:atI (x::l) 0=some x:=by unfold atI ixN;simp
variable{a:Nat}{num:Int}
theorem zxc{l:Int}(R:1<=a)(c:a<=ss.length)(d:ss.length<=5)(f:(ss.getD (a-1) []).length<=1000):q9 [ssL ss,dD (.put a h l),.int num]=some (.lst [ssL (putS ss a (num,h,l)),.int num]):=by
 have g:=λe=>cp_o ss (by lia) e;have S:=at_4 (x:=D.str "put") (y:=.int (a:Int)) (z:=.int h) (w:=.int l);have i:((1:Int)<((0+1+1+1+1:Nat):Int))=True:=eq_true (by decide);have I:ss[a-1]?=some (ss.getD (a-1) []):=by rw[dg,ay (by lia)];rfl
 have j:ixN (dsO ss).length ((a:Int)-1)=some (a-1):=by
  rw[sg (by lia) (by unfold dsO;rw[ah];lia)];congr 1;lia
 have U:(dsO ss).set (a-1) (((num,h,l)::ss.getD (a-1) []).map sD)=dsO (putS ss a (num,h,l)):=by unfold putS dsO;rw[gl]
 have V:=qd I R;have Y:Few (0+1+((ss.getD (a-1) []).map sD).length):=few (by rw[ah];lia);have Z:noLs (D.tup [.int num,.int h,.int l]::(ss.getD (a-1) []).map sD)=true:=zyc ((num,h,l)::ss.getD (a-1) []);have ct:rk false (fCat (fLst (fo (au (fTup (au (fVar 2) (au (fIxV 1 (fC (.int 2))) (au (fIxV 1 (fC (.int 3))) (fNil))))) (fNil)))) (fIxV 3 (fVar 4))) [some (.sh (ssL ss)),some (.sh (dD (.put a h l))),some (.sh (.int num)),some (.o2 (dsO ss)),some (.sh (.int ((a:Int)-1))),none]=some (((num,h,l)::ss.getD (a-1) []).map sD,[some (.sh (ssL ss)),some (.sh (dD (.put a h l))),some (.sh (.int num)),some (.o2 (dsO ss)),some (.sh (.int ((a:Int)-1))),none]):=by
  have b:frz false [some (.sh (ssL ss)),some (.sh (dD (.put a h l))),some (.sh (.int num)),some (.o2 (dsO ss)),some (.sh (.int ((a:Int)-1))),none]=[some (.sh (ssL ss)),some (.sh (dD (.put a h l))),some (.sh (.int num)),some (.sh (ssL ss)),some (.sh (.int ((a:Int)-1))),none]:=by
   rw[<-ya];rfl
  unfold rk;rw[b,show((num,h,l)::ss.getD (a-1) []).map sD=D.tup [.int num,.int h,.int l]::(ss.getD (a-1) []).map sD from rfl];unfold ssL dD;generalize (ss.getD (a-1) []).map sD=TL at *;generalize (ss.map λs=>D.lst (s.map sD))=SL at *;simp[S,V,Y,Z]
 rw[<-ya (putS ss a (num,h,l)),<-U];suffices J:∃e',tf [some (.sh (ssL ss)),some (.sh (dD (.put a h l))),some (.sh (.int num)),none,none,none]=some (.rt (.lst [.lst (((dsO ss).set (a-1) (((num,h,l)::ss.getD (a-1) []).map sD)).map D.lst),.int num]),e') from let ⟨_,J⟩:=J;je rfl J;simp only[dD] at ct ⊢;simp only[tf,sSeq,yd,sSet,fC,h9,fIxV,ixSl,fVar,fBin,fTst,sIf,sNil,dGt,dEq,dSub,ae,af,ac,ai,aq,av,ak,bu,decide_true,if_true,sRet,fLst,fo,au,fNil,tz,frsE,frs1,cf,di, *];exact⟨_,rfl⟩
theorem zu0{m:Nat}{l:Int}(I:ss[a-1]?=some t)(R:t[m-1]?=some x)(S:1<=a)(g:1<=m)(h:ss.length<=5):q9 [ssL ss,dD (.tell a m l),.int num]=some (.lst [ssL (ss.set (a-1) (t.set (m-1) (x.1,x.2.1,l))),.int x.2.2]):=by
 have i:=λe=>cp_o ss (by lia) e;have sn:=sne;have U:=at_4 (x:=D.str "tell") (y:=.int (a:Int)) (z:=.int (m:Int)) (w:=.int l);have j:atI [D.int x.1,.int x.2.1,.int x.2.2] 0=some (.int x.1)/\atI [D.int x.1,.int x.2.1,.int x.2.2] 1=some (.int x.2.1)/\atI [D.int x.1,.int x.2.1,.int x.2.2] 2=some (.int x.2.2):=⟨rfl,rfl,rfl⟩;have k:((1:Int)<((0+1+1+1+1:Nat):Int))=True:=eq_true (by decide);have V:(0+1+1<=64)=True/\(0+1+1+1<=64)=True:=⟨eq_true (by decide),eq_true (by decide)⟩;have n:=(aj.mp I).1;have o:=(aj.mp R).1;have p:ixN (dsO ss).length ((a:Int)-1)=some (a-1):=by
  rw[sg (by lia) (by unfold dsO;rw[ah];lia)];congr 1;lia
 have Y:(dsO ss)[a-1]?=some (t.map sD):=by unfold dsO;rw[b7,I];rfl
 have Z:ixN (t.map sD).length ((m:Int)-1)=some (m-1):=by
  rw[sg (by lia) (by rw[ah];lia)];congr 1;lia
 have b:(dsO ss).set (a-1) ((t.map sD).set (m-1) (.tup [.int x.1,.int x.2.1,.int l]))=dsO (ss.set (a-1) (t.set (m-1) (x.1,x.2.1,l))):=by
  unfold dsO;rw[gl,gl];rfl
 have c:=qd I S;have d:atI (t.map sD) ((m:Int)-1)=some (sD x):=by
  rw[show(m:Int)-1=((m-1:Nat):Int) by lia];exact j6 sD R
 have ct:fFrz false (fBin dIx (fIxV 3 (fVar 4)) (fBin dSub (fIxV 1 (fC (.int 2))) (fC (.int 1)))) [some (.sh (ssL ss)),some (.sh (dD (.tell a m l))),some (.sh (.int num)),some (.o2 (dsO ss)),some (.sh (.int ((a:Int)-1))),none]=some (sD x,[some (.sh (ssL ss)),some (.sh (dD (.tell a m l))),some (.sh (.int num)),some (.o2 (dsO ss)),some (.sh (.int ((a:Int)-1))),none]):=by
  have f:frz false [some (.sh (ssL ss)),some (.sh (dD (.tell a m l))),some (.sh (.int num)),some (.o2 (dsO ss)),some (.sh (.int ((a:Int)-1))),none]=[some (.sh (ssL ss)),some (.sh (dD (.tell a m l))),some (.sh (.int num)),some (.sh (ssL ss)),some (.sh (.int ((a:Int)-1))),none]:=by
   rw[<-ya];rfl
  unfold fFrz;rw[f];unfold ssL dD;simp[U,c,d];rfl
 rw[<-ya (ss.set (a-1) (t.set (m-1) (x.1,x.2.1,l))),<-b];suffices J:∃e',tf [some (.sh (ssL ss)),some (.sh (dD (.tell a m l))),some (.sh (.int num)),none,none,none]=some (.rt (.lst [.lst (((dsO ss).set (a-1) ((t.map sD).set (m-1) (.tup [.int x.1,.int x.2.1,.int l]))).map D.lst),.int x.2.2]),e') from let ⟨_,J⟩:=J;je rfl J;simp only[dD,sD] at ct ⊢;simp only[tf,sSeq,yd,sSet,fC,h9,fIxV,ixSl,fVar,fBin,fTst,sIf,sNil,dGt,dEq,dSub,ae,af,ac,ai,aq,av,ak,bu,decide_true,decide_false,bj,if_false,if_true,sRet,fLst,fo,au,fNil,tz,frsE, *];simp only[zq4,fTup];simp only[fC,fIxV,ixSl,fVar,fBin,dSub,ae,af,ac,ai,aq,av,ak,bu,if_true,au,fNil,frsE,frs1,cf,di, *];exact⟨_,rfl⟩
theorem zrm{v1 v2:ln}(S:ss[a-1]?=some (x::tl))(U:1<=a)(g:ss.length<=5)(V:tl.length<=1000) :
  ∃e',(sSeq (sSet 5 (fFrz false (fBin dIx (fIxV 3 (fVar 4)) (fC (.int 0))))) (sSeq (tz 3 (fVar 4) (rk false (fSl (fIxV 3 (fVar 4)) (fO1 (fC (.int 1))) (fO0)))) (sRet (fLst (fo (au (fVar 3) (au (fVar 5) (fNil)))))))) [some (.sh (ssL ss)),v1,v2,some (.o2 (dsO ss)),some (.sh (.int ((a:Int)-1))),none]=some (.rt (.lst [ssL (ss.set (a-1) tl),sD x]),e'):=by
 have h:=(aj.mp S).1;have Y:ixN (dsO ss).length ((a:Int)-1)=some (a-1):=by
  rw[sg (by lia) (by unfold dsO;rw[ah];lia)];congr 1;lia
 have Z:(dsO ss).set (a-1) (tl.map sD)=dsO (ss.set (a-1) tl):=by unfold dsO;rw[gl]
 have I:=qd S U;have b:atI (sD x::tl.map sD) 0=some (sD x):=at_0;have J:=zku (sD x::tl.map sD) 1 (by simp);have c:noLs (tl.map sD)=true:=zyc tl;have R:(0+1+1<=64)=True:=eq_true (by decide);have d:(frz false [some (.sh (ssL ss)),v1,v2,some (.o2 (dsO ss)),some (.sh (.int ((a:Int)-1))),none])[3]?=some (some (.sh (ssL ss)))/\(frz false [some (.sh (ssL ss)),v1,v2,some (.o2 (dsO ss)),some (.sh (.int ((a:Int)-1))),none])[4]?=some (some (.sh (.int ((a:Int)-1)))):=⟨zyb rfl,zya rfl⟩;have e:(frz false [some (.sh (ssL ss)),v1,v2,some (.o2 (dsO ss)),some (.sh (.int ((a:Int)-1))),some (.sh (sD x))])[3]?=some (some (.sh (ssL ss)))/\(frz false [some (.sh (ssL ss)),v1,v2,some (.o2 (dsO ss)),some (.sh (.int ((a:Int)-1))),some (.sh (sD x))])[4]?=some (some (.sh (.int ((a:Int)-1)))):=⟨zyb rfl,zya rfl⟩;have ct:fFrz false (fBin dIx (fIxV 3 (fVar 4)) (fC (.int 0))) [some (.sh (ssL ss)),v1,v2,some (.o2 (dsO ss)),some (.sh (.int ((a:Int)-1))),none]=some (sD x,[some (.sh (ssL ss)),v1,v2,some (.o2 (dsO ss)),some (.sh (.int ((a:Int)-1))),none]):=by
  unfold fFrz;unfold ssL at *;simp[d,I,b];rfl
 have f:rk false (fSl (fIxV 3 (fVar 4)) (fO1 (fC (.int 1))) (fO0)) [some (.sh (ssL ss)),v1,v2,some (.o2 (dsO ss)),some (.sh (.int ((a:Int)-1))),some (.sh (sD x))]=some (tl.map sD,[some (.sh (ssL ss)),v1,v2,some (.o2 (dsO ss)),some (.sh (.int ((a:Int)-1))),some (.sh (sD x))]):=by
  unfold rk;unfold ssL at *;rw[cf] at I;generalize tl.map sD=TL at *;generalize (ss.map λs=>D.lst (s.map sD))=SL at *;have J:cutD (sD x::TL) (some 1) none=TL:=J;simp[e,I,J,c]
 rw[<-ya (ss.set (a-1) tl),<-Z];generalize tl.map sD=TL at *;generalize dsO ss=SO at *;simp only[sSeq,sSet,ct,ai,ac,aq,av,tz,f,ae,af,frsE,frs1,cf,di,fVar,Y,sRet,fLst,fo,au,fNil,ak,bu,R,if_true];exact⟨_,rfl⟩
theorem z0r(J:ss[a-1]?=some (x::tl))(R:1<=a)(S:ss.length<=5)(I:tl.length<=1000):q9 [ssL ss,dD (.go a),.int num]=some (.lst [ssL (ss.set (a-1) tl),sD x]):=by
 obtain⟨e',st⟩:=zrm (v1:=some (.sh (dD (.go a)))) (v2:=some (.sh (.int num))) J R S I;have U:=λe=>cp_o ss (by lia) e;have sn:=sne;have V:atI [D.str "go",.int (a:Int)] 0=some (.str "go")/\atI [D.str "go",.int (a:Int)] 1=some (.int (a:Int)):=⟨rfl,rfl⟩;have Y:((1:Int)<((0+1+1:Nat):Int))=True:=eq_true (by decide);refine je (e':=e') rfl (?_:tf [some (.sh (ssL ss)),some (.sh (dD (.go a))),some (.sh (.int num)),none,none,none]=_);rw[<-st];simp only[dD];simp[tf,U,V,sn]
variable{v:D}
theorem zxd{u w:D}{ts:k9}(J:zb [ssL ss]=some (.lst (.tup [.int (a:Int),u,v,w]::ts)))(R:ss[a-1]?=some (x::tl))(S:1<=a)(U:ss.length<=5)(I:tl.length<=1000):q9 [ssL ss,dD .dry,.int num]=some (.lst [ssL (ss.set (a-1) tl),sD x]):=by
 obtain⟨e',st⟩:=zrm (v1:=some (.sh (dD .dry))) (v2:=some (.sh (.int num))) R S U I;have V:=λe=>cp_o ss (by lia) e;have sn:=sne;have Y:atI [D.str "dry"] 0=some (.str "dry"):=rfl;have Z:atI (.tup [.int (a:Int),u,v,w]::ts) 0=some (.tup [.int (a:Int),u,v,w]):=at_0;have b:atI [D.int (a:Int),u,v,w] 0=some (.int (a:Int)):=rfl;have c:((1:Int)<((0+1:Nat):Int))=False:=eq_false (by decide);refine je (e':=e') rfl (?_:tf [some (.sh (ssL ss)),some (.sh (dD .dry)),some (.sh (.int num)),none,none,none]=_);rw[<-st];simp only[dD];simp[tf,V,Y,sn,J,Z,b]
def stP(k:nb)(p:nq)(s:Hs):ll:=[.d (ssL s.1),.o (k.map dD),.o (p.map stD),.d (spL s.2)]
structure SI (n i:Nat) (s:Hs):Prop where
 len:s.1.length=n
 few:s.1.flatten.length<=14
 good:∀x∈s.1.flatten,gy x
 chain:t9 0 s.2
 rate:∀x∈s.2,0<=x.2.2/\x.2.2<=100000
 sp:s.2.length<=i
 hour:om 0 s.2<=60*s.2.length
def Stp(k:nb)(s:Hs)(d:Deed)(s':Hs):Prop:=cmdX s.1 k.length (.d d)=none/\∃ans,q9 [ssL s.1,dD d,.int (jq k)]=some (.lst [ssL s'.1,ans])/\match d with | .dry=>∃x:Sk,ans=sD x/\s'.2=s.2++[(hrOf s.2,hrOf s.2+x.2.1,lss s.1.flatten)] | _=>s'.2=s.2
structure HI (n:Nat) (k:nb) (p:nq) (s:Hs):Prop where
 n5:n<=5
 k60:k.length<=60
 kp:p.length=k.length
 all:∀i t,(p++[s])[i]?=some t->SI n i t
 st0:(p++[s])[0]?=some (newS n)
 tr:∀i d t t',k[i]?=some d->(p++[s])[i]?=some t->(p++[s])[i+1]?=some t'->Stp (k.take i) t d t'
def HI.at(h:HI n k p s):SI n k.length s:=h.all k.length s (by rw[<-h.kp];simp)
variable{x:Str}
def wv{x:Nat}(h:e[i]?=some (some (.ag .ls (some r) ps)))(h2:e[x]?=some (some (.al r (oz ps j))))(D:ps[j]?=some (.o ds)):ko (.al x) i j e=some ds:=by
 unfold ko agAt;rw[if_pos (show Acc.ok (.al x) e i j from⟨_,_,_,h,h2⟩),h];dsimp;rw[D]
def z34(h:c∈kn):∃w,wm c=some w/\(w=("" : Str))=False:=by
 simp[kn] at h;rcases h with rfl | rfl | rfl | rfl | rfl | rfl | rfl | rfl | rfl | rfl | rfl | rfl | rfl <;> exact⟨_,rfl,eq_false (by decide)⟩
variable{c:Cmd}
def zxe(h:cmdX ss n c=some x):x∈kn:=by
 cases c with
 | back =>
   simp only[cmdX] at h;split at h
   ·cases h;decide
   ·cases h
 | d y =>
   cases y with
   | put a b l=>simp only[cmdX,putX] at h;(repeat' split at h) <;> (first | cases h) <;> decide
   | tell a b l=>simp only[cmdX,t6] at h;(repeat' split at h) <;> (first | cases h) <;> decide
   | go a=>simp only[cmdX,goX] at h;(repeat' split at h) <;> (first | cases h) <;> decide
   | dry=>simp only[cmdX,dryX] at h;(repeat' split at h) <;> (first | cases h) <;> decide
def z0s(hi:HI n k p s)(h:cmdX s.1 k.length c=some x):askX c [hA k (p++[s])] (askD c)=some (x,[hA k (p++[s])]):=by
 have l5:s.1.length<=5:=by rw[hi.at.len];exact hi.n5
 cases c with
 | back =>
   simp only[cmdX] at h;split at h
   ·cases h
    rename_i q;obtain rfl:=jb q;exact z32
   ·cases h
 | d y =>
   cases y with
   | put a b l=>exact z5m h l5
   | tell a b l=>exact z31 h l5
   | go a=>exact go_x h l5
   | dry=>exact z5n h l5
def z35(hi:HI n k p s)(h:cmdX s.1 k.length c=some x):sw [hA k (p++[s]),(.ls,stP k p s)] [cD c]=some (.bl true,[hA k (p++[s]),(.ls,stP k p s)]):=by
 obtain⟨w,I,D⟩:=z34 (zxe h);have rf:=zik s.1 k.length c (by rw[hi.at.len];exact hi.n5);rw[h,show dueW (some x)=w by show(wm x).getD "" = w;rw[I];rfl] at rf;have cl:=z33 c (z0s hi h) I;have R:=zhn [.str "refused",.str w] (by simp[plD]) (by simp);have S:((k.map dD).length:Int)=k.length:=by rw[ah]
 have pl:=wv (e:=[some (.ag kH (some 0) (hP k (p++[s]))),some (.ag .ls (some 1) (stP k p s)),some (.sh (cD c)),some (.sh (ssL s.1)),some (.al 1 0),some (.al 1 1),some (.sh (spL s.2)),none,none,none,none,none]) (i:=1) (x:=4) (j:=1) (ds:=k.map dD) rfl rfl rfl;have J:=ww (m:=qv) (F:=au (fVar 2) fNil) (e:=[some (.ag kH (some 0) (hP k (p++[s]))),some (.ag .ls (some 1) (stP k p s)),some (.sh (cD c)),some (.sh (ssL s.1)),some (.al 1 0),some (.al 1 1),some (.sh (spL s.2)),some (.sh (.str w)),none,none,none,none]) (i:=0) (l:=some 0) (ps:=hP k (p++[s])) (ds:=[cD c]) rfl rfl cl;refine(ve (e:=[some (.ag kH (some 0) (hP k (p++[s]))),some (.ag .ls (some 1) (stP k p s)),some (.sh (cD c)),some (.sh (ssL s.1)),some (.al 1 0),some (.al 1 1),some (.sh (spL s.2)),some (.sh (.str w)),some (.sh (.tup [.str "refused",.str w])),none,none,none]) rfl rfl ?_ rfl).1;rw[show jl 12 [hA k (p++[s]),(.ls,stP k p s)] [cD c]=[some (.ag kH (some 0) (hP k (p++[s]))),some (.ag .ls (some 1) (stP k p s)),some (.sh (cD c)),none,none,none,none,none,none,none,none,none] from rfl];have un:uz 1 [3,4,5,6] [some (.ag kH (some 0) (hP k (p++[s]))),some (.ag .ls (some 1) (stP k p s)),some (.sh (cD c)),none,none,none,none,none,none,none,none,none]=some (.nx,[some (.ag kH (some 0) (hP k (p++[s]))),some (.ag .ls (some 1) (stP k p s)),some (.sh (cD c)),some (.sh (ssL s.1)),some (.al 1 0),some (.al 1 1),some (.sh (spL s.2)),none,none,none,none,none]):=rfl;generalize hP k (p++[s])=HP at *;generalize spL s.2=SP at *;rw[<-S] at rf;generalize k.map dD=KL at *;simp at J;simp[xh,un,pLen,pl,rf];simp[J,D,R]
theorem z36(D:e[4]?=some (some (.sh (.lst (k.map dD)))))(J:k.length<=1000):fBin gz (fC (.int 1)) (dw bLen (au (fLst (gv (fiS (fVar 4)) [] (fTst (fBin dEq (fIxV 0 (fC (.int 0))) (fC (.str "put")))) (fVar 0))) (fNil))) e=some (.int (jq k),e):=by
 have c:=zko (tt:=fTst (fBin dEq (fIxV 0 (fC (.int 0))) (fC (.str "put")))) (te:=fVar 0) (base:=[]) dD dD Deed.isPut k λx _=>by
  cases x with
  | put a h l=>exact⟨_,rfl,λ_=>⟨_,rfl⟩⟩
  | tell a p l=>exact⟨_,rfl,λz=>nomatch z⟩
  | go a=>exact⟨_,rfl,λz=>nomatch z⟩
  | dry=>exact⟨_,rfl,λz=>nomatch z⟩
 have I:Few (k.map dD).length:=few (by rw[ah];lia);unfold jq;generalize k.map dD=L at *;simp[gv,D,I,c]
variable{x:Sk}
def zrn{x:Nat}(h:e[1]?=some (some (.ag .ls (some r) ps)))(h2:e[x]?=some (some (.al r (oz ps j))))(D:ps[j]?=some (.o ds))(I:f e=some (d,e))(J:Few (ds.length+1)) :
  qm (.al x) 1 j f e=some (.non,e.set 1 (some (.ag .ls (some r) (ps.set j (.o (ds++[d])))))):=by
 unfold qm;rw[h];dsimp only;rw[if_pos (show labO .ls (some r) from⟨rfl,λ_ _ z=>nomatch z⟩),wv h h2 D,ac,I,ac];unfold appP;rw[h];dsimp only;rw[D];dsimp only;rw[if_pos ⟨rfl,rfl,rfl,J⟩];unfold setP;rw[h]
def z37:Deed->Bool | .dry=>true | _=>false
variable{d:Deed}{ss':mv}{ans:D}
theorem z5q(hi:HI n k p s)(U:z37 d=false)(h:cmdX s.1 k.length (.d d)=none)(b:k.length<=100)(cl:qv [hA k (p++[s])] [dD d]=some (ans,[hA (k++[d]) (p++[s]++[(ss',s.2)])]))(st:q9 [ssL s.1,dD d,.int (jq k)]=some (.lst [ssL ss',ans]))(I:x4 [ans,ans]=some (.bl true))(c:noL ans=true) :
  sw [hA k (p++[s]),(.ls,stP k p s)] [dD d]=some (.bl true,[hA (k++[d]) (p++[s]++[(ss',s.2)]),(.ls,stP (k++[d]) (p++[s]) (ss',s.2))]):=by
 have rf:=zik s.1 k.length (.d d) (by rw[hi.at.len];exact hi.n5);rw[h,show dueW none = "" from rfl] at rf;have D:((k.map dD).length:Int)=k.length:=by rw[ah]
 obtain⟨w,ws,ew,hb,hdr⟩:∃w ws,dD d=.tup (.str w::ws)/\(w=("back" : Str))=False/\(w=("dry" : Str))=False:=by
  cases d with
  | put a h l=>exact⟨_,_,rfl,eq_false (by decide),eq_false (by decide)⟩
  | tell a h l=>exact⟨_,_,rfl,eq_false (by decide),eq_false (by decide)⟩
  | go a=>exact⟨_,_,rfl,eq_false (by decide),eq_false (by decide)⟩
  | dry=>cases U
 have pl:=wv (e:=[some (.ag kH (some 0) (hP k (p++[s]))),some (.ag .ls (some 1) (stP k p s)),some (.sh (dD d)),some (.sh (ssL s.1)),some (.al 1 0),some (.al 1 1),some (.sh (spL s.2)),none,none,none,none,none]) (i:=1) (x:=4) (j:=1) (ds:=k.map dD) rfl rfl rfl;have V:=ww (m:=qv) (F:=au (fVar 2) fNil) (e:=[some (.ag kH (some 0) (hP k (p++[s]))),some (.ag .ls (some 1) (stP k p s)),some (.sh (dD d)),some (.sh (ssL s.1)),some (.al 1 0),some (.al 1 1),some (.sh (spL s.2)),some (.sh (.str "")),none,none,none,none]) (i:=0) (l:=some 0) (ps:=hP k (p++[s])) (ds:=[dD d]) rfl rfl cl;have nm:fFrz false (fBin gz (fC (.int 1)) (dw bLen (au (fLst (gv (fiS (fVar 4)) [] (fTst (fBin dEq (fIxV 0 (fC (.int 0))) (fC (.str "put")))) (fVar 0))) (fNil)))) [some (.ag kH (some 0) (hP (k++[d]) (p++[s]++[(ss',s.2)]))),some (.ag .ls (some 1) (stP k p s)),some (.sh (dD d)),some (.sh (ssL s.1)),some (.al 1 0),some (.al 1 1),some (.sh (spL s.2)),some (.sh (.str "")),some (.sh ans),none,none,none]=some (.int (jq k),[some (.ag kH (some 0) (hP (k++[d]) (p++[s]++[(ss',s.2)]))),some (.ag .ls (some 1) (stP k p s)),some (.sh (dD d)),some (.sh (ssL s.1)),some (.al 1 0),some (.al 1 1),some (.sh (spL s.2)),some (.sh (.str "")),some (.sh ans),none,none,none]):=by
  unfold fFrz;rw[z36 (k:=k) rfl (by lia)];rfl
 have Y:=zrn (e:=[some (.ag kH (some 0) (hP (k++[d]) (p++[s]++[(ss',s.2)]))),some (.ag .ls (some 1) (stP k p s)),some (.sh (dD d)),some (.sh (ssL s.1)),some (.al 1 0),some (.al 1 1),some (.sh (spL s.2)),some (.sh (.str "")),some (.sh ans),none,some (.sh (.lst [ssL ss',ans])),none]) (x:=5) (j:=2) (ds:=p.map stD) (f:=fTup (au (fVar 3) (au (fVar 6) fNil))) (d:=stD s) rfl rfl rfl rfl (few (by rw[ah];have:=hi.kp;lia));have Z:=zrn (e:=[some (.ag kH (some 0) (hP (k++[d]) (p++[s]++[(ss',s.2)]))),some (.ag .ls (some 1) [.d (ssL s.1),.o (k.map dD),.o (p.map stD++[stD s]),.d (spL s.2)]),some (.sh (dD d)),some (.sh (ssL s.1)),some (.al 1 0),some (.al 1 1),some (.sh (spL s.2)),some (.sh (.str "")),some (.sh ans),none,some (.sh (.lst [ssL ss',ans])),none]) (x:=4) (j:=1) (ds:=k.map dD) (f:=fVar 2) (d:=dD d) rfl rfl rfl rfl (few (by rw[ah];lia));have J:atI (.str w::ws) 0=some (.str w):=at_0;have R:atI [ssL ss',ans] 0=some (ssL ss')/\atI [ssL ss',ans] 1=some ans:=⟨rfl,rfl⟩;refine(ve (e:=[some (.ag kH (some 0) (hP (k++[d]) (p++[s]++[(ss',s.2)]))),some (.ag .ls (some 1) (stP (k++[d]) (p++[s]) (ss',s.2))),some (.sh (dD d)),some (.sh (ssL s.1)),some (.al 1 0),some (.al 1 1),some (.sh (spL s.2)),some (.sh (.str "")),some (.sh ans),none,some (.sh (.lst [ssL ss',ans])),none]) rfl rfl ?_ rfl).1;rw[show jl 12 [hA k (p++[s]),(.ls,stP k p s)] [dD d]=[some (.ag kH (some 0) (hP k (p++[s]))),some (.ag .ls (some 1) (stP k p s)),some (.sh (dD d)),none,none,none,none,none,none,none,none,none] from rfl];have un:uz 1 [3,4,5,6] [some (.ag kH (some 0) (hP k (p++[s]))),some (.ag .ls (some 1) (stP k p s)),some (.sh (dD d)),none,none,none,none,none,none,none,none,none]=some (.nx,[some (.ag kH (some 0) (hP k (p++[s]))),some (.ag .ls (some 1) (stP k p s)),some (.sh (dD d)),some (.sh (ssL s.1)),some (.al 1 0),some (.al 1 1),some (.sh (spL s.2)),none,none,none,none,none]):=rfl;have S:stP (k++[d]) (p++[s]) (ss',s.2)=[.d (ssL ss'),.o (k.map dD++[dD d]),.o (p.map stD++[stD s]),.d (spL s.2)]:=by unfold stP;simp
 have rf:zm [ssL s.1,.int (k.length:Int),dD d]=some (.str ""):=rf;rw[S];rw[<-D] at rf;unfold stP at *;generalize dD d=DD at *;subst ew;clear S D cl;generalize hP (k++[d]) (p++[s]++[(ss',s.2)])=HP2 at *;generalize k.map dD=KL at *;simp[xh,un,pLen,pl,rf];simp[V,J,hb];simp[nm,st,Y,Z,qe,R,hdr,I];simp[R,J,hdr,I]
def zyd{x:Nat}{d:D}(h:e[1]?=some (some (.ag .ls (some r) ps)))(h2:e[x]?=some (some (.al r (oz ps j))))(I:ps[j]?=some (.o (ds++[d]))) :
  pPop (.al x) 1 j e=some (d,e.set 1 (some (.ag .ls (some r) (ps.set j (.o ds))))):=by
 unfold pPop;rw[wv h h2 I,ac,show(ds++[d])[(ds++[d]).length-1]?=some d by simp,ai,show(ds++[d]).dropLast=ds by simp];unfold setP;rw[h]
def z5r(d:Deed):∃xs,dD d=.tup xs/\(∀x∈xs,plD x)/\xs.length<=1000:=by
 cases d <;> exact⟨_,rfl,by simp[plD],by simp⟩
def z0t(hi:HI n (k++[d]) (p++[s]) s') :
  sw [hA (k++[d]) (p++[s]++[s']),(.ls,stP (k++[d]) (p++[s]) s')] [cD .back]=some (.bl true,[hA k (p++[s]),(.ls,stP k p s)]):=by
 have h:cmdX s'.1 (k++[d]).length .back=none:=by simp[cmdX]
 have rf:=zik s'.1 (k++[d]).length .back (by rw[hi.at.len];exact hi.n5);rw[h,show dueW none = "" from rfl] at rf;obtain⟨xs,ex,S,U⟩:=z5r d;have J:=zhn xs S U;rw[<-ex] at J;have R:=z0q (k:=k) (p:=p) (s:=s) (d:=d) (s':=s');have cl:=zuy .back R.1 R.2;have V:stP (k++[d]) (p++[s]) s'=[.d (ssL s'.1),.o (k.map dD++[dD d]),.o (p.map stD++[stD s]),.d (spL s'.2)]:=by unfold stP;simp
 have I:((k.map dD++[dD d]).length:Int)=(k++[d]).length:=by simp
 rw[<-I] at rf;rw[V];have pl:=wv (e:=[some (.ag kH (some 0) (hP (k++[d]) (p++[s]++[s']))),some (.ag .ls (some 1) [.d (ssL s'.1),.o (k.map dD++[dD d]),.o (p.map stD++[stD s]),.d (spL s'.2)]),some (.sh (cD .back)),some (.sh (ssL s'.1)),some (.al 1 0),some (.al 1 1),some (.sh (spL s'.2)),none,none,none,none,none]) (i:=1) (x:=4) (j:=1) (ds:=k.map dD++[dD d]) rfl rfl rfl;have Y:=ww (m:=qv) (F:=au (fVar 2) fNil) (e:=[some (.ag kH (some 0) (hP (k++[d]) (p++[s]++[s']))),some (.ag .ls (some 1) [.d (ssL s'.1),.o (k.map dD++[dD d]),.o (p.map stD++[stD s]),.d (spL s'.2)]),some (.sh (cD .back)),some (.sh (ssL s'.1)),some (.al 1 0),some (.al 1 1),some (.sh (spL s'.2)),some (.sh (.str "")),none,none,none,none]) (i:=0) (l:=some 0) (ps:=hP (k++[d]) (p++[s]++[s'])) (ds:=[cD .back]) rfl rfl cl;have Z:=zyd (e:=[some (.ag kH (some 0) (hP k (p++[s]))),some (.ag .ls (some 1) [.d (ssL s'.1),.o (k.map dD++[dD d]),.o (p.map stD++[stD s]),.d (spL s'.2)]),some (.sh (cD .back)),some (.sh (ssL s'.1)),some (.al 1 0),some (.al 1 1),some (.sh (spL s'.2)),some (.sh (.str "")),some (.sh (dD d)),none,none,none]) (x:=5) (j:=2) rfl rfl rfl;have a:=zyd (e:=[some (.ag kH (some 0) (hP k (p++[s]))),some (.ag .ls (some 1) [.d (ssL s.1),.o (k.map dD++[dD d]),.o (p.map stD),.d (spL s.2)]),some (.sh (cD .back)),some (.sh (ssL s'.1)),some (.al 1 0),some (.al 1 1),some (.sh (spL s'.2)),some (.sh (.str "")),some (.sh (dD d)),some (.sh (.tup [ssL s.1,spL s.2])),none,none]) (x:=4) (j:=1) rfl rfl rfl;refine(ve (e:=[some (.ag kH (some 0) (hP k (p++[s]))),some (.ag .ls (some 1) (stP k p s)),some (.sh (cD .back)),some (.sh (ssL s'.1)),some (.al 1 0),some (.al 1 1),some (.sh (spL s'.2)),some (.sh (.str "")),some (.sh (dD d)),some (.sh (.tup [ssL s.1,spL s.2])),none,none]) rfl rfl ?_ rfl).1;rw[show jl 12 [hA (k++[d]) (p++[s]++[s']),(.ls,[.d (ssL s'.1),.o (k.map dD++[dD d]),.o (p.map stD++[stD s]),.d (spL s'.2)])] [cD .back]=[some (.ag kH (some 0) (hP (k++[d]) (p++[s]++[s']))),some (.ag .ls (some 1) [.d (ssL s'.1),.o (k.map dD++[dD d]),.o (p.map stD++[stD s]),.d (spL s'.2)]),some (.sh (cD .back)),none,none,none,none,none,none,none,none,none] from rfl];have un:uz 1 [3,4,5,6] [some (.ag kH (some 0) (hP (k++[d]) (p++[s]++[s']))),some (.ag .ls (some 1) [.d (ssL s'.1),.o (k.map dD++[dD d]),.o (p.map stD++[stD s]),.d (spL s'.2)]),some (.sh (cD .back)),none,none,none,none,none,none,none,none,none]=some (.nx,[some (.ag kH (some 0) (hP (k++[d]) (p++[s]++[s']))),some (.ag .ls (some 1) [.d (ssL s'.1),.o (k.map dD++[dD d]),.o (p.map stD++[stD s]),.d (spL s'.2)]),some (.sh (cD .back)),some (.sh (ssL s'.1)),some (.al 1 0),some (.al 1 1),some (.sh (spL s'.2)),none,none,none,none,none]):=rfl;have b:cD .back=.tup [.str "back"]:=rfl;have c:atI [ssL s.1,spL s.2] 0=some (ssL s.1)/\atI [ssL s.1,spL s.2] 1=some (spL s.2):=⟨rfl,rfl⟩;have f:atI [D.str "back"] 0=some (.str "back"):=rfl;have es:stD s=.tup [ssL s.1,spL s.2]:=rfl;unfold stP;generalize hP (k++[d]) (p++[s]++[s'])=HP2 at *;generalize stD s=SD at *;generalize cD .back=CD at *;subst b es;simp only[xh,sSeq,un,ac,sSet,dw,au,fNil,fVar,pLen,pl,ai,ae,af,rf,aq,av];simp[Y,f];simp[Z,qe,c,a,J]
def z0u(i:Int):qx [.int i]=some (.bl true):=by
 rfl
def zu1(i:Int):x4 [.int i,.int i]=some (.bl true)/\noL (.int i)=true:=by
 refine⟨?_,rfl⟩;have w:=z0u i;refine je (e':=[some (.sh (.int i)),some (.sh (.int i))]) rfl ?_;rw[show iz 2 [D.int i,.int i]=[some (.sh (.int i)),some (.sh (.int i))] from rfl];simp only[zed,sSeq,sIf,fTst,fIsi,fVar,sNil,sRet,wf,dw,au,fNil,w,fBin,dEq,ae,af,ac,ai];simp[w]
def zye(x:Sk):x4 [sD x,sD x]=some (.bl true)/\noL (sD x)=true:=by
 refine⟨?_,rfl⟩;have w:=zhn [.int x.1,.int x.2.1,.int x.2.2] (by simp[plD]) (by simp);refine je (e':=[some (.sh (sD x)),some (.sh (sD x))]) rfl ?_;rw[show iz 2 [sD x,sD x]=[some (.sh (sD x)),some (.sh (sD x))] from rfl];simp only[zed,sSeq,sIf,fTst,fIsi,fVar,sNil,sRet,dw,au,fNil,sD,w,ae,af,ac,ai];simp
theorem z38(hi:HI n k p s)(h:cmdX s.1 k.length (.d .dry)=none)(cl:qv [hA k (p++[s])] [dD .dry]=some (sD x,[hA (k++[.dry]) (p++[s]++[dryS s a x tl])]))(st:q9 [ssL s.1,dD .dry,.int (jq k)]=some (.lst [ssL (s.1.set (a-1) tl),sD x])) :
  sw [hA k (p++[s]),(.ls,stP k p s)] [dD .dry]=some (.bl true,[hA (k++[.dry]) (p++[s]++[dryS s a x tl]),(.ls,stP (k++[.dry]) (p++[s]) (dryS s a x tl))]):=by
 have I:=hi.at;have l5:s.1.length<=5:=by rw[I.len];exact hi.n5
 have rf:=zik s.1 k.length (.d .dry) l5;rw[h,show dueW none = "" from rfl] at rf;have J:((k.map dD).length:Int)=k.length:=by rw[ah]
 have V:=(zye x).1;have R:∀y∈s.1,y.length<=1000:=λy Y=>by
  have h1:=I.few;have h2:=(d9 Y).length_le
  lia
 have Z:=z0o s.1 (by lia) R;have b:=I.sp;have A:=I.hour;have B:=hi.k60;have rs:=zw9 s.2 I.chain (by lia);have c:(((rts s.2).map D.int).length:Int)=hrOf s.2:=by rw[ah,zqd _ _ I.chain,zuv];lia
 have pl:=wv (e:=[some (.ag kH (some 0) (hP k (p++[s]))),some (.ag .ls (some 1) (stP k p s)),some (.sh (dD .dry)),some (.sh (ssL s.1)),some (.al 1 0),some (.al 1 1),some (.sh (spL s.2)),none,none,none,none,none]) (i:=1) (x:=4) (j:=1) (ds:=k.map dD) rfl rfl rfl;have g:=ww (m:=qv) (F:=au (fVar 2) fNil) (e:=[some (.ag kH (some 0) (hP k (p++[s]))),some (.ag .ls (some 1) (stP k p s)),some (.sh (dD .dry)),some (.sh (ssL s.1)),some (.al 1 0),some (.al 1 1),some (.sh (spL s.2)),some (.sh (.str "")),none,none,none,none]) (i:=0) (l:=some 0) (ps:=hP k (p++[s])) (ds:=[dD .dry]) rfl rfl cl;have nm:fFrz false (fBin gz (fC (.int 1)) (dw bLen (au (fLst (gv (fiS (fVar 4)) [] (fTst (fBin dEq (fIxV 0 (fC (.int 0))) (fC (.str "put")))) (fVar 0))) (fNil)))) [some (.ag kH (some 0) (hP (k++[.dry]) (p++[s]++[dryS s a x tl]))),some (.ag .ls (some 1) (stP k p s)),some (.sh (dD .dry)),some (.sh (ssL s.1)),some (.al 1 0),some (.al 1 1),some (.sh (spL s.2)),some (.sh (.str "")),some (.sh (sD x)),none,none,none]=some (.int (jq k),[some (.ag kH (some 0) (hP (k++[.dry]) (p++[s]++[dryS s a x tl]))),some (.ag .ls (some 1) (stP k p s)),some (.sh (dD .dry)),some (.sh (ssL s.1)),some (.al 1 0),some (.al 1 1),some (.sh (spL s.2)),some (.sh (.str "")),some (.sh (sD x)),none,none,none]):=by
  unfold fFrz;rw[z36 (k:=k) rfl (by lia)];rfl
 have q:=zrn (e:=[some (.ag kH (some 0) (hP (k++[.dry]) (p++[s]++[dryS s a x tl]))),some (.ag .ls (some 1) (stP k p s)),some (.sh (dD .dry)),some (.sh (ssL s.1)),some (.al 1 0),some (.al 1 1),some (.sh (spL s.2)),some (.sh (.str "")),some (.sh (sD x)),none,some (.sh (.lst [ssL (s.1.set (a-1) tl),sD x])),none]) (x:=5) (j:=2) (ds:=p.map stD) (f:=fTup (au (fVar 3) (au (fVar 6) fNil))) (d:=stD s) rfl rfl rfl rfl (few (by rw[ah];have:=hi.kp;lia));have r:=zrn (e:=[some (.ag kH (some 0) (hP (k++[.dry]) (p++[s]++[dryS s a x tl]))),some (.ag .ls (some 1) [.d (ssL s.1),.o (k.map dD),.o (p.map stD++[stD s]),.d (spL s.2)]),some (.sh (dD .dry)),some (.sh (ssL s.1)),some (.al 1 0),some (.al 1 1),some (.sh (spL s.2)),some (.sh (.str "")),some (.sh (sD x)),none,some (.sh (.lst [ssL (s.1.set (a-1) tl),sD x])),none]) (x:=4) (j:=1) (ds:=k.map dD) (f:=fVar 2) (d:=dD .dry) rfl rfl rfl rfl (few (by rw[ah];lia));have U:atI [D.str "dry"] 0=some (.str "dry"):=rfl;have t:dD .dry=.tup [.str "dry"]:=rfl;have sn:=sne;have S:atI [ssL (s.1.set (a-1) tl),sD x] 0=some (ssL (s.1.set (a-1) tl))/\atI [ssL (s.1.set (a-1) tl),sD x] 1=some (sD x):=⟨rfl,rfl⟩;have u:dIx (sD x) (.int 1)=some (.int x.2.1):=rfl;have ct:fLst (fCat (fVar 6) (fLst (fo (au (fTup (au (fVar 11) (au (fBin gz (fVar 11) (fBin dIx (fIxV 10 (fC (.int 1))) (fC (.int 1)))) (au (dw zhj (au (fVar 3) fNil)) fNil)))) fNil))))
   [some (.ag kH (some 0) (hP (k++[.dry]) (p++[s]++[dryS s a x tl]))),some (.ag .ls (some 1) [.d (ssL (s.1.set (a-1) tl)),.o (k.map dD++[dD .dry]),.o (p.map stD++[stD s]),.d (spL s.2)]),some (.sh (dD .dry)),some (.sh (ssL s.1)),some (.al 1 0),some (.al 1 1),some (.sh (spL s.2)),some (.sh (.str "")),some (.sh (sD x)),none,some (.sh (.lst [ssL (s.1.set (a-1) tl),sD x])),some (.sh (.int (hrOf s.2)))]=some (spL (s.2++[(hrOf s.2,hrOf s.2+x.2.1,lss s.1.flatten)]),[some (.ag kH (some 0) (hP (k++[.dry]) (p++[s]++[dryS s a x tl]))),some (.ag .ls (some 1) [.d (ssL (s.1.set (a-1) tl)),.o (k.map dD++[dD .dry]),.o (p.map stD++[stD s]),.d (spL s.2)]),some (.sh (dD .dry)),some (.sh (ssL s.1)),some (.al 1 0),some (.al 1 1),some (.sh (spL s.2)),some (.sh (.str "")),some (.sh (sD x)),none,some (.sh (.lst [ssL (s.1.set (a-1) tl),sD x])),some (.sh (.int (hrOf s.2)))]):=by
  have v:Few ((s.2.map sD).length+1):=few (by rw[ah];lia);have w:spL (s.2++[(hrOf s.2,hrOf s.2+x.2.1,lss s.1.flatten)])=.lst (s.2.map sD++[.tup [.int (hrOf s.2),.int (hrOf s.2+x.2.1),.int (lss s.1.flatten)]]):=by unfold spL;rw[b9];rfl
  rw[w];unfold spL;simp only[fLst,fCat,fVar,fo,au,fNil,fTup,fBin,fIxV,ixSl,fC,dw,ae,af,ac,ai,S,u,gz,Z,ak,bu,show 0+1+1+1<=64 by decide,show 0+1<=64 by decide,v,if_true]
 refine(ve (e:=[some (.ag kH (some 0) (hP (k++[.dry]) (p++[s]++[dryS s a x tl]))),some (.ag .ls (some 1) (stP (k++[.dry]) (p++[s]) (dryS s a x tl))),some (.sh (dD .dry)),some (.sh (ssL s.1)),some (.al 1 0),some (.al 1 1),some (.sh (spL s.2)),some (.sh (.str "")),some (.sh (sD x)),none,some (.sh (.lst [ssL (s.1.set (a-1) tl),sD x])),some (.sh (.int (hrOf s.2)))]) rfl rfl ?_ rfl).1;rw[show jl 12 [hA k (p++[s]),(.ls,stP k p s)] [dD .dry]=[some (.ag kH (some 0) (hP k (p++[s]))),some (.ag .ls (some 1) (stP k p s)),some (.sh (dD .dry)),none,none,none,none,none,none,none,none,none] from rfl];have un:uz 1 [3,4,5,6] [some (.ag kH (some 0) (hP k (p++[s]))),some (.ag .ls (some 1) (stP k p s)),some (.sh (dD .dry)),none,none,none,none,none,none,none,none,none]=some (.nx,[some (.ag kH (some 0) (hP k (p++[s]))),some (.ag .ls (some 1) (stP k p s)),some (.sh (dD .dry)),some (.sh (ssL s.1)),some (.al 1 0),some (.al 1 1),some (.sh (spL s.2)),none,none,none,none,none]):=rfl;have z:stP (k++[.dry]) (p++[s]) (dryS s a x tl)=[.d (ssL (s.1.set (a-1) tl)),.o (k.map dD++[dD .dry]),.o (p.map stD++[stD s]),.d (spL (s.2++[(hrOf s.2,hrOf s.2+x.2.1,lss s.1.flatten)]))]:=by unfold stP dryS;simp
 have rf:zm [ssL s.1,.int (k.length:Int),dD .dry]=some (.str ""):=rf;rw[z];rw[<-J] at rf;unfold stP at *;generalize dD .dry=DD at *;subst t;simp only[xh,sSeq,un,ac,sSet,dw,au,fNil,fVar,pLen,pl,ai,ae,af,rf,aq,av];simp only[g,ai,ac,aq,av,sIf,fTst,fBin,fVar,fC,fIxV,ixSl,ae,af,dNe,dEq,U,sn,decide_true,decide_false,ja,bj,if_false,sNil];simp only[nm,ai,ac,dw,au,fNil,fVar,ae,af,aq,av,st,iu,q,r,qe,S,fIxV,ixSl,fC];simp only[sSeq,sSet,U,decide_true,if_true,dw,au,fNil,fVar,ae,af,aq,av,ai,ac,rs,bLen,c,qe,ct,sRet,fIxV,ixSl,fC,S,V]
def znl{α:Type}:∀(ss:List (List α)) (i:Nat) (t t':List α),ss[i]?=some t->∃A B,ss.flatten=A++(t++B)/\(ss.set i t').flatten=A++(t'++B)
 | y::r,0,t,t',h=>by
   simp at h;subst h;exact⟨[],r.flatten,rfl,rfl⟩
 | y::r,i+1,t,t',h=>by
   obtain⟨A,B,h1,h2⟩:=znl r i t t' (by simpa using h);exact⟨y++A,B,by simp[h1],by simp[h2]⟩
theorem HI.push(h:HI n k p s)(U:k.length<60)(R:SI n (k.length+1) s')(st:Stp k s d s'):HI n (k++[d]) (p++[s]) s':=by
 have S:(p++[s]).length=k.length+1:=by simp[h.kp]
 have lt:∀i,i<=k.length->(p++[s]++[s'])[i]?=(p++[s])[i]?:=λi c=>aw (by lia);have J:(p++[s]++[s'])[k.length+1]?=some s':=by rw[<-S,jo]
 refine⟨h.n5,by simp;lia,by simp[h.kp],λi t D=>?_,by rw[lt 0 (by lia)];exact h.st0,λi d' t t' h1 h2 I=>?_⟩
 ·by_cases c:i<=k.length
  ·exact h.all i t (lt i c ▸ D)
  ·obtain rfl:i=k.length+1:=by have:=(aj.mp D).1;simp[h.kp] at this;lia
   rw[J] at D;cases D;exact R
 ·by_cases c:i<k.length
  ·rw[gh (by lia)]
   exact h.tr i d' t t' (by rwa [aw c] at h1) (by rwa [lt i (by lia)] at h2) (by rwa [lt _ c] at I)
  ·obtain rfl:i=k.length:=by have:=(aj.mp h1).1;simp at this;lia
   rw[jo] at h1;rw[lt _ (bw _),<-h.kp,jo] at h2;rw[J] at I;cases h1;cases h2;cases I;rw[uv];exact st
theorem HI.pop(h:HI n (k++[d]) (p++[s]) s'):HI n k p s:=by
 have kp:p.length=k.length:=by have:=h.kp;simp at this;exact this
 have I:∀ {i t},(p++[s])[i]?=some t->(p++[s]++[s'])[i]?=some t:=λD=>by rw[aw (aj.mp D).1];exact D
 refine⟨h.n5,by have:=h.k60;simp at this;lia,kp,λi t D=>h.all i t (I D),by have:=h.st0;rwa [aw (by simp)] at this,λi d' t t' h1 h2 J=>?_⟩;have c:=(aj.mp h1).1;have:=h.tr i d' t t' (by rw[aw c];exact h1) (I h2) (I J);rwa [gh (by lia)] at this
theorem SI.swap{t':mu}(h:SI n i s)(I:s.1[a]?=some t)(J:s.1.flatten.length+t'.length<=14+t.length)(R:∀x∈t',(∀y∈t,gy y)->gy x):SI n (i+1) (s.1.set a t',s.2):=by
 obtain⟨A,B,h1,h2⟩:=znl s.1 a t t' I;have g:=h.good;rw[h1] at g J;refine⟨by rw[dn];exact h.len,?_,?_,h.chain,h.rate,nj h.sp,h.hour⟩
 ·show(s.1.set a t').flatten.length<=14
  rw[h2];simp at *
  lia
 ·intro x D
  rw[h2,cz,cz] at D;rcases D with q | q | q
  ·exact g x (by simp[q])
  ·exact R x q λy S=>g y (by simp[S])
  ·exact g x (by simp[q])
theorem z0v(k:nb):1<=jq k/\jq k<=k.length+1:=by
 unfold jq;have:=List.length_filter_le Deed.isPut k
 lia
theorem zyf:∀(l:mu),(∀x∈l,gy x)->0<=lss l/\lss l<=100*l.length
 | [],_=>⟨by decide,by decide⟩
 | x::r,h=>by
   have J:=zyf r λy D=>h y (by simp[D]);have I:=h x (by simp);unfold gy at I;have e:lss (x::r)=x.2.2+lss r:=by simp[lss]
   rw[e,ak]
   lia
theorem SI.dry(h:SI n i s)(I:s.1[a-1]?=some (x::tl)):SI n (i+1) (dryS s a x tl):=by
 have q:=h.swap (t':=tl) I (by have:=h.few;rw[ak];lia) λy D J=>J y (by simp[D]);have R:gy x:=h.good x (by
  obtain⟨A,B,h1,_⟩:=znl s.1 (a-1) (x::tl) tl I;rw[h1];simp)
 have S:=zyf s.1.flatten h.good;have V:=h.few;have Y:=h.hour;have U:=h.sp;unfold gy at R;refine⟨q.len,q.few,q.good,?_,?_,?_,?_⟩
 ·exact zo3 _ _ _ h.chain (zuv s.2) (by show hrOf s.2<=hrOf s.2+x.2.1;lia)
 ·intro y D
  have D:y∈s.2++[(hrOf s.2,hrOf s.2+x.2.1,lss s.1.flatten)]:=D;rw[cz,cy] at D;rcases D with D | rfl
  ·exact h.rate y D
  ·show 0<=lss s.1.flatten/\lss s.1.flatten<=100000
   lia
 ·show(s.2++[_]).length<=i+1
  simp;lia
 ·show om 0 (s.2++[(hrOf s.2,hrOf s.2+x.2.1,lss s.1.flatten)])<=60*((s.2++[(hrOf s.2,hrOf s.2+x.2.1,lss s.1.flatten)]).length:Int)
  rw[zln,zuv,am];simp
  lia
def zu2{l:List α}(h:l≠[]):∃m x,l=m++[x]:=⟨l.dropLast,l.getLast h,(List.dropLast_concat_getLast h).symm⟩
def Mv(k:nb)(p:nq)(s:Hs)(c:Cmd)(k':nb)(p':nq)(s':Hs):Prop:=match cmdX s.1 k.length c with | some _=>k'=k/\p'=p/\s'=s | none=>match c with | .back=>∃d,k=k'++[d]/\p=p'++[s'] | .d d=>k'=k++[d]/\p'=p++[s]
def Done(n:Nat)(k:nb)(p:nq)(s:Hs)(c:Cmd):Prop:=∃k' p' s',HI n k' p' s'/\sw [hA k (p++[s]),(.ls,stP k p s)] [cD c]=some (.bl true,[hA k' (p'++[s']),(.ls,stP k' p' s')])/\Mv k p s c k' p' s'
protected def Mv.d(h:cmdX s.1 k.length (.d d)=none):Mv k p s (.d d) (k++[d]) (p++[s]) s':=by
 unfold Mv;rw[h];exact⟨rfl,rfl⟩
def HI.l5(hi:HI n k p s):s.1.length<=5:=by rw[hi.at.len];exact hi.n5
theorem HI.r14(hi:HI n k p s):∀y∈s.1,y.length<=14:=λy D=>by
 have h2:=(d9 D).length_le;have:=hi.at.few
 lia
theorem zqe(hi:HI n k p s)(D:z37 d=false)(I:k.length<60)(h:cmdX s.1 k.length (.d d)=none)(J:askX (.d d) [hA k (p++[s])] (askD (.d d))=none)(h1:askM (.d d) [hA k (p++[s])] (askD (.d d))=some (ans,[hA (k++[d]) (p++[s]++[(ss',s.2)])]))(st:q9 [ssL s.1,dD d,.int (jq k)]=some (.lst [ssL ss',ans]))(R:x4 [ans,ans]=some (.bl true))(S:noL ans=true)(U:SI n (k.length+1) (ss',s.2)):Done n k p s (.d d) :=
 ⟨_,_,_,hi.push I U ⟨h,ans,st,by cases d <;> first | rfl | cases D⟩,z5q hi D h (by lia) (zuy (.d d) J h1) st R S,Mv.d h⟩
variable{a:Int}
theorem zxf{l:Int}(hi:HI n k p s)(h:cmdX s.1 k.length (.d (.put a b l))=none):Done n k p s (.d (.put a b l)):=by
 have hx:putX s.1 k.length a b l=none:=h;have D:=hx;have l5:=hi.l5;have kp:=hi.kp;have c:=hi.k60;unfold putX at D
 (repeat' split at D) <;> try cases D
 rename_i R e f g S;obtain⟨a,rfl⟩:=iq (show 0<=a by lia);have J:=z3x (p:=p) hx l5 (by lia);have I:=uf R;rw[show((a:Int).toNat-1)=a-1 by simp] at I;have i:=hi.r14 _ (bi I);have sp:=zxc (num:=jq k) (h:=b) (l:=l) (a:=a) (ss:=s.1) (by lia) (by lia) l5 (by lia);have U:=z0v k;have V:gy (jq k,b,l):=⟨U.1,by show jq k<=60;lia,by show 1<=b;lia,by show b<=60;lia,by show 0<=l;lia,by show l<=100;lia⟩;have Y:SI n (k.length+1) (putS s.1 a (jq k,b,l),s.2):=hi.at.swap I (by rw[ak];lia) λx hx Z=>by
  rw[cb] at hx;rcases hx with hx | hx
  ·rw[hx];exact V
  ·exact Z x hx
 exact zqe hi rfl S h J.1 J.2 sp (zu1 _).1 rfl Y
theorem zu3{m l:Int}(hi:HI n k p s)(h:cmdX s.1 k.length (.d (.tell a m l))=none):Done n k p s (.d (.tell a m l)):=by
 have D:t6 s.1 k.length a m l=none:=h;have l5:=hi.l5;have kp:=hi.kp;have c:=hi.at.few;unfold t6 at D
 (repeat' split at D) <;> try cases D
 rename_i U V Y e J;obtain⟨a,rfl⟩:=iq (show 0<=a by lia);obtain⟨m,rfl⟩:=iq (show 0<=m by lia);have I:=uf U;rw[show((a:Int).toNat-1)=a-1 by simp] at I V Y;have f:=hi.r14 _ (bi I);obtain⟨x,hx2⟩:∃x,(s.1.getD (a-1) [])[m-1]?=some x:=⟨_,ay (by lia)⟩;have R:=z0p (k:=k) (p:=p) (s:=s) (l:=l) I hx2 (by lia) (by lia) (by lia) (by lia) J l5 (by lia) (by lia);have sp:=zu0 (num:=jq k) (l:=l) I hx2 (by lia) (by lia) l5;have Z:SI n (k.length+1) (s.1.set (a-1) ((s.1.getD (a-1) []).set (m-1) (x.1,x.2.1,l)),s.2):=hi.at.swap I (by rw[dn];lia) λz b S=>by
  rcases List.mem_or_eq_of_mem_set b with q | q
  ·exact S z q
  ·have g:=S x (bi hx2)
   rw[q];exact⟨g.1,g.2.1,g.2.2.1,g.2.2.2.1,by show 0<=l;lia,by show l<=100;lia⟩
 exact zqe hi rfl J h R.1 R.2 sp (zu1 _).1 rfl Z
theorem z0w(hi:HI n k p s)(h:cmdX s.1 k.length (.d (.go a))=none):Done n k p s (.d (.go a)):=by
 have D:goX s.1 k.length a=none:=h;have l5:=hi.l5;have kp:=hi.kp;have c:=hi.at.few;unfold goX at D
 (repeat' split at D) <;> try cases D
 rename_i V J S;obtain⟨a,rfl⟩:=iq (show 0<=a by lia);have I:=uf V;rw[show((a:Int).toNat-1)=a-1 by simp] at I J;have R:=hi.r14 _ (bi I);obtain⟨x,tl,et⟩:∃x tl,s.1.getD (a-1) []=x::tl:=by
  cases q:s.1.getD (a-1) [] with
  | nil=>rw[q] at J;simp at J
  | cons x tl=>exact⟨x,tl,rfl⟩
 rw[et] at I R;have R:tl.length+1<=14:=by simpa using R
 have U:=z5l (k:=k) (p:=p) (s:=s) I (by lia) S l5 (by lia);have sp:=z0r (num:=jq k) I (by lia) l5 (by lia);have Y:SI n (k.length+1) (s.1.set (a-1) tl,s.2):=hi.at.swap I (by rw[ak];lia) λz Z b=>b z (by simp[Z]);exact zqe hi rfl S h U.1 U.2 sp (zye x).1 rfl Y
theorem zxg(hi:HI n k p s)(h:cmdX s.1 k.length (.d .dry)=none):Done n k p s (.d .dry):=by
 have D:dryX s.1 k.length=none:=h;have l5:=hi.l5;have kp:=hi.kp;have I:=hi.at;have J:=I.few;unfold dryX at D
 (repeat' split at D) <;> try cases D
 rename_i Z S;obtain⟨ts,ok,R⟩:=ziw s.1 I.good J;have c:=zjq ok R J;have e:=zrb ok I.good J (by lia);cases ts with
 | nil =>
   have:=ok.perm.length_eq;simp only[di,pf,bu] at this
   lia
 | cons t ts =>
   obtain⟨a,b⟩:=t;have f:=(ok.good (a,b) (by simp)).ne;cases b with
   | nil=>exact absurd rfl f
   | cons x r =>
     obtain⟨tl,g,h1,h2,l,_⟩:=zur ok I.good J;have U:=hi.r14;have V:=U _ (bi h1);have V:tl.length+1<=14:=by simpa using V
     have i:=I.sp;have Y:=z3z (k:=k) (p:=p) (s:=s) c h1 h2 S l5 (by lia) (λy j=>by have:=U y j;lia) (by lia) Z;have sp:=zxd (num:=jq k) e h1 h2 l5 (by lia);exact⟨_,_,_,hi.push S (I.dry h1) ⟨h,sD x,sp,x,rfl,rfl⟩,z38 hi h (zuy (.d .dry) Y.1 Y.2) sp,Mv.d h⟩
def z5s(c:Cmd)(hi:HI n k p s):Done n k p s c:=by
 cases h:cmdX s.1 k.length c with
 | some x=>exact⟨k,p,s,hi,z35 hi h,by unfold Mv;rw[h];exact⟨rfl,rfl,rfl⟩⟩
 | none =>
 cases c with
 | back =>
   have D:k≠[]:=λe=>by subst e;simp[cmdX] at h
   have I:p≠[]:=λe=>by subst e;exact D (jb hi.kp.symm)
   obtain⟨k0,d,rfl⟩:=zu2 D;obtain⟨J,R,rfl⟩:=zu2 I;exact⟨k0,J,R,hi.pop,z0t hi,by unfold Mv;rw[h];exact⟨d,rfl,rfl⟩⟩
 | d y =>
   cases y with
   | put a b l=>exact zxf hi h
   | tell a m l=>exact zu3 hi h
   | go a=>exact z0w hi h
   | dry=>exact zxg hi h
theorem z39(U:n<=5):zhl [.int n]=some (.ls,stP [] [] (newS n)):=by
 have I:Few (rngD 0 n).length:=few (by rw[uq];lia);have c:=md (te:=fLst (fo fNil)) (base:=[]) (λi:Nat=>D.int (0+(i:Int))) (λ_:Nat=>D.lst []) (List.range n) λi _=>⟨_,rfl⟩;have R:rngD 0 n=(List.range n).map λi:Nat=>D.int (0+(i:Int)):=rfl;have S:(List.range n).map (λ_:Nat=>D.lst [])=(List.replicate n ([]:mu)).map λs=>D.lst (s.map sD):=by rw[List.map_const',j1,mz,di]
 have J:=n4 n (by lia);unfold rngD at J;rw[S] at c;rw[R] at I;unfold zhl runG;rw[if_pos (show[D.int (n:Int)].length=1 from rfl),show iz 1 [D.int (n:Int)]=[some (.sh (.int n))] from rfl];simp only[zjb,z9,fAgL,pCd,pCo,pNil,fLst,gv,i3,au,fVar,fNil,fo,ae,ac,ai,J,I,if_true,di,c,bu,fu];rw[show frsE [some (Sl.sh (D.int (n:Int)))]=[some (.sh (.int n))] from rfl];simp only[ae,ac,ai,J,I,if_true,c,ak,bu,show 0+1+1+1+1<=64 by decide];rfl
def HI.new(D:n<=5):HI n [] [] (newS n) :=
 ⟨D,by simp,rfl,λi t h=>by
  have e:i=0/\t=newS n:=by
   cases i with
   | zero=>simp at h;exact⟨rfl,h.symm⟩
   | succ m=>simp at h
  obtain⟨rfl,rfl⟩:=e;have z:(newS n).1.flatten=[]:=by simp[newS]
  exact⟨by simp[newS],by rw[z];simp,by rw[z];simp,trivial,λx h=>by simp[newS] at h,by simp[newS],by simp[newS,om]⟩,rfl,λi d t t' h=>by simp at h⟩
theorem z0x(z:Int):∃n:Nat,n<=5/\zhk [.int z]=some (.int n):=by
 have h:z % 12=0\/z % 12=1\/z % 12=2\/z % 12=3\/z % 12=4\/z % 12=5\/z % 12=6\/z % 12=7\/z % 12=8\/z % 12=9\/z % 12=10\/z % 12=11:=by lia
 have q:∀r:Int,dMod (.int z) (.int 12)=some (.int r)->∀v,dIx (.lst [.int 5,.int 3,.int 2,.int 4,.int 1,.int 5,.int 0,.int 4,.int 3,.int 5,.int 2,.int 4]) (.int r)=some v->zhk [.int z]=some v:=λr h1 v h2=>by
  refine je (e':=[some (.sh (.int z))]) rfl ?_;rw[show iz 1 [D.int z]=[some (.sh (.int z))] from rfl];simp only[zll,sRet,fBin,fLst,fo,au,fNil,fC,fVar,ae,ac,ai];rw[if_pos (by decide)];simp only[h1,h2,ac,ai,ae]
 have m:dMod (.int z) (.int 12)=some (.int (z % 12)):=by
  simp[dMod]
 rcases h with h | h | h | h | h | h | h | h | h | h | h | h <;> rw[h] at m <;> exact⟨_,by decide,q _ m (.int ((_:Nat):Int)) rfl⟩
theorem zxh(I:ik)(a:I.length<=200):∃cs:ik,cs.length<=3*I.length/\zia [.lst (I.map D.int)]=some (.lst (cs.map D.int)):=by
 have loop:=sx (i:=2) (g:=zfa)
  (λk e=>∃(cs:ik) (v2:ln),cs.length<=3*k/\e=[some (.sh (.lst (I.map D.int))),some (.ow (cs.map D.int)),v2])
  (I.map D.int) [some (.sh (.lst (I.map D.int))),some (.ow []),none] ⟨[],none,by simp,rfl⟩ ?_
 ·obtain⟨e',h1,cs,v2,J,rfl⟩:=loop
  rw[ah] at J;refine⟨cs,J,?_⟩;refine je (e':=[some (.sh (.lst (I.map D.int))),some (.sh (.lst (cs.map D.int))),v2]) rfl ?_;rw[show iz 3 [D.lst (I.map D.int)]=[some (.sh (.lst (I.map D.int))),none,none] from rfl];have Y:Few (I.map D.int).length:=few (by rw[ah];lia);simp[zke,Y,h1]
 ·rintro k d e R ⟨cs,v2,J,rfl⟩
  obtain⟨z,Z,rfl⟩:=fg.mp (bi R);have b:k<I.length:=by have:=(aj.mp R).1;rwa [ah] at this
  have S:Few (cs.length+1):=few (by lia);have U:Few (cs.length+1+1):=few (by lia);have V:Few (cs.length+1+1+1):=few (by lia);by_cases q:z / 12 % 4=1
  ·exact⟨_,by simp[zfa,dDiv,dMod,b12,q,S,U,V];rfl,cs++[z,z,z],_,by simp;lia,by simp;rfl⟩
  ·exact⟨_,by simp[zfa,dDiv,dMod,b12,q,S,U,V];rfl,cs++[z],_,by simp;lia,by simp;rfl⟩
theorem ix4(a b c d x:Int):∃v:Int,dIx (.lst [.int a,.int b,.int c,.int d]) (.int (x % 4))=some (.int v):=by
 have h:x % 4=0\/x % 4=1\/x % 4=2\/x % 4=3:=by lia
 rcases h with h | h | h | h <;> rw[h] <;> exact⟨_,rfl⟩
theorem ixW(x:Int):∃w:Str,atI [D.str "put",.str "put",.str "tell",.str "dry",.str "put",.str "go",.str "put",.str "put",.str "back",.str "tell",.str "put",.str "dry"] (x % 12)=some (.str w)/\(w = "put"\/w = "tell"\/w = "go"\/w = "dry"\/w = "back"):=by
 have h:x % 12=0\/x % 12=1\/x % 12=2\/x % 12=3\/x % 12=4\/x % 12=5\/x % 12=6\/x % 12=7\/x % 12=8\/x % 12=9\/x % 12=10\/x % 12=11:=by lia
 rcases h with h | h | h | h | h | h | h | h | h | h | h | h <;> rw[h] <;> exact⟨_,rfl,by simp⟩
variable{b:Bool}{F:FE}{v0:Int}
def ifx{c:FT}(D:c e=some (b,e))(I:e[i]?=some (some (.sh (.int v0))))(J:b=true->∃v:Int,F e=some (.int v,e)):∃v:Int,sIf c (sSet i F) sNil e=some (.nx,e.set i (some (.sh (.int v)))):=by
 cases b with
 | false =>
   refine⟨v0,?_⟩;have:e.set i (some (.sh (.int v0)))=e:=by
    apply eh;intro j;rw[gp];split
    ·rename_i q
     subst q;rw[I,if_pos (aj.mp I).1]
    ·rfl
   rw[this];simp[D]
 | true =>
   obtain⟨v,R⟩:=J rfl;exact⟨v,by simp[D,R]⟩
theorem uy(x j:Int)(h:1<=j/\j<=10000):dDiv (.int x) (.int j)=some (.int (x / j)):=by
 exact if_pos ⟨by lia,by lia⟩
theorem qc(x j:Int)(h:1<=j):dMod (.int x) (.int j)=some (.int (x % j)):=if_pos (by lia)
def zu4{z n I o f a h l t p:D}{J:D}{A H L P:Int}(R:w = "put"\/w = "tell"\/w = "go"\/w = "dry"\/w = "back") :
  ∃c e',(sSeq (sIf (fTst (fBin dEq (fVar 4) (fC (.str "put")))) (sRet (fTup (au (fC (.str "put")) (au (fVar 7) (au (fVar 8) (au (fVar 9) (fNil))))))) (sNil)) (sSeq (sIf (fTst (fBin dEq (fVar 4) (fC (.str "tell")))) (sRet (fTup (au (fC (.str "tell")) (au (fVar 7) (au (fVar 11) (au (fVar 9) (fNil))))))) (sNil)) (sSeq (sIf (fTst (fBin dEq (fVar 4) (fC (.str "go")))) (sRet (fTup (au (fC (.str "go")) (au (fVar 7) (fNil))))) (sNil)) (sRet (fTup (au (fVar 4) (fNil)))))))
   [some (.sh z),some (.sh J),some (.sh n),some (.sh I),some (.sh (.str w)),some (.sh o),some (.sh f),some (.sh (.int A)),some (.sh (.int H)),some (.sh (.int L)),some (.sh t),some (.sh (.int P))]=some (.rt (cD c),e'):=by
 have sn:=sne;have s2:(("back" : Str) = "put")=False/\(("back" : Str) = "tell")=False/\(("back" : Str) = "go")=False/\(("dry" : Str) = "put")=False/\(("dry" : Str) = "tell")=False/\(("dry" : Str) = "go")=False:=by
  refine⟨?_,?_,?_,?_,?_,?_⟩ <;> exact eq_false (by decide)
 rcases R with rfl | rfl | rfl | rfl | rfl
 ·exact⟨.d (.put A H L),_,by simp[cD,dD];rfl⟩
 ·exact⟨.d (.tell A P L),_,by simp[cD,dD,sn];rfl⟩
 ·exact⟨.d (.go A),_,by simp[cD,dD,sn];rfl⟩
 ·exact⟨.d .dry,_,by simp[cD,dD,sn,s2];rfl⟩
 ·exact⟨.back,_,by simp[cD,dD,sn,s2];rfl⟩
def Res(r:Option (Fl×DE0)):Prop:=∃c e',r=some (.rt (cD c),e')
def setR(h:F e=some (v,e))(k:Res (g (e.set i (some (.sh v))))):Res (sSeq (sSet i F) g e):=by
 rw[show sSeq (sSet i F) g e=g (e.set i (some (.sh v))) by simp[h]];exact k
def ifR{c:FT}(D:c e=some (b,e))(I:e[i]?=some (some (.sh (.int v0))))(J:b=true->∃v:Int,F e=some (.int v,e))(k:∀v:Int,Res (g (e.set i (some (.sh (.int v)))))):Res (sSeq (sIf c (sSet i F) sNil) g e):=by
 obtain⟨v,R⟩:=ifx D I J;rw[show sSeq (sIf c (sSet i F) sNil) g e=g (e.set i (some (.sh (.int v)))) by simp only[sSeq,R,ac]];exact k v
def seqR{f:FS}{D:DE0}(h:f e=some (.nx,D))(k:Res (g D)):Res (sSeq f g e):=by
 rw[show sSeq f g e=g D by simp[h]];exact k
theorem z0y(z:Int)(ss:mv):∃c,y0 [.int z,ssL ss]=some (cD c):=by
 suffices R:Res (zlm [some (.sh (.int z)),some (.sh (ssL ss)),none,none,none,none,none,none,none,none,none,none]) from let ⟨c,_,R⟩:=R;⟨c,je rfl R⟩;obtain⟨w,f,g⟩:=ixW z;have S:=uy z 12 (by decide);have U:=qc z 12 (by decide);have J:dPow (.int 10) (.int 12)=some (.int 1000000000000):=rfl;refine setR (v:=.int (ss.length:Int)) (by unfold ssL;simp) ?_;refine setR (v:=.lst [.str "put",.str "put",.str "tell",.str "dry",.str "put",.str "go",.str "put",.str "put",.str "back",.str "tell",.str "put",.str "dry"]) rfl ?_;refine setR (v:=.str w) (by simp[U,f]) ?_;refine setR (v:=.int (z / 12 % 16)) (by simp[S,qc]) ?_;refine setR (v:=.int (z / 192)) (by simp[uy]) ?_;generalize z / 12 % 16=O at *;generalize z / 192=F at *;have Y:∀(x:Int) (t:Int),∃v:Int,(match D.int x,D.int (if 1 > t then 1 else t) with | .int i,.int j=>dMod (.int i) (.int j) | _,_=>none)=some (.int v):=λx t=>⟨_,qc x _ (by split <;> lia)⟩;obtain⟨Z,k⟩:=Y F ss.length;refine setR (v:=.int (1+Z)) (by simp[k]) ?_;refine setR (v:=.int (F / 5)) (by simp[uy]) ?_;simp only[aq,av];generalize F / 5=G at *;refine ifR (b:=decide (O=5) || decide ((ss.length:Int)=0)) (v0:=1+Z) (by by_cases q:O=5 <;> simp[q]) rfl (λ_=>?_) λA=>?_
 ·obtain⟨v,I⟩:=ix4 0 (ss.length+1) (-1) 1000000000000 G
  exact⟨v,by simp only[fBin,fLst,fo,au,fNil,fC,fVar,fUn,dNeg,gz,J,qc G 4 (by decide),I,ae,af,ac,ai,ak,bu,show 0+1+1+1+1<=64 by decide,if_true]⟩
 refine setR (v:=.int (1+G % 60)) (by simp[qc]) ?_;simp only[aq,av];refine ifR (b:=decide (O=6)) (v0:=1+G % 60) (by simp) rfl (λ_=>?_) λH=>?_
 ·obtain⟨v,I⟩:=ix4 0 61 (-1) 1000000000000 G
  exact⟨v,by simp only[fBin,fLst,fo,au,fNil,fC,fVar,fUn,dNeg,J,qc G 4 (by decide),I,ae,af,ac,ai,ak,bu,show 0+1+1+1+1<=64 by decide,if_true]⟩
 refine setR (v:=.int (G / 60 % 101)) (by simp[qc,uy]) ?_;generalize G / 60 % 101=L at *;obtain⟨H2,V,h2⟩:∃H2 V:Int,sIf (fTst (fBin dGt (fVar 5) (fC (.int 9)))) (sSeq (sSet 8 (fBin gz (fC (.int 1)) (fBin dMod (fVar 8) (fC (.int 3))))) (sSet 9 (fBin dMod (fVar 9) (fC (.int 4))))) sNil [some (.sh (.int z)),some (.sh (ssL ss)),some (.sh (.int (ss.length:Int))),some (.sh (.lst [.str "put",.str "put",.str "tell",.str "dry",.str "put",.str "go",.str "put",.str "put",.str "back",.str "tell",.str "put",.str "dry"])),some (.sh (.str w)),some (.sh (.int O)),some (.sh (.int G)),some (.sh (.int A)),some (.sh (.int H)),some (.sh (.int L)),none,none]=some (.nx,[some (.sh (.int z)),some (.sh (ssL ss)),some (.sh (.int (ss.length:Int))),some (.sh (.lst [.str "put",.str "put",.str "tell",.str "dry",.str "put",.str "go",.str "put",.str "put",.str "back",.str "tell",.str "put",.str "dry"])),some (.sh (.str w)),some (.sh (.int O)),some (.sh (.int G)),some (.sh (.int A)),some (.sh (.int H2)),some (.sh (.int V)),none,none]):=by
  by_cases q:9<O
  ·exact⟨1+H % 3,L % 4,by simp[q,qc]⟩
  ·exact⟨H,L,by simp[q]⟩
 refine seqR h2 ?_;refine ifR (b:=decide (O=7)) (v0:=V) (by simp) rfl (λ_=>?_) λn=>?_
 ·obtain⟨v,I⟩:=ix4 (-1) 101 (-1000000000000) 1000000000000 (G / 60)
  exact⟨v,by simp only[fBin,fLst,fo,au,fNil,fC,fVar,fUn,dNeg,J,uy G 60 (by decide),qc (G / 60) 4 (by decide),I,ae,af,ac,ai,ak,bu,show 0+1+1+1+1<=64 by decide,if_true]⟩
 refine ifR (b:=decide (1<=A) && decide (A<=(ss.length:Int))) (v0:=0) (by by_cases q:1<=A <;> simp[q]) rfl (λq=>?_) λT=>?_
 ·simp only[dr,decide_eq_true_eq] at q
  have d:=qd (a:=A.toNat) (uf (ss:=ss) (a:=A) (by lia)) (by lia);rw[show((A.toNat:Nat):Int)=A by lia] at d;exact⟨_,by unfold ssL at *;simp[d];rfl⟩
 obtain⟨e,m⟩:=Y (G / 6060) T;refine setR (v:=.int (1+e)) (by simp[uy G 6060 (by decide),m]) ?_;simp only[aq,av];refine ifR (b:=decide (O=8)) (v0:=1+e) (by simp) rfl (λ_=>?_) λP=>?_
 ·obtain⟨v,I⟩:=ix4 0 (T+1) (-1) 1000000000000 (G / 6060)
  exact⟨v,by simp only[fBin,fLst,fo,au,fNil,fC,fVar,fUn,dNeg,gz,J,uy G 6060 (by decide),qc (G / 6060) 4 (by decide),I,ae,af,ac,ai,ak,bu,show 0+1+1+1+1<=64 by decide,if_true]⟩
 exact zu4 (z:=.int z) (h:=.non) (l:=.non) (a:=.non) (p:=.non) g
variable{F:FA}{l':Option Nat}
def z0z{J I:ll}{d:D}(S:i≠j)(h:e[i]?=some (some (.ag κ l ps)))(h':e[j]?=some (some (.ag κ' l' J)))(U:F e=some (ds,e))(V:m [(κ,ps),(κ',J)] ds=some (d,[(κ,ps'),(κ',I)])) :
  j9 m [i,j] F e=some (d,(e.set i (some (.ag κ l ps'))).set j (some (.ag κ' l' I))):=by
 unfold j9;rw[if_pos (show aggs e [i,j] from λk R=>by
  simp at R;rcases R with rfl | rfl
  ·exact⟨_,h⟩
  ·exact⟨_,h'⟩),U]
 have Y:(e.set i (some (.ag κ l ps')))[j]?=some (some (.ag κ' l' J)):=by rw[db S];exact h'
 simp[getA,h,h',V,putA,Y]
theorem zu5(cs:ik)(a b:kf):∃I:ik,cutD (cs.map D.int) a b=I.map D.int/\I.length<=cs.length:=by
 unfold cutD;rw[<-List.map_drop,<-List.map_take];exact⟨_,rfl,by simp only[dm,em];lia⟩
def z00(a:FS):sSeq a sNil=a:=by
 funext e;simp;cases a e with
 | none=>rfl
 | some r=>obtain⟨fl,D⟩:=r;cases fl <;> rfl
abbrev EL(A B C:ln)(k:nb)(p:nq)(s:Hs)(r:DE0):DE0:=A::B::C::some (.ag kH none (hP k (p++[s])))::some (.ag .ls none (stP k p s))::r
def bDo(x:Nat)(R:FS):FS:=sSeq (sIf (fNot (fTst (j9 sw [3,4] (au (dw y0 (au (fVar x) (au (fDat 4 0) fNil))) fNil)))) (sRet (fC (.bl false))) sNil) R
def z5t(I:i≠j)(hi:HI n k p s)(h:e[i]?=some (some (.ag kH l (hP k (p++[s])))))(h':e[j]?=some (some (.ag .ls l' (stP k p s))))(J:F e=some ([cD c],e)) :
  ∃k' p' s',HI n k' p' s'/\j9 sw [i,j] F e=some (.bl true,(e.set i (some (.ag kH l (hP k' (p'++[s']))))).set j (some (.ag .ls l' (stP k' p' s'))))/\Mv k p s c k' p' s':=by
 obtain⟨k',p',s',D,R,S⟩:=z5s c hi;exact⟨k',p',s',D,z0z I h h' J R,S⟩
theorem Mv.len{k':nb}{p':nq}(h:Mv k p s c k' p' s'):k'.length<=k.length+1:=by
 unfold Mv at h;split at h
 ·rw[h.1];lia
 ·cases c with
  | back=>obtain⟨d,e,_⟩:=h;rw[e];simp;lia
  | d d=>rw[h.1];simp
theorem zro{A B C:ln}{r:DE0}{n:Nat}:∀(I:ik) (k:nb) (p:nq) (s:Hs) (v:ln),HI n k p s ->
  ∃k' p' s' R,HI n k' p' s'/\k'.length<=k.length+I.length/\forL 5 (bDo 5 sNil) (I.map D.int) (EL A B C k p s (v::r))=some (.nx,EL A B C k' p' s' (R::r))
 | [],k,p,s,v,hi=>⟨k,p,s,v,hi,by simp,rfl⟩
 | z::I,k,p,s,v,hi=>by
   obtain⟨c,S⟩:=z0y z s.1;have U:fDat 4 0 (EL A B C k p s (some (.sh (.int z))::r))=some (ssL s.1,EL A B C k p s (some (.sh (.int z))::r)):=rfl;obtain⟨k1,p1,J,h1,V,Y⟩:=z5t (e:=EL A B C k p s (some (.sh (.int z))::r)) (i:=3) (j:=4) (c:=c) (F:=au (dw y0 (au (fVar 5) (au (fDat 4 0) fNil))) fNil) (by decide) hi rfl rfl (by simp only[au,dw,fVar,fNil,U,S,ae,af,ac,ai]);obtain⟨k2,p2,s2,v2,h2,b,Z⟩:=zro (A:=A) (B:=B) (C:=C) (r:=r) I k1 p1 J (some (.sh (.int z))) h1;have:=Y.len;refine⟨k2,p2,s2,v2,h2,by rw[ak];lia,?_⟩;have a:bDo 5 sNil (EL A B C k p s (some (.sh (.int z))::r))=some (.nx,EL A B C k1 p1 J (some (.sh (.int z))::r)):=by
    simp only[bDo,sSeq,sIf,fNot,fTst,V,ac,ai,ja,bj,if_false,sNil];rfl
   rw[cf,forL,show(EL A B C k p s (v::r)).set 5 (some (.sh (.int z)))=EL A B C k p s (some (.sh (.int z))::r) from rfl,a];exact Z
def flat(ts:mx):mu:=(ts.map (·.2)).flatten
end LB
namespace SQ
open PySem L2 LB
def zmb:FS:=sRet (dw bSum (au (fLst (gv (fiS (fVar 0)) [] fYes (h9 0))) (fNil)))
def zil:k9->la:=runD 1 1 zmb
def b__law_good_run_0:FS:=sSeq (sSet 4 (fBin gz (fVar 4) (fIxV 6 (fC (.int 1))))) (sSeq (sSet 5 (fBin gz (fVar 5) (fIxV 6 (fC (.int 2))))) (sIf (fTst (fBin dGt (fBin dMul (fVar 5) (fVar 2)) (fBin dMul (fVar 3) (fVar 4)))) (sRet (fC (.bl false))) (sNil)))
def s__law_good_run:FS:=sSeq (sSet 2 (dw bSum (au (fLst (gv (fiS (fVar 1)) [] fYes (fIxV 0 (fC (.int 1))))) (fNil)))) (sSeq (sSet 3 (dw bSum (au (fLst (gv (fiS (fVar 1)) [] fYes (fIxV 0 (fC (.int 2))))) (fNil)))) (sSeq (sIf (fNot (fTst (dw rd (au (fVar 0) (au (fTup (au (h9 1) (au (fVar 2) (au (fVar 3) (fNil))))) (fNil)))))) (sRet (fC (.bl false))) (sNil)) (sSeq (sSet 4 (fC (.int 0))) (sSeq (sSet 5 (fC (.int 0))) (sSeq (sFor 6 (fiS (fVar 1)) (b__law_good_run_0)) (sRet (fC (.bl true))))))))
def m__law_good_run:k9->la:=runD 7 2 s__law_good_run
def zei:FS:=sSeq (sIf (fOr (fNot (fTst (fIsi "tuple" (fIxV 1 (fVar 3))))) (fOr (fTst (fBin dNe (dw bLen (au (fIxV 1 (fVar 3)) (fNil))) (fC (.int 3)))) (fNot (fTst (dw qx (au (fBin dIx (fIxV 1 (fVar 3)) (fC (.int 0))) (fNil))))))) (sRet (fC (.bl false))) (sNil)) (sSeq (sSet 4 (fBin dIx (fIxV 1 (fVar 3)) (fC (.int 0)))) (sSeq (sIf (fOr (fTst (fBin dLt (fVar 4) (fC (.int 1)))) (fTst (fBin dGt (fBin gz (fVar 2) (fVar 4)) (h9 0)))) (sRet (fC (.bl false))) (sNil)) (sSeq (sIf (fNot (fTst (dw m__law_good_run (au (fIxV 1 (fVar 3)) (au (fLst (fSl (fVar 0) (fO1 (fVar 2)) (fO1 (fBin gz (fVar 2) (fVar 4))))) (fNil)))))) (sRet (fC (.bl false))) (sNil)) (sSeq (sIf (fAnd (fTst (fBin dGt (fVar 3) (fC (.int 0)))) (fNot (fTst (dw zfs (au (fIxV 1 (fVar 3)) (au (fIxV 1 (fBin dSub (fVar 3) (fC (.int 1)))) (fNil))))))) (sRet (fC (.bl false))) (sNil)) (sSet 2 (fBin gz (fVar 2) (fVar 4)))))))
def zhp:FS:=sSeq (sSet 1 (dw zey (au (fLst (i3 pj (au (fVar 0) (fNil)))) (fNil)))) (sSeq (sIf (fNot (fTst (fIsi "list" (fVar 1)))) (sRet (fC (.bl false))) (sNil)) (sSeq (sSet 2 (fC (.int 0))) (sSeq (sFor 3 (i3 iR1 (au (h9 1) (fNil))) (zei)) (sRet (fBin dEq (fVar 2) (h9 0))))))
def zhq:k9->la:=runD 5 1 zhp
def zfm:FS:=sSeq (sSet 4 (fIxV 0 (fVar 3))) (sSeq (sIf (fOr (fNot (fTst (fIsi "tuple" (fVar 4)))) (fOr (fTst (fBin dNe (h9 4) (fC (.int 6)))) (fOr (fNot (fTst (dw qx (au (fIxV 4 (fC (.int 0))) (fNil))))) (fNot (fTst (dw qx (au (fIxV 4 (fC (.int 1))) (fNil)))))))) (sRet (fC (.bl false))) (sNil)) (sSeq (sSet 5 (fIxV 4 (fC (.int 0)))) (sSeq (sIf (fOr (fTst (fBin dLt (fVar 5) (fC (.int 1)))) (fOr (fTst (fBin dGt (fVar 5) (h9 1))) (fOr (fTst (fBin dLt (fIxV 4 (fC (.int 1))) (fC (.int 1)))) (fTst (fBin dGt (fIxV 4 (fC (.int 1))) (dw bLen (au (fIxV 2 (fBin dSub (fVar 5) (fC (.int 1)))) (fNil)))))))) (sRet (fC (.bl false))) (sNil)) (sSeq (sIf (fNot (fTst (dw m__law_good_run (au (fSlT (fVar 4) (fO1 (fC (.int 1))) (fO1 (fC (.int 4)))) (au (fLst (fSl (fIxV 2 (fBin dSub (fVar 5) (fC (.int 1)))) (fO0) (fO1 (fIxV 4 (fC (.int 1)))))) (fNil)))))) (sRet (fC (.bl false))) (sNil)) (sSeq (va 2 (fBin dSub (fVar 5) (fC (.int 1))) (fLst (fSl (fIxV 2 (fBin dSub (fVar 5) (fC (.int 1)))) (fO1 (fIxV 4 (fC (.int 1)))) (fO0)))) (sIf (fTst (fBin dGt (fVar 3) (fC (.int 0)))) (sSeq (sSet 6 (fBin dSub (fBin dMul (fBin dIx (fIxV 0 (fBin dSub (fVar 3) (fC (.int 1)))) (fC (.int 3))) (fIxV 4 (fC (.int 2)))) (fBin dMul (fIxV 4 (fC (.int 3))) (fBin dIx (fIxV 0 (fBin dSub (fVar 3) (fC (.int 1)))) (fC (.int 2)))))) (sIf (fOr (fTst (fBin dLt (fVar 6) (fC (.int 0)))) (fAnd (fTst (fBin dEq (fVar 6) (fC (.int 0)))) (fTst (fBin dGe (fBin dIx (fIxV 0 (fBin dSub (fVar 3) (fC (.int 1)))) (fC (.int 0))) (fVar 5))))) (sRet (fC (.bl false))) (sNil))) (sNil)))))))
def ziy:FS:=sSeq (sOwn 2 (i3 zi5 (au (fVar 1) (fNil)))) (sSeq (sFor 3 (i3 iR1 (au (h9 0) (fNil))) (zfm)) (sRet (fBin dEq (dw zil (au (fVar 2) (fNil))) (fC (.int 0)))))
def zgx:k9->la:=runD 7 2 ziy
def zu6:FS:=sIf (fNot (fTst (j9 sw [3,4] (au (dw y0 (au (fVar 5) (au (fDat 4 0) (fNil)))) (fNil))))) (sRet (fC (.bl false))) (sNil)
def znm:FS:=sIf (fNot (fTst (dw zhq (au (fVar 6) (fNil))))) (sRet (fC (.bl false))) (sNil)
def znn:FS:=sSet 8 (fLst (fCat (fVar 8) (fLst (fRep (fo (au (fIxV 9 (fC (.int 0))) (fNil))) (fIxV 9 (fC (.int 1)))))))
def z4a:FS:=sSeq (sSet 1 (dw zc (au (fVar 0) (au (fC (.int 61)) (fNil))))) (sSeq (sSet 2 (dw zhk (au (fIxV 1 (fC (.int 0))) (fNil)))) (sSeq (yb 3 (yh "House" zu (au (fVar 2) (fNil)))) (sSeq (yb 4 (zq0 zhl (au (fVar 2) (fNil)))) (sSeq (sFor 5 (fiS (dw zia (au (fLst (fSl (fVar 1) (fO1 (fC (.int 1))) (fO1 (fBin dSub (fC (.int 61)) (fBin dMod (fBin dDiv (fIxV 1 (fC (.int 0))) (fC (.int 12))) (fC (.int 61))))))) (fNil)))) (zu6)) (sSeq (sFor 6 (fiS (fDat 4 0)) (znm)) (sSeq (sSet 7 (fK (.ins false "House" il) 3 (iy y8 [3] (fNil)))) (sSeq (sIf (fOr (fNot (fTst (fIsi "list" (fVar 7)))) (fNot (fTst (dw zgx (au (fVar 7) (au (fDat 4 0) (fNil))))))) (sRet (fC (.bl false))) (sNil)) (sSeq (sSet 8 (fLst (fo (fNil)))) (sSeq (sFor 9 (fiS (fVar 7)) (znn)) (sRet (dw zcl (au (fK (.ins false "House" il) 3 (iy zn [3] (fNil))) (au (fVar 8) (fNil))))))))))))))
def z4b:k9->la:=runD 10 1 z4a
end SQ
namespace SQ
open PySem L2 LB PyProof.Rows
def top(i:Nat):Stmt:=PySem.Challenge.pw_rotstacks_k32_whole_blocks.main.body.getD i (.Pass ⟨0,0,0,0⟩)
def mth(j:Nat):Stmt:=match top 62 with | .ClassDef _ _ _ b _ _ _ _ _ _ _=>b.getD j (.Pass ⟨0,0,0,0⟩) | _=>.Pass ⟨0,0,0,0⟩
local macro_rules | `(tactic| walk_at "g") => `(tactic| first | exact gl_d (by kernel_rfl) | exact gl_c (by kernel_rfl) | exact gl_p (by kernel_rfl))
local macro_rules | `(tactic| exists $t:term) => `(tactic| as_aux_lemma => exact $t)
local macro_rules | `(tactic| walk_at "b") => `(tactic| exact ⟨by walk_at "g", by assumption⟩)
def ok_all{P:Program}{w:World}{K:k4}{mg:Str->h8}{C:Addr}(T2:Def K mg (top 2) "sack_number" ["sack"])(T3:Def K mg (top 3) "sack_hours" ["sack"])(T4:Def K mg (top 4) "sack_loss" ["sack"])(T5:Def K mg (top 5) "sacks_in_all" ["stacks"])(T6:Def K mg (top 6) "loss_in_all" ["stacks"])(T7:Def K mg (top 7) "top_sack" ["stacks", "at"])(T8:Def K mg (top 8) "with_stack" ["stacks", "at", "stack"])(T9:Def K mg (top 9) "without_top" ["stacks", "at"])(b5:Def K mg (top 11) "share_gap" ["one", "other"])(ca:Def K mg (top 12) "share_sign" ["one", "other"])(cc:Def K mg (top 13) "single_block" ["sack"])(cd:Def K mg (top 14) "joined_block" ["upper", "lower"])(ch:Def K mg (top 15) "block_share" ["block"])(ck:Def K mg (top 16) "has_greater_share" ["upper", "lower"])(cl:Def K mg (top 17) "stack_blocks" ["stack"])(cm:Def K mg (top 34) "turn_share" ["turn"])(cn:Def K mg (top 35) "place_of_turn" ["turns", "turn"])(co:Def K mg (top 36) "block_turns" ["stacks"])(cp:Def K mg (top 37) "turn_sacks" ["stacks", "turns"])(ct:Def K mg (top 38) "told_order" ["stacks"])(cu:Def K mg (top 39) "check_known" ["stacks", "at"])(cv:Def K mg (top 41) "hours_gone" ["stretches"])(c0:Def K mg (top 43) "block_debts" ["share", "sacks"])(c1:Def K mg (top 44) "turn_fall" ["turns", "place"])(da:Def K mg (top 45) "why_least" ["stacks"])(dd:Def K mg (top 52) "check_count" ["many"])(dj:Def K mg (top 53) "check_hours" ["hours"])(dk:Def K mg (top 54) "check_loss" ["loss"])(dp:Def K mg (top 55) "check_room" ["stacks"])(ds:Def K mg (top 56) "check_lies" ["stacks", "at"])(dt:Def K mg (top 57) "check_place" ["stack", "place"])(dv:Def K mg (top 58) "check_waits" ["stacks"])(dx:Def K mg (top 59) "check_deeds" ["deeds"])(d0:Def K mg (top 60) "next_number" ["deeds"])(d1:Def K mg (top 61) "told_anew" ["sack", "loss"])(Q:Mef K C (mth 0) "__init__" "House.__init__" ["self", "many"])(T:Mef K C (mth 1) "piles" "House.piles" ["self"])(X:Mef K C (mth 2) "spans" "House.spans" ["self"])(aa:Mef K C (mth 3) "keep" "House.keep" ["self", "deed", "piles", "spans"])(ab:Mef K C (mth 4) "put" "House.put" ["self", "at", "hours", "loss"])(ag:Mef K C (mth 5) "tell" "House.tell" ["self", "at", "place", "loss"])(al:Mef K C (mth 6) "go" "House.go" ["self", "at"])(an:Mef K C (mth 8) "back" "House.back" ["self"])(ap:Mef K C (mth 11) "hour" "House.hour" ["self"])(ar:Mef K C (mth 7) "dry" "House.dry" ["self"])(a0:Mef K C (mth 12) "order" "House.order" ["self"])(a1:Mef K C (mth 15) "why" "House.why" ["self"])(d2:Def K mg (top 64) "_law_whole" ["_law_found"])(d3:Def K mg (top 65) "_law_at" ["_law_script", "_law_k"])(ea:Def K mg (top 66) "_law_draws" ["_law_script", "_law_many_here"])(eb:Def K mg (top 67) "_law_best" ["_law_sacks"])(ec:Def K mg (top 68) "_law_turns" ["_law_stacks"])(ed:Def K mg (top 69) "_law_same_row" ["_law_found", "_law_due"])(ee:Def K mg (top 70) "_law_same_numbers" ["_law_found", "_law_due"])(ef:Def K mg (top 71) "_law_copy" ["_law_stacks"])(ej:Def K mg (top 72) "_law_kind" ["_law_error"])(el:Def K mg (top 73) "_law_deed" ["_law_cell", "_law_piles"])(en:Def K mg (top 74) "_law_refusal" ["_law_piles", "_law_kept", "_law_deed_here"])(eo:Def K mg (top 75) "_law_ask" ["_law_house", "_law_deed_here"])(ep:Def K mg (top 76) "_law_call" ["_law_house", "_law_deed_here"])(er:Def K mg (top 77) "_law_step" ["_law_piles", "_law_deed_here", "_law_number"])(es:Def K mg (top 78) "_law_rate" ["_law_piles"])(et:Def K mg (top 79) "_law_same_answer" ["_law_found", "_law_due"])(eu:Def K mg (top 80) "_law_many" ["_law_header"])(ev:Def K mg (top 81) "_law_rates" ["_law_dried"])(ew:Def K mg (top 82) "_law_do" ["_law_house", "_law_state", "_law_deed_here"])(ex:Def K mg (top 83) "_law_new" ["_law_many_here"])(ey:Def K mg (top 84) "_law_sum" ["_law_piles"])(ez:Def K mg (top 85) "_law_cells" ["_law_cells_here"])(e0:Def K mg (top 86) "_law_good_run" ["_law_row", "_law_sacks"])(e1:Def K mg (top 87) "_law_lesser" ["_law_block", "_law_ahead"])(e2:Def K mg (top 88) "_law_parted" ["_law_pile"])(e3:Def K mg (top 89) "_law_in_turn" ["_law_rows", "_law_piles"])(x:Cl K "House" C)(cs:Cls K C)(mC:mg "House" = some (.ref C))(kC:PySem.W.makesIn K C=true)(pC:PySem.W.keepIn K (.ref C)=true)(a2:PySem.W.findIn K (.ref C) "kept" = some none)(G:PySem.W.findIn K (.ref C) "states" = some none)(m:Exc K mg "BadCount")(o:Exc K mg "BadHours")(q:Exc K mg "BadLoss")(k:Exc K mg "DeedsFull")(j:Exc K mg "EmptyStack")(l:Exc K mg "HouseFull")(i:Exc K mg "NothingDone")(c:Exc K mg "NothingWaits")(d:Exc K mg "UnknownPlace")(e:Exc K mg "UnknownStack")(V:∃t,mg "MOST_DEEDS" = some (.int 60 t))(Y:∃t,mg "MOST_HOURS" = some (.int 60 t))(Z:∃t,mg "MOST_LOSS" = some (.int 100 t))(S:∃t,mg "MOST_STACKS" = some (.int 5 t))(R:∃t,mg "MOST_WAITING" = some (.int 14 t))(s:KFacts K mg)(N:mg "ValueError" = none)(b3:mg "bool" = none)(a3:mg "enumerate" = none)(e4:mg "int" = none)(O:mg "isinstance" = none)(e5:mg "len" = none)(b4:mg "list" = none)(e6:mg "max" = none)(bd:mg "range" = none)(e8:mg "str" = none)(e9:mg "sum" = none)(be:mg "tuple" = none):∀base f fd,Fun K "law" "law" (top 90) f fd->FnOk P w K mg base CX0 11 f fd ["_law_script"] (dSp K z4b):=by
 intro base;have D:Atr K "House" "kept":=⟨C,cs,a2,x⟩;have J:Atr K "House" "states":=⟨C,cs,G,x⟩;have c2:Cal P w K mg base CX0 "sack_number" 1 (dSp K zjp):=by exists iw T2 ["sack"] λr a t=>dq (e7 (dz b8 a))
 have c3:Cal P w K mg base CX0 "sack_hours" 1 (dSp K vt):=by exists iw T3 ["sack"] λr a t=>dq (e7 (dz b8 a))
 have c4:Cal P w K mg base CX0 "sack_loss" 1 (dSp K vo):=by exists iw T4 ["sack"] λr a t=>dq (e7 (dz b8 a))
 have c5:Cal P w K mg base CX0 "sacks_in_all" 1 (dSp K ze2):=by exists iw T5 ["stacks"] λr a t=>dq (e7 (qj (bh (fq (o8 a (j8 (bf a)) (λ_ _ _ _ _ _ _ a=>js a))) cw)))
 have c6:Cal P w K mg base CX0 "loss_in_all" 2 (dSp K zhd):=by exists iw T6 ["stacks", "total", "stack"] λr a t=>de (fb t b8) (de (m3 (j8 (bf a)) t.pg (dq (zms t (qj (bh (fq (o8 a (j8 (bf a)) (λ_ _ _ _ _ _ _ a=>fy c4 r (bh (bf a) cw)))) cw))))) (dq (e7 (bf a))))
 have c7:Cal P w K mg base CX0 "top_sack" 1 (dSp K zig):=by exists iw T7 ["stacks", "at"] λr a t=>dq (e7 (jw (dz (jz (bf a) b8) a) b8))
 have c8:Cal P w K mg base CX0 "with_stack" 1 (dSp K xo):=by exists iw T8 ["stacks", "at", "stack"] λr a t=>dq (e7 (fq (l6 (fq (l6 (fq (nt (bf a) qo (ma (jz (bf a) b8)))) (fq (ig (bh (bf a) cw))))) (fq (nt (bf a) (ma (bf a)) qo)))))
 have c9:Cal P w K mg base CX0 "without_top" 2 (dSp K zft):=by exists iw T9 ["stacks", "at"] λr a t=>dq (e7 (fy c8 r (bh (bf a) (bh (bf a) (bh (fq (nt (dz (jz (bf a) b8) a) (ma b8) qo)) cw)))))
 have bb:Cal P w K mg base CX0 "share_gap" 1 (dSp K xl):=by exists iw b5 ["one", "other"] λr a t=>dq (e7 (jz (m8 (dz b8 a) (dz b8 a)) (m8 (dz b8 a) (dz b8 a))))
 have bk:Cal P w K mg base CX0 "share_sign" 2 (dSp K tu):=by exists iw ca ["one", "other", "gap"] λr a t=>de (fb t (fy bb r (bh (bf a) (bh (bf a) cw)))) (de (f6 (lm (bf a) b8) (dq (e7 b8)) f8) (de (f6 (mj (bf a) b8) (dq (e7 (qk b8))) f8) (dq (e7 b8))))
 have fa:Cal P w K mg base CX0 "single_block" 2 (dSp K zew):=by exists iw cc ["sack"] λr a t=>dq (e7 (j3 (bh b8 (bh (fy c3 r (bh (bf a) cw)) (bh (fy c4 r (bh (bf a) cw)) cw)))))
 have fh:Cal P w K mg base CX0 "joined_block" 1 (dSp K zex):=by exists iw cd ["upper", "lower"] λr a t=>dq (e7 (j3 (bh (jx (dz b8 a) (dz b8 a)) (bh (jx (dz b8 a) (dz b8 a)) (bh (jx (dz b8 a) (dz b8 a)) cw)))))
 have bl:Cal P w K mg base CX0 "block_share" 1 (dSp K zt):=by exists iw ch ["block"] λr a t=>dq (e7 (j3 (bh (dz b8 a) (bh (dz b8 a) cw))))
 have fi:Cal P w K mg base CX0 "has_greater_share" 3 (dSp K tw):=by exists iw ck ["upper", "lower"] λr a t=>dq (e7 (z4x (fy bk r (bh (fy bl r (bh (bf a) cw)) (bh (fy bl r (bh (bf a) cw)) cw))) b8))
 have bm:Cal P w K mg base CX0 "stack_blocks" 4 (dSp K zey):=by exists iw cl ["stack", "blocks", "sack", "block"] λr a t=>de (o5 (t.psF (ig cw))) (de (m3 (j8 (bf a)) t.pg (de (fb t (fy fa r (bh (bf a) cw))) (de (zmo (dt_w (n6 (lm (js a) b8) (og (lq (km (fy fi r (bh (dz (qk b8) a) (bh (bf a) cw)))))))) (dq (fb t (fy fh r (bh (z2y a) (bh (bf a) cw)))))) (dq (jf (sy (bf a) a)))))) (dq (e7 (bf a))))
 have M:Cal P w K mg base CX0 "turn_share" 1 (dSp K qw):=by exists iw cm ["turn"] λr a t=>dq (e7 (j3 (bh (dz b8 a) (bh (dz b8 a) cw))))
 have fk:Cal P w K mg base CX0 "place_of_turn" 3 (dSp K zf6):=by exists iw cn ["turns", "turn", "place"] λr a t=>de (fb t b8) (de (zmo (dt_w (n6 (mj (bf a) (js a)) (og (u5 (fy bk r (bh (fy M r (bh (dz (bf a) a) cw)) (bh (fy M r (bh (bf a) cw)) cw))) b8)))) (dq (zms t b8))) (dq (e7 (bf a))))
 have bo:Cal P w K mg base CX0 "block_turns" 5 (dSp K x3):=by exists iw co ["stacks", "turns", "at", "stack", "many", "hours", "loss", "turn"] λr a t=>de (o5 (t.psF (ig cw))) (de (zpi (zv6 (bh (bf a) cw)) (lf t (lf t u9)) (dq (zmr (j8 (fy bm r (bh (bf a) cw))) (lf t (lf t (lf t u9))) (de (fb t (j3 (bh (bf a) (bh (bf a) (bh (bf a) (bh (bf a) cw)))))) (dq (jf (ztp (zwb fk r (zzt (z47 (bh (bf a) cw)) a)) (bf a) a))))))) (dq (e7 (bf a))))
 have fl:Cal P w K mg base CX0 "turn_sacks" 1 (dSp K zh2):=by exists iw cp ["stacks", "turns", "taken", "sacks", "at", "many", "hours", "loss", "begin"] λr a t=>de (o5 (zqq a t (j8 (bf a)) (λ_ _ _ _ _ _ _ a=>b8))) (de (o5 (t.psF (ig cw))) (de (zmr (j8 (bf a)) (lf t (lf t (lf t (lf t u9)))) (de (fb t (dz (jz (bf a) b8) a)) (de (zmp (jz (bf a) b8) (jx (bf a) (bf a)) a) (dq (jf (sy (fq (nt (dz (jz (bf a) b8) a) (ma (bf a)) (ma (jx (bf a) (bf a))))) a)))))) (dq (e7 (bf a)))))
 have bp:Cal P w K mg base CX0 "told_order" 6 (fSp K xp):=by exists z3h ct ["stacks", "order", "at", "many", "hours", "loss"] λr a t=>de (o5 (t.psF (ig cw))) (de (zmr (j8 (fy bo r (bh (bf a) cw))) (lf t (lf t (lf t (lf t u9)))) (dq (jf (ztu (ztq (ig (bh (bf a) cw)) (bf a)) a)))) (dq (zze a)))
 have H:Cal P w K mg base (CXr P w) "check_known" 1 (qSp K xw ur):=by exists rj cu ["stacks", "at"] λr a t=>dq (f6 (dt_w (kj (mj (bf a) b8) (lu (lm (bf a) (js a))))) (dq (qu e zqx)) f8)
 have fp:Cal P w K mg base CX0 "hours_gone" 1 (dSp K zgk):=by exists iw cv ["stretches"] λr a t=>de (f6 (jd (js a) b8) (dq (e7 b8)) f8) (dq (e7 (jw (dz (qk b8) a) b8)))
 have fr:Cal P w K mg base CX0 "block_debts" 2 (dSp K zg9):=by exists iw c0 ["share", "sacks", "debts", "hours", "loss", "sack"] λr a t=>de (o5 (t.psF (ig cw))) (de (fb t b8) (de (fb t b8) (de (m3 (j8 (fq (nt (bf a) qo (ma (qk b8))))) t.pg (de (zms t (fy c3 r (bh (bf a) cw))) (de (zms t (fy c4 r (bh (bf a) cw))) (dq (jf (sy (fy bb r (bh (bf a) (bh (j3 (bh (bf a) (bh (bf a) cw))) cw))) a)))))) (dq (e7 (bf a))))))
 have fs:Cal P w K mg base CX0 "turn_fall" 2 (dSp K zi7):=by exists iw c1 ["turns", "place"] λr a t=>de (f6 (jd (jx (bf a) b8) (js a)) (dq (e7 b8)) f8) (dq (e7 (fy bb r (bh (fy M r (bh (dz (bf a) a) cw)) (bh (fy M r (bh (dz (jx (bf a) b8) a) cw)) cw)))))
 have fv:Cal P w K mg base CX0 "why_least" 6 (dSp K zhb):=by exists iw da ["stacks", "turns", "rows", "place", "sacks", "turn"] λr a t=>de (fb t (fy bo r (bh (bf a) cw))) (de (o5 (t.psF (ig cw))) (de (zpi (zzo (bh (fy fl r (bh (bf a) (bh (bf a) cw))) cw)) (lf t (lf t u9)) (de (fb t (dz (bf a) a)) (dq (jf (sy (zzr (bf a) (j3 (bh (fy fr r (bh (fy M r (bh (bf a) cw)) (bh (bf a) cw))) (bh (fy fs r (bh (bf a) (bh (bf a) cw))) cw)))) a))))) (dq (e7 (bf a)))))
 have br:Cal P w K mg base (CXr P w) "check_count" 1 (qSp K ze3 ze4):=by exists rj dd ["many"] λr a t=>dq (f6 (dt_w (kj (mj (bf a) b8) (lu (lm (bf a) (qr S))))) (dq (qu m (wx (nc uh (nc (wp (qr S)) (nc uh wy)))))) f8)
 have bs:Cal P w K mg base (CXr P w) "check_hours" 1 (qSp K ze5 xv):=by exists rj dj ["hours"] λr a t=>dq (f6 (dt_w (kj (mj (bf a) b8) (lu (lm (bf a) (qr Y))))) (dq (qu o (wx (nc uh (nc (wp (qr Y)) (nc uh wy)))))) f8)
 have a4:Cal P w K mg base (CXr P w) "check_loss" 1 (qSp K zj vq):=by exists rj dk ["loss"] λr a t=>dq (f6 (dt_w (kj (mj (bf a) b8) (lu (lm (bf a) (qr Z))))) (dq (qu q (wx (nc uh (nc (wp (qr Z)) wy))))) f8)
 have bt:Cal P w K mg base (CXr P w) "check_room" 2 (qSp K zfv x0):=by exists rj dp ["stacks"] λr a t=>dq (f6 (u5 (fy c5 r (bh (bf a) cw)) (qr R)) (dq (qu l (wx (nc (wp (qr R)) (nc uh wy))))) f8)
 have a5:Cal P w K mg base (CXr P w) "check_lies" 1 (qSp K zi vp):=by exists rj ds ["stacks", "at"] λr a t=>dq (f6 (jd (r8 (bh (dz (jz (bf a) b8) a) cw)) b8) (dq (qu j (wx (nc uh (nc (wp (bf a)) wy))))) f8)
 have bv:Cal P w K mg base (CXr P w) "check_place" 1 (qSp K zfb xt):=by exists rj dt ["stack", "place"] λr a t=>dq (f6 (dt_w (kj (mj (bf a) b8) (lu (lm (bf a) (js a))))) (dq (qu d zqx)) f8)
 have b0:Cal P w K mg base (CXr P w) "check_waits" 2 (qSp K ze8 xu):=by exists rj dv ["stacks"] λr a t=>dq (f6 (jd (fy c5 r (bh (bf a) cw)) b8) (dq (qu c zqx)) f8)
 have p:Cal P w K mg base (CXr P w) "check_deeds" 1 (qSp K vy tm):=by exists rj dx ["deeds"] λr a t=>dq (f6 (u5 (js a) (qr V)) (dq (qu k (wx (nc (wp (qr V)) (nc uh wy))))) f8)
 have fw:Cal P w K mg base CX0 "next_number" 1 (dSp K zfw):=by exists iw d0 ["deeds"] λr a t=>dq (e7 (jx b8 (r8 (bh (fq (zoa a (j8 (bf a)) (λ_ _ _ _ _ _ _ a=>jd (dz b8 a) f7) (λ_ _ _ _ _ _ _ a=>bf a))) cw))))
 have f0:Cal P w K mg base CX0 "told_anew" 2 (dSp K zjc):=by exists iw d1 ["sack", "loss"] λr a t=>dq (e7 (j3 (bh (fy c2 r (bh (bf a) cw)) (bh (fy c3 r (bh (bf a) cw)) (bh (bf a) cw)))))
 have a6:KCal P w K mg base "House" 2 (lSp K zu zeq):=by exists z5f x mC kC pC Q ["self", "many"] λr a t=>de (lc (jf (mr br r (jg (bh (bf a) cw)))) (mw (mq br r (jg (bh (bf a) cw))))) (de (zq3 D a (ig cw)) (dq (zq3 J a (ig (bh (j3 (bh (fq (o8 a (td (bh (bf a) cw)) (λ_ _ _ _ _ _ _ a=>fq (ig cw)))) (bh (fq (ig cw)) cw))) cw)))))
 have U:MCal P w K mg base "House" "piles" 1 (qSp K p9 zlt):=by exists yf x cs T ["self"] λr a t=>dq (e7 (jw (zty (vj J a) (zx3 zx2)) b8))
 have b:MCal P w K mg base "House" "spans" 1 (qSp K qz zlu):=by exists yf x cs X ["self"] λr a t=>dq (e7 (jw (zty (vj J a) (zx3 zx2)) b8))
 have g:MCal P w K mg base "House" "keep" 1 (lSp K p8 zne):=by exists we x cs aa ["self", "deed", "piles", "spans"] λr a t=>de (jf (zg4 (vj D a) (bf a))) (dq (jf (zg4 (vj J a) (j3 (bh (bf a) (bh (bf a) cw))))))
 have z:MCal P w K mg base "House" "put" 3 (lSp K za xn):=by exists we x cs ab ["self", "at", "hours", "loss", "piles", "number", "stack"] λr a t=>de (fb t (ng U r a)) (de (lc (jf (mr H r (jg (bh (bf a) (bh (bf a) cw))))) (mw (mq H r (jg (bh (bf a) (bh (bf a) cw)))))) (de (lc (jf (mr bs r (jg (bh (bf a) cw)))) (mw (mq bs r (jg (bh (bf a) cw))))) (de (lc (jf (mr a4 r (jg (bh (bf a) cw)))) (mw (mq a4 r (jg (bh (bf a) cw))))) (de (lc (jf (mr bt r (jg (bh (bf a) cw)))) (mw (mq bt r (jg (bh (bf a) cw))))) (de (lc (jf (ug (λ_ _=>mr p r (jg (bh (su D a) cw))))) (mw (zq1 (λ_ _=>mq p r (jg (bh (su D a) cw)))))) (de (fb t (ug (λ_ _=>fy fw r (bh (su D a) cw)))) (de (fb t (fq (l6 (fq (ig (bh (j3 (bh (bf a) (bh (bf a) (bh (bf a) cw)))) cw))) (dz (jz (bf a) b8) a)))) (de (jf (vm g r (bh (j3 (bh f7 (bh (bf a) (bh (bf a) (bh (bf a) cw))))) (bh (fy c8 r (bh (bf a) (bh (bf a) (bh (bf a) cw)))) (bh (ng b r a) cw))) a)) (dq (e7 (bf a)))))))))))
 have A:MCal P w K mg base "House" "tell" 3 (lSp K zh xz):=by exists we x cs ag ["self", "at", "place", "loss", "piles", "stack", "sack", "changed"] λr a t=>de (fb t (ng U r a)) (de (lc (jf (mr H r (jg (bh (bf a) (bh (bf a) cw))))) (mw (mq H r (jg (bh (bf a) (bh (bf a) cw)))))) (de (lc (jf (mr a5 r (jg (bh (bf a) (bh (bf a) cw))))) (mw (mq a5 r (jg (bh (bf a) (bh (bf a) cw)))))) (de (fb t (dz (jz (bf a) b8) a)) (de (lc (jf (mr bv r (jg (bh (bf a) (bh (bf a) cw))))) (mw (mq bv r (jg (bh (bf a) (bh (bf a) cw)))))) (de (lc (jf (mr a4 r (jg (bh (bf a) cw)))) (mw (mq a4 r (jg (bh (bf a) cw))))) (de (lc (jf (ug (λ_ _=>mr p r (jg (bh (su D a) cw))))) (mw (zq1 (λ_ _=>mq p r (jg (bh (su D a) cw)))))) (de (fb t (dz (jz (bf a) b8) a)) (de (fb t (fq (l6 (fq (l6 (fq (nt (bf a) qo (ma (jz (bf a) b8)))) (fq (ig (bh (fy f0 r (bh (bf a) (bh (bf a) cw))) cw))))) (fq (nt (bf a) (ma (bf a)) qo))))) (de (jf (vm g r (bh (j3 (bh f7 (bh (bf a) (bh (bf a) (bh (bf a) cw))))) (bh (fy c8 r (bh (bf a) (bh (bf a) (bh (bf a) cw)))) (bh (ng b r a) cw))) a)) (dq (e7 (fy c4 r (bh (bf a) cw)))))))))))))
 have B:MCal P w K mg base "House" "go" 3 (lSp K yz xj):=by exists we x cs al ["self", "at", "piles"] λr a t=>de (fb t (ng U r a)) (de (lc (jf (mr H r (jg (bh (bf a) (bh (bf a) cw))))) (mw (mq H r (jg (bh (bf a) (bh (bf a) cw)))))) (de (lc (jf (mr a5 r (jg (bh (bf a) (bh (bf a) cw))))) (mw (mq a5 r (jg (bh (bf a) (bh (bf a) cw)))))) (de (lc (jf (ug (λ_ _=>mr p r (jg (bh (su D a) cw))))) (mw (zq1 (λ_ _=>mq p r (jg (bh (su D a) cw)))))) (de (jf (vm g r (bh (j3 (bh f7 (bh (bf a) cw))) (bh (fy c9 r (bh (bf a) (bh (bf a) cw))) (bh (ng b r a) cw))) a)) (dq (e7 (fy c7 r (bh (bf a) (bh (bf a) cw)))))))))
 have E:MCal P w K mg base "House" "back" 1 (lSp K zf xq):=by exists we x cs an ["self"] λr a t=>de (f6 (jd (zqy (vj D a)) b8) (dq (qu i zqx)) f8) (de (jf (zkr (vj J a))) (dq (e7 (zkr (vj D a)))))
 have a7:MCal P w K mg base "House" "hour" 2 (qSp K zfx znf):=by exists yf x cs ap ["self"] λr a t=>dq (e7 (fy fp r (bh (ng b r a) cw)))
 have F:MCal P w K mg base "House" "dry" 7 (lSp K y9 xr):=by exists we x cs ar ["self", "piles", "at", "sack", "begun", "stretch"] λr a t=>de (fb t (ng U r a)) (de (lc (jf (mr b0 r (jg (bh (bf a) cw)))) (mw (mq b0 r (jg (bh (bf a) cw))))) (de (lc (jf (ug (λ_ _=>mr p r (jg (bh (su D a) cw))))) (mw (zq1 (λ_ _=>mq p r (jg (bh (su D a) cw)))))) (de (fb t (jw (fq (zpe bp r (bh (bf a) cw))) b8)) (de (fb t (fy c7 r (bh (bf a) (bh (bf a) cw)))) (de (fb t (ng a7 r a)) (de (fb t (j3 (bh (bf a) (bh (jx (bf a) (fy c3 r (bh (bf a) cw))) (bh (fy c6 r (bh (bf a) cw)) cw))))) (de (jf (vm g r (bh (j3 (bh f7 cw)) (bh (fy c9 r (bh (bf a) (bh (bf a) cw))) (bh (fq (l6 (ng b r a) (fq (ig (bh (bf a) cw))))) cw))) a)) (dq (e7 (bf a))))))))))
 have a8:MCal P w K mg base "House" "order" 7 (qSp K zn zlv):=by exists yf x cs a0 ["self"] λr a t=>dq (e7 (fq (zpe bp r (bh (ng U r a) cw))))
 have a9:MCal P w K mg base "House" "why" 7 (qSp K y8 zo0):=by exists yf x cs a1 ["self"] λr a t=>dq (e7 (fy fv r (bh (ng U r a) cw)))
 have L:Cal P w K mg base CX0 "_law_whole" 1 (dSp K qx):=by exists iw d2 ["_law_found"] λr a t=>dq (e7 (zxv (o6 z22 (bf a)) (zxu (z2m (o6 zzh (bf a))))))
 have f1:Cal P w K mg base CX0 "_law_at" 1 (dSp K yy):=by exists iw d3 ["_law_script", "_law_k"] λr a t=>de (f6 (mj (bf a) (js a)) (dq (e7 (dz (bf a) a))) f8) (dq (e7 b8))
 have f2:Cal P w K mg base CX0 "_law_draws" 2 (dSp K zc):=by exists iw ea ["_law_script", "_law_many_here", "_law_made", "_law_state", "_law_k", "_law_cell"] λr a t=>de (o5 (t.psF (ig cw))) (de (fb t b8) (de (m3 (td (bh (bf a) cw)) t.pg (de (fb t (fy f1 r (bh (bf a) (bh (bf a) cw)))) (de (f6 (jd (l9 (js a) b8) b8) (de (fb t (l9 (jx (jx (jx (m8 (bf a) b8) (bf a)) (bf a)) b8) b8)) (dq (fb t (l9 (m8 (jx (bf a) (bf a)) b8) b8)))) f8) (dq (jf (sy (bf a) a)))))) (dq (e7 (bf a)))))
 have f3:Cal P w K mg base CX0 "_law_best" 1 (dSp K ze):=by exists iw eb ["_law_sacks", "_law_best_here", "_law_hours", "_law_loss", "_law_k"] λr a t=>de (fb t (fq (ig (bh b8 (bh b8 (bh (qk b8) cw)))))) (de (fb t b8) (de (fb t b8) (de (m3 (td (bh (js a) cw)) t.pg (de (fb t (jx (bf a) (jw (dz (bf a) a) b8))) (de (fb t (jx (bf a) (jw (dz (bf a) a) b8))) (dq (f6 (u5 (m8 (bf a) (dz b8 a)) (m8 (dz b8 a) (bf a))) (dq (fb t (fq (ig (bh (jx (bf a) b8) (bh (bf a) (bh (bf a) cw))))))) f8))))) (dq (e7 (bf a))))))
 have f4:Cal P w K mg base CX0 "_law_turns" 2 (dSp K zb):=by exists iw ec ["_law_stacks", "_law_left", "_law_made", "_law_heads", "_law_pick", "_law_k"] λr a t=>de (o5 (zqq a t (j8 (bf a)) (λ_ _ _ _ _ _ _ a=>fq (zml (bh (bf a) cw))))) (de (o5 (t.psF (ig cw))) (de (zmo (lm (qj (bh (fq (zv8 a (zxz a) (λ_ _ _ _ _ _ _ a=>js a))) cw)) b8) (de (ztl (zv9 a t (zxz a) (λ_ _ _ _ _ _ _ a=>fy f3 r (bh (bf a) cw)))) (de (fb t b8) (de (m3 (td (bh (js a) cw)) t.pg (dq (f6 (lm (m8 (jw (dz (bf a) a) b8) (jw (dz (bf a) a) b8)) (m8 (jw (dz (bf a) a) b8) (jw (dz (bf a) a) b8))) (dq (fb t (bf a))) f8))) (de (jf (sy (j3 (bh (jx (bf a) b8) (bh (jw (dz (bf a) a) b8) (bh (jw (dz (bf a) a) b8) (bh (jw (dz (bf a) a) b8) cw))))) a)) (dq (zmp (bf a) (fq (nt (dz (bf a) a) (ma (jw (dz (bf a) a) b8)) qo)) a))))))) (dq (e7 (bf a)))))
 have ba:Cal P w K mg base CX0 "_law_same_row" 2 (dSp K rd):=by exists iw ed ["_law_found", "_law_due", "_law_k"] λr a t=>de (f6 (dt_w (kj (lq (km (o6 zkn (bf a)))) (lu (uc (js a) (js a))))) (dq (e7 kv)) f8) (de (m3 (td (bh (js a) cw)) t.pg (de (f6 (dt_w (n6 (km (o6 ztn (dz (bf a) a))) (og (lq (km (o6 ztn (dz (bf a) a))))))) (dq (e7 kv)) f8) (de (f6 (dt_w (n6 (lq (km (o6 ztn (dz (bf a) a)))) (og (lq (km (fy L r (bh (dz (bf a) a) cw))))))) (dq (e7 kv)) f8) (dq (f6 (uc (dz (bf a) a) (dz (bf a) a)) (dq (e7 kv)) f8))))) (dq (e7 kv)))
 have f5:Cal P w K mg base CX0 "_law_same_numbers" 2 (dSp K zcl):=by exists iw ee ["_law_found", "_law_due", "_law_k"] λr a t=>de (f6 (dt_w (kj (lq (km (o6 zph (bf a)))) (lu (uc (js a) (js a))))) (dq (e7 kv)) f8) (de (m3 (td (bh (js a) cw)) t.pg (dq (f6 (dt_w (kj (lq (km (fy L r (bh (dz (bf a) a) cw)))) (lu (uc (dz (bf a) a) (dz (bf a) a))))) (dq (e7 kv)) f8))) (dq (e7 kv)))
 have ga:Cal P w K mg base CX0 "_law_copy" 1 (fSp K zi5):=by exists z3h ef ["_law_stacks"] λr a t=>dq (zzd (o8 a (j8 (bf a)) (λ_ _ _ _ _ _ _ a=>fq (zml (bh (bf a) cw)))))
 obtain⟨RA,hR,hS⟩:=s.rot;have kk:KCl P w K mg base "_law_kind" 1 kdT:=by exists z5h ej ["_law_error", "_law_kinds", "_law_words", "_law_found"] zxa λu v y a t=>de (fb t (fq (ig (bh (n8 s u v y a) (bh (n8 s u v y a) cw))))) (de (fb t (fq (l6 (bf a) (fq (ig (bh (n8 s u v y a) (bh (n8 s u v y a) cw))))))) (de (fb t (fq (l6 (bf a) (fq (ig (bh (n8 s u v y a) (bh (n8 s u v y a) cw))))))) (de (fb t (fq (l6 (bf a) (fq (ig (bh (n8 s u v y a) (bh (n8 s u v y a) cw))))))) (de (fb t (fq (l6 (bf a) (fq (ig (bh (n8 s u v y a) (bh (n8 s u v y a) cw))))))) (de (fb t (fq (l6 (bf a) (fq (ig (bh (n8 s u v y a) (bh (n8 s u v y a) cw))))))) (de (fb t (fq (l6 (bf a) (fq (ig (bh (n8 s u v y a) cw)))))) (de (fb t (fq (ig (bh f7 (bh f7 (bh f7 (bh f7 (bh f7 (bh f7 cw))))))))) (de (fb t (fq (l6 (bf a) (fq (ig (bh f7 (bh f7 (bh f7 (bh f7 (bh f7 cw)))))))))) (de (fb t (fq (l6 (bf a) (fq (ig (bh f7 (bh f7 cw))))))) (de (ztl (zpg (λ_ _ _ _ _ _ _ I h=>y.comp I h) a t (zl2 (λit lo n=>zps it lo n) (bh b8 cw)) (λ_ _ _ _ _ _ _ y a=>dt_w (n6 (km (dz (bf a) a)) (og (km (z3l s u v y a))))) (λ_ _ _ _ _ _ _ y a=>dz (bf a) a))) (dq (e7 (zz2 (bh (fq (l6 (fq (ig (bh f7 cw))) (bf a))) cw))))))))))))))
 have gb:Cal P w K mg base CX0 "_law_deed" 1 (dSp K y0):=by exists iw el ["_law_cell", "_law_piles", "_law_many_here", "_law_words", "_law_word", "_law_odd", "_law_figure", "_law_at_here", "_law_hours", "_law_loss", "_law_tall", "_law_place"] λr a t=>de (fb t (js a)) (de (fb t (fq (ig (bh f7 (bh f7 (bh f7 (bh f7 (bh f7 (bh f7 (bh f7 (bh f7 (bh f7 (bh f7 (bh f7 (bh f7 cw))))))))))))))) (de (fb t (dz (l9 (bf a) b8) a)) (de (fb t (l9 (sd (bf a) b8) b8)) (de (fb t (sd (bf a) b8)) (de (fb t (jx b8 (l9 (bf a) (zxw (bh (bf a) (bh b8 cw)))))) (de (fb t (sd (bf a) b8)) (de (f6 (dt_w (kj (jd (bf a) b8) (lu (jd (bf a) b8)))) (dq (fb t (jw (fq (ig (bh b8 (bh (jx (bf a) b8) (bh (qk b8) (bh (yj b8 b8) cw)))))) (l9 (bf a) b8)))) f8) (de (fb t (jx b8 (l9 (bf a) b8))) (de (f6 (jd (bf a) b8) (dq (fb t (jw (fq (ig (bh b8 (bh b8 (bh (qk b8) (bh (yj b8 b8) cw)))))) (l9 (bf a) b8)))) f8) (de (fb t (l9 (sd (bf a) b8) b8)) (de (f6 (lm (bf a) b8) (de (fb t (jx b8 (l9 (bf a) b8))) (dq (fb t (l9 (bf a) b8)))) f8) (de (f6 (jd (bf a) b8) (dq (fb t (jw (fq (ig (bh (qk b8) (bh b8 (bh (qk (yj b8 b8)) (bh (yj b8 b8) cw)))))) (l9 (sd (bf a) b8) b8)))) f8) (de (fb t b8) (de (f6 (dt_w (n6 (z2l b8 (bf a)) (og (z2l (bf a) (bf a))))) (dq (fb t (r8 (bh (dz (jz (bf a) b8) a) cw)))) f8) (de (fb t (jx b8 (l9 (sd (bf a) b8) (zxw (bh (bf a) (bh b8 cw)))))) (de (f6 (jd (bf a) b8) (dq (fb t (jw (fq (ig (bh b8 (bh (jx (bf a) b8) (bh (qk b8) (bh (yj b8 b8) cw)))))) (l9 (sd (bf a) b8) b8)))) f8) (de (f6 (jd (bf a) f7) (dq (e7 (j3 (bh f7 (bh (bf a) (bh (bf a) (bh (bf a) cw))))))) f8) (de (f6 (jd (bf a) f7) (dq (e7 (j3 (bh f7 (bh (bf a) (bh (bf a) (bh (bf a) cw))))))) f8) (de (f6 (jd (bf a) f7) (dq (e7 (j3 (bh f7 (bh (bf a) cw))))) f8) (dq (e7 (j3 (bh (bf a) cw)))))))))))))))))))))))
 have gd:Cal P w K mg base CX0 "_law_refusal" 1 (dSp K zm):=by exists iw en ["_law_piles", "_law_kept", "_law_deed_here", "_law_word"] λr a t=>de (fb t (dz b8 a)) (de (f6 (jd (bf a) f7) (dq (e7 (jw (fq (ig (bh f7 (bh f7 cw)))) (zy8 (bh (zvq (bf a) b8) cw))))) f8) (de (f6 (jd (bf a) f7) (dq (f6 (jd (qj (bh (fq (o8 a (j8 (bf a)) (λ_ _ _ _ _ _ _ a=>js a))) cw)) b8) (dq (e7 f7)) f8)) (dq (f6 (dt_w (kj (mj (dz b8 a) b8) (lu (lm (dz b8 a) (js a))))) (dq (e7 f7)) (dq (f6 (dt_w (n6 (uc (bf a) f7) (og (jd (r8 (bh (dz (jz (dz b8 a) b8) a) cw)) b8)))) (dq (e7 f7)) f8))))) (de (f6 (dt_w (n6 (jd (bf a) f7) (og (dt_w (kj (mj (dz b8 a) b8) (lu (lm (dz b8 a) (r8 (bh (dz (jz (dz b8 a) b8) a) cw))))))))) (dq (e7 f7)) f8) (de (f6 (dt_w (n6 (jd (bf a) f7) (og (dt_w (kj (mj (dz b8 a) b8) (lu (lm (dz b8 a) b8))))))) (dq (e7 f7)) f8) (de (f6 (dt_w (n6 (dt_w (kj (jd (bf a) f7) (lu (jd (bf a) f7)))) (og (dt_w (kj (mj (dz b8 a) b8) (lu (lm (dz b8 a) b8))))))) (dq (e7 f7)) f8) (de (f6 (dt_w (n6 (jd (bf a) f7) (og (u5 (qj (bh (fq (o8 a (j8 (bf a)) (λ_ _ _ _ _ _ _ a=>js a))) cw)) b8)))) (dq (e7 f7)) f8) (de (f6 (u5 (bf a) b8) (dq (e7 f7)) f8) (dq (e7 f7)))))))))
 have b1:Cal P w K mg base (CXr P w) "_law_ask" 8 (lSp K zho xi):=by exists zzz eo ["_law_house", "_law_deed_here"] λr a t=>de (f6 (jd (dz b8 a) f7) (dq (lc (e7 (vm z r (bh (dz b8 a) (bh (dz b8 a) (bh (dz b8 a) cw))) a)) (wt (zm1 z r (bh (dz b8 a) (bh (dz b8 a) (bh (dz b8 a) cw))) a)))) f8) (de (f6 (jd (dz b8 a) f7) (dq (lc (e7 (vm A r (bh (dz b8 a) (bh (dz b8 a) (bh (dz b8 a) cw))) a)) (wt (zm1 A r (bh (dz b8 a) (bh (dz b8 a) (bh (dz b8 a) cw))) a)))) f8) (de (f6 (jd (dz b8 a) f7) (dq (lc (e7 (vm B r (bh (dz b8 a) cw) a)) (wt (zm1 B r (bh (dz b8 a) cw) a)))) f8) (de (f6 (jd (dz b8 a) f7) (dq (lc (e7 (zl4 F r a)) (wt (zon F r a)))) f8) (dq (lc (e7 (zl4 E r a)) (wt (zon E r a)))))))
 have gj:Cal P w K mg base (CXr P w) "_law_call" 9 (lSp K qv zo5):=by exists zzz ep ["_law_house", "_law_deed_here", "_law_refused", "e"] λr a t=>de (fb t (j3 (bh f7 (bh f7 cw)))) (de (zz4 hR hS kk r a t (λ_ _ a t=>dq (lc (e7 (zk9 b1 r (yv (jg (bh (bf a) cw)) a))) (wt (zwf b1 r (yv (jg (bh (bf a) cw)) a)))))) (dq (e7 (bf a))))
 have gr:Cal P w K mg base CX0 "_law_step" 3 (dSp K q9):=by exists iw er ["_law_piles", "_law_deed_here", "_law_number", "_law_left", "_law_k", "_law_sack"] λr a t=>de (zzf (zvz a t (j8 (bf a)) (λ_ _ _ _ _ _ _ a=>zml (bh (bf a) cw)))) (de (fb t b8) (de (f6 (lm (js a) b8) (dq (fb t (jz (dz b8 a) b8))) f8) (de (f6 (jd (dz b8 a) f7) (de (zq5 (λ_ _=>bf a) (zt2 (λ_ _=>l6 (fq (ig (bh (j3 (bh (bf a) (bh (dz b8 a) (bh (dz b8 a) cw)))) cw))) (dz (bf a) a))) a) (dq (e7 (fq (ig (bh (bf a) (bh (bf a) cw))))))) f8) (de (f6 (jd (dz b8 a) f7) (de (fb t (ug (λ_ _=>jw (dz (bf a) a) (jz (dz b8 a) b8)))) (de (zt4 (λ_ _=>bf a) (λ_ _=>jz (dz b8 a) b8) (j3 (bh (dz b8 a) (bh (dz b8 a) (bh (dz b8 a) cw)))) a) (dq (e7 (fq (ig (bh (bf a) (bh (dz b8 a) cw)))))))) f8) (de (f6 (jd (dz b8 a) f7) (dq (fb t (jz (jw (jw (fy f4 r (bh (bf a) cw)) b8) b8) b8))) f8) (de (fb t (ug (λ_ _=>jw (dz (bf a) a) b8))) (de (zq5 (λ_ _=>bf a) (zt2 (λ_ _=>nt (dz (bf a) a) (ma b8) qo)) a) (dq (e7 (fq (ig (bh (bf a) (bh (bf a) cw)))))))))))))
 have gs:Cal P w K mg base CX0 "_law_rate" 1 (dSp K zhj):=by exists iw es ["_law_piles"] λr a t=>dq (e7 (qj (bh (fq (o8 a (j8 (bf a)) (λ_ _ _ _ _ _ _ a=>qj (bh (fq (o8 a (j8 (bf a)) (λ_ _ _ _ _ _ _ a=>dz b8 a))) cw)))) cw)))
 have gu:Cal P w K mg base CX0 "_law_same_answer" 3 (dSp K x4):=by exists iw et ["_law_found", "_law_due"] λr a t=>de (f6 (km (o6 zkn (bf a))) (dq (e7 (fy ba r (bh (bf a) (bh (bf a) cw))))) f8) (dq (e7 (zxv (fy L r (bh (bf a) cw)) (zxu (zvq (bf a) (bf a))))))
 have g0:Cal P w K mg base CX0 "_law_many" 1 (dSp K zhk):=by exists iw eu ["_law_header"] λr a t=>dq (e7 (jw (fq (ig (bh b8 (bh b8 (bh b8 (bh b8 (bh b8 (bh b8 (bh b8 (bh b8 (bh b8 (bh b8 (bh b8 (bh b8 cw)))))))))))))) (l9 (bf a) b8)))
 have g1:Cal P w K mg base CX0 "_law_rates" 1 (dSp K zh8):=by exists iw ev ["_law_dried", "_law_rates_here", "_law_begun", "_law_dry", "_law_rate_here"] λr a t=>de (fb t (fq (ig cw))) (de (zmr (j8 (bf a)) (lf t (lf t (lf t u9))) (dq (fb t (fq (l6 (bf a) (fq (ztq (ig (bh (bf a) cw)) (jz (bf a) (bf a))))))))) (dq (e7 (bf a))))
 have g2:Cal P w K mg base (CXr P w) "_law_do" 10 (lSp K sw zsf):=by exists zzz ew ["_law_house", "_law_state", "_law_deed_here", "_law_piles", "_law_kept", "_law_past", "_law_dried", "_law_due", "_law_found", "_law_ahead", "_law_step_here", "_law_hour"] λr a t=>de (zwn (lf t (lf t (lf t (lf t u9)))) a) (de (fb t (fy gd r (bh (bf a) (bh (zqy (yk a)) (bh (bf a) cw))))) (de (fb t (zk9 gj r (yv (jg (bh (bf a) cw)) a))) (de (f6 (uc (bf a) f7) (dq (e7 (fy ba r (bh (bf a) (bh (j3 (bh f7 (bh (bf a) cw))) cw))))) f8) (de (f6 (jd (dz b8 a) f7) (de (fb t (zkr (yk a))) (de (zks (dz b8 a) a) (de (zks (dz b8 a) a) (dq (e7 (fy ba r (bh (bf a) (bh (zkr (yk a)) cw)))))))) f8) (de (fb t (fy gr r (bh (bf a) (bh (bf a) (bh (ug (λ_ _=>jx b8 (r8 (bh (fq (zoa a (j8 (bf a)) (λ_ _ _ _ _ _ _ a=>jd (dz b8 a) f7) (λ_ _ _ _ _ _ _ a=>bf a))) cw)))) cw))))) (de (jf (zg4 (yk a) (j3 (bh (bf a) (bh (bf a) cw))))) (de (jf (zg4 (yk a) (bf a))) (de (zks (dz b8 a) a) (de (f6 (jd (dz b8 a) f7) (de (fb t (r8 (bh (fy g1 r (bh (bf a) cw)) cw))) (dq (zks (fq (l6 (bf a) (fq (ig (bh (j3 (bh (bf a) (bh (jx (bf a) (jw (dz b8 a) b8)) (bh (fy gs r (bh (bf a) cw)) cw)))) cw))))) a))) f8) (dq (e7 (fy gu r (bh (bf a) (bh (dz b8 a) cw))))))))))))))
 have g3:Cal P w K mg base (CXr P w) "_law_new" 1 (gSp K zhl zp9):=by exists z5e ex ["_law_many_here"] λr a t=>dq (zwi (zzy (z3e (λ_ _=>fq (o8 a (td (bh (bf a) cw)) (λ_ _ _ _ _ _ _ a=>fq (ig cw)))) (z3f (λ_ _=>ig cw) (z3f (λ_ _=>ig cw) (z3e (λ_ _=>fq (ig cw)) zzx))))))
 have g4:Cal P w K mg base CX0 "_law_sum" 1 (dSp K zil):=by exists iw ey ["_law_piles"] λr a t=>dq (e7 (qj (bh (fq (o8 a (j8 (bf a)) (λ_ _ _ _ _ _ _ a=>js a))) cw)))
 have g5:Cal P w K mg base CX0 "_law_cells" 1 (dSp K zia):=by exists iw ez ["_law_cells_here", "_law_made", "_law_cell"] λr a t=>de (o5 (t.psF (ig cw))) (de (m3 (j8 (bf a)) t.pg (de (jf (sy (bf a) a)) (dq (f6 (jd (l9 (sd (bf a) b8) b8) b8) (de (jf (sy (bf a) a)) (dq (jf (sy (bf a) a)))) f8)))) (dq (e7 (bf a))))
 have b2:Cal P w K mg base CX0 "_law_good_run" 3 (dSp K m__law_good_run):=by exists iw e0 ["_law_row", "_law_sacks", "_law_hours", "_law_loss", "_law_begun", "_law_gone", "_law_sack"] λr a t=>de (fb t (qj (bh (fq (o8 a (j8 (bf a)) (λ_ _ _ _ _ _ _ a=>dz b8 a))) cw))) (de (fb t (qj (bh (fq (o8 a (j8 (bf a)) (λ_ _ _ _ _ _ _ a=>dz b8 a))) cw))) (de (f6 (lq (km (fy ba r (bh (bf a) (bh (j3 (bh (js a) (bh (bf a) (bh (bf a) cw)))) cw))))) (dq (e7 kv)) f8) (de (fb t b8) (de (fb t b8) (de (m3 (j8 (bf a)) t.pg (de (fb t (jx (bf a) (dz b8 a))) (de (fb t (jx (bf a) (dz b8 a))) (dq (f6 (lm (m8 (bf a) (bf a)) (m8 (bf a) (bf a))) (dq (e7 kv)) f8))))) (dq (e7 kv)))))))
 have g6:Cal P w K mg base CX0 "_law_lesser" 1 (dSp K zfs):=by exists iw e1 ["_law_block", "_law_ahead"] λr a t=>dq (e7 (z4w (m8 (dz b8 a) (dz b8 a)) (m8 (dz b8 a) (dz b8 a))))
 have g7:Cal P w K mg base CX0 "_law_parted" 5 (dSp K zhq):=by exists iw e2 ["_law_pile", "_law_found", "_law_place", "_law_k", "_law_many_here"] λr a t=>de (fb t (fy bm r (bh (fq (zml (bh (bf a) cw))) cw))) (de (f6 (lq (km (o6 zph (bf a)))) (dq (e7 kv)) f8) (de (fb t b8) (de (m3 (td (bh (js a) cw)) t.pg (de (f6 (dt_w (kj (lq (km (o6 zkn (dz (bf a) a)))) (kj (uc (r8 (bh (dz (bf a) a) cw)) b8) (lu (lq (km (fy L r (bh (jw (dz (bf a) a) b8) cw)))))))) (dq (e7 kv)) f8) (de (fb t (jw (dz (bf a) a) b8)) (de (f6 (dt_w (kj (mj (bf a) b8) (lu (lm (jx (bf a) (bf a)) (js a))))) (dq (e7 kv)) f8) (de (f6 (lq (km (fy b2 r (bh (dz (bf a) a) (bh (fq (nt (bf a) (ma (bf a)) (ma (jx (bf a) (bf a))))) cw))))) (dq (e7 kv)) f8) (de (f6 (dt_w (n6 (lm (bf a) b8) (og (lq (km (fy g6 r (bh (dz (bf a) a) (bh (dz (jz (bf a) b8) a) cw)))))))) (dq (e7 kv)) f8) (dq (fb t (jx (bf a) (bf a)))))))))) (dq (e7 (zvq (bf a) (js a)))))))
 have g8:Cal P w K mg base CX0 "_law_in_turn" 4 (dSp K zgx):=by exists iw e3 ["_law_rows", "_law_piles", "_law_left", "_law_k", "_law_row", "_law_at_here", "_law_step_here"] λr a t=>de (o5 (t.psF (zpe ga r (bh (bf a) cw)))) (de (m3 (td (bh (js a) cw)) t.pg (de (fb t (dz (bf a) a)) (de (f6 (dt_w (kj (lq (km (o6 zkn (bf a)))) (kj (uc (js a) b8) (kj (lq (km (fy L r (bh (dz b8 a) cw)))) (lu (lq (km (fy L r (bh (dz b8 a) cw))))))))) (dq (e7 kv)) f8) (de (fb t (dz b8 a)) (de (f6 (dt_w (kj (mj (bf a) b8) (kj (lm (bf a) (js a)) (kj (mj (dz b8 a) b8) (lu (lm (dz b8 a) (r8 (bh (dz (jz (bf a) b8) a) cw)))))))) (dq (e7 kv)) f8) (de (f6 (lq (km (fy b2 r (bh (z25 (bf a) (ma b8) (ma b8)) (bh (fq (nt (dz (jz (bf a) b8) a) qo (ma (dz b8 a)))) cw))))) (dq (e7 kv)) f8) (de (zmp (jz (bf a) b8) (fq (nt (dz (jz (bf a) b8) a) (ma (dz b8 a)) qo)) a) (dq (f6 (lm (bf a) b8) (de (fb t (jz (m8 (jw (dz (jz (bf a) b8) a) b8) (dz b8 a)) (m8 (dz b8 a) (jw (dz (jz (bf a) b8) a) b8)))) (dq (f6 (dt_w (kj (mj (bf a) b8) (lu (dt_w (n6 (jd (bf a) b8) (og (u5 (jw (dz (jz (bf a) b8) a) b8) (bf a)))))))) (dq (e7 kv)) f8))) f8))))))))) (dq (e7 (zvq (fy g4 r (bh (bf a) cw)) b8))))
 exact z5g ["_law_script", "_law_draws_here", "_law_many_here", "_law_house", "_law_state", "_law_cell", "_law_pile", "_law_rows", "_law_due", "_law_row"] λr a t=>de (fb t (fy f2 r (bh (bf a) (bh b8 cw)))) (de (fb t (fy g0 r (bh (dz b8 a) cw))) (de (zqz t (zwk a6 r (bh (bf a) cw))) (de (zqz t (zwj g3 r (bh (bf a) cw))) (de (m3 (j8 (fy g5 r (bh (fq (nt (bf a) (ma b8) (ma (jz b8 (l9 (sd (dz b8 a) b8) b8))))) cw))) t.pg (dq (f6 (lq (km (zk9 g2 r (yv (yv (jg (bh (fy gb r (bh (bf a) (bh (zpo a) cw))) cw)) a) a)))) (dq (e7 kv)) f8))) (de (m3 (j8 (zpo a)) t.pg (dq (f6 (lq (km (fy g7 r (bh (bf a) cw)))) (dq (e7 kv)) f8))) (de (fb t (ng a9 r a)) (de (f6 (dt_w (kj (lq (km (o6 zph (bf a)))) (lu (lq (km (fy g8 r (bh (bf a) (bh (zpo a) cw)))))))) (dq (e7 kv)) f8) (de (fb t (fq (ig cw))) (de (m3 (j8 (bf a)) t.pg (dq (fb t (fq (l6 (bf a) (fq (ztq (ig (bh (dz b8 a) cw)) (dz b8 a)))))))) (dq (e7 (fy f5 r (bh (ng a8 r a) (bh (bf a) cw))))))))))))))
end SQ
namespace SQ
open PySem L2 LB
variable{ss:mv}
theorem z01(R:ss.length<=1000):zil [ssL ss]=some (.int (ss.flatten.length:Int)):=by
 have c:=md (te:=h9 0) (base:=[]) (λs:mu=>D.lst (s.map sD)) (λs:mu=>D.int (s.length:Int)) ss λs _=>⟨_,by simp;rfl⟩;have I:=pv (λs:mu=>(s.length:Int)) ss;have J:Few (ss.map λs=>D.lst (s.map sD)).length:=few (by rw[ah];lia);rw[zp7] at I;refine je (e':=[some (.sh (ssL ss))]) rfl ?_;rw[show iz 1 [ssL ss]=[some (.sh (ssL ss))] from rfl];unfold ssL;generalize (ss.map λs=>D.lst (s.map sD))=L at *;simp only[zmb,sRet,dw,au,fLst,gv,fiS,fVar,fNil,ae,ac,ai,J,if_true,di,c,I]
theorem good_run_ok{r:mu}(S:Good r)(U:∀x∈r,gy x)(t:r.length<=14):m__law_good_run [.tup [.int (r.length:Int),.int (hrs r),.int (lss r)],.lst (r.map sD)]=some (.bl true):=by
 have V:=md (te:=fIxV 0 (fC (.int 1))) (base:=[]) sD (λs:Sk=>D.int s.2.1) r λs _=>⟨_,rfl⟩;have Y:=md (te:=fIxV 0 (fC (.int 2))) (base:=[]) sD (λs:Sk=>D.int s.2.2) r λs _=>⟨_,rfl⟩;have Z:bSum [.lst (r.map λx=>.int x.2.1)]=some (.int (hrs r)):=pv (λs:Sk=>s.2.1) r;have a:bSum [.lst (r.map λx=>.int x.2.2)]=some (.int (lss r)):=pv (λs:Sk=>s.2.2) r;have b:Few (r.map sD).length:=few (by rw[ah];lia);have u:=u8 r U;have J:rd [.tup [.int (r.length:Int),.int (hrs r),.int (lss r)],.tup [.int (r.length:Int),.int (hrs r),.int (lss r)]]=some (.bl true):=zhn _ (by simp[plD]) (by simp);have c:kq (hrs r):=qt (by lia);have sl:kq (lss r):=qt (by lia);obtain⟨e',h1,v6,rfl⟩:=uk (i:=6) (g:=b__law_good_run_0) sD (λp e=>∃v6,e=[some (.sh (.tup [.int (r.length:Int),.int (hrs r),.int (lss r)])),some (.sh (.lst (r.map sD))),some (.sh (.int (hrs r))),some (.sh (.int (lss r))),some (.sh (.int (hrs p))),some (.sh (.int (lss p))),v6]) r
  [some (.sh (.tup [.int (r.length:Int),.int (hrs r),.int (lss r)])),some (.sh (.lst (r.map sD))),some (.sh (.int (hrs r))),some (.sh (.int (lss r))),some (.sh (.int 0)),some (.sh (.int 0)),none] ⟨none,rfl⟩ (by
   rintro p x q e I ⟨v6,rfl⟩;have v:x∈r:=by rw[I];simp
   have d:hrs (p++[x])=hrs p+x.2.1:=by rw[o7];simp[hrs]
   have f:lss (p++[x])=lss p+x.2.2:=by rw[n9];simp[lss]
   have h:=S.beg (p++[x]) ⟨q,by rw[I];simp⟩;rw[d,f] at h ⊢;have j:atI [D.int x.1,.int x.2.1,.int x.2.2] 1=some (.int x.2.1):=rfl;have k:atI [D.int x.1,.int x.2.1,.int x.2.2] 2=some (.int x.2.2):=rfl;have l:dMul (.int (lss p+x.2.2)) (.int (hrs r))=some (.int ((lss p+x.2.2)*hrs r)):=ztw c;have m:dMul (.int (lss r)) (.int (hrs p+x.2.1))=some (.int (lss r*(hrs p+x.2.1))):=rq sl;have n:decide (lss r*(hrs p+x.2.1)<(lss p+x.2.2)*hrs r)=false:=decide_eq_false (by lia);refine⟨_,?_,some (.sh (sD x)),rfl⟩;unfold sD;generalize (r.map sD)=L at *;simp only[b__law_good_run_0,sSeq,sSet,fBin,fVar,fIxV,ixSl,fC,gz,j,k,l,m,dGt,n,sIf,fTst,sNil,ae,af,av,aq,ac,ai,bj,if_false])
 refine je (e':=[some (.sh (.tup [.int (r.length:Int),.int (hrs r),.int (lss r)])),some (.sh (.lst (r.map sD))),some (.sh (.int (hrs r))),some (.sh (.int (lss r))),some (.sh (.int (hrs r))),some (.sh (.int (lss r))),v6]) rfl ?_;rw[show iz 7 [.tup [.int (r.length:Int),.int (hrs r),.int (lss r)],.lst (r.map sD)]=[some (.sh (.tup [.int (r.length:Int),.int (hrs r),.int (lss r)])),some (.sh (.lst (r.map sD))),none,none,none,none,none] from rfl];have o:((r.map sD).length:Int)=(r.length:Int):=by rw[ah]
 have R:([D.int (r.length:Int),.int (hrs r),.int (lss r)]:k9).length<=64:=Nat.le_of_ble_eq_true rfl;generalize r.map sD=L at *;simp only[s__law_good_run,sSeq,sSet,dw,au,fLst,gv,fiS,fVar,fNil,fC,h9,b,if_true,di,V,Y,Z,a,fTup,o,R,sIf,fNot,fTst,J,sFor,h1,sRet,sNil,ae,af,av,aq,ac,ai,ja,bj,if_false]
theorem zu7(s:mu)(j:∀x∈s,gy x)(t:s.length<=14):zhq [.lst (s.map sD)]=some (.bl true):=by
 obtain⟨rs,v,B⟩:=zga s j t;obtain⟨R,hR⟩:∃R,R=rs.reverse:=⟨_,rfl⟩;rw[<-hR] at B;have J:R.flatten=s:=by rw[hR];exact v.flat
 have D:∀r∈R,Good r:=λr h=>v.good r (by rw[hR] at h;simpa using h);have Z:∀r∈R,∀x∈r,gy x:=λr h x K=>j x (by rw[<-J];exact fc.mpr ⟨r,h,K⟩);have I:∀r∈R,r.length<=14:=λr h=>by
  have:r.length<=R.flatten.length:=(d9 h).length_le;rw[J] at this
  lia
 have a:∀(k:Nat) (u b:mu),R[k]?=some u->R[k+1]?=some b->gt (blk u) (blk b):=λk u b h1 h2=>by
  have L:=(aj.mp h2).1;rw[hR,List.length_reverse] at L;rw[hR,List.getElem?_reverse (by lia)] at h1 h2;exact zq9 v.desc h2 (by rw[show rs.length-1-(k+1)+1=rs.length-1-k by lia];exact h1)
 have M:R.length<=14:=by
  have:=zpz R λr h=>(D r h).ne;rw[J] at this
  lia
 have loop:=sx (i:=3) (g:=zei) (λk e=>∃p q,e=[some (.sh (.lst (s.map sD))),some (.sh (.lst (R.map bD))),some (.sh (.int (((R.take k).flatten.length:Nat):Int))),p,q])
  (rngD 0 R.length) [some (.sh (.lst (s.map sD))),some (.sh (.lst (R.map bD))),some (.sh (.int 0)),none,none] ⟨none,none,by simp⟩ ?_
 ·obtain⟨e',h1,p,q,rfl⟩:=loop
  rw[uq,List.take_length,J] at h1;have hi:=n4 R.length (by lia);refine je (e':=[some (.sh (.lst (s.map sD))),some (.sh (.lst (R.map bD))),some (.sh (.int (s.length:Int))),p,q]) rfl ?_;show zhp [some (.sh (.lst (s.map sD))),none,none,none,none]=_;simp[zhp,B,hi,h1]
 ·rintro k d e w ⟨p,q,rfl⟩
  obtain⟨rfl,l⟩:=ul w;have f:R[k]∈R:=fe l;have c:atI (R.map bD) (k:Int)=some (bD R[k]):=j6 bD (by simp[l]);have y:(R.take (k+1)).flatten=(R.take k).flatten++R[k]:=by rw[nn l];simp only[dy,cg,pf,dc]
  have m:s=(R.take k).flatten++(R[k]++(R.drop (k+1)).flatten):=by
   rw[<-J]
   conv=>lhs;rw[<-lh k R,eg l]
   simp only[dy,cg]
  have V:cutD (s.map sD) (some (((R.take k).flatten.length:Nat):Int)) (some ((((R.take k).flatten.length:Nat):Int)+(R[k].length:Int)))=R[k].map sD:=by
   have:=zud ((R.take k).flatten.map sD) (R[k].map sD) ((R.drop (k+1)).flatten.map sD);rw[ah,ah,<-b9,<-b9,<-m] at this;exact this
  have S:m__law_good_run [bD R[k],.lst (R[k].map sD)]=some (.bl true):=good_run_ok (D _ f) (Z _ f) (I _ f);have C:0<R[k].length:=ft.mpr (D _ f).ne;have E:(R.take k).flatten.length+R[k].length<=s.length:=by rw[m];simp only[am];lia
  have F:¬((R[k].length:Int)<1):=by lia
  have G:¬((s.length:Int)<(((R.take k).flatten.length:Nat):Int)+(R[k].length:Int)):=by lia
  have H:=xf (R[k].length:Int);refine⟨[some (.sh (.lst (s.map sD))),some (.sh (.lst (R.map bD))),some (.sh (.int ((((R.take k).flatten.length:Nat):Int)+(R[k].length:Int)))),some (.sh (.int (0+k))),some (.sh (.int (R[k].length:Int)))],?_,_,_,by rw[y];simp only[am];rw[Int.natCast_add]⟩;generalize N:(((R.take k).flatten.length:Nat):Int)=pl at *;obtain⟨Q,hQ,q3,q0⟩:∃Q,bD R[k]=.tup Q/\(Q.length:Int)=3/\atI Q 0=some (.int (R[k].length:Int)):=⟨_,rfl,rfl,rfl⟩;rcases Nat.eq_zero_or_pos k with rfl | hk0
  ·have Y:atI (R.map bD) 0=some (bD R[0]):=c
   rw[hQ] at Y S;simp[zei,Y,q3,q0,H,F,G,V,S]
  ·have U:k-1<R.length:=by lia
   have n:atI (R.map bD) ((k:Int)-1)=some (bD R[k-1]):=by
    rw[show(k:Int)-1=((k-1:Nat):Int) by lia];exact j6 bD (by simp[U])
   have o:=zue R[k] R[k-1] (smB _ (Z _ f) (by have:=I _ f;lia)) (smB _ (Z _ (fe U)) (by have:=I _ (fe U);lia));have O:gt (blk R[k-1]) (blk R[k]):=a (k-1) _ _ (by simp[U]) (by rw[show k-1+1=k by lia];simp[l]);have z:lss R[k]*hrs R[k-1]<lss R[k-1]*hrs R[k]:=O;have A:(0:Int)<k:=by lia
   rw[hQ] at c S o;simp[zei,c,n,q3,q0,H,F,G,V,S,o,z,A]
variable{ts:mx}
theorem zsh(ok:TurnsOk ss ts)(hg:∀x∈ss.flatten,gy x)(hn:ss.length<=900)(v:ss.flatten.length<=14) :
  zgx [.lst ((ts.zipIdx).map (rowW ts)),ssL ss]=some (.bl true):=by
 have F:=z0a ss (by lia);have a0:=ok.len;have n:=ok.sm hg (by lia);have Y:=ok.left;obtain⟨e',h1,y,z,v5,v6,rfl⟩:=sx (i:=3) (g:=zfm) (λk e=>∃y z v5 v6,e=[some (.sh (.lst ((ts.zipIdx).map (rowW ts)))),some (.sh (ssL ss)),some (.ow ((gf ss.length (ts.drop k)).map λs=>D.lst (s.map sD))),y,z,v5,v6])
  (rngD 0 ts.length) [some (.sh (.lst ((ts.zipIdx).map (rowW ts)))),some (.sh (ssL ss)),some (.ow (ss.map λs=>D.lst (s.map sD))),none,none,none,none] ⟨none,none,none,none,by rw[List.drop_zero,Y]⟩ (by
    rintro k d e G ⟨y,z,v5,v6,rfl⟩;obtain⟨rfl,A⟩:=ul G;rw[ku];have m:ts[k]∈ts:=fe A;have o:=eg A;rw[o];obtain⟨l1,l2⟩:=ok.lo _ m;have p:atI ((ts.zipIdx).map (rowW ts)) (k:Int)=some (.tup [.int (ts[k].1:Int),.int (ts[k].2.length:Int),.int (hrs ts[k].2),.int (lss ts[k].2),.lst ((debts ts[k].2).map D.int),.int (oo ts k)]):=j6 (rowW ts) (x:=(ts[k],k)) (by simp[A]);have U:=zj7 (ts:=ts.drop (k+1)) l1 l2;have V:=zlg (ts:=ts.drop (k+1)) l1 l2;have H:=good_run_ok (ok.good _ m) (ok.sk hg _ m) (cx (ok.len1 _ m) v);have ar:0<ts[k].2.length:=ft.mpr (ok.good _ m).ne;have w1:=xf (ts[k].1:Int);have w2:=xf (ts[k].2.length:Int);have K:=n _ m;have tail:∀(w:ln) (L:k9),∃M,sIf (fTst (fBin dGt (fVar 3) (fC (.int 0)))) (sSeq (sSet 6 (fBin dSub (fBin dMul (fBin dIx (fIxV 0 (fBin dSub (fVar 3) (fC (.int 1)))) (fC (.int 3))) (fIxV 4 (fC (.int 2)))) (fBin dMul (fIxV 4 (fC (.int 3))) (fBin dIx (fIxV 0 (fBin dSub (fVar 3) (fC (.int 1)))) (fC (.int 2)))))) (sIf (fOr (fTst (fBin dLt (fVar 6) (fC (.int 0)))) (fAnd (fTst (fBin dEq (fVar 6) (fC (.int 0)))) (fTst (fBin dGe (fBin dIx (fIxV 0 (fBin dSub (fVar 3) (fC (.int 1)))) (fC (.int 0))) (fVar 5))))) (sRet (fC (.bl false))) (sNil))) (sNil)
      [some (.sh (.lst ((ts.zipIdx).map (rowW ts)))),some (.sh (ssL ss)),some (.ow L),some (.sh (.int (k:Int))),some (.sh (.tup [.int (ts[k].1:Int),.int (ts[k].2.length:Int),.int (hrs ts[k].2),.int (lss ts[k].2),.lst ((debts ts[k].2).map D.int),.int (oo ts k)])),some (.sh (.int (ts[k].1:Int))),w] =
      some (.nx,[some (.sh (.lst ((ts.zipIdx).map (rowW ts)))),some (.sh (ssL ss)),some (.ow L),some (.sh (.int (k:Int))),some (.sh (.tup [.int (ts[k].1:Int),.int (ts[k].2.length:Int),.int (hrs ts[k].2),.int (lss ts[k].2),.lst ((debts ts[k].2).map D.int),.int (oo ts k)])),some (.sh (.int (ts[k].1:Int))),M]):=λw L=>by
     by_cases q:(0:Int)<k
     ·have Z:k-1<ts.length:=by lia
      have N:bef ts[k-1] ts[k]:=vz.mp ok.srt (k-1) k Z A (by lia);have r:atI ((ts.zipIdx).map (rowW ts)) ((k:Int)-1)=some (.tup [.int (ts[k-1].1:Int),.int (ts[k-1].2.length:Int),.int (hrs ts[k-1].2),.int (lss ts[k-1].2),.lst ((debts ts[k-1].2).map D.int),.int (oo ts (k-1))]):=by
       rw[show(k:Int)-1=((k-1:Nat):Int) by lia];exact j6 (rowW ts) (x:=(ts[k-1],k-1)) (by simp[Z])
      have O:=n _ (fe Z);generalize ts[k]=t at *;generalize ts[k-1]=u at *;have m1:dMul (.int (lss u.2)) (.int (hrs t.2))=some (.int (lss u.2*hrs t.2)):=rq O.2;have m2:dMul (.int (lss t.2)) (.int (hrs u.2))=some (.int (lss t.2*hrs u.2)):=rq K.2;have a1:lss t.2*hrs u.2<lss u.2*hrs t.2\/(¬lss u.2*hrs t.2<lss t.2*hrs u.2/\u.1<t.1):=N;generalize lss u.2*hrs t.2=P at *;generalize lss t.2*hrs u.2=Q at *;have B:decide (P-Q<0)=false:=decide_eq_false (by lia);have S:decide ((0:Int)<k)=true:=decide_eq_true q;generalize (ts.zipIdx).map (rowW ts)=R at *;generalize (debts t.2).map D.int=DB at *;generalize (debts u.2).map D.int=DU at *;generalize ssL ss=SS at *;have C:∀a b c d e f:D,atI [a,b,c,d,e,f] 0=some a:=λ_ _ _ _ _ _=>rfl;have t2:∀a b c d e f:D,atI [a,b,c,d,e,f] 2=some c:=λ_ _ _ _ _ _=>rfl;have t3:∀a b c d e f:D,atI [a,b,c,d,e,f] 3=some d:=λ_ _ _ _ _ _=>rfl;refine⟨some (.sh (.int (P-Q))),?_⟩;by_cases E:P-Q=0
      ·have W:decide ((t.1:Int)<=(u.1:Int))=false:=decide_eq_false (by lia)
       simp only[sIf,fTst,fBin,fVar,fC,dGt,S,if_true,sSeq,sSet,fIxV,ixSl,dSub,r,dIx,C,t2,t3,m1,m2,fOr,dLt,B,fAnd,dEq,decide_eq_true E,dGe,W,sNil,ae,af,av,aq,ac,ai,bj,if_false]
      ·simp only[sIf,fTst,fBin,fVar,fC,dGt,S,if_true,sSeq,sSet,fIxV,ixSl,dSub,r,dIx,C,t2,t3,m1,m2,fOr,dLt,B,fAnd,dEq,decide_eq_false E,sNil,ae,af,av,aq,ac,ai,bj,if_false]
     ·refine⟨w,?_⟩
      have S:decide ((0:Int)<k)=false:=decide_eq_false q;simp only[sIf,fTst,fBin,fVar,fC,dGt,S,sNil,ae,af,ac,ai,bj,if_false]
    obtain⟨T,hT⟩:∃T:FS,T=sIf (fTst (fBin dGt (fVar 3) (fC (.int 0)))) (sSeq (sSet 6 (fBin dSub (fBin dMul (fBin dIx (fIxV 0 (fBin dSub (fVar 3) (fC (.int 1)))) (fC (.int 3))) (fIxV 4 (fC (.int 2)))) (fBin dMul (fIxV 4 (fC (.int 3))) (fBin dIx (fIxV 0 (fBin dSub (fVar 3) (fC (.int 1)))) (fC (.int 2)))))) (sIf (fOr (fTst (fBin dLt (fVar 6) (fC (.int 0)))) (fAnd (fTst (fBin dEq (fVar 6) (fC (.int 0)))) (fTst (fBin dGe (fBin dIx (fIxV 0 (fBin dSub (fVar 3) (fC (.int 1)))) (fC (.int 0))) (fVar 5))))) (sRet (fC (.bl false))) (sNil))) (sNil):=⟨_,rfl⟩;unfold zfm;rw[<-hT] at tail ⊢;generalize ts.drop (k+1)=ts' at U V o ⊢;generalize oo ts k=fl at *;generalize ts[k]=t at *;have E:(t.1:Int)-1=((t.1-1:Nat):Int):=by lia
    have X:atI ((gf ss.length (t::ts')).map λs=>D.lst (s.map sD)) ((t.1-1:Nat):Int)=some (.lst ((t.2++(ofS ts' (t.1-1)).flatten).map sD)):=j6 (λs:mu=>D.lst (s.map sD)) U;have I:=zuf (t.2.map sD) ((ofS ts' (t.1-1)).flatten.map sD);have J:=zp2 (t.2.map sD) ((ofS ts' (t.1-1)).flatten.map sD);rw[<-b9,ah] at I J;have aa:ixN ((gf ss.length (t::ts')).map λs=>D.lst (s.map sD)).length ((t.1-1:Nat):Int)=some (t.1-1):=by
     rw[sg (by lia) (by rw[ah,lr];lia)];congr 1
    have h:((gf ss.length (t::ts')).map λs=>D.lst (s.map sD)).set (t.1-1) (.lst ((ofS ts' (t.1-1)).flatten.map sD))=(gf ss.length ts').map λs=>D.lst (s.map sD):=by
     rw[V,gl]
    have ab:(((t.2++(ofS ts' (t.1-1)).flatten).map sD).length:Int)=(t.2.length:Int)+((ofS ts' (t.1-1)).flatten.length:Int):=by rw[ah,am];lia
    have ag:ssL ss=.lst (ss.map λs=>D.lst (s.map sD)):=rfl;have ls:((ss.map λs=>D.lst (s.map sD)).length:Int)=(ss.length:Int):=by rw[ah]
    rw[ag] at tail ⊢;generalize (ofS ts' (t.1-1)).flatten=rest at *;generalize (t.2++rest).map sD=LL at *;generalize (gf ss.length (t::ts')).map (λs=>D.lst (s.map sD))=LF at *;generalize (gf ss.length ts').map (λs=>D.lst (s.map sD))=LF2 at *;generalize (ss.map λs=>D.lst (s.map sD))=SS at *;generalize (ts.zipIdx).map (rowW ts)=R at *;generalize (debts t.2).map D.int=DB at *;have z6:decide (((6:Nat):Int)=6)=true:=by decide
    have C:∀a b c d e f:D,atI [a,b,c,d,e,f] 0=some a:=λ_ _ _ _ _ _=>rfl;have t1:∀a b c d e f:D,atI [a,b,c,d,e,f] 1=some b:=λ_ _ _ _ _ _=>rfl;have al:¬(HT.sIx 6 0 (some 1)=0/\HT.sIx 6 6 (some 4)=6):=by decide
    have an:∀a b c d e f:D,cutD [a,b,c,d,e,f] (some 1) (some 4)=[b,c,d]:=λ_ _ _ _ _ _=>rfl;have B:decide ((t.1:Int)<1)=false:=decide_eq_false (by lia);have c2:decide ((ss.length:Int)<(t.1:Int))=false:=decide_eq_false (by lia);have W:decide ((t.2.length:Int)<1)=false:=decide_eq_false (by lia);have c4:decide ((t.2.length:Int)+(rest.length:Int)<(t.2.length:Int))=false:=decide_eq_false (by lia);obtain⟨M,tl⟩:=tail v6 LF2;refine⟨[some (.sh (.lst R)),some (.sh (.lst SS)),some (.ow LF2),some (.sh (.int (k:Int))),some (.sh (.tup [.int (t.1:Int),.int (t.2.length:Int),.int (hrs t.2),.int (lss t.2),.lst DB,.int fl])),some (.sh (.int (t.1:Int))),M],?_,_,_,_,_,rfl⟩;simp only[sSeq,sSet,va,zvy,sIf,sRet,sNil,fIxV,ixSl,fVar,fC,dw,au,fNil,fLst,fSl,fSlT,fO0,fO1,fOr,fNot,fTst,fIsi,tyD,isiT,fBin,dSub,dNe,dLt,dGt,bLen,h9,ae,af,ac,ai,aq,av,p,C,t1,w1,w2,E,X,ab,ls,B,c2,W,c4,I,J,aa,h,H,al,an,z6,tl,ak,bu,Nat.reduceAdd,if_true,if_false,ja,bj,beq_self_eq_true,Bool.true_or,decide_true]
)
 rw[uq,i9] at h1;have e0:(gf ss.length []).flatten=[]:=by
  rw[List.flatten_eq_nil_iff];intro l v;unfold gf at v;obtain⟨j,hj,rfl⟩:=fg.mp v;rfl
 have sm:=z01 (ss:=gf ss.length []) (by rw[lr];lia);rw[e0] at sm;have sm:zil [.lst ((gf ss.length []).map λs=>D.lst (s.map sD))]=some (.int 0):=sm;have ap:(ts.zipIdx).length=ts.length:=by simp
 have hi:iR1 [.int (((ts.zipIdx).map (rowW ts)).length:Int)]=some (rngD 0 ts.length):=by rw[ah,ap];exact n4 _ (by lia)
 refine je (e':=[some (.sh (.lst ((ts.zipIdx).map (rowW ts)))),some (.sh (ssL ss)),some (.sh (.lst ((gf ss.length []).map λs=>D.lst (s.map sD)))),y,z,v5,v6]) rfl ?_;rw[show iz 7 [.lst ((ts.zipIdx).map (rowW ts)),ssL ss]=[some (.sh (.lst ((ts.zipIdx).map (rowW ts)))),some (.sh (ssL ss)),none,none,none,none,none] from rfl];generalize (gf ss.length []).map (λs=>D.lst (s.map sD))=L0 at *;generalize (ss.map λs=>D.lst (s.map sD))=L1 at *;generalize (ts.zipIdx).map (rowW ts)=R at *;generalize ssL ss=SS at *;simp only[ziy,sSeq,sOwn,i3,au,fNil,fVar,F,sFor,h9,hi,h1,sRet,fBin,dw,sm,fC,dEq,decide_true,ae,af,av,aq,ac,ai]
variable{k:nb}{p:nq}{s:Hs}{A B C:ln}{n:Nat}
def zsi{v5 v7 v8 v9:ln}(hi:HI n k p s):∃I,forL 6 znm (s.1.map λt=>D.lst (t.map sD)) (EL A B C k p s [v5,none,v7,v8,v9])=some (.nx,EL A B C k p s [v5,I,v7,v8,v9]):=by
 obtain⟨e',h1,I,rfl⟩:=uk (i:=6) (g:=znm) (λt:mu=>D.lst (t.map sD)) (λ_ e=>∃I,e=EL A B C k p s [v5,I,v7,v8,v9]) s.1 (EL A B C k p s [v5,none,v7,v8,v9]) ⟨none,rfl⟩ (by
  rintro q t r e R ⟨I,rfl⟩;have J:t∈s.1:=by rw[R];simp
  have S:=zu7 t (λx U=>hi.at.good x (fc.mpr ⟨t,J,U⟩)) (hi.r14 t J);refine⟨EL A B C k p s [v5,some (.sh (.lst (t.map sD))),v7,v8,v9],?_,_,rfl⟩;generalize t.map sD=T at *;simp only[znm,sIf,fNot,fTst,dw,au,fVar,fNil,EL,S,sNil,ae,af,av,aq,ac,ai,ja,bj,if_false])
 exact⟨I,h1⟩
theorem zxi{v5 v6 v7:ln}(R:(ir ts).length<=14):∃J,forL 9 znn ((ts.zipIdx).map (rowW ts)) (EL A B C k p s [v5,v6,v7,some (.sh (.lst [])),none])=some (.nx,EL A B C k p s [v5,v6,v7,some (.sh (.lst (iD (ir ts)))),J]):=by
 have S:(ts.zipIdx).map (·.1)=ts:=by simp
 obtain⟨e',h1,J,rfl⟩:=uk (i:=9) (g:=znn) (rowW ts) (λq e=>∃J,e=EL A B C k p s [v5,v6,v7,some (.sh (.lst (iD (ir (q.map (·.1)))))),J]) ts.zipIdx (EL A B C k p s [v5,v6,v7,some (.sh (.lst [])),none]) ⟨none,rfl⟩ (by
  rintro q x r e U ⟨J,rfl⟩;have V:(ir (q.map (·.1))).length+x.1.2.length<=14:=by
   rw[<-S,U,b9,cf,o9,show x.1::r.map (·.1)=[x.1]++r.map (·.1) from rfl,o9,uo] at R;simp at R
   lia
  have Y:Few (1*x.1.2.length):=few (by lia);have Z:Few ((iD (ir (q.map (·.1)))).length+(List.replicate x.1.2.length (D.int (x.1.1:Int))).length):=few (by rw[zuk,d8];lia);have h:=bndN x.1.2.length (by lia);have j:iD (ir (q.map (·.1)))++List.replicate x.1.2.length (D.int (x.1.1:Int))=iD (ir ((q++[x]).map (·.1))):=by rw[b9,cf,di,o9,uo,zui,zuj]
  refine⟨EL A B C k p s [v5,v6,v7,some (.sh (.lst (iD (ir ((q++[x]).map (·.1)))))),some (.sh (rowW ts x))],?_,_,rfl⟩;rw[<-j];unfold rowW;generalize (debts x.1.2).map D.int=DB at *;have l:∀a b c d e f:D,atI [a,b,c,d,e,f] 0=some a:=λ_ _ _ _ _ _=>rfl;have m:∀a b c d e f:D,atI [a,b,c,d,e,f] 1=some b:=λ_ _ _ _ _ _=>rfl;generalize iD (ir (q.map (·.1)))=I at *;simp only[znn,sSet,fLst,fCat,fRep,fo,au,fNil,fVar,fIxV,ixSl,fC,EL,l,m,ae,af,av,aq,ac,ai,ak,bu,show(0+1<=64)=True by simp,if_true,gq,i4,Y,h,and_self,zna,Z])
 rw[S] at h1;exact⟨J,h1⟩
theorem good(I:ik)(T:I.length<=63):z4b [.lst (I.map D.int)]=some (.bl true):=by
 obtain⟨cs,Z,a⟩:=zws I 61 (by lia);have a:zc [.lst (I.map D.int),.int 61]=some (.lst (cs.map D.int)):=a;have z:atI (cs.map D.int) 0=some (.int cs[0]):=j6 (k:=0) D.int (by simp[Z]);obtain⟨n,J,E⟩:=z0x cs[0];have b:=z39 J;obtain⟨G,H,K⟩:=zu5 cs (some 1) (some ((61:Int)-cs[0] / 12 % 61));obtain⟨ws,M,N⟩:=zxh G (by lia);obtain⟨A,eA⟩:∃A:ln,A=some (.sh (.lst (I.map D.int))):=⟨_,rfl⟩;obtain⟨B,eB⟩:∃A:ln,A=some (.sh (.lst (cs.map D.int))):=⟨_,rfl⟩;obtain⟨C,eC⟩:∃A:ln,A=some (.sh (.int n)):=⟨_,rfl⟩;have O:=z0n (n:=n) J (F:=au (fVar 2) fNil) (e:=[A,B,C,none,none,none,none,none,none,none]) (by rw[eC];rfl);obtain⟨k,p,s,v,R,P,c⟩:=zro (A:=A) (B:=B) (C:=C) (r:=[none,none,none,none]) ws [] [] (newS n) none (HI.new J);obtain⟨ts,ok,U⟩:=ziw s.1 R.at.good R.at.few;have l5:=R.l5;have Y:=R.at.few;have d:=zjq ok U Y;have f:(ir ts).length<=14:=by rw[ok.whole.len];exact Y
 obtain⟨S,Q⟩:=zsi (A:=A) (B:=B) (C:=C) (v5:=v) (v7:=none) (v8:=none) (v9:=none) R;have o:=z3y (m:=y8) (e:=EL A B C k p s [v,S,none,none,none]) (i:=3) (l:=none) (k:=k) (p:=p++[s]) rfl;rw[z30 (k:=k) (p:=p) (zoy ok U R.at.good (by lia) Y)] at o;have V:=zsh ok R.at.good (by lia) Y;obtain⟨q,g⟩:=zxi (A:=A) (B:=B) (C:=C) (k:=k) (p:=p) (s:=s) (v5:=v) (v6:=S) (v7:=some (.sh (.lst ((ts.zipIdx).map (rowW ts))))) f;have u:=z3y (m:=zn) (e:=EL A B C k p s [v,S,some (.sh (.lst ((ts.zipIdx).map (rowW ts)))),some (.sh (.lst (iD (ir ts)))),q]) (i:=3) (l:=none) (k:=k) (p:=p++[s]) rfl;rw[zw7 d] at u;have sn:=zp5 (ir ts) (by lia);have x:fDat 4 0 (EL A B C k p s [v,none,none,none,none])=some (ssL s.1,EL A B C k p s [v,none,none,none,none]):=rfl;have y:∀w,fDat 4 0 (EL A B C k p s [v,S,w,none,none])=some (ssL s.1,EL A B C k p s [v,S,w,none,none]):=λ_=>rfl;have h:dDiv (.int cs[0]) (.int 12)=some (.int (cs[0] / 12)):=zzv (by decide) (by decide);have j:dMod (.int (cs[0] / 12)) (.int 61)=some (.int (cs[0] / 12 % 61)):=zzu (by decide);rw[show bDo 5 sNil=zu6 from z00 _] at c;refine je (e':=EL A B C k p s [v,S,some (.sh (.lst ((ts.zipIdx).map (rowW ts)))),some (.sh (.lst (iD (ir ts)))),q]) rfl ?_;rw[show iz 10 [D.lst (I.map D.int)]=[some (.sh (.lst (I.map D.int))),none,none,none,none,none,none,none,none,none] from rfl];unfold EL at *;rw[ky] at c;subst eA eB eC;unfold z4a;rw[show(AK.ins false "House" il)=kH from rfl];have tl:∀L,isiT (tyD (.lst L)) "list" = true:=λ_=>rfl;have ss:ssL s.1=.lst (s.1.map λt=>D.lst (t.map sD)):=rfl;rw[ss] at V x;simp only[ss] at y;generalize (s.1.map λt=>D.lst (t.map sD))=SL at *;generalize (ts.zipIdx).map (rowW ts)=RW at *;generalize iD (ir ts)=OL at *;generalize hP k (p++[s])=HP at *;generalize stP k p s=SP at *;generalize hP [] [newS n]=HP0 at *;generalize stP [] [] (newS n)=SP0 at *;simp only[sSeq,sSet,dw,au,fVar,fC,fNil,fo,bu,fu,ae,af,av,aq,ac,ai,a,fIxV,ixSl,z,E,yb,O,zq0,b,sIf,fOr,fNot,fTst,fIsi,tl,ja,bj,if_false,if_true,sNil,sFor,fiS,fLst,fSl,fO1,fBin,dSub,h,j,H,N,c,x,y,Q,o,V,g,u,sn,sRet]
end SQ
end
open PySem PySem.W PyProof.Rows
open L2 (us1 us2 us3 us4 us5)
theorem PySem.Challenge.cw_rotstacks_k32_whole_blocks_holds : PySem.Challenge.rw_rotstacks_k32_whole_blocks.Holds := by
 refine headO ?_
 k_fill
 refine L2.walkD (k:=11) (s:="_law_script") (l:=PySem.Challenge.rw_rotstacks_k32_whole_blocks) ⟨rfl,by decide,by decide⟩ rfl rfl (λw h Y=>PySem.W.kIn_of Y) ?F;case F =>
  intro w mg fa h KX G hmg;refine' L2.law_mk KX G hmg ?a ?l ?c ?k ?b (SQ.ok_all _ _ _ _ _ _ _ _ _ _ _ _ _ _ _ _ _ _ _ _ _ _ _ _ _ _ _ _ _ _ _ _ _ _ _ _ _ _ _ _ _ _ _ _ _ _ _ _ _ _ _ _ _ _ _ _ _ _ _ _ _ _ _ _ _ _ _ _ _ _ _ _ _ ?hhC _ _ _ _ _ _ _ _ _ _ _ _ _ _ _ _ _ _ _ _ _ _ _ _ _ _ _ _ _ _ _ _ _ _) SQ.good
  (case a=>k_is)
  (case l=>k_is)
  (case c=>k_is)
  (case k=>k_is)
  (case b=>exact λv=>rfl)
  (case hhC=>unfold L2.Cl;k_is)
  all_goals first | (refine' L2.def_mk (by assumption) (by assumption) ?a ?l ?c ?k ?b;(case a=>k_is);(case l=>k_is);(case c=>k_is);(case k=>k_is);(case b=>first | exact us1 λ_=>rfl | exact us2 λ_ _=>rfl | exact us3 λ_ _ _=>rfl | exact us4 λ_ _ _ _=>rfl | exact us5 λ_ _ _ _ _=>rfl)) | (refine' L2.mef_mk ?a ?l ?c ?k ?i ?b;(case a=>k_is);(case l=>k_is);(case c=>k_is);(case k=>k_is);(case i=>k_is);(case b=>first | exact us1 λ_=>rfl | exact us2 λ_ _=>rfl | exact us3 λ_ _ _=>rfl | exact us4 λ_ _ _ _=>rfl | exact us5 λ_ _ _ _ _=>rfl)) | exact⟨by k_is,by k_is,by k_is,by k_is⟩ | exact PySem.W.mg_none_of KX G (by k_is) | exact j4 KX G (by k_is) | (refine' L2.exc_mk KX G ?a ?b (by decide +kernel);(case a=>k_is);(case b=>k_exc)) | (refine' L2.con_mk KX G ?a;(case a=>k_is)) | exact L2.kf_mk KX G (by kernel_rfl) | k_is

