import PyProof.Rows.All
import Wide.All
import OpenK.AllK
import Wide.FinOn
import Lean
import PyProof.EqAt
import PyProof.EqKinds
import PyProof.TupleCall
import PyProof.Draws
import PyProof.ZipIter
import PyProof.EnumMake
import PyProof.AttrMissHeap
import KE.KDictOf
import PyProof.Rows.SeqMore2
import PyProof.Rows.SortWalk
import PySem.Challenge.RW_rotstacks_k20_tell
set_option Elab.async false
set_option linter.all false
set_option compiler.extract_closed false
set_option maxRecDepth 100000
set_option maxHeartbeats 0
namespace PySem.W.Fast
def tw15322368539271036669:=()
def tw16532565388948089689:=()
def tw8763362985707160605:=()
def tw3301900299095288138:=()
def tw4248150464866556625:=()
def tw390746492956994619:=()
def tw14726039395708169042:=()
def tw16443253333803420104:=()
def tw10533599864970498892:=()
def tw14325073632747396265:=()
def tw8021352069485899818:=()
def tw10900955558412200155:=()
def tw2626721090386267002:=()
def tw11426443043654593942:=()
def tw14620615850239007432:=()
def tw1489821537144307907:=()
def tw11105427925141876665:=()
def tw2310152115407694317:=()
def tw4262831918788353210:=()
def tw1030786325826500318:=()
def tw14594615223095892107:=()
def tw13829647151781561520:=()
def tw857434056779319320:=()
def tw17876478130992551558:=()
def tw13413012072783188425:=()
def tw3931148011955721911:=()
def tw9407546540072142627:=()
def tw4437080809759059605:=()
def tw10121377862272130278:=()
def tw2455845457240328603:=()
def tw6575327488482023919:=()
def tw8672185609985027439:=()
def tw9861558533797506370:=()
def tw14573953567509026023:=()
def tw7398138059086511904:=()
def tw6239945339599895091:=()
def tw11449094460266757391:=()
def tw713925798845973743:=()
def tw17806559798037380195:=()
def tw3197127712834208283:=()
def tw3364652684642082450:=()
def tw15552618252400785101:=()
def tw520760608191861299:=()
def tw5317498474899054006:=()
def tw1592825966979909660:=()
def tw4754274491870970602:=()
def tw8936502833500920895:=()
def tw8168842266489454260:=()
def tw3823070681319032280:=()
def tw13494128715974936559:=()
def tw13216005959699228206:=()
def tw2678646209641352363:=()
def tw15711869671402154468:=()
def tw5721976631286687531:=()
def tw9798687865813937216:=()
def tw32442392172473029:=()
def tw14845087081150203729:=()
def tw10299508411813066587:=()
def tw15152272479559362860:=()
def tw13464293334361598402:=()
def tw15271102585143624053:=()
def tw511964816478924817:=()
def tw15359102603107413231:=()
def tw267220488418714694:=()
def tw17176539658762967806:=()
def tw5486933654357356770:=()
def tw18251893030405360759:=()
def tw14387488730969255258:=()
def tw17715355151536627880:=()
def tw13252475720556201039:=()
def tw5794113773821822752:=()
def tw923929161578708131:=()
def tw16518523057615377998:=()
def tw12228147544654841872:=()
def tw5695818420071679229:=()
def tw12787879425846906538:=()
def tw6483710568601462799:=()
def tw7062433028394551289:=()
def tw14314331636810974966:=()
def tw6304074034095042606:=()
def tw10061068533373863766:=()
def tw3561077095577288484:=()
def tw17641721242299239527:=()
def tw7480326298462670547:=()
def tw15312604883864658121:=()
def tw2653100503704486927:=()
def tw12271837024212840064:=()
def tw8046396776376872931:=()
def tw14057238044761739051:=()
def tw13372310052145129520:=()
def tw7556450903620949716:=()
def tw15831293633207555195:=()
def tw9420172007036384438:=()
def tw3018418718631485023:=()
def tw14649544806754832931:=()
def tw1173091315488017653:=()
def tw2071606587056475718:=()
def tw4685104083224611147:=()
def tw4895425382642465790:=()
def tw4872185083630023082:=()
def tw58109462115370533:=()
def tw7083750166878692056:=()
def tw8287477372257394460:=()
def tw12158935410541829164:=()
def tw6807099400858582690:=()
def tw5898611799629526299:=()
def tw8226255479208371499:=()
def tw18424013207920332442:=()
def tw8507352256790140945:=()
def tw17741644304281435960:=()
def tw10405927150804094027:=()
def tw2779806356483853326:=()
def tw10743280145993326340:=()
def tw2224808020388061643:=()
def tw12424787535275049562:=()
def tw13916040809530369296:=()
def tw17081379799441678081:=()
def tw10879388595287842575:=()
def tw568288329237370443:=()
def tw14767782586175439492:=()
def tw9218007220701248928:=()
def tw11259471920729424210:=()
def tw15469945006531455178:=()
def tw8662221553855630777:=()
def tw11066789057533804942:=()
def tw2228886653635050822:=()
def tw7881732657216084209:=()
def tw13144248107758189823:=()
def tw5467222893395880145:=()
def tw1941158131923050496:=()
def tw10472215586378509919:=()
def tw6520074674419840931:=()
def tw18099234228738475600:=()
def tw4050732226601590682:=()
def tw15548075588772323972:=()
def tw3872529491428680710:=()
def tw16010320434224640865:=()
def tw3444587822831460601:=()
def tw10524798556991181576:=()
def tw11073039516269669748:=()
def tw2903587536570550830:=()
def tw9234954786079030011:=()
def tw210044324623842073:=()
def tw13831372673954381770:=()
def tw303393188462876981:=()
def tw7101557838441739412:=()
def tw7027161504191823226:=()
def tw9679322562879927657:=()
def tw17533547994073296204:=()
def tw8207743015278759484:=()
def tw4305065240375502561:=()
def tw10986931170350255741:=()
def tw90743548125290388:=()
def tw5166654182613107631:=()
def tw4293782983800706777:=()
def tw10587343237000749088:=()
def tw12820195605933434369:=()
def tw2811824731477432661:=()
def tw3626200723580813935:=()
def tw15745789919013403160:=()
def tw17503975950964354946:=()
def tw8528296176800286927:=()
def tw9386486049590100709:=()
def tw4052543639505978254:=()
def tw4434607554527789799:=()
def tw15146276678955778912:=()
def tw12085653861347959118:=()
def tw11638739722516940127:=()
def tw1672570849053800847:=()
def tw18134341946883080869:=()
def tw11478856704950905501:=()
def tw17715931759675475243:=()
def tw23336477830775565:=()
def tw3609704435018269715:=()
def tw6407755404423631311:=()
def tw5062136379586313953:=()
def tw13121867851967981337:=()
def tw11253667389575703803:=()
def tw3629635586054587791:=()
def tw8055652539093113692:=()
def tw951539657040619174:=()
def tw18029028007215424864:=()
def tw17814047037683550049:=()
def tw13341254790193404362:=()
def tw15594794917597159775:=()
def tw13617027138147984029:=()
def tw683955573386985426:=()
def tw11114441641902549053:=()
def tw2620867373401844138:=()
def tw15399392379912836652:=()
def tw18340562622793270927:=()
def tw17390530949067090540:=()
def tw507066804681686513:=()
def tw2539125382721200481:=()
def tw7848409590926522962:=()
def tw18167784821210252591:=()
def tw10020126217023852985:=()
def tw16913001617521123322:=()
def tw16534366105450581242:=()
def tw12187120691550891565:=()
def tw17698045181106920911:=()
def tw3940656549514326351:=()
def tw11054019970778517585:=()
def tw4451723133488617876:=()
def tw877183048276373481:=()
def tw7725012626891826632:=()
def tw15801375300011771290:=()
def tw5106441590265517144:=()
def tw7586728641817783655:=()
def tw2388936564005763016:=()
def tw9066875690859439559:=()
def tw15509039178638469261:=()
end PySem.W.Fast
open_top headO for PySem.Challenge.rw_rotstacks_k20_tell
noncomputable section
namespace L2
open PySem PySem.Spec PyProof.Rows
abbrev Key:=Sum Int Str
def z14:Key->Value->Bool
 | .inl k,v=>Value.isInt k v
 | .inr x,v=>Value.isStrOf x v
def keyH(w:World):Key->Int
 | .inl k=>hashInt k
 | .inr x=>hashStr w x
theorem zch:∀ {k:Key} {v:Value},z14 k v=true->(∃i t,k=Sum.inl i/\v=Value.int i t)\/(∃x t,k=Sum.inr x/\v=Value.str x t)
 | .inl i,v,h=>by
   obtain⟨t,e⟩:=Value.isInt_shape (k:=i) (v:=v) h
   exact .inl ⟨i,t,rfl,e⟩
 | .inr x,v,h=>by
   obtain⟨t,e⟩:=Value.isStrOf_shape (x:=x) (v:=v) h
   exact .inr ⟨x,t,rfl,e⟩
theorem z15(a b:Int):decide ((Sum.inl a:Key)=Sum.inl b)=(a==b):=by
 by_cases e:a=b
 ·subst e;simp
 ·have h:¬(Sum.inl a:Key)=Sum.inl b:=fun q=>e (Sum.inl.inj q)
  rw[decide_eq_false h]
  exact(beq_eq_false_iff_ne.mpr e).symm
theorem z16(a b:Str):decide ((Sum.inr a:Key)=Sum.inr b)=decide (a=b):=by
 by_cases e:a=b
 ·subst e;simp
 ·have h:¬(Sum.inr a:Key)=Sum.inr b:=fun q=>e (Sum.inr.inj q)
  rw[decide_eq_false h,decide_eq_false e]
theorem z17(a:Int)(b:Str):decide ((Sum.inl a:Key)=Sum.inr b)=false:=decide_eq_false (fun q=>nomatch q)
theorem z18(a:Str)(b:Int):decide ((Sum.inr a:Key)=Sum.inl b)=false:=decide_eq_false (fun q=>nomatch q)
def zts(prog:Program)(w:World):PySem.KeyKind prog w Key where
 is:=z14
 hash:=keyH w
 inj:=fun v a b ha hb=>by
  rcases zch ha with⟨i,t,rfl,rfl⟩ | ⟨x,t,rfl,rfl⟩
  ·rcases zch hb with⟨j,u,rfl,e⟩ | ⟨y,u,rfl,e⟩
   ·injection e with e1 _;rw[e1]
   ·exact nomatch e
  ·rcases zch hb with⟨j,u,rfl,e⟩ | ⟨y,u,rfl,e⟩
   ·exact nomatch e
   ·injection e with e1 _;rw[e1]
 byValue:=fun k v h=>by
  rcases zch h with⟨i,t,rfl,rfl⟩ | ⟨x,t,rfl,rfl⟩ <;> rfl
 pyHash:=fun hv h=>by
  rcases zch hv with⟨i,t,rfl,rfl⟩ | ⟨x,t,rfl,rfl⟩
  ·exact wpAny_pyHash_int h
  ·exact wpAny_pyHash_str h
 eqBool:=fun hu hv h=>by
  rcases zch hu with⟨i,t,rfl,rfl⟩ | ⟨x,t,rfl,rfl⟩
  ·rcases zch hv with⟨j,u,rfl,rfl⟩ | ⟨y,u,rfl,rfl⟩
   ·rw[z15] at h;exact wpAny_eqBool_int h
   ·rw[z17] at h;exact SeqAt.EqAt.int_str i t y u _ _ _ _ h
  ·rcases zch hv with⟨j,u,rfl,rfl⟩ | ⟨y,u,rfl,rfl⟩
   ·rw[z18] at h;exact SeqAt.EqAt.str_int x t j u _ _ _ _ h
   ·rw[z16] at h;exact wpAny_eqBool_str h
 «strs»:=fun k x t v h=>by
  rcases zch h with⟨i,u,rfl,e⟩ | ⟨y,u,rfl,e⟩
  ·exact nomatch e
  ·injection e with e1 _
   subst e1
   cases v <;> rfl
inductive V where
 | non | bl (b:Bool) | int (i:Int) | str (x:Str) | byt (b:Array UInt8) | flt (b:UInt64) | ref (a:Addr) | ty (n:String)
 deriving DecidableEq
def RelV:V->Value->Prop
 | .non,u=>u=Value.none
 | .bl b,u=>u=Value.bool b
 | .int i,u=>∃t,u=Value.int i t
 | .str x,u=>∃t,u=Value.str x t
 | .byt b,u=>∃t,u=Value.bytes b t
 | .flt b,u=>∃t,u=Value.float b t
 | .ref a,u=>u=Value.ref a
 | .ty n,u=>u=Value.type n
abbrev Vals:List V->List Value->Prop:=Paired RelV
theorem Vals.length{xs:List V}{us:List Value}(r:Vals xs us):xs.length=us.length:=Paired.length r
theorem Vals.get:∀ {xs:List V} {us:List Value} {i:Nat} {x:V},Vals xs us->xs[i]?=some x->∃u,us[i]?=some u/\RelV x u
 | _,_,_,_,.nil,e=>by simp at e
 | _,_,0,_,.cons r _,e=>by simp at e;subst e;exact⟨_,rfl,r⟩
 | _,_,i+1,x,.cons _ t,e=>by
   obtain⟨u,h1,h2⟩:=Vals.get (i:=i) (x:=x) t (by simpa using e)
   exact⟨u,by simpa using h1,h2⟩
theorem Vals.set{x:V}{u:Value}(r:RelV x u):∀ {xs:List V} {us:List Value} (i:Nat),Vals xs us->Vals (xs.set i x) (us.set i u)
 | _,_,_,.nil=>.nil
 | _,_,0,.cons _ t=>.cons r t
 | _,_,i+1,.cons q t=>.cons q (Vals.set r i t)
theorem Vals.append:∀ {xs ys:List V} {us ws:List Value},Vals xs us->Vals ys ws->Vals (xs++ys) (us++ws)
 | _,_,_,_,.nil,s=>s
 | _,_,_,_,.cons r t,s=>.cons r (Vals.append t s)
theorem Vals.take:∀ {xs:List V} {us:List Value} (n:Nat),Vals xs us->Vals (xs.take n) (us.take n)
 | _,_,0,_=>.nil
 | _,_,_+1,.nil=>.nil
 | _,_,n+1,.cons r t=>.cons r (Vals.take n t)
theorem Vals.drop:∀ {xs:List V} {us:List Value} (n:Nat),Vals xs us->Vals (xs.drop n) (us.drop n)
 | _,_,0,r=>r
 | _,_,_+1,.nil=>.nil
 | _,_,n+1,.cons _ t=>Vals.drop n t
theorem Vals.none_of:∀ {xs:List V} {us:List Value} {i:Nat},Vals xs us->xs[i]?=none->us[i]?=none:=fun {xs us i} r e=>by
 have h1:=r.length
 have h2:xs.length<=i:=List.getElem?_eq_none_iff.mp e
 exact List.getElem?_eq_none_iff.mpr (by omega)
def RelO:Option V->Option Value->Prop
 | some v,some u=>RelV v u
 | none,none=>True
 | _,_=>False
def KV{κ:Type}:List (κ×V)->List (κ×Value)->Prop:=Paired fun(p:κ×V) (q:κ×Value)=>p.1=q.1/\RelV p.2 q.2
def kV:Key->V
 | .inl i=>.int i
 | .inr x=>.str x
inductive HO where
 | lst (xs:List V)
 | tup (xs:List V)
 | dK (kvs:List (Key×V)) | dT (kvs:List (List Key×V))
 | set (S:Int->Bool) (n:Nat)
 | ins (C dx:Addr) (fs:List (Str×V))
 | own (x:Addr)
 | xd (fs:List (Str×V))
 | met (f x:Addr)
 | rng (lo hi:Int)
 | frz (o:Obj) (u:HO)
 | tbl (ps:Array Value)
 | ext (φ:Heap->Prop)
abbrev Hp:=Addr->Option HO
def upd(H:Hp)(a:Addr)(o:HO):Hp:=fun b=>if b=a then some o else H b
variable{H:Hp}{a:Addr}{o:HO}
theorem za3:upd H a o a=some o:=by unfold upd;rw[if_pos rfl]
variable{b:Addr}
theorem zaq(h:b≠a):upd H a o b=H b:=by unfold upd;rw[if_neg h]
theorem zbh(h:H a=some o)(h':H b=none):a≠b:=by
 intro e;subst e;rw[h] at h';cases h'
section
variable (P:Program) (w:World)
def ObjOk(H:Hp)(h:Heap)(a:Addr):HO->Prop
 | .lst xs=>xs.length<=sizeLine/\∃(its:List Value) (n:Nat),Vals xs its/\h.get? a=some { cls:=.type "list",data:=.seq its.toArray n }
 | .tup xs=>xs.length<=sizeLine/\∃its:List Value,Vals xs its/\IsTup h a its.toArray
 | .dK kvs=>kvs.length<=sizeLine/\(a==sysModules)=false/\∃vs,KV kvs vs/\h.DictOf (zts P w) a vs
 | .dT kvs=>kvs.length<=sizeLine/\(a==sysModules)=false/\∃xs:List (List Key×Addr×Value),
    Paired (fun(p:List Key×V) (q:List Key×Addr×Value)=>p.1=q.1/\H q.2.1=some (.tup (p.1.map kV))/\RelV p.2 q.2.2) kvs xs /\
    ∃o es ep,h.get? a=some o/\o.ExactDict/\o.data=.dict es ep/\es.toList=xs.map (entryOfKey (tupleKind (zts P w)))/\(xs.map (·.1)).Nodup
 | .set S n=>h.SetOf (intKind P w) a S n
 | .ins C dx fs=>H dx=some (.own a)/\fs.length<=1000/\dx≠a/\h.get? a=some (PySem.W.instObj C dx) /\
    ∃mA,h.Ns1 dx mA/\(∀f,RelO (fs.lookup f) (mA f))/\PySem.Within mA (fs.map (·.1))
 | .own _=>∃o,h.get? a=some o
 | .xd fs=>∃mA,h.Ns1 a mA/\∀f,RelO (fs.lookup f) (mA f)
 | .rng lo hi=>∃t u v,h.get? a=some { cls:=.type "range",data:=.fields #[.int lo t,.int hi u,.int 1 v] }
 | .frz o u=>h.get? a=some o/\ObjOk H h a u
 | .tbl ps=>h.get? a=some { cls:=.none,data:=.fields ps }
 | .met f x=>h.get? a=some (PySem.W.methodObj (.ref f) (.ref x))
 | .ext φ=>φ h/\(∃o,h.get? a=some o)/\∀h1 h2:Heap,φ h1->(∀o,h1.get? a=some o->h2.get? a=some o)->φ h2
def HOk(H:Hp)(h:Heap):Prop:=∀a o,H a=some o->ObjOk P w H h a o
end
variable{P:Program}{w:World}{h:Heap}
theorem ObjOk.lt(x:ObjOk P w H h a o):a<h.objs.size:=by
 cases o with
 | lst xs=>obtain⟨_,_,_,_,e⟩:=x;exact Heap.lt_size e
 | tup xs=>obtain⟨_,_,_,p⟩:=x;exact p.lt
 | dK kvs=>obtain⟨_,_,_,_,o,_,_,e,_⟩:=x;exact Heap.lt_size e
 | dT kvs=>obtain⟨_,_,_,_,o,_,_,e,_⟩:=x;exact Heap.lt_size e
 | set S n=>obtain⟨o,_,_,_,e,_⟩:=x;exact Heap.lt_size e
 | ins C dx fs=>obtain⟨_,_,_,e,_⟩:=x;exact Heap.lt_size e
 | own y=>obtain⟨_,e⟩:=x;exact Heap.lt_size e
 | xd fs=>obtain⟨_,⟨_,_,_,e,_⟩,_⟩:=x;exact Heap.lt_size e
 | rng lo hi=>obtain⟨_,_,_,e⟩:=x;exact Heap.lt_size e
 | frz ob u=>obtain⟨e,_⟩:=x;exact Heap.lt_size e
 | tbl ps=>exact Heap.lt_size (show h.get? a=some _ from x)
 | met f y=>exact Heap.lt_size (show h.get? a=some _ from x)
 | ext φ=>obtain⟨_,⟨_,e⟩,_⟩:=x;exact Heap.lt_size e
theorem Paired.mapP{α β:Type}{F G:α->β->Prop}:∀ {l₁:List α} {l₂:List β},Paired F l₁ l₂->(∀a b,F a b->G a b)->Paired G l₁ l₂
 | _,_,.nil,_=>.nil
 | _,_,.cons r t,f=>.cons (f _ _ r) (Paired.mapP t f)
variable{H':Hp}{h':Heap}
theorem ObjOk.stay(x:ObjOk P w H h a o)(k:∀b u,(b=a\/H b=some (.own a))->h.get? b=some u->h'.get? b=some u)(ho:∀b,H b=some (.own a)->H' b=some (.own a))(ht:∀b xs,H b=some (.tup xs)->H' b=some (.tup xs)):ObjOk P w H' h' a o:=by
 induction o with
 | lst xs=>obtain⟨z,its,n,r,e⟩:=x;exact⟨z,its,n,r,k _ _ (.inl rfl) e⟩
 | tup xs=>obtain⟨z,its,r,ob,e,c⟩:=x;exact⟨z,its,r,ob,k _ _ (.inl rfl) e,c⟩
 | dK kvs=>obtain⟨z,y,vs,r,ob,es,ep,e,c⟩:=x;exact⟨z,y,vs,r,ob,es,ep,k _ _ (.inl rfl) e,c⟩
 | dT kvs =>
   obtain⟨z,y,xs,r,ob,es,ep,e,c⟩:=x
   exact⟨z,y,xs,Paired.mapP r fun p q z=>⟨z.1,ht _ _ z.2.1,z.2.2⟩,ob,es,ep,k _ _ (.inl rfl) e,c⟩
 | set S n=>obtain⟨ob,es,ep,t,e,c⟩:=x;exact⟨ob,es,ep,t,k _ _ (.inl rfl) e,c⟩
 | ins C dx fs =>
   obtain⟨d,z,ne,e,mA,⟨od,es,ep,e2,c⟩,r⟩:=x
   exact⟨ho _ d,z,ne,k _ _ (.inl rfl) e,mA,⟨od,es,ep,k _ _ (.inr d) e2,c⟩,r⟩
 | own y=>obtain⟨ob,e⟩:=x;exact⟨ob,k _ _ (.inl rfl) e⟩
 | xd fs=>obtain⟨mA,⟨od,es,ep,e,c⟩,r⟩:=x;exact⟨mA,⟨od,es,ep,k _ _ (.inl rfl) e,c⟩,r⟩
 | rng lo hi=>obtain⟨t,u,v,e⟩:=x;exact⟨t,u,v,k _ _ (.inl rfl) e⟩
 | frz ob u ih=>obtain⟨e,q⟩:=x;exact⟨k _ _ (.inl rfl) e,ih q⟩
 | tbl ps =>
   have e:h.get? a=some { cls:=.none,data:=.fields ps }:=x
   show h'.get? a=some { cls:=.none,data:=.fields ps }
   exact k a _ (.inl rfl) e
 | met f y =>
   have e:h.get? a=some (PySem.W.methodObj (.ref f) (.ref y)):=x
   show h'.get? a=some (PySem.W.methodObj (.ref f) (.ref y))
   exact k a _ (.inl rfl) e
 | ext φ=>obtain⟨p,⟨o,e⟩,st⟩:=x;exact⟨st _ _ p fun o q=>k _ _ (.inl rfl) q,⟨o,k _ _ (.inl rfl) e⟩,st⟩
theorem HOk.lt(x:HOk P w H h)(e:H a=some o):a<h.objs.size:=(x a o e).lt
theorem HOk.fresh(x:HOk P w H h)(e:h.objs.size<=a):H a=none:=by
 cases q:H a with
 | none=>rfl
 | some u=>exact absurd (Nat.lt_of_lt_of_le (x.lt q) e) (Nat.lt_irrefl _)
theorem HOk.kept(x:HOk P w H h)(k:∀b u,h.get? b=some u->h'.get? b=some u):HOk P w H h':=fun a o e =>
 (x a o e).stay (fun b u _ q=>k b u q) (fun _ q=>q) fun _ _ q=>q
theorem HOk.laid(x:HOk P w H h)(k:∀b u,h.get? b=some u->h'.get? b=some u)(hp:h.objs.size<=a)(new:ObjOk P w (upd H a o) h' a o):HOk P w (upd H a o) h':=fun b u e=>by
 have hn:=x.fresh hp
 by_cases hb:b=a
 ·subst hb;rw[za3] at e;cases e;exact new
 ·rw[zaq hb] at e
  exact(x b u e).stay (fun c v _ q=>k c v q) (fun c q=>by rw[zaq (zbh q hn)];exact q) fun c xs q=>by rw[zaq (zbh q hn)];exact q
def Rd(H:Hp)(a:Addr)(u:HO):Prop:=H a=some u\/∃o,H a=some (.frz o u)
variable{u:HO}
theorem Rd.of(h:H a=some u):Rd H a u:=.inl h
theorem Rd.ok(r:Rd H a u)(x:HOk P w H h):ObjOk P w H h a u:=by
 rcases r with r | ⟨o,r⟩
 ·exact x a u r
 ·obtain⟨_,q⟩:=x a _ r
  exact q
def Mut:Option HO->Prop
 | some (.lst _)=>True
 | some (.dK _)=>True
 | some (.dT _)=>True
 | some (.set _ _)=>True
 | some (.ins _ _ _)=>True
 | some (.ext _)=>True
 | _=>False
variable{x e:Addr}{o':HO}
theorem HOk.write(ok:HOk P w H h)(mu:Mut (H x))(he:e=x\/H e=some (.own x))(k:∀b u,b≠e->h.get? b=some u->h'.get? b=some u)(heo:∃u,h'.get? e=some u)(new:ObjOk P w (upd H x o') h' x o'):HOk P w (upd H x o') h':=fun b u q=>by
 have nown:∀c y,H c=some (.own y)->c≠x:=fun c y r z=>by subst z;rw[r] at mu;exact mu
 have ntup:∀c xs,H c=some (.tup xs)->c≠x:=fun c xs r z=>by subst z;rw[r] at mu;exact mu
 by_cases hb:b=x
 ·subst hb;rw[za3] at q;cases q;exact new
 ·rw[zaq hb] at q
  by_cases hbe:b=e
  ·have q':H b=some (.own x):=by
    rcases he with z | z
    ·exact absurd (hbe.trans z) hb
    ·rw[hbe];exact z
   rw[q] at q';cases q'
   obtain⟨v,hv⟩:=heo
   exact⟨v,by rw[hbe];exact hv⟩
  ·refine(ok b u q).stay (fun c v hc r=>k c v ?_ r) (fun c r=>by rw[zaq (nown c b r)];exact r) fun c xs r=>by rw[zaq (ntup c xs r)];exact r
   rcases hc with rfl | hc
   ·exact hbe
   ·rintro rfl
    rcases he with z | z
    ·exact nown c b hc z
    ·rw[hc] at z;cases z;exact hb rfl
structure Un (fs ex:List Addr) (H H':Hp) (h h':Heap):Prop where
 keep:∀b o,h.get? b=some o->H b=none->b∉fs->b∉ex->h'.get? b=some o
 slot:∀b o,h.get? b=some o->H b=none->b∈fs->b∉ex->∃sl,h'.get? b=some { o with slots:=sl }
 free:∀b o,h.get? b=some o->H b=none->b∉ex->H' b=none
 there:∀b o,h.get? b=some o->b∉ex->∃o',h'.get? b=some o'
 tups:∀b xs,H b=some (.tup xs)->H' b=some (.tup xs)
 frzs:∀b o u,H b=some (.frz o u)->H' b=some (.frz o u)
 tbls:∀b ps,H b=some (.tbl ps)->∃more,H' b=some (.tbl (ps++more))
variable{fs ex:List Addr}{H1:Hp}{h1:Heap}
theorem Un.any(u:Un fs ex H H1 h h1){ob:Obj}(q:h.get? b=some ob)(n:H b=none)(hx:b∉ex):∃sl,h1.get? b=some { ob with slots:=sl }:=by
 by_cases hb:b∈fs
 ·exact u.slot b ob q n hb hx
 ·exact⟨ob.slots,u.keep b ob q n hb hx⟩
variable{H2:Hp}{h2:Heap}
theorem Un.trans(a:Un fs ex H H1 h h1)(b:Un fs ex H1 H2 h1 h2):Un fs ex H H2 h h2 where
 keep:=fun c ob q n hc hx=>b.keep c ob (a.keep c ob q n hc hx) (a.free c ob q n hx) hc hx
 slot:=fun c ob q n hc hx=>by
  obtain⟨sl,e1⟩:=a.slot c ob q n hc hx
  obtain⟨sl',e2⟩:=b.slot c _ e1 (a.free c ob q n hx) hc hx
  exact⟨sl',e2⟩
 free:=fun c ob q n hx=>by
  obtain⟨o',e1⟩:=a.there c ob q hx
  exact b.free c o' e1 (a.free c ob q n hx) hx
 there:=fun c ob q hx=>by
  obtain⟨o',e1⟩:=a.there c ob q hx
  exact b.there c o' e1 hx
 tups:=fun c xs q=>b.tups c xs (a.tups c xs q)
 frzs:=fun c ob xs q=>b.frzs c ob xs (a.frzs c ob xs q)
 tbls:=fun c ps q=>by
  obtain⟨m1,e1⟩:=a.tbls c ps q
  obtain⟨m2,e2⟩:=b.tbls c _ e1
  exact⟨m1++m2,by rw[e2,Array.append_assoc]⟩
theorem Un.kept(k:∀b u,h.get? b=some u->h'.get? b=some u):Un fs ex H H h h' :=
 ⟨fun b ob q _ _ _=>k b ob q,fun b ob q _ _ _=>⟨ob.slots,k b ob q⟩,fun _ _ _ n _=>n,fun b ob q _=>⟨ob,k b ob q⟩,fun _ _ q=>q,fun _ _ _ q=>q,fun _ ps q=>⟨#[],by rw[q];simp⟩⟩
theorem Un.refl:Un fs ex H H h h:=Un.kept fun _ _ q=>q
theorem Un.laid(k:∀b u,h.get? b=some u->h'.get? b=some u)(hp:h.objs.size<=a)(hn:H a=none):Un fs ex H (upd H a o) h h' where
 keep:=fun b u q _ _ _=>k b u q
 slot:=fun b u q _ _ _=>⟨u.slots,k b u q⟩
 free:=fun b u q n _=>by rw[zaq (Nat.ne_of_lt (Nat.lt_of_lt_of_le (Heap.lt_size q) hp))];exact n
 there:=fun b u q _=>⟨u,k b u q⟩
 tups:=fun b xs q=>by rw[zaq (zbh q hn)];exact q
 frzs:=fun b u xs q=>by rw[zaq (zbh q hn)];exact q
 tbls:=fun b ps q=>⟨#[],by rw[zaq (zbh q hn),q];simp⟩
theorem Un.write(mu:Mut (H x))(he:e=x\/H e=some (.own x))(k:∀b u,b≠e->h.get? b=some u->h'.get? b=some u)(heo:∃u,h'.get? e=some u):Un fs ex H (upd H x o) h h':=by
 have hx:∀b,H b=none->b≠x:=fun b n z=>by subst z;rw[n] at mu;exact mu
 have hb:∀b,H b=none->b≠e:=fun b n z=>by
  subst z
  rcases he with r | r
  ·exact hx b n r
  ·rw[n] at r;cases r
 have hm:∀b u,H b=some u->¬Mut (some u)->b≠x:=fun b u q nm z=>by subst z;rw[q] at mu;exact nm mu
 refine⟨fun b u q n _ _=>k b u (hb b n) q,fun b u q n _ _=>⟨u.slots,k b u (hb b n) q⟩,fun b u q n _=>by rw[zaq (hx b n)];exact n,fun b u q _=>?_,
  fun b xs q=>by rw[zaq (hm b _ q fun z=>z)];exact q,fun b u xs q=>by rw[zaq (hm b _ q fun z=>z)];exact q,fun b ps q=>⟨#[],by rw[zaq (hm b _ q fun z=>z),q];simp⟩⟩
 by_cases hbe:b=e
 ·subst hbe;exact heo
 ·exact⟨u,k b u hbe q⟩
variable{fs' ex':List Addr}
theorem Un.mono(u:Un fs ex H H1 h h1)(hs:∀b∈fs,b∈fs')(hx:∀b∈ex,b∈ex'):Un fs' ex' H H1 h h1 :=
 ⟨fun b ob q n hb he=>u.keep b ob q n (fun z=>hb (hs b z)) fun z=>he (hx b z),fun _ _ q n _ he=>u.any q n fun z=>he (hx _ z),fun b ob q n he=>u.free b ob q n fun z=>he (hx b z),fun b ob q he=>u.there b ob q fun z=>he (hx b z),u.tups,u.frzs,u.tbls⟩
def trk(h:Heap)(H:Hp):List Addr:=(List.range h.objs.size).filter fun a=>(H a).isSome
def hidT(h:Heap)(H:Hp):Heap:=PySem.W.hideAll h (trk h H)
theorem ztt(h:Heap)(H:Hp):(hidT h H).objs.size=h.objs.size:=PySem.W.hideAll_size _ _
variable{o:Obj}
theorem zwg(e:h.get? b=some o)(n:H b=none):(hidT h H).get? b=some o :=
 PySem.W.hideAll_get _ e fun hm=>by
  have q:(H b).isSome=true:=(List.mem_filter.mp hm).2
  rw[n] at q;simp at q
theorem zzj(e:(hidT h H).get? b=some o):h.get? b=some o/\H b=none:=by
 have e':h.get? b=some o:=PySem.W.of_hideAll (trk h H) e
 refine⟨e',?_⟩
 cases q:H b with
 | none=>rfl
 | some x =>
   have hm:b∈trk h H:=List.mem_filter.mpr ⟨List.mem_range.mpr (Heap.lt_size e'),by simp[q]⟩
   have z:(hidT h H).get? b=none:=PySem.W.hideAll_none (trk h H) hm
   rw[z] at e;cases e
def zzk(g h:Heap)(L:Addr):List (Addr×Obj):=(List.range h.objs.size).filterMap fun a=>if a=L\/(g.get? a).isSome=true then none else(h.get? a).map fun o=>(a,o)
def rest(g h:Heap)(L d:Addr):List (Addr×Obj):=(zzk g h L).filter fun p=>decide (p.1≠d)
structure Mod (K:PySem.W.Frag) (mg:Str->Option Value) (base:Heap):Prop where
 kin:K.In base
 glob:base.Ns mainGlobals mg
 blt:∃mb,base.Ns builtinsNs mb/\∀x:Str,x ≠ "__name__"->mb x=bootBuiltins x
 nolimit:base.NoLimit
structure Cx where
 prog:Program
 w:World
 K:PySem.W.Frag
 mg:Str->Option Value
 base:Heap
 A:Around
 N:List Str
 s₀:Shared
 H₀:Hp
 env:Env
 outer:List Env
 stack:List Env
 ex:List Addr
 fn:Str->Bool
 calm:Bool
 pn:List (Addr×Obj)
 xe:Value->Shared->Prop
def frs(l:List Env):List Addr:=l.filterMap (·.frame)
protected abbrev Cx.fs(X:Cx):List Addr:=frs X.outer
def Vis(sc:Scope)(x:Str):Prop:=sc.names.lookup x=some .local\/sc.names.lookup x=some .cell\/sc.names.lookup x=some .free
def Loc(sc:Scope)(x:Str):Prop:=sc.names.lookup x=some .local\/sc.names.lookup x=some .cell
def Look(env:Env)(h:Heap)(m:Str->Option Value)(x:Str)(u:Value):Prop :=
 (env.kindOf x=some .local/\m x=some u)\/((env.kindOf x=some .cell\/env.kindOf x=some .free)/\∃c,env.cells.lookup x=some c/\h.IsCell c (some u))
structure Cx.Ok (X:Cx):Prop where
 mod:Mod X.K X.mg X.base
 kind:X.env.scope.kind=.function
 glob:X.env.globals=mainGlobals
 blt:X.env.builtins=builtinsNs
 above:X.s₀.heap.objs.size<=X.env.locals
 inj:∀x y c,X.env.cells.lookup x=some c->X.env.cells.lookup y=some c->x=y
 has:∀x,(X.env.kindOf x=some .cell\/X.env.kindOf x=some .free)->∃c,X.env.cells.lookup x=some c
 cab:∀x c,X.fn x=true->X.env.cells.lookup x=some c->X.s₀.heap.objs.size<=c
 hd:X.calm=true->X.A.handled=none
 frames:X.A.frames=some X.stack
 stk:X.stack=X.outer\/(X.stack=X.env::X.outer/\X.env.frame=some X.env.locals)
 exf:∀b∈X.ex,b≠X.env.locals/\∀x c,X.env.cells.lookup x=some c->c≠b
 bs:∀b o,X.base.get? b=some o->X.s₀.heap.get? b=some o/\X.H₀ b=none
 bsz:X.base.objs.size<=X.s₀.heap.objs.size
 noex:∀b o,X.base.get? b=some o->b∉X.ex
 exfs:∀b∈X.ex,b∉X.fs
 funs:X.s₀.heap.FunFrames X.base X.outer
 frf:∀b∈X.fs,X.H₀ b=none
structure Inv (X:Cx) (pins:List (Addr×Obj)) (σ:List (Option V)) (H:Hp) (s:Shared):Prop where
 ok:X.Ok
 os:s.os=X.s₀.os
 bare:AllBare s.gens
 base:Un X.fs X.ex X.H₀ H X.s₀.heap s.heap
 loc:∃m,s.heap.Ns X.env.locals m/\∀(i:Nat) (x:Str) (v:V),X.N[i]?=some x->σ[i]?=some (some v)->Vis X.env.scope x->∃u,RelV v u/\Look X.env s.heap m x u
 cell:∀x c,X.env.cells.lookup x=some c->∃v,s.heap.IsCell c v
 free:H X.env.locals=none
 freeC:∀x c,X.env.cells.lookup x=some c->H c=none
 pin:∀p∈X.pn++pins,s.heap.get? p.1=some p.2/\H p.1=none/\p.1≠X.env.locals/\p.1∉X.fs/\∀v,p.2.data≠.cell v
 hok:HOk X.prog X.w H s.heap
 len:σ.length=X.N.length
variable{X:Cx}
theorem Cx.Ok.nofr(ok:X.Ok)(e:X.base.get? b=some o):b∉X.fs:=fun hb=>by
 have:=(ok.funs.mem hb).1
 rw[e] at this;cases this
variable{pins:List (Addr×Obj)}{σ:List (Option V)}{s:Shared}
theorem Inv.bs(I:Inv X pins σ H s):∀b o,X.base.get? b=some o->s.heap.get? b=some o/\H b=none:=fun b o e =>
 ⟨I.base.keep b o (I.ok.bs b o e).1 (I.ok.bs b o e).2 (I.ok.nofr e) (I.ok.noex b o e),I.base.free b o (I.ok.bs b o e).1 (I.ok.bs b o e).2 (I.ok.noex b o e)⟩
theorem Inv.bk(I:Inv X pins σ H s):∀b o,X.base.get? b=some o->s.heap.get? b=some o:=fun b o e=>(I.bs b o e).1
theorem Inv.mod(I:Inv X pins σ H s):Mod X.K X.mg X.base:=I.ok.mod
theorem Inv.kIn(I:Inv X pins σ H s):X.K.In s.heap:=I.ok.mod.kin.keeps I.bk
theorem Inv.nolimit(I:Inv X pins σ H s):s.heap.NoLimit:=I.ok.mod.nolimit.keeps I.bk
theorem Inv.fr(I:Inv X pins σ H s):∃m,Fr X.base X.env.locals s.heap m :=
 let ⟨m,hn,_⟩:=I.loc
 ⟨m,hn,I.bk,Nat.le_trans I.ok.bsz I.ok.above⟩
theorem Inv.lt(I:Inv X pins σ H s):X.env.locals<s.heap.objs.size:=let ⟨_,hn,_⟩:=I.loc;hn.lt
theorem Inv.sz(I:Inv X pins σ H s):X.s₀.heap.objs.size<=s.heap.objs.size:=Nat.le_trans I.ok.above (Nat.le_of_lt I.lt)
theorem Inv.nofs(I:Inv X pins σ H s)(h:s.heap.objs.size<=a):a∉X.fs:=fun hb=>by
 obtain⟨_,o,ho,_⟩:=I.ok.funs.mem hb
 exact absurd (Nat.lt_of_lt_of_le (Heap.lt_size ho) (Nat.le_trans I.sz h)) (Nat.lt_irrefl _)
theorem Inv.cne(I:Inv X pins σ H s):∀x c,X.env.cells.lookup x=some c->c≠X.env.locals:=fun x c e z=>by
 obtain⟨v,o,ho,hd⟩:=I.cell x c e
 obtain⟨m,⟨o',es,ep,ho',hd',_⟩,_⟩:=I.loc
 rw[z,ho'] at ho;cases ho;rw[hd'] at hd;cases hd
theorem Inv.funs(I:Inv X pins σ H s):s.heap.FunFrames X.base X.outer:=by
 have all:∀(l:List Env),(∀b∈frs l,b∈X.fs)->X.s₀.heap.FunFrames X.base l->s.heap.FunFrames X.base l:=by
  intro l
  induction l with
  | nil=>intro _ _;trivial
  | cons env r ih =>
    intro hs hl
    obtain⟨hk,⟨L,o,hf,hn,ho,hd⟩,hr⟩:=hl
    have hL:L∈X.fs:=hs L (by unfold frs;rw[List.filterMap_cons,hf];exact List.mem_cons_self)
    obtain⟨sl,e⟩:=I.base.slot L o ho (I.ok.frf L hL) hL fun z=>I.ok.exfs L z hL
    exact⟨hk,⟨L,_,hf,hn,e,hd⟩,ih (fun b hb=>hs b (by unfold frs;rw[List.filterMap_cons,hf];exact List.mem_cons_of_mem _ hb)) hr⟩
 exact all X.outer (fun _ hb=>hb) I.ok.funs
theorem Inv.stack(I:Inv X pins σ H s):s.heap.FunFrames X.base X.stack:=by
 rcases I.ok.stk with e | ⟨e,hf⟩
 ·rw[e];exact I.funs
 ·rw[e]
  obtain⟨m,hn,_⟩:=I.loc
  refine .cons (by rw[I.ok.kind];decide) hf hn ?_ I.funs
  exact Heap.get?_none_of_le (Nat.le_trans I.ok.bsz I.ok.above)
theorem Inv.stkSub(I:Inv X pins σ H s):∀b∈frs X.stack,b∈X.env.locals::X.fs:=fun b hb=>by
 rcases I.ok.stk with e | ⟨e,hf⟩
 ·rw[e] at hb;exact List.mem_cons_of_mem _ hb
 ·rw[e] at hb
  unfold frs at hb
  rw[List.filterMap_cons,hf] at hb
  exact hb
theorem Inv.stkFree(I:Inv X pins σ H s):∀b∈frs X.stack,H b=none:=fun b hb=>by
 rcases List.mem_cons.mp (I.stkSub b hb) with e | hb
 ·rw[e];exact I.free
 ·obtain⟨_,o,ho,_⟩:=I.ok.funs.mem hb
  exact I.base.free b o ho (I.ok.frf b hb) fun z=>I.ok.exfs b z hb
variable{g':Array GenState}{t':Nat}{d':Drawn}{ch:List Addr}
theorem Inv.step(I:Inv X pins σ H s)(hch:∀b∈ch,(b∈X.ex\/X.s₀.heap.objs.size<=b)/\b≠X.env.locals/\(∀x c,X.env.cells.lookup x=some c->c≠b)/\∀p∈X.pn++pins,p.1≠b)(keep:∀b o,b≠X.env.locals->b∉X.fs->b∉ch->s.heap.get? b=some o->H b=none->h'.get? b=some o)(slot:∀b o,b≠X.env.locals->b∈X.fs->b∉ch->s.heap.get? b=some o->H b=none->∃sl,h'.get? b=some { o with slots:=sl })(free:∀b o,b∉ch->s.heap.get? b=some o->H b=none->H' b=none)(there:∀b o,b∉ch->s.heap.get? b=some o->∃o',h'.get? b=some o')(tups:∀b xs,H b=some (.tup xs)->H' b=some (.tup xs))(frzs:∀b o u,H b=some (.frz o u)->H' b=some (.frz o u))(tbls:∀b ps,H b=some (.tbl ps)->∃more,H' b=some (.tbl (ps++more)))(ns:∀m,s.heap.Ns X.env.locals m->h'.Ns X.env.locals m)(hok:HOk X.prog X.w H' h')(hg:AllBare g') :
  Inv X pins σ H' { s with heap:=h',gens:=g',drawn:=d',toks:=t' }:=by
 have neL:∀b o,X.s₀.heap.get? b=some o->b≠X.env.locals:=fun b o e=>Nat.ne_of_lt (Nat.lt_of_lt_of_le (Heap.lt_size e) I.ok.above)
 have neC:∀b o,X.s₀.heap.get? b=some o->b∉X.ex->b∉ch:=fun b o e hx hb=>by
  rcases(hch b hb).1 with z | z
  ·exact hx z
  ·exact absurd (Nat.lt_of_lt_of_le (Heap.lt_size e) z) (Nat.lt_irrefl _)
 have cellK:∀x c,X.env.cells.lookup x=some c->∀v,s.heap.IsCell c v->h'.IsCell c v:=fun x c e v ⟨o,ho,hd⟩=>by
  have nch:c∉ch:=fun z=>(hch c z).2.2.1 x c e rfl
  by_cases hc:c∈X.fs
  ·obtain⟨sl,q⟩:=slot c o (I.cne x c e) hc nch ho (I.freeC x c e)
   exact⟨_,q,hd⟩
  ·exact⟨o,keep c o (I.cne x c e) hc nch ho (I.freeC x c e),hd⟩
 refine⟨I.ok,I.os,hg,⟨fun b o e n hb hx=>?_,fun b o e n hb hx=>?_,fun b o e n hx=>?_,fun b o e hx=>?_,fun b xs e=>tups b xs (I.base.tups b xs e),fun b o xs e=>frzs b o xs (I.base.frzs b o xs e),fun b ps e=>?_⟩,?_,fun x c e=>?_,?_,fun x c e=>?_,fun p hp=>?_,hok,I.len⟩
 ·exact keep b o (neL b o e) hb (neC b o e hx) (I.base.keep b o e n hb hx) (I.base.free b o e n hx)
 ·obtain⟨sl,e1⟩:=I.base.slot b o e n hb hx
  obtain⟨sl',e2⟩:=slot b _ (neL b o e) hb (neC b o e hx) e1 (I.base.free b o e n hx)
  exact⟨sl',e2⟩
 ·obtain⟨o',e1⟩:=I.base.there b o e hx
  exact free b o' (neC b o e hx) e1 (I.base.free b o e n hx)
 ·obtain⟨o',e1⟩:=I.base.there b o e hx
  exact there b o' (neC b o e hx) e1
 ·obtain⟨m1,e1⟩:=I.base.tbls b ps e
  obtain⟨m2,e2⟩:=tbls b _ e1
  exact⟨m1++m2,by rw[e2,Array.append_assoc]⟩
 ·obtain⟨m,hn,hl⟩:=I.loc
  refine⟨m,ns m hn,fun i x v e1 e2 e3=>?_⟩
  obtain⟨u,r,l⟩:=hl i x v e1 e2 e3
  refine⟨u,r,?_⟩
  rcases l with l | ⟨k,c,e,z⟩
  ·exact .inl l
  ·exact .inr ⟨k,c,e,cellK x c e _ z⟩
 ·obtain⟨v,z⟩:=I.cell x c e
  exact⟨v,cellK x c e v z⟩
 ·obtain⟨m,⟨o,_,_,ho,_⟩,_⟩:=I.loc
  exact free _ o (fun z=>(hch _ z).2.1 rfl) ho I.free
 ·obtain⟨v,o,ho,hd⟩:=I.cell x c e
  exact free c o (fun z=>(hch c z).2.2.1 x c e rfl) ho (I.freeC x c e)
 ·obtain⟨e,n,ne,nf,d⟩:=I.pin p hp
  have nch:p.1∉ch:=fun z=>(hch p.1 z).2.2.2 p hp rfl
  exact⟨keep p.1 p.2 ne nf nch e n,free p.1 p.2 nch e n,ne,nf,d⟩
theorem Inv.un(I:Inv X pins σ H s)(u:Un X.fs [] H H' s.heap h')(hok:HOk X.prog X.w H' h'):Inv X pins σ H' { s with heap:=h',toks:=t' }:=by
 obtain⟨m,⟨o,es,ep,ho,r⟩,_⟩:=id I.loc
 obtain⟨sl,hL⟩:=u.any ho I.free (by simp)
 exact I.step (g':=s.gens) (d':=s.drawn) (ch:=[]) (fun _ z=>nomatch z) (fun b o _ hb _ e n=>u.keep b o e n hb (by simp)) (fun b o _ hb _ e n=>u.slot b o e n hb (by simp)) (fun b o _ e n=>u.free b o e n (by simp)) (fun b o _ e=>u.there b o e (by simp)) u.tups u.frzs u.tbls (fun m' hm=>by
  obtain⟨o',es',ep',ho',r'⟩:=hm
  rw[ho] at ho';cases ho'
  exact⟨_,es',ep',hL,r'⟩) hok I.bare
theorem Inv.call(I:Inv X pins σ H s)(u:Un (frs X.stack) ch H H' s.heap h')(hok:HOk X.prog X.w H' h')(hg:AllBare g')(hch:∀b∈ch,(b∈X.ex\/X.s₀.heap.objs.size<=b)/\b≠X.env.locals/\(∀x c,X.env.cells.lookup x=some c->c≠b)/\∀p∈X.pn++pins,p.1≠b) :
  Inv X pins σ H' { s with heap:=h',gens:=g',drawn:=d',toks:=t' }:=by
 obtain⟨m,⟨o,es,ep,ho,r⟩,_⟩:=id I.loc
 obtain⟨sl,hL⟩:=u.any ho I.free fun z=>(hch _ z).2.1 rfl
 exact I.step (ch:=ch) hch (fun b o hL hb hc e n=>u.keep b o e n (fun z=>(List.mem_cons.mp (I.stkSub b z)).elim hL hb) hc) (fun b o _ _ hc e n=>u.any e n hc) (fun b o hc e n=>u.free b o e n hc) (fun b o hc e=>u.there b o e hc) u.tups u.frzs u.tbls (fun m' hm=>by
  obtain⟨o',es',ep',ho',r'⟩:=hm
  rw[ho] at ho';cases ho'
  exact⟨_,es',ep',hL,r'⟩) hok hg
variable{it:Addr}
theorem Inv.turned(I:Inv X pins σ H s)(k:∀b o,b≠it->s.heap.get? b=some o->h'.get? b=some o)(hn:H it=none)(hL:it≠X.env.locals)(h1:it∈X.ex\/X.s₀.heap.objs.size<=it)(h2:∀x c,X.env.cells.lookup x=some c->c≠it)(h3:∀p∈X.pn++pins,p.1≠it):Inv X pins σ H { s with heap:=h',toks:=t' }:=by
 have nit:∀b u,H b=some u->b≠it:=fun b u e z=>by rw[z,hn] at e;cases e
 refine I.step (g':=s.gens) (d':=s.drawn) (ch:=[it]) (fun b hb=>?_) (fun b o _ _ hc e _=>k b o (fun z=>hc (by simp[z])) e) (fun b o _ _ hc e _=>⟨o.slots,k b o (fun z=>hc (by simp[z])) e⟩) (fun _ _ _ _ n=>n)
  (fun b o hc e=>⟨o,k b o (fun z=>hc (by simp[z])) e⟩) (fun _ _ e=>e) (fun _ _ _ e=>e) (fun b ps e=>⟨#[],by rw[e];simp⟩) (fun m hm=>?_) (fun b u e=>?_) I.bare
 ·have e:b=it:=by simpa using hb
  subst e
  exact⟨h1,hL,h2,h3⟩
 ·obtain⟨o,es,ep,ho,r⟩:=hm
  exact⟨o,es,ep,k _ o (Ne.symm hL) ho,r⟩
 ·refine(I.hok b u e).stay (fun c v hc q=>k c v ?_ q) (fun _ q=>q) fun _ _ q=>q
  rcases hc with z | z
  ·rw[z];exact nit b u e
  ·exact nit c _ z
theorem Inv.tok(I:Inv X pins σ H s)(t:Nat):Inv X pins σ H { s with toks:=t }:=I.un (h':=s.heap) (t':=t) Un.refl I.hok
theorem Inv.kept{t':Nat}(I:Inv X pins σ H s)(k:∀b u,s.heap.get? b=some u->h'.get? b=some u):Inv X pins σ H { s with heap:=h',toks:=t' }:=I.un (Un.kept k) (I.hok.kept k)
theorem Inv.laid{a:Addr}{o:HO}{t':Nat}(I:Inv X pins σ H s)(k:∀b u,s.heap.get? b=some u->h'.get? b=some u)(hp:s.heap.objs.size<=a)(new:ObjOk X.prog X.w (upd H a o) h' a o) :
  Inv X pins σ (upd H a o) { s with heap:=h',toks:=t' }:=I.un (Un.laid k hp (I.hok.fresh hp)) (I.hok.laid k hp new)
theorem Inv.write{x e:Addr}{o:HO}{t':Nat}(I:Inv X pins σ H s)(mu:Mut (H x))(he:e=x\/H e=some (.own x))(k:∀b u,b≠e->s.heap.get? b=some u->h'.get? b=some u)(heo:∃u,h'.get? e=some u)(new:ObjOk X.prog X.w (upd H x o) h' x o):Inv X pins σ (upd H x o) { s with heap:=h',toks:=t' }:=I.un (Un.write mu he k heo) (I.hok.write mu he k heo new)
theorem Inv.pins_of{pins':List (Addr×Obj)}(I:Inv X pins σ H s)(h:∀p∈pins',s.heap.get? p.1=some p.2/\H p.1=none/\p.1≠X.env.locals/\p.1∉X.fs/\∀v,p.2.data≠.cell v):Inv X pins' σ H s :=
 ⟨I.ok,I.os,I.bare,I.base,I.loc,I.cell,I.free,I.freeC,fun p hp=>(List.mem_append.mp hp).elim (fun z=>I.pin p (List.mem_append_left _ z)) (h p),I.hok,I.len⟩
variable{x:Str}{N:List Str}{i:Nat}{j:Int}
theorem zre(hN:N.Nodup){j:Nat}(a:N[i]?=some x)(b:N[j]?=some x):i=j:=by
 obtain⟨h1,e1⟩:=List.getElem?_eq_some_iff.mp a
 obtain⟨h2,e2⟩:=List.getElem?_eq_some_iff.mp b
 exact(List.getElem_inj hN).mp (e1.trans e2.symm)
variable{u:Value}{M:Model}{A:Around}{E:Value->Shared->Prop}{v:V}{Q:Unit->Shared->Prop}
theorem zo4(I:Inv X pins σ H s)(hN:X.N.Nodup)(hi:X.N[i]?=some x)(hx:Loc X.env.scope x)(r:RelV v u)(h:∀s',Inv X pins (σ.set i (some v)) H s'->(∃a,Heap.SameBut a s.heap s'.heap/\(a=X.env.locals\/X.env.cells.lookup x=some a))->Q () s')(hf:X.fn x=true\/X.env.scope.names.lookup x=some .local:=by first | exact .inl rfl | exact .inr rfl | assumption):wpAny M A (storeName X.env x u) Q E s:=by
 obtain⟨m,hn,hl⟩:=id I.loc
 have hcls:(X.env.scope.kind==.class || (X.env.scope.kind==.module && X.env.locals != X.env.globals))=false:=by rw[I.ok.kind];rfl
 have hiσ:i<σ.length:=by rw[I.len];exact(List.getElem?_eq_some_iff.mp hi).1
 have cne:=I.cne
 have tracked:∀ {a:Addr} {h':Heap},(∃o,s.heap.get? a=some o/\H a=none)->Heap.SameBut a s.heap h'->HOk X.prog X.w H h':=fun {a h'} ha hs b ob e=>by
  obtain⟨_,_,hfree⟩:=ha
  refine(I.hok b ob e).stay (fun c w' hc q=>(hs.2 c ?_).trans q) (fun _ q=>q) fun _ _ q=>q
  rintro rfl
  rcases hc with rfl | hc
  ·rw[hfree] at e;cases e
  ·rw[hfree] at hc;cases hc
 rcases hx with hk | hk
 ·refine wpAny_storeName_local hk hn (fun h' hn' hs=>?_) hcls
  obtain⟨oL,_,_,hoL,_⟩:=id hn
  refine h _ ⟨I.ok,I.os,I.bare,⟨fun b o e n hb hx=>?_,fun b o e n hb hx=>?_,I.base.free,fun b o e hx=>?_,I.base.tups,I.base.frzs,I.base.tbls⟩,⟨_,hn',fun j y v' e1 e2 e3=>?_⟩,fun y c e=>?_,I.free,I.freeC,fun p hp=>?_,tracked ⟨oL,hoL,I.free⟩ hs,by simpa using I.len⟩ ⟨_,hs,.inl rfl⟩
  ·exact(hs.2 b (Nat.ne_of_lt (Nat.lt_of_lt_of_le (Heap.lt_size e) I.ok.above))).trans (I.base.keep b o e n hb hx)
  ·obtain⟨sl,e1⟩:=I.base.slot b o e n hb hx
   exact⟨sl,(hs.2 b (Nat.ne_of_lt (Nat.lt_of_lt_of_le (Heap.lt_size e) I.ok.above))).trans e1⟩
  ·obtain⟨o',e1⟩:=I.base.there b o e hx
   exact⟨o',(hs.2 b (Nat.ne_of_lt (Nat.lt_of_lt_of_le (Heap.lt_size e) I.ok.above))).trans e1⟩
  ·by_cases hj:j=i
   ·subst hj
    rw[hi] at e1;cases e1
    rw[List.getElem?_set_self hiσ] at e2
    cases e2
    exact⟨u,r,.inl ⟨hk,by simp⟩⟩
   ·rw[List.getElem?_set_ne (Ne.symm hj)] at e2
    obtain⟨u',r',q⟩:=hl j y v' e1 e2 e3
    refine⟨u',r',?_⟩
    rcases q with⟨k,e⟩ | ⟨k,c,e,z⟩
    ·refine .inl ⟨k,?_⟩
     have:y≠x:=fun e=>hj (zre hN e1 (e ▸ hi))
     simp[this,e]
    ·exact .inr ⟨k,c,e,z.sameBut hs (cne y c e)⟩
  ·obtain⟨w',z⟩:=I.cell y c e
   exact⟨w',z.sameBut hs (cne y c e)⟩
  ·obtain⟨e,n,ne,nf,d⟩:=I.pin p hp
   exact⟨(hs.2 p.1 ne).trans e,n,ne,nf,d⟩
 ·have hfn:X.fn x=true:=by
   rcases hf with z | z
   ·exact z
   ·rw[z] at hk;cases hk
  obtain⟨c,hc⟩:=I.ok.has x (.inl hk)
  obtain⟨w',z⟩:=I.cell x c hc
  refine wpAny_storeName_cell I.ok.kind hk hc z (fun h' hc' hs=>?_)
  obtain⟨oc,hoc,hocd⟩:=id z
  refine h { s with heap:=h' } ⟨I.ok,I.os,I.bare,⟨fun b o e n hb hx=>?_,fun b o e n hb hx=>?_,I.base.free,fun b o e hx=>?_,I.base.tups,I.base.frzs,I.base.tbls⟩,⟨m,hn.sameBut hs (Ne.symm (cne x c hc)),fun j y v' e1 e2 e3=>?_⟩,fun y c' e=>?_,I.free,I.freeC,fun p hp=>?_,tracked ⟨oc,hoc,I.freeC x c hc⟩ hs,by simpa using I.len⟩ ⟨c,hs,.inr hc⟩
  ·exact(hs.2 b (Nat.ne_of_lt (Nat.lt_of_lt_of_le (Heap.lt_size e) (I.ok.cab x c hfn hc)))).trans (I.base.keep b o e n hb hx)
  ·obtain⟨sl,e1⟩:=I.base.slot b o e n hb hx
   exact⟨sl,(hs.2 b (Nat.ne_of_lt (Nat.lt_of_lt_of_le (Heap.lt_size e) (I.ok.cab x c hfn hc)))).trans e1⟩
  ·obtain⟨o',e1⟩:=I.base.there b o e hx
   exact⟨o',(hs.2 b (Nat.ne_of_lt (Nat.lt_of_lt_of_le (Heap.lt_size e) (I.ok.cab x c hfn hc)))).trans e1⟩
  ·by_cases hj:j=i
   ·subst hj
    rw[hi] at e1;cases e1
    rw[List.getElem?_set_self hiσ] at e2
    cases e2
    exact⟨u,r,.inr ⟨.inl hk,c,hc,hc'⟩⟩
   ·rw[List.getElem?_set_ne (Ne.symm hj)] at e2
    obtain⟨u',r',q⟩:=hl j y v' e1 e2 e3
    refine⟨u',r',?_⟩
    rcases q with q | ⟨k,c',e,z'⟩
    ·exact .inl q
    ·refine .inr ⟨k,c',e,z'.sameBut hs ?_⟩
     rintro rfl
     exact hj (zre hN e1 (I.ok.inj _ _ _ e hc ▸ hi))
  ·by_cases hcc:c'=c
   ·subst hcc;exact⟨_,hc'⟩
   ·obtain⟨w2,z2⟩:=I.cell y c' e
    exact⟨w2,z2.sameBut hs hcc⟩
  ·obtain⟨e,n,ne,nf,d⟩:=I.pin p hp
   refine⟨(hs.2 p.1 ?_).trans e,n,ne,nf,d⟩
   intro q
   rw[q,hoc] at e
   have q':oc=p.2:=Option.some.inj e
   exact d w' (by rw[← q'];exact hocd)
theorem zls(I:Inv X pins σ H s)(hN:X.N.Nodup)(hi:X.N[i]?=some x)(hx:Loc X.env.scope x)(r:RelV v u)(h:∀s',Inv X pins (σ.set i (some v)) H s'->Q () s')(hf:X.fn x=true\/X.env.scope.names.lookup x=some .local:=by first | exact .inl rfl | exact .inr rfl | assumption):wpAny M A (storeName X.env x u) Q E s :=
 zo4 I hN hi hx r (fun s' I' _=>h s' I') hf
variable{s':Shared}
theorem Inv.call'(I:Inv X pins σ H s)(ho:s'.os=s.os)(u:Un (frs X.stack) ch H H' s.heap s'.heap)(hok:HOk X.prog X.w H' s'.heap)(hg:AllBare s'.gens)(hch:∀b∈ch,(b∈X.ex\/X.s₀.heap.objs.size<=b)/\b≠X.env.locals/\(∀x c,X.env.cells.lookup x=some c->c≠b)/\∀p∈X.pn++pins,p.1≠b):Inv X pins σ H' s':=by
 obtain⟨h',g',d',t',o'⟩:=s'
 have e:o'=s.os:=ho
 subst e
 exact I.call (g':=g') (t':=t') (d':=d') u hok hg hch
abbrev XK:=Value->Option Addr->Hp->Prop
abbrev St:=List (Option V)
abbrev VK:=V->Hp->Prop
abbrev TE:=St->Hp->VK->Prop
abbrev TT:=St->Hp->(Bool->Hp->Prop)->Prop
abbrev TA:=St->Hp->(List V->Hp->Prop)->Prop
structure Ends where
 nx:St->Hp->Prop
 rt:VK
 bk:St->Hp->Prop:=fun _ _=>False
 ct:St->Hp->Prop:=fun _ _=>False
abbrev TS:=Ends->St->Hp->Prop
def EP(X:Cx)(pins:List (Addr×Obj))(σ:St)(Q:VK)(u:Value)(s':Shared):Prop:=∃v H',Inv X pins σ H' s'/\RelV v u/\Q v H'
def TP(X:Cx)(pins:List (Addr×Obj))(σ:St)(Q:Bool->Hp->Prop)(b:Bool)(s':Shared):Prop:=∃H',Inv X pins σ H' s'/\Q b H'
def AP(X:Cx)(pins:List (Addr×Obj))(σ:St)(Q:List V->Hp->Prop)(us:List Value)(s':Shared):Prop:=∃vs H',Inv X pins σ H' s'/\Vals vs us/\Q vs H'
def SP(X:Cx)(pins:List (Addr×Obj))(D:Ends)(f:Flow)(s':Shared):Prop :=
 match f with
 | .next=>∃σ' H',Inv X pins σ' H' s'/\D.nx σ' H'
 | .brk=>∃σ' H',Inv X pins σ' H' s'/\D.bk σ' H'
 | .cont=>∃σ' H',Inv X pins σ' H' s'/\D.ct σ' H'
 | .ret u=>∃v σ' H',Inv X pins σ' H' s'/\RelV v u/\D.rt v H'
def PE(X:Cx)(e:Expr)(t:TE):Prop :=
 ∀(pins:List (Addr×Obj)) (s:Shared) (σ:St) (H:Hp) (Q:VK),Inv X pins σ H s->t σ H Q->wpAny (model X.prog X.w) X.A (eval e X.env) (EP X pins σ Q) X.xe s
def PT(X:Cx)(e:Expr)(t:TT):Prop :=
 ∀(pins:List (Addr×Obj)) (s:Shared) (σ:St) (H:Hp) (Q:Bool->Hp->Prop),Inv X pins σ H s->t σ H Q->wpAny (model X.prog X.w) X.A (isTrue e X.env (eval e X.env)) (TP X pins σ Q) X.xe s
def PW(X:Cx)(e:Expr)(t:TT):Prop :=
 ∀(whole:Sem Value) (pins:List (Addr×Obj)) (s:Shared) (σ:St) (H:Hp) (Q:Bool->Hp->Prop),Inv X pins σ H s->t σ H Q->wpAny (model X.prog X.w) X.A (isTrue e X.env whole) (TP X pins σ Q) X.xe s
variable{e:Expr}{t:TT}
theorem PW.pt(h:PW X e t):PT X e t:=h _
def PA(X:Cx)(es:List Expr)(t:TA):Prop :=
 ∀(pos:Pos) (pins:List (Addr×Obj)) (s:Shared) (σ:St) (H:Hp) (Q:List V->Hp->Prop),Inv X pins σ H s->t σ H Q->wpAny (model X.prog X.w) X.A (spliced (backTo pos (starEach es X.env))) (AP X pins σ Q) X.xe s
def PS(X:Cx)(st:Stmt)(t:TS):Prop :=
 ∀(pins:List (Addr×Obj)) (s:Shared) (σ:St) (H:Hp) (D:Ends),Inv X pins σ H s->t D σ H->wpAny (model X.prog X.w) X.A (exec st X.env) (SP X pins D) X.xe s
def PSs(X:Cx)(st:List Stmt)(t:TS):Prop :=
 ∀(pins:List (Addr×Obj)) (s:Shared) (σ:St) (H:Hp) (D:Ends),Inv X pins σ H s->t D σ H->wpAny (model X.prog X.w) X.A (execs st X.env) (SP X pins D) X.xe s
theorem thn{α:Type}{t:Sem α}{Q Q':α->Shared->Prop}(h:wpAny M A t Q E s)(hQ:∀a s,Q a s->Q' a s):wpAny M A t Q' E s:=wpAny_mono h hQ fun _ _ x=>x
section
variable {X:Cx}
theorem bin{a b:Expr}{ta tb:TE}(ha:PE X a ta)(hb:PE X b tb){pins:List (Addr×Obj)}{s:Shared}{σ:St}{H:Hp}{R:V->V->Hp->Prop}(I:Inv X pins σ H s)(h:ta σ H fun x H1=>tb σ H1 fun y H2=>R x y H2){α:Type}{Q:α->Shared->Prop}{f:Value->Value->Sem α}(hf:∀v u s2 x y H2,Inv X pins σ H2 s2->RelV x v->RelV y u->R x y H2->wpAny (model X.prog X.w) X.A (f v u) Q X.xe s2) :
  wpAny (model X.prog X.w) X.A (eval a X.env) (fun v s₁=>wpAny (model X.prog X.w) X.A (eval b X.env) (fun u s₂=>wpAny (model X.prog X.w) X.A (f v u) Q X.xe s₂) X.xe s₁) X.xe s:=by
 refine thn (ha pins s σ H _ I h) fun v s1 ⟨x,H1,I1,r1,q1⟩=>?_
 refine thn (hb pins s1 σ H1 _ I1 q1) fun u s2 ⟨y,H2,I2,r2,q2⟩=>?_
 exact hf v u s2 x y H2 I2 r1 r2 q2
def tVar(i:Nat):TE:=fun σ H Q=>∃v,σ[i]?=some (some v)/\Q v H
def tC(v:V):TE:=fun _ H Q=>Q v H
theorem z19{i:Nat}{x:Str}{pos:Pos}(hN:X.N[i]?=some x)(hv:Vis X.env.scope x)(hd:(x==("__debug__" : Str))=false:=by decide)(hcd:(x==("__classdict__" : Str))=false:=by decide):PE X (.Name x pos) (tVar i):=by
 intro pins s σ H Q I h
 obtain⟨v,e,h⟩:=h
 obtain⟨m,hn,hl⟩:=I.loc
 obtain⟨u,r,l⟩:=hl i x v hN e hv
 have fin:EP X pins σ Q u s:=⟨v,H,I,r,h⟩
 rcases l with⟨hk,hm⟩ | ⟨hk,c,hc,hcell⟩
 ·exact wpAny_Name (wpAny_loadName_local I.ok.kind hk hn hm fin) hd
 ·rcases hk with hk | hk
  ·exact wpAny_Name (wpAny_loadName_cell I.ok.kind hk hc hcell fin) hd
  ·exact wpAny_Name (wpAny_loadName_free I.ok.kind hk hc hcell fin hcd) hd
theorem ztu{i j pos}:PE X (.Constant (.int i) j pos) (tC (.int i)):=fun _ _ _ H _ I h=>wpAny_Constant_int ⟨.int i,H,I.tok _,⟨_,rfl⟩,h⟩
theorem z42{b j pos}:PE X (.Constant (.bool b) j pos) (tC (.bl b)):=fun _ _ _ H _ I h=>Constant_bool ⟨.bl b,H,I,rfl,h⟩
theorem zyu{x j pos}:PE X (.Constant (.str x) j pos) (tC (.str x)):=fun _ _ _ H _ I h=>Calls.Constant_str ⟨.str x,H,I.tok _,⟨_,rfl⟩,h⟩
def Gl(X:Cx)(x:Str):Prop:=X.env.kindOf x=some .globalImplicit
theorem zl1{E:Value->Shared->Prop}{pins:List (Addr×Obj)}{s:Shared}{σ:St}{H:Hp}{x:Str}{u:Value}{pos:Pos}{Q:Value->Shared->Prop}(I:Inv X pins σ H s)(hg:Gl X x)(hm:X.mg x=some u)(h:Q u s)(hd:(x==("__debug__" : Str))=false:=by decide):wpAny (model X.prog X.w) X.A (eval (.Name x pos) X.env) Q E s :=
 Calls.Name_function_global I.ok.kind hg (Calls.loadGlobal_global (by rw[I.ok.glob];exact I.mod.glob.keeps I.bk) hm h) hd
theorem zl2{E:Value->Shared->Prop}{pins:List (Addr×Obj)}{s:Shared}{σ:St}{H:Hp}{x:Str}{u:Value}{pos:Pos}{Q:Value->Shared->Prop}(I:Inv X pins σ H s)(hg:Gl X x)(hm:X.mg x=none)(hv:bootBuiltins x=some u)(h:Q u s)(hn:x ≠ "__name__":=by decide)(hd:(x==("__debug__" : Str))=false:=by decide):wpAny (model X.prog X.w) X.A (eval (.Name x pos) X.env) Q E s:=by
 obtain⟨mb,h1,h2⟩:=I.mod.blt
 exact Calls.Name_function_global I.ok.kind hg (Calls.loadGlobal_builtin (by rw[I.ok.glob];exact I.mod.glob.keeps I.bk) hm (by rw[I.ok.blt];exact h1.keeps I.bk) ((h2 x hn).trans hv) h) hd
theorem zzl{x:Str}{v:V}{u:Value}{pos:Pos}(hg:Gl X x)(hm:X.mg x=some u)(r:RelV v u)(hd:(x==("__debug__" : Str))=false:=by decide):PE X (.Name x pos) (tC v) :=
 fun _ _ _ H _ I h=>zl1 I hg hm ⟨v,H,I,r,h⟩ hd
theorem zzm{x:Str}{v:V}{u:Value}{pos:Pos}(hg:Gl X x)(hm:X.mg x=none)(hv:bootBuiltins x=some u)(r:RelV v u)(hn:x ≠ "__name__":=by decide)(hd:(x==("__debug__" : Str))=false:=by decide):PE X (.Name x pos) (tC v) :=
 fun _ _ _ H _ I h=>zl2 I hg hm hv ⟨v,H,I,r,h⟩ hn hd
variable {a b:Expr} {ta tb:TE} {pos:Pos}
def PC(X:Cx)(op:CmpOp)(a b:Expr)(t:TE):Prop :=
 ∀(pins:List (Addr×Obj)) (s:Shared) (σ:St) (H:Hp) (Q:VK),Inv X pins σ H s->t σ H Q ->
  wpAny (model X.prog X.w) X.A (eval a X.env) (fun v s₁=>wpAny (model X.prog X.w) X.A (eval b X.env) (fun u s₂=>wpAny (model X.prog X.w) X.A (compareOp op v u) (EP X pins σ Q) X.xe s₂) X.xe s₁) X.xe s
theorem zwh(b:Expr){op:CmpOp}(h:op≠.In)(h2:op≠.NotIn):behindInMarks op b=false:=by
 have e1:(op==CmpOp.In)=false:=by cases op <;> first | rfl | exact absurd rfl h
 have e2:(op==CmpOp.NotIn)=false:=by cases op <;> first | rfl | exact absurd rfl h2
 cases b <;> simp[behindInMarks,e1,e2]
def tB(t:TE):TT:=fun σ H Q=>t σ H fun x H1=>∃c,x=.bl c/\Q c H1
theorem z6d{op:CmpOp}{t:TE}(h:PC X op a b t)(h1:behindInMarks op b=false:=by first | exact zwh _ (by decide) (by decide) | rfl):PT X (.Compare a [op] [b] pos) (tB t):=by
 intro pins s σ H Q I hw
 refine wpAny_isTrue_Compare1 (thn (h pins s σ H _ I hw) fun v s1 h1=>thn h1 fun u s2 h2=>thn h2 fun c s3 ⟨x,H1,I1,r1,q1⟩=>?_) h1
 obtain⟨d,rfl,q⟩:=q1
 cases r1
 exact wpAny_truthy_bool ⟨H1,I1,q⟩
theorem z2a{e:Expr}{t:TE}(h:PE X e t)(he:∀whole,isTrue e X.env whole=(do let v ← whole;standAt e.pos;holding [v] (truthy v)):=by intro _;rfl):PT X e (tB t):=by
 intro pins s σ H Q I hw
 refine isTrue_plain (thn (h pins s σ H _ I hw) fun v s1 ⟨x,H1,I1,r1,q1⟩=>?_) (he _)
 obtain⟨d,rfl,q⟩:=q1
 cases r1
 exact wpAny_truthy_bool ⟨H1,I1,q⟩
variable {tA tB':TT} {rest:List Expr}
def tAnd(t u:TT):TT:=fun σ H Q=>t σ H fun c H1=>if c=true then u σ H1 Q else Q false H1
def tOr(t u:TT):TT:=fun σ H Q=>t σ H fun c H1=>if c=true then Q true H1 else u σ H1 Q
def tNot(t:TT):TT:=fun σ H Q=>t σ H fun c H1=>Q (!c) H1
theorem zzn(ha:PT X a tA):PW X (.BoolOp .And [a] pos) tA:=by
 intro wh pins s σ H Q I h
 refine isTrue_and (thn (ha pins s σ H Q I h) fun c s1 e=>?_)
 cases c with
 | true=>exact isTrue_and_nil e
 | false=>exact e
theorem z2b(ha:PT X a tA):PW X (.BoolOp .Or [a] pos) tA:=by
 intro wh pins s σ H Q I h
 refine isTrue_or (thn (ha pins s σ H Q I h) fun c s1 e=>?_)
 cases c with
 | false=>exact isTrue_or_nil e
 | true=>exact e
theorem z2c(ha:PT X a tA)(hb:PW X (.BoolOp .And (b::rest) pos) tB'):PW X (.BoolOp .And (a::b::rest) pos) (tAnd tA tB'):=by
 intro wh pins s σ H Q I h
 refine isTrue_and (thn (ha pins s σ H _ I h) fun c s1 ⟨H1,I1,q1⟩=>?_)
 cases c with
 | true=>exact hb wh pins s1 σ H1 Q I1 q1
 | false=>exact⟨H1,I1,q1⟩
theorem z43(ha:PT X a tA)(hb:PW X (.BoolOp .Or (b::rest) pos) tB'):PW X (.BoolOp .Or (a::b::rest) pos) (tOr tA tB'):=by
 intro wh pins s σ H Q I h
 refine isTrue_or (thn (ha pins s σ H _ I h) fun c s1 ⟨H1,I1,q1⟩=>?_)
 cases c with
 | true=>exact⟨H1,I1,q1⟩
 | false=>exact hb wh pins s1 σ H1 Q I1 q1
theorem z2d(ha:PT X a tA):PT X (.UnaryOp .Not a pos) (tNot tA):=by
 intro pins s σ H Q I h
 exact isTrue_not (ha pins s σ H (fun c H1=>Q (!c) H1) I h)
def z44(ta tb:TE):TE:=fun σ H Q=>ta σ H fun x H1=>∃c,x=.bl c/\if c=true then tb σ H1 Q else Q (.bl false) H1
def z45(ta:TE):TE:=fun σ H Q=>ta σ H fun x H1=>∃c,x=.bl c/\Q (.bl (!c)) H1
theorem z2e{op}{t:TE}(h:PE X a t):PE X (.BoolOp op [a] pos) t:=fun pins s σ H Q I hw=>BoolOp_one (h pins s σ H Q I hw)
theorem z2f(ha:PE X a ta)(hb:PE X (.BoolOp .And (b::rest) pos) tb):PE X (.BoolOp .And (a::b::rest) pos) (z44 ta tb):=by
 intro pins s σ H Q I h
 refine BoolOp_and (thn (ha pins s σ H _ I h) fun v s1 ⟨x,H1,I1,r1,q1⟩=>?_)
 obtain⟨c,rfl,q1⟩:=q1
 cases r1
 refine wpAny_truthy_bool ?_
 cases c with
 | true=>exact hb pins s1 σ H1 Q I1 q1
 | false=>exact⟨.bl false,H1,I1,rfl,q1⟩
theorem z2g(ha:PE X a ta):PE X (.UnaryOp .Not a pos) (z45 ta):=by
 intro pins s σ H Q I h
 refine UnaryOp_ (thn (ha pins s σ H _ I h) fun v s1 ⟨x,H1,I1,r1,q1⟩=>?_)
 obtain⟨c,rfl,q1⟩:=q1
 cases r1
 exact not_of (wpAny_truthy_bool ⟨.bl (!c),H1,I1,rfl,q1⟩)
end
def SqL(K:PySem.W.Frag)(H:Hp)(a:Addr)(xs:List V):Prop :=
 Rd H a (.lst xs) \/
  ∃(o:Obj) (its:Array Value) (n:Nat),K.lookup a=some o/\o.cls=.type "list"/\o.dict=none/\o.data=.seq its n/\its.size<=sizeLine/\Vals xs its.toList
def SqT(K:PySem.W.Frag)(H:Hp)(a:Addr)(xs:List V):Prop :=
 Rd H a (.tup xs) \/
  ∃(o:Obj) (its:Array Value) (n:Nat),K.lookup a=some o/\o.cls=.type "tuple"/\o.data=.seq its n/\its.size<=sizeLine/\Vals xs its.toList
def absV:Value->Option V
 | .none=>some .non
 | .bool b=>some (.bl b)
 | .int i _=>some (.int i)
 | .str x _=>some (.str x)
 | .bytes b _=>some (.byt b)
 | .float b _=>some (.flt b)
 | .ref a=>some (.ref a)
 | .type n=>some (.ty n)
 | _=>none
theorem RelV.abs{x:V}(r:RelV x u):absV u=some x:=by
 cases x with
 | non=>cases r;rfl
 | bl _=>cases r;rfl
 | int _=>obtain⟨t,rfl⟩:=r;rfl
 | str _=>obtain⟨t,rfl⟩:=r;rfl
 | byt _=>obtain⟨t,rfl⟩:=r;rfl
 | flt _=>obtain⟨t,rfl⟩:=r;rfl
 | ref _=>cases r;rfl
 | ty _=>cases r;rfl
theorem RelV.inj{x y:V}{u:Value}(r:RelV x u)(q:RelV y u):x=y:=Option.some.inj (r.abs.symm.trans q.abs)
theorem Vals.inj:∀ {xs ys:List V} {us:List Value},Vals xs us->Vals ys us->xs=ys
 | _,_,_,.nil,.nil=>rfl
 | _,_,_,.cons r t,.cons r' t'=>by rw[r.inj r',Vals.inj t t']
variable{K:PySem.W.Frag}{xs:List V}
theorem SqL.of(h:H a=some (.lst xs)):SqL K H a xs:=.inl (.inl h)
theorem SqT.of(h:H a=some (.tup xs)):SqT K H a xs:=.inl (.inl h)
variable{σ:St}
theorem Inv.list(I:Inv X pins σ H s)(h:SqL X.K H a xs):∃its:List Value,Vals xs its/\PlainL s.heap a its.toArray/\xs.length<=sizeLine:=by
 rcases h with h | ⟨o,its,n,hk,hc,hd,hs,hz,r⟩
 ·obtain⟨z,its,n,r,e⟩:=h.ok I.hok
  exact⟨its,r,⟨_,n,e,rfl,rfl,rfl⟩,z⟩
 ·refine⟨its.toList,r,⟨o,n,I.kIn a o hk,hc,hd,by simpa using hs⟩,?_⟩
  have e:=r.length
  simp only[Array.length_toList] at e
  omega
theorem Inv.tuple(I:Inv X pins σ H s)(h:SqT X.K H a xs):∃its:List Value,Vals xs its/\IsTup s.heap a its.toArray/\xs.length<=sizeLine:=by
 rcases h with h | ⟨o,its,n,hk,hc,hs,hz,r⟩
 ·obtain⟨z,its,r,p⟩:=h.ok I.hok
  exact⟨its,r,p,z⟩
 ·refine⟨its.toList,r,⟨o,I.kIn a o hk,hc,n,by simpa using hs⟩,?_⟩
  have e:=r.length
  simp only[Array.length_toList] at e
  omega
variable{ys:List V}
theorem Inv.list_inj(I:Inv X pins σ H s)(h:SqL X.K H a xs)(h':SqL X.K H a ys):xs=ys:=by
 obtain⟨its,r,⟨o,n,e,_,_,d⟩,_⟩:=I.list h
 obtain⟨its',r',⟨o',n',e',_,_,d'⟩,_⟩:=I.list h'
 rw[e] at e';cases e'
 rw[d] at d'
 injection d' with d1 _
 have:its=its':=by simpa using congrArg Array.toList d1
 subst this
 exact r.inj r'
theorem Inv.tuple_inj(I:Inv X pins σ H s)(h:SqT X.K H a xs)(h':SqT X.K H a ys):xs=ys:=by
 obtain⟨its,r,⟨o,e,_,n,d⟩,_⟩:=I.tuple h
 obtain⟨its',r',⟨o',e',_,n',d'⟩,_⟩:=I.tuple h'
 rw[e] at e';cases e'
 rw[d] at d'
 injection d' with d1 _
 have:its=its':=by simpa using congrArg Array.toList d1
 subst this
 exact r.inj r'
abbrev Cx.wish(X:Cx)(E:Value->Shared->Prop):Cx:={ X with xe:=E }
abbrev Cx.nox(X:Cx):Cx:=X.wish fun _ _=>False
theorem Cx.Ok.wish(ok:X.Ok)(E:Value->Shared->Prop):(X.wish E).Ok :=
 ⟨ok.mod,ok.kind,ok.glob,ok.blt,ok.above,ok.inj,ok.has,ok.cab,ok.hd,ok.frames,ok.stk,ok.exf,ok.bs,ok.bsz,ok.noex,ok.exfs,ok.funs,ok.frf⟩
theorem Cx.Ok.unwish(ok:(X.wish E).Ok):X.Ok :=
 ⟨ok.mod,ok.kind,ok.glob,ok.blt,ok.above,ok.inj,ok.has,ok.cab,ok.hd,ok.frames,ok.stk,ok.exf,ok.bs,ok.bsz,ok.noex,ok.exfs,ok.funs,ok.frf⟩
theorem Inv.wish(I:Inv X pins σ H s)(E:Value->Shared->Prop):Inv (X.wish E) pins σ H s:=⟨I.ok.wish E,I.os,I.bare,I.base,I.loc,I.cell,I.free,I.freeC,I.pin,I.hok,I.len⟩
theorem Inv.unwish(I:Inv (X.wish E) pins σ H s):Inv X pins σ H s:=⟨I.ok.unwish,I.os,I.bare,I.base,I.loc,I.cell,I.free,I.freeC,I.pin,I.hok,I.len⟩
theorem SP.unwish{D:Ends}{f:Flow}{s':Shared}(h:SP (X.wish E) pins D f s'):SP X pins D f s':=by
 cases f with
 | next=>obtain⟨σ',H',I,q⟩:=h;exact⟨σ',H',I.unwish,q⟩
 | brk=>obtain⟨σ',H',I,q⟩:=h;exact⟨σ',H',I.unwish,q⟩
 | cont=>obtain⟨σ',H',I,q⟩:=h;exact⟨σ',H',I.unwish,q⟩
 | ret u=>obtain⟨v,σ',H',I,r,q⟩:=h;exact⟨v,σ',H',I.unwish,r,q⟩
theorem PE.nox{t:TE}(h:PE X.nox e t):PE X e t:=fun pins s σ H Q I hw =>
 wpAny_mono (h pins s σ H Q (I.wish _) hw) (fun _ _ ⟨v,H',I',r,q⟩=>⟨v,H',I'.unwish,r,q⟩) fun _ _ z=>False.elim z
theorem PT.nox(h:PT X.nox e t):PT X e t:=fun pins s σ H Q I hw =>
 wpAny_mono (h pins s σ H Q (I.wish _) hw) (fun _ _ ⟨H',I',q⟩=>⟨H',I'.unwish,q⟩) fun _ _ z=>False.elim z
variable{t:TA}
theorem PSs.nox{st:List Stmt}{t:TS}(h:PSs X.nox st t):PSs X st t:=fun pins s σ H D I hw =>
 wpAny_mono (h pins s σ H D (I.wish _) hw) (fun _ _ q=>q.unwish) fun _ _ z=>False.elim z
section
variable {X:Cx} {st:Stmt} {rest:List Stmt} {t u:TS} {e:Expr} {te:TE} {pos:Pos}
def z46:TS:=fun D σ H=>D.nx σ H
def tSeq(t u:TS):TS:=fun D σ H=>t { D with nx:=u D } σ H
theorem zzo:PSs X [] z46:=fun _ _ σ H _ I h=>wpAny_execs_nil ⟨σ,H,I,h⟩
theorem zwi(h1:PS X st t)(h2:PSs X rest u):PSs X (st::rest) (tSeq t u):=by
 intro pins s σ H D I h
 refine wpAny_execs_cons (thn (h1 pins s σ H { D with nx:=u D } I h) fun f s1 q=>?_)
 cases f with
 | next =>
   obtain⟨σ',H',I',q⟩:=q
   exact h2 pins s1 σ' H' D I' q
 | ret v=>exact q
 | brk=>exact q
 | cont=>exact q
theorem zzp(h1:PS X st t):PSs X [st] t:=by
 intro pins s σ H D I h
 refine wpAny_execs_cons (thn (h1 pins s σ H D I h) fun f s1 q=>?_)
 cases f with
 | next=>exact wpAny_execs_nil q
 | ret v=>exact q
 | brk=>exact q
 | cont=>exact q
theorem Inv.quiet{pins:List (Addr×Obj)}{σ:St}{H:Hp}{s:Shared}(I:Inv X pins σ H s):interactive X.env=false:=by simp[interactive,I.ok.kind]
def z47(te:TE):TS:=fun D σ H=>te σ H fun _ H1=>D.nx σ H1
theorem ztv(he:PE X e te)(hs:swapsWith e none pos.line X.env=pure false:=by rfl):PS X (.Expr e pos) (z47 te):=by
 intro pins s σ H D I h
 exact wpAny_Expr_any (thn (he pins s σ H _ I h) fun v s1 ⟨x,H1,I1,r1,q1⟩=>⟨σ,H1,I1,q1⟩) I.quiet hs
def tRet(te:TE):TS:=fun D σ H=>te σ H D.rt
theorem zo5(he:PE X e te):PS X (.Return (some e) pos) (tRet te):=by
 intro pins s σ H D I h
 exact wpAny_Return_some (thn (he pins s σ H _ I h) fun v s1 ⟨x,H1,I1,r1,q1⟩=>⟨x,σ,H1,I1,r1,q1⟩)
def tIfS(c:TT)(t u:TS):TS:=fun D σ H=>c σ H fun b H1=>if b=true then t D σ H1 else u D σ H1
theorem z48{c:Expr}{a b:List Stmt}{tc:TT}(hc:PT X c tc)(ha:PSs X a t)(hb:PSs X b u):PS X (.If c a b pos) (tIfS tc t u):=by
 intro pins s σ H D I h
 refine wpAny_If (thn (hc pins s σ H _ I h) fun d s1 ⟨H1,I1,q1⟩=>?_)
 cases d with
 | true=>exact ha pins s1 σ H1 D I1 q1
 | false=>exact hb pins s1 σ H1 D I1 q1
def z2h:TS:=fun _ _ _=>False
theorem zwj:PS X st z2h:=fun _ _ _ _ _ _ h=>h.elim
end
abbrev TG:=V->St->Hp->(St->Hp->Prop)->Prop
abbrev TGs:=List V->St->Hp->(St->Hp->Prop)->Prop
def PG(X:Cx)(target:Expr)(t:TG):Prop :=
 ∀(pins:List (Addr×Obj)) (s:Shared) (σ:St) (H:Hp) (v:V) (u:Value) (Q:St->Hp->Prop),Inv X pins σ H s->RelV v u->t v σ H Q ->
  wpAny (model X.prog X.w) X.A (assign target X.env u) (fun _ s'=>∃σ' H',Inv X pins σ' H' s'/\Q σ' H') X.xe s
def PGs(X:Cx)(ts:List Expr)(t:TGs):Prop :=
 ∀(pins:List (Addr×Obj)) (s:Shared) (σ:St) (H:Hp) (vs:List V) (us:List Value) (Q:St->Hp->Prop),Inv X pins σ H s->Vals vs us->t vs σ H Q ->
  wpAny (model X.prog X.w) X.A (assignInOrder ((assignEach ts X.env).map (·.2)) us) (fun _ s'=>∃σ' H',Inv X pins σ' H' s'/\Q σ' H') X.xe s
abbrev TSet:=V->V->V->Hp->(Hp->Prop)->Prop
def PSet(X:Cx)(t:TSet):Prop :=
 ∀(pins:List (Addr×Obj)) (s:Shared) (σ:St) (H:Hp) (o i v:V) (ov iv u:Value) (Q:Hp->Prop),Inv X pins σ H s->RelV o ov->RelV i iv->RelV v u->t o i v H Q ->
  wpAny (model X.prog X.w) X.A (setItem ov iv u) (fun _ s'=>∃H',Inv X pins σ H' s'/\Q H') X.xe s
abbrev TIp:=V->V->Hp->VK->Prop
def PIp(X:Cx)(op:Operator)(t:TIp):Prop :=
 ∀(pins:List (Addr×Obj)) (s:Shared) (σ:St) (H:Hp) (x y:V) (v u:Value) (Q:VK),Inv X pins σ H s->RelV x v->RelV y u->t x y H Q ->
  wpAny (model X.prog X.w) X.A (inplaceOp op v u) (EP X pins σ Q) X.xe s
def zhb(i:Nat):TG:=fun v σ H Q=>Q (σ.set i (some v)) H
variable{pos:Pos}
theorem ztw(hN:X.N.Nodup)(hi:X.N[i]?=some x)(hx:Loc X.env.scope x)(hf:X.fn x=true\/X.env.scope.names.lookup x=some .local:=by first | exact .inl rfl | exact .inr rfl | assumption):PG X (.Name x pos) (zhb i):=by
 intro pins s σ H v u Q I r h
 exact wpAny_assign_Name (zls I hN hi hx r (fun s' I'=>⟨_,H,I',h⟩) hf)
def gNil:TGs:=fun vs σ H Q=>vs=[]/\Q σ H
def z2i(t:TG)(u:TGs):TGs:=fun vs σ H Q=>∃v r,vs=v::r/\t v σ H fun σ' H'=>u r σ' H' Q
theorem zzq:PGs X [] gNil:=by
 intro pins s σ H vs us Q I r h
 obtain⟨e,h⟩:=h
 subst e
 cases r
 exact assignInOrder_nil ⟨σ,H,I,h⟩
variable{es:List Expr}
theorem zwk{t:TG}{u:TGs}(h1:PG X e t)(h2:PGs X es u)(hs:(assignEach (e::es) X.env).map (·.2)=assign e X.env::(assignEach es X.env).map (·.2):=by rfl):PGs X (e::es) (z2i t u):=by
 intro pins s σ H vs us Q I r h
 obtain⟨v,vr,e1,h⟩:=h
 subst e1
 cases r with
 | cons r rr =>
   rw[hs]
   refine assignInOrder_cons (thn (h1 pins s σ H _ _ _ I r h) fun _ s1 ⟨σ1,H1,I1,q1⟩=>?_)
   exact h2 pins s1 σ1 H1 _ _ Q I1 rr q1
def gTup(K:PySem.W.Frag)(n:Nat)(t:TGs):TG:=fun v σ H Q=>∃a xs,v=.ref a/\SqT K H a xs/\xs.length=n/\t xs σ H Q
variable{k n:Nat}
theorem ztx{t:TGs}(hc:X.calm=true)(h:PGs X es t)(hn:(assignEach es X.env).length=n:=by rfl)(hst:(assignEach es X.env).findIdx? (·.1)=none:=by rfl):PG X (.Tuple es k pos) (gTup X.K n t):=by
 intro pins s σ H v u Q I r hw
 obtain⟨a,xs,e1,hq,hl,hw⟩:=hw
 subst e1
 cases r
 obtain⟨its,rv,ht,hz⟩:=I.tuple hq
 refine assign_Tuple_tuple (I.ok.hd hc) ht (by simp[hn,← hl,rv.length]) hst fun h' hx=>?_
 have I1:Inv X pins σ H { s with heap:=h' }:=I.kept (t':=s.toks) fun b o e=>hx b o (Nat.ne_of_lt (Heap.lt_size e)) e
 exact h pins _ σ H xs _ Q I1 (by simpa using rv) hw
def gSub(to ti:TE)(t:TSet):TG:=fun v σ H Q=>to σ H fun o H1=>ti σ H1 fun i H2=>t o i v H2 fun H3=>Q σ H3
variable{to ti:TE}
theorem zty{o i:Expr}{t:TSet}(ho:PE X o to)(hi:PE X i ti)(hs:PSet X t)(ha:∀v,assign (.Subscript o i pos) X.env v=(do
   let ov ← holding [v] (eval o X.env)
   let iv ← holding [v,ov] (eval i X.env)
   standAt pos
   holding [v,ov,iv] (setItem ov iv v)
   release [v,ov,iv] []):=by intro _;rfl):PG X (.Subscript o i pos) (gSub to ti t):=by
 intro pins s σ H v u Q I r h
 rw[ha]
 refine wpAny_bind (wpAny_holding (thn (ho pins s σ H _ I h) fun ov s1 ⟨x,H1,I1,r1,q1⟩=>?_))
 refine wpAny_bind (wpAny_holding (thn (hi pins s1 σ H1 _ I1 q1) fun iv s2 ⟨y,H2,I2,r2,q2⟩=>?_))
 refine wpAny_bind (wpAny_standAt (wpAny_bind (wpAny_holding (thn (hs pins s2 σ H2 x y v ov iv u _ I2 r1 r2 r q2) fun _ s3 ⟨H3,I3,q3⟩=>?_))))
 exact wpAny_release ⟨σ,H3,I3,q3⟩
def tAsg(te:TE)(g:TG):TS:=fun D σ H=>te σ H fun x H1=>g x σ H1 D.nx
variable{tg:Expr}{te:TE}{g:TG}
theorem zrf(he:PE X e te)(hg:PG X tg g)(hs:swapsWithSole [tg] e pos.line X.env=pure false:=by rfl)(hw:swappedStores [tg] e X.env=pure none:=by rfl)(h1:(assignEach [tg] X.env).map (·.2)=[assign tg X.env]:=by rfl):PS X (.Assign [tg] e pos) (tAsg te g):=by
 intro pins s σ H D I h
 refine wpAny_Assign_stores (thn (he pins s σ H _ I h) fun v s1 ⟨x,H1,I1,r1,q1⟩=>?_) hs hw
 rw[h1]
 exact thn (hg pins s1 σ H1 x v _ I1 r1 q1) fun _ s2 q=>q
variable{pos':Pos}
theorem zo6(hN:X.N.Nodup)(hi:X.N[i]?=some x)(hx:Loc X.env.scope x)(he:PE X e te)(hs:swapsWith e (some (.Name x pos')) pos.line X.env=pure false:=by rfl)(hf:X.fn x=true\/X.env.scope.names.lookup x=some .local:=by first | exact .inl rfl | exact .inr rfl | assumption) :
  PS X (.Assign [.Name x pos'] e pos) (tAsg te (zhb i)):=by
 intro pins s σ H D I h
 refine wpAny_Assign_Name (thn (he pins s σ H _ I h) fun v s1 ⟨y,H1,I1,r1,q1⟩=>?_) hs
 exact zls I1 hN hi hx r1 (fun s2 I2=>⟨_,H1,I2,q1⟩) hf
def tAug(i:Nat)(te:TE)(ti:TIp):TS:=fun D σ H=>∃x,σ[i]?=some (some x)/\te σ H fun y H1=>ti x y H1 fun z H2=>D.nx (σ.set i (some z)) H2
variable{op:Operator}
theorem z2j{ti:TIp}(hN:X.N.Nodup)(hi:X.N[i]?=some x)(hx:Loc X.env.scope x)(he:PE X e te)(ho:PIp X op ti)(hf:X.fn x=true\/X.env.scope.names.lookup x=some .local:=by first | exact .inl rfl | exact .inr rfl | assumption) :
  PS X (.AugAssign (.Name x pos') op e pos) (tAug i te ti):=by
 intro pins s σ H D I h
 obtain⟨v,e1,h⟩:=h
 obtain⟨m,hn,hl⟩:=I.loc
 have vis:Vis X.env.scope x:=by rcases hx with k | k;exact .inl k;exact .inr (.inl k)
 obtain⟨u,r,l⟩:=hl i x v hi e1 vis
 refine wpAny_AugAssign_Name ?_
 have go:wpAny (model X.prog X.w) X.A (eval e X.env) (fun w s₂=>wpAny (model X.prog X.w) X.A (inplaceOp op u w) (fun r s₃=>wpAny (model X.prog X.w) X.A (storeName X.env x r) (fun _=>SP X pins D .next) X.xe s₃) X.xe s₂) X.xe s:=by
  refine thn (he pins s σ H _ I h) fun w s1 ⟨y,H1,I1,r1,q1⟩=>?_
  refine thn (ho pins s1 σ H1 v y u w _ I1 r r1 q1) fun z s2 ⟨zv,H2,I2,r2,q2⟩=>?_
  exact zls I2 hN hi hx r2 (fun s3 I3=>⟨_,H2,I3,q2⟩) hf
 rcases l with⟨hk,hm⟩ | ⟨hk,c,hc,hcell⟩
 ·exact wpAny_loadName_local I.ok.kind hk hn hm go
 ·rcases hk with hk | hk
  ·exact wpAny_loadName_cell I.ok.kind hk hc hcell go
  ·rcases hx with k | k
   ·have:X.env.scope.names.lookup x=some .free:=hk
    rw[k] at this;cases this
   ·have:X.env.scope.names.lookup x=some .free:=hk
    rw[k] at this;cases this
def z2k(to ti te:TE)(tget:V->V->Hp->VK->Prop)(tip:TIp)(tset:TSet):TS:=fun D σ H=>to σ H fun o H1=>ti σ H1 fun i H2=>tget o i H2 fun x H3=>te σ H3 fun y H4=>tip x y H4 fun z H5=>tset o i z H5 fun H6=>D.nx σ H6
def PGet(X:Cx)(t:V->V->Hp->VK->Prop):Prop :=
 ∀(pins:List (Addr×Obj)) (s:Shared) (σ:St) (H:Hp) (o i:V) (ov iv:Value) (Q:VK),Inv X pins σ H s->RelV o ov->RelV i iv->t o i H Q ->
  wpAny (model X.prog X.w) X.A (getItem ov iv) (EP X pins σ Q) X.xe s
variable{i:Int}
theorem ztz{o i:Expr}{tget:V->V->Hp->VK->Prop}{tip:TIp}{tset:TSet}{tpos:Pos}(ho:PE X o to)(hi:PE X i ti)(hg:PGet X tget)(he:PE X e te)(hp:PIp X op tip)(hs:PSet X tset)(ha:∀ov iv new,augStore i ov iv new=(do holding [new,ov,iv] (setItem ov iv new);release [new,ov,iv] [];pure .next):=by intros;rfl):PS X (.AugAssign (.Subscript o i tpos) op e pos) (z2k to ti te tget tip tset):=by
 intro pins s σ H D I h
 refine wpAny_AugAssign_SubscriptAny (thn (ho pins s σ H _ I h) fun ov s1 ⟨x1,H1,I1,r1,q1⟩=>?_) ha
 refine thn (hi pins s1 σ H1 _ I1 q1) fun iv s2 ⟨x2,H2,I2,r2,q2⟩=>?_
 refine thn (hg pins s2 σ H2 x1 x2 ov iv _ I2 r1 r2 q2) fun old s3 ⟨x3,H3,I3,r3,q3⟩=>?_
 refine thn (he pins s3 σ H3 _ I3 q3) fun v s4 ⟨x4,H4,I4,r4,q4⟩=>?_
 refine thn (hp pins s4 σ H4 x3 x4 old v _ I4 r3 r4 q4) fun new s5 ⟨x5,H5,I5,r5,q5⟩=>?_
 exact thn (hs pins s5 σ H5 x1 x2 x5 ov iv new _ I5 r1 r2 r5 q5) fun _ s6 ⟨H6,I6,q6⟩=>⟨σ,H6,I6,q6⟩
def ipI(f:Int->Int->Int):TIp:=fun x y H Q=>∃i j,x=.int i/\y=.int j/\Q (.int (f i j)) H
theorem zyv:PIp X .Add (ipI fun i j=>i+j):=by
 intro pins s σ H x y v u Q I r1 r2 h
 obtain⟨i,j,e1,e2,q⟩:=h
 subst e1;subst e2
 obtain⟨t,rfl⟩:=r1
 obtain⟨t',rfl⟩:=r2
 exact iadd_int ⟨.int _,H,I.tok _,⟨_,rfl⟩,q⟩
theorem z2l:PIp X .Sub (ipI fun i j=>i-j):=by
 intro pins s σ H x y v u Q I r1 r2 h
 obtain⟨i,j,e1,e2,q⟩:=h
 subst e1;subst e2
 obtain⟨t,rfl⟩:=r1
 obtain⟨t',rfl⟩:=r2
 exact isub_int ⟨.int _,H,I.tok _,⟨_,rfl⟩,q⟩
def z2m(c:TT)(tb:TS):TS:=fun D σ H=>∃W:Nat->St->Hp->Prop,(∃m,W m σ H)/\∀m σ H,W m σ H ->
 c σ H fun b H1=>if b=true then ∃N:St->Hp->Prop,(∀σ' H',N σ' H'->∃m',m'<m/\W m' σ' H')/\tb { D with nx:=N,ct:=N,bk:=D.nx } σ H1 else D.nx σ H1
variable{c:Value}{body:List Stmt}{tb:TS}
theorem zwl{c:Expr}{tc:TT}(hp:PassesOwn (model X.prog X.w) X.A X.env X.xe)(hc:PT X c tc)(hb:PSs X body tb):PS X (.While c body [] pos) (z2m tc tb):=by
 intro pins s σ H D I h
 obtain⟨W,⟨m0,w0⟩,turn⟩:=h
 refine wpAny_While (codeAny_whileLoop (fun n s'=>∃σ' H',Inv X pins σ' H' s'/\W n σ' H') ?_ m0 ⟨σ,H,I,w0⟩)
 rintro n s1 ⟨σ1,H1,I1,w1⟩
 refine wpAny_passesOwn hp (thn (hc pins s1 σ1 H1 _ I1 (turn n σ1 H1 w1)) fun b s2 ⟨H2,I2,q2⟩=>?_)
 cases b with
 | true =>
   obtain⟨N,hN,q2⟩:=q2
   rw[if_pos rfl]
   refine wpAny_passesOwn hp (thn (hb pins s2 σ1 H2 _ I2 q2) fun f s3 q3=>?_)
   cases f with
   | next =>
     obtain⟨σ3,H3,I3,n3⟩:=q3
     obtain⟨m',hm,w3⟩:=hN σ3 H3 n3
     exact⟨m',hm,σ3,H3,I3,w3⟩
   | cont =>
     obtain⟨σ3,H3,I3,n3⟩:=q3
     obtain⟨m',hm,w3⟩:=hN σ3 H3 n3
     exact⟨m',hm,σ3,H3,I3,w3⟩
   | brk=>exact q3
   | ret v=>exact q3
 | false =>
   rw[if_neg Bool.false_ne_true]
   exact wpAny_execs_nil ⟨σ1,H2,I2,q2⟩
structure It where
 go:Nat->Hp->Prop
 yld:Nat->Hp->V->Hp->Prop
 stop:Nat->Hp->Prop
def FpOk(X:Cx)(pins:List (Addr×Obj))(H:Hp)(b:Addr):Prop :=
 H b=none/\b≠X.env.locals/\b∉X.fs/\(b∈X.ex\/X.s₀.heap.objs.size<=b)/\(∀x c,X.env.cells.lookup x=some c->c≠b)/\∀p∈X.pn++pins,p.1≠b
theorem Inv.fpOk(I:Inv X pins σ H s)(hb:s.heap.objs.size<=b)(hn:H' b=none):FpOk X pins H' b:=by
 refine⟨hn,Nat.ne_of_gt (Nat.lt_of_lt_of_le I.lt hb),I.nofs hb,.inr (Nat.le_trans I.sz hb),fun x c e z=>?_,fun p hp z=>?_⟩
 ·obtain⟨v,q⟩:=I.cell x c e
  exact absurd (Nat.lt_of_lt_of_le q.lt (by rw[z];exact hb)) (Nat.lt_irrefl _)
 ·exact absurd (Nat.lt_of_lt_of_le (Heap.lt_size (I.pin p hp).1) (by rw[z];exact hb)) (Nat.lt_irrefl _)
structure zsr (Cm:Cx->Prop) (P:Program) (w:World) (K:PySem.W.Frag) (tg:Expr) (J:It) (fp:List Addr) (it:Addr) (tn:Nat->Heap->Prop):Prop where
 mem:it∈fp
 obj:∀i h,tn i h->∀b∈fp,∃o,h.get? b=some o/\∀v,o.data≠.cell v
 keep:∀i h h',tn i h->(∀b∈fp,∀o,h.get? b=some o->h'.get? b=some o)->tn i h'
 item:∀(X:Cx),X.prog=P->X.w=w->X.K=K->Cm X->∀(i:Nat) (pins:List (Addr×Obj)) (s:Shared) (σ:St) (H:Hp) (E:Value->Shared->Prop),Inv X pins σ H s->(∀b∈fp,FpOk X pins H b)->tn i s.heap->J.go i H ->
  wpAny (model P w) X.A (pyNext (.ref it)) (fun r s1=>∃u,r=some u /\
   wpAny (model P w) X.A (letOwnedTupleGo tg (.ref it) u) (fun _ s2=>∃x H',Inv X pins σ H' s2/\RelV x u/\J.yld i H x H'/\tn (i+1) s2.heap/\∀b∈fp,H' b=none) E s1) E s
 done:∀(X:Cx),X.prog=P->X.w=w->X.K=K->Cm X->∀(i:Nat) (pins:List (Addr×Obj)) (s:Shared) (σ:St) (H:Hp) (E:Value->Shared->Prop),Inv X pins σ H s->(∀b∈fp,FpOk X pins H b)->tn i s.heap->J.stop i H ->
  wpAny (model P w) X.A (pyNext (.ref it)) (fun r s1=>r=none/\Inv X pins σ H s1) E s
 self:∀(A:Around) (i:Nat) (s:Shared) (Q:Value->Shared->Prop) (E:Value->Shared->Prop),tn i s.heap->Q (.ref it) s->wpAny (model P w) A (pyIter (.ref it)) Q E s
abbrev Turn:=zsr fun X=>X.calm=true
abbrev TI:=St->Hp->(It->Hp->Prop)->Prop
def PIEC(Cm:Cx->Prop)(X:Cx)(pins:List (Addr×Obj))(σ:St)(tg:Expr)(R:It->Hp->Prop)(itv:Value)(s2:Shared):Prop :=
 ∃(it:Addr) (fp:List Addr) (tn:Nat->Heap->Prop) (J:It) (H':Hp),itv=.ref it/\Inv X pins σ H' s2/\zsr Cm X.prog X.w X.K tg J fp it tn/\tn 0 s2.heap/\(∀b∈fp,FpOk X pins H' b)/\R J H'
def PIC(Cm:Cx->Prop)(X:Cx)(tg iter:Expr)(wi:TI):Prop :=
 ∀(pins:List (Addr×Obj)) (s:Shared) (σ:St) (H:Hp) (R:It->Hp->Prop),Inv X pins σ H s->wi σ H R ->
  wpAny (model X.prog X.w) X.A (eval iter X.env) (fun v s1=>wpAny (model X.prog X.w) X.A (pyIter v) (PIEC Cm X pins σ tg R) X.xe s1) X.xe s
abbrev PI:=PIC fun X=>X.calm=true
variable{vs:List V}
theorem zzr{n:String}{vs:Array Value}(ho:s.heap.get? it=some o)(hc:o.cls=.type n)(hd:o.data=.fields vs)(hn:["enumerate", "zip", "dict_itemiterator", "dict_reverseitemiterator", "odict_iterator", "itertools.zip_longest", "itertools.pairwise"].contains n=false)(hQ:Q () s):wpAny M A (letOwnedTupleGo tg (.ref it) u) Q E s:=by
 unfold letOwnedTupleGo
 cases tg <;> first
  | exact wpAny_pure hQ
  | (cases u <;> first
      | exact wpAny_pure hQ
      | (refine wpAny_bind (wpAny_load ho ?_)
         rw[hc,hd]
         show wpAny M A (if (["enumerate", "zip", "dict_itemiterator", "dict_reverseitemiterator", "odict_iterator", "itertools.zip_longest", "itertools.pairwise"].contains n && vs[0]?==some (rawInt _))=true then _ else _) Q E s
         rw[if_neg (by intro h;rw[hn,Bool.false_and] at h;cases h)]
         exact wpAny_pure hQ))
def Itl(K:PySem.W.Frag)(a:Addr):It :=
 ⟨fun i H=>∃xs x,SqL K H a xs/\xs[i]?=some x,fun i H x H'=>H'=H/\∀xs,SqL K H a xs->xs[i]?=some x,fun i H=>∃xs,SqL K H a xs/\xs.length<=i⟩
def Itt(K:PySem.W.Frag)(a:Addr):It :=
 ⟨fun i H=>∃xs x,SqT K H a xs/\xs[i]?=some x,fun i H x H'=>H'=H/\∀xs,SqT K H a xs->xs[i]?=some x,fun i H=>∃xs,SqT K H a xs/\xs.length<=i⟩
def Itr(lo:Int)(n:Nat):It:=⟨fun i _=>i<n,fun i H x H'=>H'=H/\x=.int (lo+i),fun i _=>n<=i⟩
theorem zt0(a it:Addr):Turn P w K tg (Itl K a) [it] it (fun i h=>h.IsListIter it a i) where
 mem:=by simp
 obj:=fun i h st b hb=>by
  have e:b=it:=by simpa using hb
  subst e
  obtain⟨o,e,c,d⟩:=st
  exact⟨o,e,fun v z=>by rw[d] at z;cases z⟩
 keep:=fun i h h' st k=>st.at fun o e=>k it (by simp) o e
 item:=by
  intro X hP hw hK hc i pins s σ H E I hf st hg
  subst hP hw hK
  obtain⟨xs,x,hq,hx⟩:=hg
  obtain⟨its,rv,p,hz⟩:=I.list hq
  obtain⟨u,hu,ru⟩:=rv.get hx
  obtain⟨f0,f1,f2,f3,f4,f5⟩:=hf it (by simp)
  refine wpAny_pyNext_list_item st p.isList (x:=u) (by simpa using hu) fun h' st' sb=>?_
  have I1:Inv X pins σ H { s with heap:=h' }:=I.turned (t':=s.toks) (fun b o hb e=>(sb.2 b hb).trans e) f0 f1 f3 f4 f5
  obtain⟨o,e,c,d⟩:=id st'
  exact⟨u,rfl,zzr (s:={ s with heap:=h' }) e c d (by decide) ⟨x,H,I1,ru,⟨rfl,fun ys hy=>by rw[I.list_inj hy hq];exact hx⟩,st',fun b hb=>(hf b hb).1⟩⟩
 done:=by
  intro X hP hw hK hc i pins s σ H E I hf st hg
  subst hP hw hK
  obtain⟨xs,hq,hx⟩:=hg
  obtain⟨its,rv,p,hz⟩:=I.list hq
  obtain⟨f0,f1,f2,f3,f4,f5⟩:=hf it (by simp)
  have hl:=rv.length
  exact wpAny_pyNext_list_end (I.ok.hd hc) st p.isList (by simp;omega) fun h' eb=>⟨rfl,I.turned (t':=s.toks) (fun b o hb e=>eb b o hb e) f0 f1 f3 f4 f5⟩
 self:=fun _ _ _ _ _ st h=>wpAny_pyIter_listiter st h
theorem zss(a it:Addr):Turn P w K tg (Itt K a) [it] it (fun i h=>h.IsTupleIter it a i) where
 mem:=by simp
 obj:=fun i h st b hb=>by
  have e:b=it:=by simpa using hb
  subst e
  obtain⟨o,e,c,d⟩:=st
  exact⟨o,e,fun v z=>by rw[d] at z;cases z⟩
 keep:=fun i h h' st k=>st.at fun o e=>k it (by simp) o e
 item:=by
  intro X hP hw hK hc i pins s σ H E I hf st hg
  subst hP hw hK
  obtain⟨xs,x,hq,hx⟩:=hg
  obtain⟨its,rv,p,hz⟩:=I.tuple hq
  obtain⟨u,hu,ru⟩:=rv.get hx
  obtain⟨f0,f1,f2,f3,f4,f5⟩:=hf it (by simp)
  refine wpAny_pyNext_tuple_item st (show s.heap.IsTuple a its.toArray from p) (x:=u) (by simpa using hu) fun h' st' sb=>?_
  have I1:Inv X pins σ H { s with heap:=h' }:=I.turned (t':=s.toks) (fun b o hb e=>(sb.2 b hb).trans e) f0 f1 f3 f4 f5
  obtain⟨o,e,c,d⟩:=id st'
  exact⟨u,rfl,zzr (s:={ s with heap:=h' }) e c d (by decide) ⟨x,H,I1,ru,⟨rfl,fun ys hy=>by rw[I.tuple_inj hy hq];exact hx⟩,st',fun b hb=>(hf b hb).1⟩⟩
 done:=by
  intro X hP hw hK hc i pins s σ H E I hf st hg
  subst hP hw hK
  obtain⟨xs,hq,hx⟩:=hg
  obtain⟨its,rv,p,hz⟩:=I.tuple hq
  obtain⟨f0,f1,f2,f3,f4,f5⟩:=hf it (by simp)
  have hl:=rv.length
  exact wpAny_pyNext_tuple_end (I.ok.hd hc) st (show s.heap.IsTuple a its.toArray from p) (by simp;omega) fun h' eb=>⟨rfl,I.turned (t':=s.toks) (fun b o hb e=>eb b o hb e) f0 f1 f3 f4 f5⟩
 self:=fun _ _ _ _ _ st h=>wpAny_pyIter_tupleiter st h
theorem zst(it:Addr)(lo:Int)(n:Nat):Turn P w K tg (Itr lo n) [it] it (fun i h=>IsRangeIter h it (lo+(i:Nat)*1) ((n:Int)-(i:Nat)) 1) where
 mem:=by simp
 obj:=fun i h st b hb=>by
  have e:b=it:=by simpa using hb
  subst e
  exact⟨_,st,fun v z=>by
   have z':Data.fields _=Data.cell v:=z
   cases z'⟩
 keep:=fun i h h' st k=>k it (by simp) _ st
 item:=by
  intro X hP hw hK hc i pins s σ H E I hf st hg
  subst hP hw hK
  obtain⟨f0,f1,f2,f3,f4,f5⟩:=hf it (by simp)
  have W:=Walks.range (prog:=X.prog) (w:=X.w) (I.ok.hd hc) it lo 1 n
  refine W.item i s _ _ hg st fun v h' tk hv st' kk=>?_
  obtain⟨t,rfl⟩:=hv
  have I1:Inv X pins σ H { s with heap:=h',toks:=tk }:=I.turned (fun b o hb e=>kk b o (by simpa using hb) e) f0 f1 f3 f4 f5
  refine⟨_,rfl,zzr (s:={ s with heap:=h',toks:=tk }) (n:="range_iterator") st' rfl rfl (by decide) ⟨.int (lo+i),H,I1,⟨t,?_⟩,⟨rfl,rfl⟩,st',fun b hb=>(hf b hb).1⟩⟩
  rw[Int.mul_one]
 done:=by
  intro X hP hw hK hc i pins s σ H E I hf st hg
  subst hP hw hK
  obtain⟨f0,f1,f2,f3,f4,f5⟩:=hf it (by simp)
  exact wpAny_pyNext_range_end (I.ok.hd hc) st (by have:n<=i:=hg;omega) fun h' eb=>⟨rfl,I.turned (t':=s.toks) (fun b o hb e=>eb b o hb e) f0 f1 f3 f4 f5⟩
 self:=fun _ _ _ _ _ st h=>wpAny_pyIter_rangeiter st h
def z49(K:PySem.W.Frag)(tl:TE):TI:=fun σ H R=>tl σ H fun x H1=>∃a,x=.ref a/\(∃xs,SqL K H1 a xs)/\R (Itl K a) H1
def iTup(K:PySem.W.Frag)(tl:TE):TI:=fun σ H R=>tl σ H fun x H1=>∃a,x=.ref a/\(∃xs,SqT K H1 a xs)/\R (Itt K a) H1
variable{l:Expr}{tl:TE}
theorem zt1(hl:PE X l tl):PI X tg l (z49 X.K tl):=by
 intro pins s σ H R I h
 refine thn (hl pins s σ H _ I h) fun v s1 ⟨x,H1,I1,r1,q1⟩=>?_
 obtain⟨a,e,⟨xs,hq⟩,q⟩:=q1
 subst e
 cases r1
 obtain⟨its,rv,p,hz⟩:=I1.list hq
 refine wpAny_pyIter_list p.isList ?_
 refine⟨s1.heap.objs.size,[s1.heap.objs.size],_,_,H1,rfl,I1.kept (t':=s1.toks) fun b o e=>Heap.get?_push_of_some _ e,zt0 a _,⟨_,Heap.get?_push_size _ rfl,rfl,rfl⟩,fun b hb=>?_,q⟩
 have e:b=s1.heap.objs.size:=by simpa using hb
 subst e
 exact I1.fpOk (Nat.le_refl _) (I1.hok.fresh (Nat.le_refl _))
theorem z2n(hl:PE X l tl):PI X tg l (iTup X.K tl):=by
 intro pins s σ H R I h
 refine thn (hl pins s σ H _ I h) fun v s1 ⟨x,H1,I1,r1,q1⟩=>?_
 obtain⟨a,e,⟨xs,hq⟩,q⟩:=q1
 subst e
 cases r1
 obtain⟨its,rv,p,hz⟩:=I1.tuple hq
 refine wpAny_pyIter_tuple (show s1.heap.IsTuple a its.toArray from p) ?_
 refine⟨s1.heap.objs.size,[s1.heap.objs.size],_,_,H1,rfl,I1.kept (t':=s1.toks) fun b o e=>Heap.get?_push_of_some _ e,zss a _,⟨_,Heap.get?_push_size _ rfl,rfl,rfl⟩,fun b hb=>?_,q⟩
 have e:b=s1.heap.objs.size:=by simpa using hb
 subst e
 exact I1.fpOk (Nat.le_refl _) (I1.hok.fresh (Nat.le_refl _))
variable{v:Value}{Cm:Cx->Prop}
theorem zwm(hT:∀(it:Addr) (lo:Int) (n:Nat),zsr Cm X.prog X.w X.K tg (Itr lo n) [it] it (fun i h=>IsRangeIter h it (lo+(i:Nat)*1) ((n:Int)-(i:Nat)) 1)){R:It->Hp->Prop}{lo hi:Int}{t u v:Tok}{tk:Nat}(I:Inv X pins σ H s)(h1:-(2 ^ 62)<=lo)(h2:lo<2 ^ 62)(h3:-(2 ^ 62)<=hi)(h4:hi<2 ^ 62)(q:R (Itr lo (hi-lo).toNat) H):wpAny (model X.prog X.w) X.A (pyIter (.ref s.heap.objs.size)) (PIEC Cm X pins σ tg R) E { s with heap:=s.heap.push { cls:=.type "range",data:=.fields #[.int lo t,.int hi u,.int 1 v] },toks:=tk }:=by
 refine wpAny_pyIter_range (IsRange.new ..) (small_one h1 h2 h3 h4) ?_
 have I1:Inv X pins σ H { s with heap:=s.heap.push { cls:=.type "range",data:=.fields #[.int lo t,.int hi u,.int 1 v] },toks:=tk }:=I.kept fun b o e=>Heap.get?_push_of_some _ e
 refine⟨(s.heap.push { cls:=.type "range",data:=.fields #[.int lo t,.int hi u,.int 1 v] }).objs.size,[(s.heap.push { cls:=.type "range",data:=.fields #[.int lo t,.int hi u,.int 1 v] }).objs.size],_,_,H,rfl,
  I1.kept (t':=tk) fun b o e=>Heap.get?_push_of_some _ e,hT _ lo (hi-lo).toNat,?_,fun b hb=>?_,q⟩
 ·have e1:lo+((0:Nat):Int)*1=lo:=by simp
  have e2:(((hi-lo).toNat:Nat):Int)-((0:Nat):Int)=Builtin.Range.rangeSize lo hi 1:=by rw[rangeSize_one];split <;> omega
  show IsRangeIter _ _ (lo+((0:Nat):Int)*1) ((((hi-lo).toNat:Nat):Int)-((0:Nat):Int)) 1
  rw[e1,e2]
  exact Heap.get?_push_size _ rfl
 ·have e:b=(s.heap.push { cls:=.type "range",data:=.fields #[.int lo t,.int hi u,.int 1 v] }).objs.size:=by simpa using hb
  subst e
  exact I1.fpOk (Nat.le_refl _) (I1.hok.fresh (Nat.le_refl _))
def z5a(ta:TA):TI:=fun σ H R=>ta σ H fun vs H1=>∃j:Int,vs=[.int j]/\-(2 ^ 62)<=j/\j<2 ^ 62/\R (Itr 0 j.toNat) H1
variable{a:Expr}{ta:TE}{p:Pos}
theorem zsu(hT:∀(it:Addr) (lo:Int) (n:Nat),zsr Cm X.prog X.w X.K tg (Itr lo n) [it] it (fun i h=>IsRangeIter h it (lo+(i:Nat)*1) ((n:Int)-(i:Nat)) 1)){ta:TA}(hg:Gl X "range")(hm:X.mg "range" = none)(ha:PA X [a] ta)(hs:starEach [a] X.env=[(false,eval a X.env)]:=by rfl):PIC Cm X tg (.Call (.Name "range" p) [a] [] pos) (z5a ta):=by
 intro pins s σ H R I h
 refine Call_ (zl2 I hg hm boot_range (PyProof.Rows.callWith_type1 (thn (ha pos pins s σ H _ I h) fun us s1 ⟨vs,H1,I1,r1,q1⟩=>?_) hs rfl))
 obtain⟨j,e,q1,q2,q⟩:=q1
 subst e
 cases r1 with
 | cons r rr =>
   cases rr
   obtain⟨t,rfl⟩:=r
   exact call_range_1 (zwm hT I1 (by omega) (by omega) q1 q2 (by simpa using q))
def tFor(wi:TI)(g:TG)(tb:TS):TS:=fun D σ H=>wi σ H fun J H1=>∃W:Nat->Nat->St->Hp->Prop,(∃m,W 0 m σ H1)/\∀i m σ H,W i m σ H ->
 (J.stop i H/\D.nx σ H)\/(J.go i H/\∃N:St->Hp->Prop,(∀σ' H',N σ' H'->∃m',m'<m/\W (i+1) m' σ' H')/\∀x H',J.yld i H x H'->g x σ H' fun σ2 H2=>tb { D with nx:=N,ct:=N,bk:=D.nx } σ2 H2)
def zo7(fp:List Addr)(h:Heap):List (Addr×Obj):=fp.filterMap fun b=>(h.get? b).map fun o=>(b,o)
variable{fp:List Addr}
theorem zi5(hb:b∈fp)(e:h.get? b=some o):(b,o)∈zo7 fp h:=List.mem_filterMap.mpr ⟨b,hb,by rw[e];rfl⟩
theorem zt2{p:Addr×Obj}(hp:p∈zo7 fp h):p.1∈fp/\h.get? p.1=some p.2:=by
 obtain⟨b,hb,e⟩:=List.mem_filterMap.mp hp
 cases q:h.get? b with
 | none=>rw[q] at e;cases e
 | some o =>
   rw[q] at e
   have e':(b,o)=p:=Option.some.inj e
   subst e'
   exact⟨hb,q⟩
theorem Inv.pinned(I:Inv X pins σ H s)(hf:∀b∈fp,FpOk X pins H b)(ho:∀b∈fp,∃o,s.heap.get? b=some o/\∀v,o.data≠.cell v):Inv X (pins++zo7 fp s.heap) σ H s :=
 I.pins_of fun p hp=>(List.mem_append.mp hp).elim (fun z=>I.pin p (List.mem_append_right _ z)) fun z=>by
  obtain⟨hb,e⟩:=zt2 z
  obtain⟨f0,f1,f2,_⟩:=hf p.1 hb
  obtain⟨o,e',d⟩:=ho p.1 hb
  rw[e] at e';cases e'
  exact⟨e,f0,f1,f2,d⟩
theorem Inv.unpinned{pins pl:List (Addr×Obj)}(I:Inv X (pins++pl) σ H s):Inv X pins σ H s:=I.pins_of fun p hp=>I.pin p (List.mem_append_right _ (List.mem_append_left _ hp))
theorem zt3{iter:Expr}{wi:TI}(hp:PassesOwn (model X.prog X.w) X.A X.env X.xe)(hc:X.calm=true)(hi:PI X tg iter wi)(hg:PG X tg g)(hb:PSs X body tb)(hs:∀x,foldedSetIterable iter X.env x=pure x:=by intro _;rfl):PS X (.For tg iter body [] pos) (tFor wi g tb):=by
 intro pins s σ H D I h
 refine wpAny_For (thn (hi pins s σ H _ I h) fun v s1 h1=>thn h1 fun itv s2 h2=>?_) hs
 obtain⟨it,fp,tn,J,H2,e,I2,T,st2,f2,W,⟨m0,w0⟩,turn⟩:=h2
 subst e
 have stat:∀ {H':Hp},(∀b∈fp,H' b=none)->∀b∈fp,FpOk X pins H' b:=fun hn b hb=>⟨hn b hb,(f2 b hb).2⟩
 refine codeAny_forLoop_any (fun n s'=>∃i σ' H',Inv X pins σ' H' s'/\tn i s'.heap/\(∀b∈fp,H' b=none)/\W i n σ' H') ?_ m0 ⟨0,σ,H2,I2,st2,fun b hb=>(f2 b hb).1,w0⟩
 rintro n s3 ⟨i,σ3,H3,I3,st3,fr3,w3⟩
 rcases turn i n σ3 H3 w3 with⟨stop,qn⟩ | ⟨go,N,hN,step⟩
 ·refine wpAny_passesOwn hp (thn (T.done X rfl rfl rfl hc i pins s3 σ3 H3 X.xe I3 (stat fr3) st3 stop) fun r s4 ⟨hr,I4⟩=>?_)
  subst hr
  exact wpAny_execs_nil ⟨σ3,H3,I4,qn⟩
 ·refine wpAny_passesOwn hp (thn (T.item X rfl rfl rfl hc i pins s3 σ3 H3 X.xe I3 (stat fr3) st3 go) fun r s4 ⟨u,hr,h4⟩=>?_)
  subst hr
  refine wpAny_passesOwn hp (thn h4 fun _ s5 ⟨x,H5,I5,r5,y5,st5,fr5⟩=>?_)
  have I5':=I5.pinned (stat fr5) (T.obj _ _ st5)
  refine wpAny_passesOwn hp (thn (hg _ s5 σ3 H5 x u _ I5' r5 (step x H5 y5)) fun _ s6 ⟨σ6,H6,I6,q6⟩=>?_)
  refine wpAny_passesOwn hp (thn (hb _ s6 σ6 H6 _ I6 q6) fun f s7 q7=>?_)
  have again:∀ {σ7:St} {H7:Hp},Inv X (pins++zo7 fp s5.heap) σ7 H7 s7->N σ7 H7->∃m,m<n/\∃i σ' H',Inv X pins σ' H' s7/\tn i s7.heap/\(∀b∈fp,H' b=none)/\W i m σ' H':=fun {σ7 H7} I7 n7=>by
   obtain⟨m',hm,w7⟩:=hN σ7 H7 n7
   refine⟨m',hm,i+1,σ7,H7,I7.unpinned,T.keep _ _ _ st5 fun b hb o e=>(I7.pin (b,o) (List.mem_append_right _ (List.mem_append_right _ (zi5 hb e)))).1,fun b hb=>?_,w7⟩
   obtain⟨o,e,d⟩:=T.obj _ _ st5 b hb
   exact(I7.pin (b,o) (List.mem_append_right _ (List.mem_append_right _ (zi5 hb e)))).2.1
  cases f with
  | next=>obtain⟨σ7,H7,I7,n7⟩:=q7;exact again I7 n7
  | cont=>obtain⟨σ7,H7,I7,n7⟩:=q7;exact again I7 n7
  | brk=>obtain⟨σ7,H7,I7,q7⟩:=q7;exact⟨σ7,H7,I7.unpinned,q7⟩
  | ret v=>obtain⟨x7,σ7,H7,I7,r7,q7⟩:=q7;exact⟨x7,σ7,H7,I7.unpinned,r7,q7⟩
abbrev R2:=V->V->Hp->VK->Prop
def OpR(X:Cx)(f:Value->Value->Sem Value)(r:R2):Prop :=
 ∀(pins:List (Addr×Obj)) (s:Shared) (σ:St) (H:Hp) (x y:V) (v u:Value) (Q:VK),Inv X pins σ H s->RelV x v->RelV y u->r x y H Q ->
  wpAny (model X.prog X.w) X.A (f v u) (EP X pins σ Q) X.xe s
def UnR(X:Cx)(f:Value->Sem Value)(r:V->Hp->VK->Prop):Prop :=
 ∀(pins:List (Addr×Obj)) (s:Shared) (σ:St) (H:Hp) (x:V) (v:Value) (Q:VK),Inv X pins σ H s->RelV x v->r x H Q ->
  wpAny (model X.prog X.w) X.A (f v) (EP X pins σ Q) X.xe s
def CallR(X:Cx)(f:Value)(r:List V->Hp->VK->Prop):Prop :=
 ∀(pins:List (Addr×Obj)) (s:Shared) (σ:St) (H:Hp) (xs:List V) (us:List Value) (Q:VK),Inv X pins σ H s->Vals xs us->r xs H Q ->
  wpAny (model X.prog X.w) X.A (call f us) (EP X pins σ Q) X.xe s
def tOp(r:R2)(ta tb:TE):TE:=fun σ H Q=>ta σ H fun x H1=>tb σ H1 fun y H2=>r x y H2 Q
def tUn(r:V->Hp->VK->Prop)(ta:TE):TE:=fun σ H Q=>ta σ H fun x H1=>r x H1 Q
def rI(C:Int->Int->Prop)(g:Int->Int->V):R2:=fun x y H Q=>∃i j,x=.int i/\y=.int j/\C i j/\Q (g i j) H
def rI0(g:Int->Int->V):R2:=fun x y H Q=>∃i j,x=.int i/\y=.int j/\Q (g i j) H
def rU(g:Int->V):V->Hp->VK->Prop:=fun x H Q=>∃i,x=.int i/\Q (g i) H
variable{b:Expr}{Q:Value->Shared->Prop}{tb:TE}{f:Value->Value->Sem Value}
theorem binT(ha:PE X a ta)(hb:PE X b tb){R:V->V->Hp->Prop}(I:Inv X pins σ H s)(h:ta σ H fun x H1=>tb σ H1 fun y H2=>R x y H2)(hf:∀v u s2 x y H2,Inv X pins σ H2 s2->RelV x v->RelV y u->R x y H2->wpAny (model X.prog X.w) X.A (f v u) Q X.xe s2) :
  wpAny (model X.prog X.w) X.A (eval a X.env) (fun v s₁=>wpAny (model X.prog X.w) X.A (eval b X.env) (fun u s₂=>wpAny (model X.prog X.w) X.A (f v u) Q X.xe s₂) X.xe s₁) X.xe s:=by
 refine thn (ha pins s σ H _ I h) fun v s1 ⟨x,H1,I1,r1,q1⟩=>?_
 refine thn (hb pins s1 σ H1 _ I1 q1) fun u s2 ⟨y,H2,I2,r2,q2⟩=>?_
 exact hf v u s2 x y H2 I2 r1 r2 q2
variable{r:R2}
theorem zzs(ho:OpR X (binaryOp op) r)(ha:PE X a ta)(hb:PE X b tb):PE X (.BinOp a op b pos) (tOp r ta tb):=by
 intro pins s σ H Q I h
 exact wpAny_BinOp (binT ha hb I h fun v u s2 x y H2 I2 rx ry q=>ho pins s2 σ H2 x y v u Q I2 rx ry q)
variable{op:CmpOp}
theorem z2o{op:UnaryOp}{r:V->Hp->VK->Prop}(ho:UnR X (unaryOp op) r)(ha:PE X a ta):PE X (.UnaryOp op a pos) (tUn r ta):=by
 intro pins s σ H Q I h
 exact UnaryOp_ (thn (ha pins s σ H _ I h) fun v s1 ⟨x,H1,I1,r1,q1⟩=>ho pins s1 σ H1 x v Q I1 r1 q1)
variable{g:Int->Int->Int}{C:Addr}
theorem opI{C:Int->Int->Prop}(rule:∀(i j:Int) (t u:Tok) (s:Shared) (Q:Value->Shared->Prop) (E:Value->Shared->Prop),C i j->Q (.int (g i j) s.toks) { s with toks:=s.toks+1 }->wpAny (model X.prog X.w) X.A (f (.int i t) (.int j u)) Q E s) :
  OpR X f (rI C fun i j=>.int (g i j)):=by
 intro pins s σ H x y v u Q I rx ry h
 obtain⟨i,j,rfl,rfl,hc,q⟩:=h
 obtain⟨t,rfl⟩:=rx
 obtain⟨t',rfl⟩:=ry
 exact rule i j t t' s _ _ hc ⟨.int (g i j),H,I.tok _,⟨_,rfl⟩,q⟩
theorem opI0(rule:∀(i j:Int) (t u:Tok) (s:Shared) (Q:Value->Shared->Prop) (E:Value->Shared->Prop),Q (.int (g i j) s.toks) { s with toks:=s.toks+1 }->wpAny (model X.prog X.w) X.A (f (.int i t) (.int j u)) Q E s) :
  OpR X f (rI0 fun i j=>.int (g i j)):=by
 intro pins s σ H x y v u Q I rx ry h
 obtain⟨i,j,rfl,rfl,q⟩:=h
 obtain⟨t,rfl⟩:=rx
 obtain⟨t',rfl⟩:=ry
 exact rule i j t t' s _ _ ⟨.int (g i j),H,I.tok _,⟨_,rfl⟩,q⟩
theorem opB0{g:Int->Int->Bool}(rule:∀(i j:Int) (t u:Tok) (s:Shared) (Q:Value->Shared->Prop) (E:Value->Shared->Prop),Q (.bool (g i j)) s->wpAny (model X.prog X.w) X.A (f (.int i t) (.int j u)) Q E s) :
  OpR X f (rI0 fun i j=>.bl (g i j)):=by
 intro pins s σ H x y v u Q I rx ry h
 obtain⟨i,j,rfl,rfl,q⟩:=h
 obtain⟨t,rfl⟩:=rx
 obtain⟨t',rfl⟩:=ry
 exact rule i j t t' s _ _ ⟨.bl (g i j),H,I,rfl,q⟩
def CDiv(i j:Int):Prop:=0<j/\j<1073741824
def CMul(i j:Int):Prop:=(-(2 ^ 64)<i/\i<2 ^ 64)\/(-(2 ^ 64)<j/\j<2 ^ 64)
theorem CMul.ok(h:CMul i j):IntMulOk i j:=by
 rcases h with⟨h1,h2⟩ | ⟨h1,h2⟩
 ·exact .of_left (intBits_le_64 h1 h2)
 ·exact .of_right (intBits_le_64 h1 h2)
theorem z2p:OpR X (binaryOp .Add) (rI0 fun i j=>.int (i+j)):=opI0 fun _ _ _ _ _ _ _ q=>add_int q
theorem z2q:OpR X (binaryOp .Sub) (rI0 fun i j=>.int (i-j)):=opI0 fun _ _ _ _ _ _ _ q=>sub_int q
theorem z2r:OpR X (binaryOp .Mult) (rI CMul fun i j=>.int (i*j)):=opI fun _ _ _ _ _ _ _ hc q=>mul_int q hc.ok
theorem zzt:OpR X (binaryOp .FloorDiv) (rI CDiv fun i j=>.int (i / j)):=opI fun i j _ _ _ _ _ hc q=>by
 have h1:(0:Int)<j:=hc.1
 have h2:j<1073741824:=hc.2
 exact floordiv_int (by omega) (by rw[Int.fdiv_eq_ediv_of_nonneg i (by omega)];exact q) (.inl (PyProof.noPylong_small (by omega)))
theorem z2s:OpR X (binaryOp .Mod) (rI (fun _ j=>0<j) fun i j=>.int (i % j)):=opI fun i j _ _ _ _ _ hc q=>by
 have h1:(0:Int)<j:=hc
 exact mod_int' (by omega) (by rw[Int.fmod_eq_emod_of_nonneg i (by omega)];exact q)
theorem unI{f:Value->Sem Value}{g:Int->Int}(rule:∀(i:Int) (t:Tok) (s:Shared) (Q:Value->Shared->Prop) (E:Value->Shared->Prop),Q (.int (g i) s.toks) { s with toks:=s.toks+1 }->wpAny (model X.prog X.w) X.A (f (.int i t)) Q E s) :
  UnR X f (rU fun i=>.int (g i)):=by
 intro pins s σ H x v Q I rx h
 obtain⟨i,rfl,q⟩:=h
 obtain⟨t,rfl⟩:=rx
 exact rule i t s _ _ ⟨.int (g i),H,I.tok _,⟨_,rfl⟩,q⟩
theorem zyw:UnR X (unaryOp .USub) (rU fun i=>.int (-i)):=unI fun _ _ _ _ _ q=>neg_int q
def scal:V->V->Bool
 | .non,.non=>true | .non,.int _=>true | .int _,.non=>true | .non,.bl _=>true | .bl _,.non=>true | .non,.str _=>true | .str _,.non=>true
 | .int _,.int _=>true | .bl _,.bl _=>true | .str _,.str _=>true | .byt _,.byt _=>true
 | .int _,.str _=>true | .str _,.int _=>true | .bl _,.str _=>true | .str _,.bl _=>true
 | _,_=>false
def rEq:R2:=fun x y H Q=>scal x y=true/\Q (.bl (decide (x=y))) H
def rNe:R2:=fun x y H Q=>scal x y=true/\Q (.bl (!decide (x=y))) H
theorem zt4:decide (V.int i=V.int j)=(i==j):=by
 rw[Bool.eq_iff_iff]
 simp
theorem zyx{i j:Bool}:decide (V.bl i=V.bl j)=(i==j):=by
 rw[Bool.eq_iff_iff]
 simp
theorem zt5{i j:Str}:decide (V.str i=V.str j)=(i==j):=by
 rw[Bool.eq_iff_iff]
 simp
theorem zt6{i j:Array UInt8}:decide (V.byt i=V.byt j)=(i.toList==j.toList):=by
 rw[Bool.eq_iff_iff]
 cases i
 cases j
 simp
theorem zb3{Q:VK}{k k':Bool}(I:Inv X pins σ H s)(q:Q (.bl k) H)(e:k=k'):EP X pins σ Q (.bool k') s:=by
 subst e
 exact⟨.bl k,H,I,rfl,q⟩
theorem z5b:OpR X (compareOp .Eq) rEq:=by
 intro pins s σ H x y v u Q I rx ry h
 obtain⟨hs,q⟩:=h
 cases x with
 | non =>
   cases rx
   cases y with
   | non=>cases ry;exact PySem.EqNone.eq_none_none (zb3 I q (by simp))
   | bl j=>cases ry;exact PySem.EqNone.eq_none_bool (zb3 I q (by simp))
   | int j=>obtain⟨t',rfl⟩:=ry;exact PySem.EqNone.eq_none_int (zb3 I q (by simp))
   | str j=>obtain⟨t',rfl⟩:=ry;exact PySem.EqNone.eq_none_str (zb3 I q (by simp))
   | _=>exact absurd (show false=true from hs) Bool.false_ne_true
 | bl i =>
   cases rx
   cases y with
   | non=>cases ry;exact PySem.EqNone.eq_bool_none (zb3 I q (by simp))
   | bl j=>cases ry;exact eq_bool (zb3 I q zyx)
   | str j=>obtain⟨t',rfl⟩:=ry;exact PySem.EqMixed.eq_bool_str (zb3 I q (by simp))
   | _=>exact absurd (show false=true from hs) Bool.false_ne_true
 | int i =>
   obtain⟨t,rfl⟩:=rx
   cases y with
   | non=>cases ry;exact PySem.EqNone.eq_int_none (zb3 I q (by simp))
   | int j=>obtain⟨t',rfl⟩:=ry;exact eq_int (zb3 I q zt4)
   | str j=>obtain⟨t',rfl⟩:=ry;exact PySem.EqMixed.eq_int_str (zb3 I q (by simp))
   | _=>exact absurd (show false=true from hs) Bool.false_ne_true
 | str i =>
   obtain⟨t,rfl⟩:=rx
   cases y with
   | non=>cases ry;exact PySem.EqNone.eq_str_none (zb3 I q (by simp))
   | bl j=>cases ry;exact PySem.EqMixed.eq_str_bool (zb3 I q (by simp))
   | int j=>obtain⟨t',rfl⟩:=ry;exact PySem.EqMixed.eq_str_int (zb3 I q (by simp))
   | str j=>obtain⟨t',rfl⟩:=ry;exact eq_str (zb3 I q zt5)
   | _=>exact absurd (show false=true from hs) Bool.false_ne_true
 | byt i =>
   obtain⟨t,rfl⟩:=rx
   cases y with
   | byt j=>obtain⟨t',rfl⟩:=ry;exact PySem.W.eq_bytes (zb3 I q zt6)
   | _=>exact absurd (show false=true from hs) Bool.false_ne_true
 | _=>cases y <;> exact absurd (show false=true from hs) Bool.false_ne_true
theorem z5c:OpR X (compareOp .NotEq) rNe:=by
 intro pins s σ H x y v u Q I rx ry h
 obtain⟨hs,q⟩:=h
 cases x with
 | non =>
   cases rx
   cases y with
   | non=>cases ry;exact PySem.EqNone.ne_none_none (zb3 I q (by simp))
   | bl j=>cases ry;exact PySem.EqNone.ne_none_bool (zb3 I q (by simp))
   | int j=>obtain⟨t',rfl⟩:=ry;exact PySem.EqNone.ne_none_int (zb3 I q (by simp))
   | str j=>obtain⟨t',rfl⟩:=ry;exact PySem.EqNone.ne_none_str (zb3 I q (by simp))
   | _=>exact absurd (show false=true from hs) Bool.false_ne_true
 | bl i =>
   cases rx
   cases y with
   | non=>cases ry;exact PySem.EqNone.ne_bool_none (zb3 I q (by simp))
   | bl j=>cases ry;exact ne_bool (zb3 I q (congrArg not zyx))
   | str j=>obtain⟨t',rfl⟩:=ry;exact PySem.EqMixed.ne_bool_str (zb3 I q (by simp))
   | _=>exact absurd (show false=true from hs) Bool.false_ne_true
 | int i =>
   obtain⟨t,rfl⟩:=rx
   cases y with
   | non=>cases ry;exact PySem.EqNone.ne_int_none (zb3 I q (by simp))
   | int j=>obtain⟨t',rfl⟩:=ry;exact ne_int (zb3 I q (congrArg not zt4))
   | str j=>obtain⟨t',rfl⟩:=ry;exact PySem.EqMixed.ne_int_str (zb3 I q (by simp))
   | _=>exact absurd (show false=true from hs) Bool.false_ne_true
 | str i =>
   obtain⟨t,rfl⟩:=rx
   cases y with
   | non=>cases ry;exact PySem.EqNone.ne_str_none (zb3 I q (by simp))
   | bl j=>cases ry;exact PySem.EqMixed.ne_str_bool (zb3 I q (by simp))
   | int j=>obtain⟨t',rfl⟩:=ry;exact PySem.EqMixed.ne_str_int (zb3 I q (by simp))
   | str j=>obtain⟨t',rfl⟩:=ry;exact ne_str (zb3 I q (congrArg not zt5))
   | _=>exact absurd (show false=true from hs) Bool.false_ne_true
 | byt i =>
   obtain⟨t,rfl⟩:=rx
   cases y with
   | byt j=>obtain⟨t',rfl⟩:=ry;exact PySem.W.ne_bytes (zb3 I q (congrArg not zt6))
   | _=>exact absurd (show false=true from hs) Bool.false_ne_true
 | _=>cases y <;> exact absurd (show false=true from hs) Bool.false_ne_true
theorem z5d:OpR X (compareOp .Lt) (rI0 fun i j=>.bl (decide (i<j))):=opB0 fun _ _ _ _ _ _ _ q=>lt_int q
theorem z2t:OpR X (compareOp .Gt) (rI0 fun i j=>.bl (decide (j<i))):=opB0 fun _ _ _ _ _ _ _ q=>gt_int q
theorem z5e:OpR X (compareOp .GtE) (rI0 fun i j=>.bl (decide (j<=i))):=opB0 fun _ _ _ _ _ _ _ q=>ge_int q
theorem OpR.or{r':R2}(h:OpR X f r)(h':OpR X f r'):OpR X f (fun x y H Q=>r x y H Q\/r' x y H Q):=by
 intro pins s σ H x y v u Q I rx ry q
 rcases q with q | q
 ·exact h pins s σ H x y v u Q I rx ry q
 ·exact h' pins s σ H x y v u Q I rx ry q
theorem zna(b:Expr)(h:op≠.In:=by decide)(h2:op≠.NotIn:=by decide):behindInMarks op b=false:=by
 have e1:(op==CmpOp.In)=false:=by cases op <;> first | rfl | exact absurd rfl h
 have e2:(op==CmpOp.NotIn)=false:=by cases op <;> first | rfl | exact absurd rfl h2
 cases b <;> simp[behindInMarks,e1,e2]
theorem zzu(ho:OpR X (compareOp op) r)(ha:PE X a ta)(hb:PE X b tb)(hm:behindInMarks op b=false):PE X (.Compare a [op] [b] pos) (tOp r ta tb):=by
 intro pins s σ H Q I h
 exact wpAny_Compare1 (binT ha hb I h fun v u s2 x y H2 I2 rx ry q=>ho pins s2 σ H2 x y v u Q I2 rx ry q) hm
def z2u(t:TE):TT:=fun σ H Q=>t σ H fun x H'=>∃k,x=.bl k/\Q k H'
theorem zzv(ho:OpR X (compareOp op) r)(ha:PE X a ta)(hb:PE X b tb)(hm:behindInMarks op b=false):PT X (.Compare a [op] [b] pos) (z2u (tOp r ta tb)):=by
 intro pins s σ H Q I h
 refine wpAny_isTrue_Compare1 (thn (ha pins s σ H _ I h) fun v s1 ⟨x,H1,I1,r1,q1⟩=>thn (hb pins s1 σ H1 _ I1 q1) fun u s2 ⟨y,H2,I2,r2,q2⟩ =>
  thn (ho pins s2 σ H2 x y v u _ I2 r1 r2 q2) fun c s3 ⟨z,H3,I3,r3,k,e,q3⟩=>?_) hm
 subst e
 cases r3
 exact wpAny_truthy_bool ⟨H3,I3,q3⟩
theorem znb:(sizeLine:Nat)<2 ^ 63:=by rw[sizeLine_eq];decide
variable{x:V}{us:List Value}
theorem zzw(r:Vals [x] us):∃u,us=[u]/\RelV x u:=by
 cases r with
 | cons r1 r2=>cases r2;exact⟨_,rfl,r1⟩
variable{y:V}
theorem zzx(r:Vals [x,y] us):∃u w',us=[u,w']/\RelV x u/\RelV y w':=by
 cases r with
 | cons r1 r2 =>
   cases r2 with
   | cons r3 r4=>cases r4;exact⟨_,_,rfl,r1,r3⟩
theorem zt7(hc:X.calm=true):CallR X (.builtin "max") (fun xs H Q=>∃i j,xs=[.int i,.int j]/\Q (.int (if j > i then j else i)) H):=by
 intro pins s σ H xs us Q I r h
 obtain⟨i,j,rfl,q⟩:=h
 obtain⟨u,w',rfl,⟨t,rfl⟩,⟨t',rfl⟩⟩:=zzx r
 refine max_two_ints (I.ok.hd hc) fun h' tk k=>⟨_,H,I.kept k,?_,q⟩
 by_cases hj:j > i
 ·rw[if_pos hj,if_pos hj];exact⟨_,rfl⟩
 ·rw[if_neg hj,if_neg hj];exact⟨_,rfl⟩
theorem zt8(hc:X.calm=true):CallR X (.builtin "min") (fun xs H Q=>∃i j,xs=[.int i,.int j]/\Q (.int (if j<i then j else i)) H):=by
 intro pins s σ H xs us Q I r h
 obtain⟨i,j,rfl,q⟩:=h
 obtain⟨u,w',rfl,⟨t,rfl⟩,⟨t',rfl⟩⟩:=zzx r
 refine min_two_ints (I.ok.hd hc) fun h' tk k=>⟨_,H,I.kept k,?_,q⟩
 by_cases hj:j<i
 ·rw[if_pos hj,if_pos hj];exact⟨_,rfl⟩
 ·rw[if_neg hj,if_neg hj];exact⟨_,rfl⟩
structure ObjM (h:Heap) (x dx C:Addr) (mA:Str->Option Value):Prop where
 obj:h.get? x=some (PySem.W.instObj C dx)
 ns:h.Ns1 dx mA
 ne:dx≠x
variable{dx:Addr}{mA:Str->Option Value}
theorem zt9(n:h.Ns1 dx mA):∃od,h.get? dx=some od/\∀name,PySem.W.lookIn name od=some (mA name):=by
 obtain⟨o,es,ep,ho,hd,hk,_,hm⟩:=n
 refine⟨o,ho,fun name=>?_⟩
 have e:=hm name
 unfold nsFind findBy at e
 rw[← Array.find?_toList] at e
 unfold PySem.W.lookIn
 rw[hd]
 dsimp only
 split
 ·rename_i y q
  rw[q] at e
  exact congrArg some e
 ·rename_i q
  rw[q] at e
  have a:es.toList.any (·.refKey)=false:=by
   rw[List.any_eq_false]
   intro y hy
   obtain⟨z,t,hkey⟩:=hk y (Array.mem_toList_iff.mp hy)
   simp[DictEntry.refKey,hkey]
  have a':¬es.toList.any (·.refKey)=true:=by rw[a];exact Bool.false_ne_true
  rw[if_neg a']
  exact congrArg some e
variable{x:Addr}
theorem ObjM.look(I:ObjM h x dx C mA):∃od,PySem.W.InstAt h x (PySem.W.instObj C dx) C (some od)/\∀name,PySem.W.lookIn name od=some (mA name) :=
 let ⟨od,ho,hl⟩:=zt9 I.ns
 ⟨od,⟨I.obj,rfl,rfl,ho⟩,hl⟩
variable{prog:Program}{name:Str}
theorem zzy{expr:Bool}(X:K.In s.heap)(I:ObjM s.heap x dx C mA)(hg:PySem.W.plainGet K C name=true)(hh:PySem.W.hasDictIn K C=true)(ha:PySem.W.findIn K (.ref C) name=some none)(hv:mA name=some v)(hv':PySem.W.handedIn v=true)(h:Q v { s with toks:=s.toks+1 }) :
  wpAny (model prog w) A (getAttr (.ref x) name expr) Q E s:=by
 obtain⟨od,J,hl⟩:=I.look
 exact PySem.W.get_value X J (PySem.W.plainGet_of hg).1 (PySem.W.findObj_own hh ha rfl (by rw[hl,hv])) hv' h
variable{f:Addr}
theorem zwn{pl:Sem Bool}{Q:Value×List Value->Shared->Prop}(X:K.In s.heap)(I:ObjM s.heap x dx C mA)(hg:PySem.W.plainGet K C name=true)(hf:PySem.W.findIn K (.ref C) name=some (some (.ref f)))(ht:PySem.W.isFn K (.ref f)=true)(hv:mA name=none)(h:Q (.ref f,[.ref x]) s) :
  wpAny (model prog w) A (getMethod (.ref x) name pl) Q E s:=by
 obtain⟨od,J,hl⟩:=I.look
 exact PySem.W.method_fn X J (PySem.W.plainGet_of hg).1 (PySem.W.plainGet_of hg).2 hf (beq_iff_eq.mp ht) (by show(PySem.W.lookIn name od).map (·.isSome)=some false;rw[hl,hv];rfl) h
theorem zzz{ns:List Str}{Q:Unit->Shared->Prop}(X:K.In s.heap)(I:ObjM s.heap x dx C mA)(hs:PySem.W.findIn K (.ref C) "__setattr__" = some (some (.builtin "object.__setattr__")))(hp:PySem.W.plainOver K C=true)(ht:PySem.W.takerIn K C name=some none)(hh:PySem.W.hasDictIn K C=true)(hw:PySem.Within mA ns)(hsz:ns.length<=sizeLine)(h:∀h',ObjM h' x dx C (fun y=>if y=name then some v else mA y)->Heap.SameBut dx s.heap h'->Q () { s with heap:=h',toks:=s.toks+2 }) :
  wpAny (model prog w) A (setAttr (.ref x) name v) Q E s:=by
 obtain⟨od,J,hl⟩:=I.look
 refine PySem.W.set_plain X J hs (PySem.W.osa_open (s:={ s with toks:=s.toks+1 }) (r:=none) X J hp ht fun b=>?_)
 obtain⟨cd,hc,hd'⟩:=PySem.W.any_some hh
 have hx:s.heap.get? x=some ⟨.ref C,some dx,.plain,#[]⟩:=I.obj
 refine wpAny_bind (wpAny_pure (wpAny_bind (wpAny_bind (wpAny_loadPart hx (wpAny_bind (PySem.W.Looks.here (s:={ s with toks:=s.toks+1 }) (PySem.W.looks_clsIn X hc) ?_))))))
 rw[hd']
 refine wpAny_pure (a:=some dx) (wpAny_bind (wpAny_pure (wpAny_bind ?_)))
 refine wpAny_nsSet1 (s:={ s with toks:=s.toks+1 }) I.ns fun h' hn2 hs2=>?_
 obtain⟨oD,esD,epD,hoD,hdD,hcD⟩:=hn2.count (PySem.Within.cons name v hw)
 refine wpAny_bind (wpAny_lookBehind hoD (by rw[hdD];exact pastItsLine_dict (Nat.le_trans hcD (by rw[List.length_cons];omega))) ?_)
 exact wpAny_pure (h _ ⟨(hs2.2 _ (Ne.symm I.ne)).trans I.obj,hn2,I.ne⟩ hs2)
variable{kw:List (Str×Value)}
theorem zwo{R:Result->Shared->Prop}{vs:List Value}(X:K.In s.heap)(hm:PySem.W.makesIn K C=true)(hi:PySem.W.findIn K (.ref C) "__init__" = some (some (.ref f)))(hf:PySem.W.typeIn K (.ref f)=some (.type "function"))(h:codeAny (model prog w) (A.under (.builtin "type.__call__" ⟨.ref C::vs,kw⟩)) (.call (.ref f) ⟨.ref (s.heap.objs.size+1)::vs,kw⟩) (PySem.W.InitBack (s.heap.objs.size+1) R)
   { s with heap:=(s.heap.push PySem.W.emptyDict).push (PySem.W.instObj C s.heap.objs.size) }) :
  codeAny (model prog w) A (.call (.ref C) ⟨vs,kw⟩) R s:=by
 obtain⟨hh,g,d,t,os⟩:=s
 exact PySem.W.make_core (PySem.W.makes_of X hm) (PySem.W.looks_findIn X hi) (fun self=>PySem.W.bind_fn X self hf) (.inl rfl) h
def putF(f:Str)(v:V):List (Str×V)->List (Str×V)
 | []=>[(f,v)]
 | (g,x)::r=>if g=f then(g,v)::r else(g,x)::putF f v r
theorem zl3(f g:Str)(v:V):∀fs:List (Str×V),(putF f v fs).lookup g=if g=f then some v else fs.lookup g
 | []=>by
   show List.lookup g [(f,v)]=_
   by_cases h:g=f
   ·have hb:(g==f)=true:=beq_iff_eq.mpr h
    simp only[List.lookup,hb,if_pos h]
   ·have hb:(g==f)=false:=beq_eq_false_iff_ne.mpr h
    simp only[List.lookup,hb,if_neg h]
 | (k,x)::r=>by
   have ih:=zl3 f g v r
   rw[show putF f v ((k,x)::r)=(if k=f then(k,v)::r else(k,x)::putF f v r) from rfl]
   by_cases hk:k=f
   ·rw[if_pos hk]
    by_cases h:g=k
    ·have hb:(g==k)=true:=beq_iff_eq.mpr h
     simp only[List.lookup,hb,if_pos (h.trans hk)]
    ·have hb:(g==k)=false:=beq_eq_false_iff_ne.mpr h
     simp only[List.lookup,hb,if_neg (fun e:g=f=>h (e.trans hk.symm))]
   ·rw[if_neg hk]
    by_cases h:g=k
    ·have hb:(g==k)=true:=beq_iff_eq.mpr h
     simp only[List.lookup,hb,if_neg (fun e:g=f=>hk (h.symm.trans e))]
    ·have hb:(g==k)=false:=beq_eq_false_iff_ne.mpr h
     simp only[List.lookup,hb]
     exact ih
theorem zl4(f:Str)(v:V):∀fs:List (Str×V),f∈(putF f v fs).map (·.1)/\∀g,g∈fs.map (·.1)->g∈(putF f v fs).map (·.1)
 | []=>⟨by simp[putF],fun g h=>by simp at h⟩
 | (k,x)::r=>by
   obtain⟨i1,i2⟩:=zl4 f v r
   rw[show putF f v ((k,x)::r)=(if k=f then(k,v)::r else(k,x)::putF f v r) from rfl]
   by_cases hk:k=f
   ·rw[if_pos hk]
    subst hk
    exact⟨by simp,fun g h=>by simpa using h⟩
   ·rw[if_neg hk]
    refine⟨?_,fun g h=>?_⟩
    ·rw[List.map_cons]
     exact List.mem_cons_of_mem _ i1
    ·rw[List.map_cons] at h ⊢
     rcases List.mem_cons.mp h with e | e
     ·exact List.mem_cons.mpr (.inl e)
     ·exact List.mem_cons_of_mem _ (i2 g e)
theorem zl5(f:Str)(v:V):∀fs:List (Str×V),(putF f v fs).length<=fs.length+1
 | []=>by simp[putF]
 | (k,x)::r=>by
   have ih:=zl5 f v r
   rw[show putF f v ((k,x)::r)=(if k=f then(k,v)::r else(k,x)::putF f v r) from rfl]
   by_cases hk:k=f
   ·rw[if_pos hk,List.length_cons,List.length_cons];omega
   ·rw[if_neg hk,List.length_cons,List.length_cons];omega
variable{o:Option Value}{v:V}
theorem RelO.some_of(r:RelO (some v) o):∃u,o=some u/\RelV v u:=by
 cases o with
 | none=>exact(show False from r).elim
 | some u=>exact⟨u,rfl,r⟩
theorem RelO.none_of(r:RelO none o):o=none:=by
 cases o with
 | none=>rfl
 | some u=>exact(show False from r).elim
theorem zua(r:RelV v u):PySem.W.handedIn u=true:=by
 cases v with
 | non=>cases (show u=Value.none from r);rfl
 | bl b=>cases (show u=Value.bool b from r);rfl
 | int i=>obtain⟨t,e⟩:=(show ∃t,u=Value.int i t from r);cases e;rfl
 | str x=>obtain⟨t,e⟩:=(show ∃t,u=Value.str x t from r);cases e;rfl
 | byt b=>obtain⟨t,e⟩:=(show ∃t,u=Value.bytes b t from r);cases e;rfl
 | flt b=>obtain⟨t,e⟩:=(show ∃t,u=Value.float b t from r);cases e;rfl
 | ref a=>cases (show u=Value.ref a from r);rfl
 | ty n=>cases (show u=Value.type n from r);rfl
variable{a:Addr}{fs:List (Str×V)}
theorem znr(hok:HOk P w H h)(e:H a=some (.ins C dx fs)):∃mA,ObjM h a dx C mA/\(∀f,RelO (fs.lookup f) (mA f))/\PySem.Within mA (fs.map (·.1))/\fs.length<=1000/\H dx=some (.own a):=by
 obtain⟨d,z,ne,ob,mA,n,r,q⟩:=(show ObjOk P w H h a (.ins C dx fs) from hok a _ e)
 exact⟨mA,⟨ob,n,ne⟩,r,q,z,d⟩
structure Cls (K:PySem.W.Frag) (C:Addr):Prop where
 pg:PySem.W.plainGet K C Str.empty=true
 hd:PySem.W.hasDictIn K C=true
 po:PySem.W.plainOver K C=true
 sa:PySem.W.findIn K (.ref C) "__setattr__" = some (some (.builtin "object.__setattr__"))
theorem Cls.get(c:Cls K C)(f:Str):PySem.W.plainGet K C f=true:=c.pg
def NoAttr(K:PySem.W.Frag)(C:Addr)(f:Str):Prop:=PySem.W.findIn K (.ref C) f=some none
variable{f:Str}
theorem NoAttr.taker(n:NoAttr K C f):PySem.W.takerIn K C f=some none:=by
 unfold PySem.W.takerIn
 rw[show PySem.W.findIn K (.ref C) f=some none from n]
 rfl
structure Con (K:PySem.W.Frag) (C:Addr) (f:Str) (v:V) (u:Value):Prop where
 at_:PySem.W.findIn K (.ref C) f=some (some u)
 rel:RelV v u
 get:PySem.W.specialIn K u "__get__" = some none
 cp:PySem.W.copiedNames.contains f=false
structure Meth (K:PySem.W.Frag) (C:Addr) (m:Str) (f:Addr):Prop where
 at_:PySem.W.findIn K (.ref C) m=some (some (.ref f))
 fn:PySem.W.isFn K (.ref f)=true
 kp:PySem.W.keepIn K (.ref f)=true
variable{b:Bool}
theorem zsv(I:Inv X pins σ H s)(e:H a=some (.ins C dx fs))(c:Cls X.K C)(n:NoAttr X.K C f)(l:fs.lookup f=some v)(h:∀u s',Inv X pins σ H s'->RelV v u->Q u s'):wpAny (model X.prog X.w) A (getAttr (.ref a) f b) Q E s:=by
 obtain⟨mA,O,r,_,_,_⟩:=znr I.hok e
 obtain⟨u,hu,ru⟩:=RelO.some_of (v:=v) (o:=mA f) (by rw[← l];exact r f)
 exact zzy I.kIn O (c.get f) c.hd n hu (zua ru) (h u _ (I.tok _) ru)
theorem znc{m:Str}{g:Addr}{pl:Sem Bool}{Q:Value×List Value->Shared->Prop}(I:Inv X pins σ H s)(e:H a=some (.ins C dx fs))(c:Cls X.K C)(k:Meth X.K C m g)(l:fs.lookup m=none)(h:Q (.ref g,[.ref a]) s):wpAny (model X.prog X.w) A (getMethod (.ref a) m pl) Q E s:=by
 obtain⟨mA,O,r,_,_,_⟩:=znr I.hok e
 have hn:mA m=none:=RelO.none_of (by rw[← l];exact r m)
 exact zwn I.kIn O (c.get m) k.at_ k.fn hn h
theorem zsw{Q:Unit->Shared->Prop}(I:Inv X pins σ H s)(e:H a=some (.ins C dx fs))(c:Cls X.K C)(n:NoAttr X.K C f)(hl:fs.length<1000)(ry:RelV y u)(h:∀s',Inv X pins σ (upd H a (.ins C dx (putF f y fs))) s'->Q () s'):wpAny (model X.prog X.w) A (setAttr (.ref a) f u) Q E s:=by
 obtain⟨mA,O,r,wi,_,ho⟩:=znr I.hok e
 have hz:(fs.map (·.1)).length<=sizeLine:=by rw[List.length_map,sizeLine_eq];omega
 refine zzz I.kIn O c.sa c.po n.taker c.hd wi hz fun h' O' sb=>h _ ?_
 have hd:∃o,h'.get? dx=some o:=let ⟨o,_,_,e',_⟩:=O'.ns;⟨o,e'⟩
 refine I.write (x:=a) (e:=dx) (by rw[e];exact True.intro) (.inr ho) (fun b q hb z=>(sb.2 b hb).trans z) hd ?_
 refine⟨by rw[zaq O.ne];exact ho,?_,O.ne,O'.obj,_,O'.ns,fun g=>?_,fun g hg=>?_⟩
 ·have:=zl5 f y fs;omega
 ·show RelO ((putF f y fs).lookup g) (if g=f then some u else mA g)
  rw[zl3]
  by_cases q:g=f
  ·rw[if_pos q,if_pos q];exact ry
  ·rw[if_neg q,if_neg q];exact r g
 ·by_cases q:g=f
  ·rw[q];exact(zl4 f y fs).1
  ·refine(zl4 f y fs).2 g (wi g fun z=>hg ?_)
   show(if g=f then some u else mA g)=none
   rw[if_neg q];exact z
theorem Inv.made(I:Inv X pins σ H s):Inv X pins σ (upd (upd H s.heap.objs.size (.own (s.heap.objs.size+1))) (s.heap.objs.size+1) (.ins C s.heap.objs.size []))
  { s with heap:=(s.heap.push PySem.W.emptyDict).push (PySem.W.instObj C s.heap.objs.size) }:=by
 have e1:(s.heap.push PySem.W.emptyDict).get? s.heap.objs.size=some PySem.W.emptyDict:=Heap.get?_push_size s.heap rfl
 have e2:((s.heap.push PySem.W.emptyDict).push (PySem.W.instObj C s.heap.objs.size)).get? (s.heap.objs.size+1)=some (PySem.W.instObj C s.heap.objs.size):=by
  have:=Heap.get?_push_size (s.heap.push PySem.W.emptyDict) (o:=PySem.W.instObj C s.heap.objs.size) rfl
  rwa [Heap.size_push] at this
 have e3:(s.heap.push PySem.W.emptyDict).Ns s.heap.objs.size (fun _=>none):=⟨PySem.W.emptyDict,#[],_,e1,rfl,(fun e he=>absurd he (by simp)),fun _=>rfl⟩
 have I1:=I.laid (a:=s.heap.objs.size) (o:=.own (s.heap.objs.size+1)) (h':=s.heap.push PySem.W.emptyDict) (t':=s.toks) (fun b u q=>Heap.get?_push_of_some _ q) (Nat.le_refl _) ⟨_,e1⟩
 refine I1.laid (a:=s.heap.objs.size+1) (o:=.ins C s.heap.objs.size []) (t':=s.toks) (fun b u q=>Heap.get?_push_of_some _ q) (Nat.le_of_eq (Heap.size_push _ _)) ?_
 have ne:s.heap.objs.size≠s.heap.objs.size+1:=Nat.ne_of_lt (Nat.lt_succ_self _)
 refine⟨by rw[zaq ne,za3],Nat.zero_le _,ne,e2,fun _=>none,(Heap.Ns1.of_empty e3).at fun o q=>Heap.get?_push_of_some _ q,fun _=>True.intro,fun y hy=>absurd rfl hy⟩
theorem zz0{env:Env}(hb:attributeBase e f env (eval e env)=eval e env)(h:wpAny (model prog w) A (eval e env) (fun o s₁=>wpAny (model prog w) A (getAttr o f true) Q E s₁) E s):wpAny (model prog w) A (eval (.Attribute e f pos) env) Q E s :=
 Attribute_any_ h (by rw[arm_eval_Attribute,hb])
def tFld(K:PySem.W.Frag)(ta:TE)(f:Str):TE:=fun σ H Q=>ta σ H fun x H1=>∃a C dx fs v,x=.ref a/\H1 a=some (.ins C dx fs)/\Cls K C/\NoAttr K C f/\fs.lookup f=some v/\Q v H1
def sFld(K:PySem.W.Frag)(ta tv:TE)(f:Str):TS:=fun D σ H=>tv σ H fun y H1=>ta σ H1 fun x H2=>∃a C dx fs,x=.ref a/\H2 a=some (.ins C dx fs)/\Cls K C/\NoAttr K C f/\fs.length<1000 /\
 D.nx σ (upd H2 a (.ins C dx (putF f y fs)))
theorem zyy(he:PE X e ta)(hb:attributeBase e f X.env (eval e X.env)=eval e X.env):PE X (.Attribute e f pos) (tFld X.K ta f):=by
 intro pins s σ H Q I h
 refine zz0 hb (thn (he pins s σ H _ I h) fun u s1 ⟨x,H1,I1,rx,a,C,dx,fs,v,ex,ea,c,n,l,q⟩=>?_)
 subst ex
 obtain rfl:u=Value.ref a:=rx
 exact zsv I1 ea c n l fun u' s2 I2 ru=>⟨v,H1,I2,ru,q⟩
variable{o value:Expr}{tv:TE}
theorem z2v(ha:PE X o ta)(hv:PE X value tv)(hs:swapsWith value (some (.Attribute o f pos')) pos.line X.env=pure false):PS X (.Assign [.Attribute o f pos'] value pos) (sFld X.K ta tv f):=by
 intro pins s σ H D I h
 refine plainObj_wpAny_Assign_Attribute (thn (hv pins s σ H _ I h) fun u s1 ⟨y,H1,I1,ry,q⟩=>thn (ha pins s1 σ H1 _ I1 q) fun ov s2 ⟨x,H2,I2,rx,a,C,dx,fs,ex,ea,c,n,l,q2⟩=>?_) hs
 subst ex
 obtain rfl:ov=Value.ref a:=rx
 exact zsw I2 ea c n l ry fun s3 I3=>⟨σ,_,I3,q2⟩
inductive TyOf (K:PySem.W.Frag) (H:Hp):V->Value->Prop where
 | non:TyOf K H .non (.type "NoneType")
 | bl (x:Bool):TyOf K H (.bl x) (.type "bool")
 | int (i:Int):TyOf K H (.int i) (.type "int")
 | str (x:Str):TyOf K H (.str x) (.type "str")
 | flt (x:UInt64):TyOf K H (.flt x) (.type "float")
 | lst {a:Addr} {xs:List V} (e:H a=some (.lst xs)):TyOf K H (.ref a) (.type "list")
 | frz {a:Addr} {o:Obj} {xs:List V} (e:H a=some (.frz o (.lst xs))):TyOf K H (.ref a) (.type "list")
 | tup {a:Addr} {xs:List V} (e:H a=some (.tup xs)):TyOf K H (.ref a) (.type "tuple")
 | dK {a:Addr} {kvs:List (Key×V)} (e:H a=some (.dK kvs)):TyOf K H (.ref a) (.type "dict")
 | dT {a:Addr} {kvs:List (List Key×V)} (e:H a=some (.dT kvs)):TyOf K H (.ref a) (.type "dict")
 | ins {a C dx:Addr} {fs:List (Str×V)} (e:H a=some (.ins C dx fs)) (cl:Cls K C) (ha:PySem.W.findIn K (.ref C) "__class__" = some (some (.builtin "object.__class__")))
    (hn:PySem.W.specialIn K (.builtin "object.__class__") "__get__" = some (some (.builtin "getset_descriptor.__get__"))) (htk:PySem.W.takesIn K (.builtin "object.__class__")=some true)
    (hm:PySem.W.mroIn K C (.type "object")=some true):TyOf K H (.ref a) (.ref C)
variable{x:Str}
theorem zub{x:V}{t:Value}(I:Inv X pins σ H s)(rx:RelV x u)(ty:TyOf X.K H x t)(e:PySem.W.kitOne X.K t c=some b)(h:∀tk,Q (.bool b) { s with toks:=tk }) :
  wpAny (model X.prog X.w) A (call (.builtin "isinstance") [u,c]) Q E s:=by
 cases ty with
 | non=>cases (show u=Value.none from rx);exact PySem.W.kia_one PySem.W.kitx_none I.kIn True.intro e (fun z=>nomatch z) h
 | bl y=>cases (show u=Value.bool y from rx);exact PySem.W.kia_one PySem.W.kitx_bool I.kIn True.intro e (fun z=>nomatch z) h
 | int i=>obtain⟨t,q⟩:=(show ∃t,u=Value.int i t from rx);cases q;exact PySem.W.kia_one PySem.W.kitx_int I.kIn True.intro e (fun z=>nomatch z) h
 | str y=>obtain⟨t,q⟩:=(show ∃t,u=Value.str y t from rx);cases q;exact PySem.W.kia_one PySem.W.kitx_str I.kIn True.intro e (fun z=>nomatch z) h
 | flt y=>obtain⟨t,q⟩:=(show ∃t,u=Value.float y t from rx);cases q;exact PySem.W.kia_one PySem.W.kitx_float I.kIn True.intro e (fun z=>nomatch z) h
 | @lst a xs ea =>
   cases (show u=Value.ref a from rx)
   obtain⟨_,_,n,_,h1⟩:=(show ObjOk X.prog X.w H s.heap a (.lst xs) from I.hok a _ ea)
   exact PySem.W.kia_one PySem.W.kitx_list I.kIn ⟨_,h1,rfl⟩ e (fun z=>nomatch z) h
 | @frz a ob xs ea =>
   cases (show u=Value.ref a from rx)
   obtain⟨_,_,_,n,_,h1⟩:=(show ObjOk X.prog X.w H s.heap a (.frz ob (.lst xs)) from I.hok a _ ea)
   exact PySem.W.kia_one PySem.W.kitx_list I.kIn ⟨_,h1,rfl⟩ e (fun z=>nomatch z) h
 | @tup a xs ea =>
   cases (show u=Value.ref a from rx)
   obtain⟨_,_,_,p⟩:=(show ObjOk X.prog X.w H s.heap a (.tup xs) from I.hok a _ ea)
   obtain⟨o,h1,h2,_⟩:=p
   exact PySem.W.kia_one PySem.W.kitx_tuple I.kIn ⟨o,h1,h2⟩ e (fun z=>nomatch z) h
 | @dK a kvs ea =>
   cases (show u=Value.ref a from rx)
   obtain⟨_,_,vs,_,p⟩:=(show ObjOk X.prog X.w H s.heap a (.dK kvs) from I.hok a _ ea)
   obtain⟨o,es,ep,h1,h2,_⟩:=p
   exact PySem.W.kia_one PySem.W.kitx_dict I.kIn ⟨o,h1,h2.1⟩ e (fun z=>nomatch z) h
 | @dT a kvs ea =>
   cases (show u=Value.ref a from rx)
   obtain⟨_,_,xs,_,o,es,ep,h1,h2,_⟩:=(show ObjOk X.prog X.w H s.heap a (.dT kvs) from I.hok a _ ea)
   exact PySem.W.kia_one PySem.W.kitx_dict I.kIn ⟨o,h1,h2.1⟩ e (fun z=>nomatch z) h
 | @ins a C dx fs ea cl ha hn htk hm =>
   cases (show u=Value.ref a from rx)
   obtain⟨mA,O,_⟩:=znr I.hok ea
   obtain⟨od,J,_⟩:=O.look
   exact PySem.W.kia_one (PySem.W.kitx_own (cl.get _) cl.hd ha hn htk hm) I.kIn J e (fun z=>nomatch z) h
structure Room (k:Nat) (A:Around):Prop where
 hd:A.handled=none
 dp:A.depth+3*k+5<recursionLimit
 un:A.units+16*k+200<cLine
theorem Room.mono{j:Nat}(r:Room k A)(h:j<=k):Room j A:=⟨r.hd,by have:=r.dp;omega,by have:=r.un;omega⟩
theorem Room.deeper(r:Room (k+1) A)(env:Env):Room k (A.deeper env) :=
 ⟨r.hd,by have:=r.dp;show A.depth+1+3*k+5<_;omega,by have:=r.un;show A.units+3+16*k+200<_;omega⟩
theorem Room.in1(r:Room (k+1) A):Room k A.in1 :=
 ⟨r.hd,by have:=r.dp;show A.depth+3*k+5<_;omega,by have:=r.un;show A.units+1+16*k+200<_;omega⟩
theorem zsx:(A.under (.builtin "type.__call__" ⟨.ref C::us,kw⟩)).depth=A.depth+1:=by
 first | rfl | simp[Around.under,Code.weight,Code.isCreation,Code.isGuard,Code.isCaller,Code.frames,Code.isFrame,guardIds]
theorem zsy:(A.under (.builtin "type.__call__" ⟨.ref C::us,kw⟩)).units=A.units+1:=by
 first | rfl | simp[Around.under,Code.cUnits,Code.frames,Code.isFrame]
theorem Room.make(r:Room (k+1) A)(C:Addr)(us:List Value)(kw:List (Str×Value)):Room k (A.under (.builtin "type.__call__" ⟨.ref C::us,kw⟩)) :=
 ⟨r.hd,by have:=r.dp;rw[zsx];omega,by have:=r.un;rw[zsy];omega⟩
theorem Room.depth(r:Room k A):A.depth<recursionLimit:=by have:=r.dp;omega
theorem Room.units(r:Room k A):A.units+64<cLine:=by have:=r.un;omega
def tNil:TA:=fun _ H Q=>Q [] H
def z2w(ta:TE)(tr:TA):TA:=fun σ H Q=>ta σ H fun x H1=>tr σ H1 fun xs H2=>Q (x::xs) H2
theorem zje:PA X [] tNil:=fun _ _ _ _ H Q I h=>Calls.spliced_nil ⟨[],H,I,.nil,h⟩
theorem zed(ha:PE X e te)(hr:PA X es t)(hs:starEach (e::es) X.env=(false,eval e X.env)::starEach es X.env:=by rfl):PA X (e::es) (z2w te t):=by
 intro pos pins s σ H Q I h
 rw[hs]
 show wpAny _ _ (spliced ((false,eval e X.env)::backTo pos (starEach es X.env))) _ _ s
 refine Calls.spliced_cons (thn (ha pins s σ H _ I h) fun u s1 ⟨x,H1,I1,r1,q1⟩=>?_)
 exact thn (hr pos pins s1 σ H1 _ I1 q1) fun us s2 ⟨xs,H2,I2,r2,q2⟩=>⟨x::xs,H2,I2,.cons r1 r2,q2⟩
def tTup(t:TA):TE:=fun σ H Q=>t σ H fun xs H1=>xs.length<=sizeLine/\∀p,H1 p=none->Q (.ref p) (upd H1 p (.tup xs))
def tLst(t:TA):TE:=fun σ H Q=>t σ H fun xs H1=>xs.length<=sizeLine/\∀p,H1 p=none->Q (.ref p) (upd H1 p (.lst xs))
theorem z2x{x1}(h:PA X es t):PE X (.Tuple es x1 pos) (tTup t):=by
 intro pins s σ H Q I hq
 refine wpAny_Tuple_spliced (thn (h pos pins s σ H _ I hq) fun us s1 ⟨xs,H1,I1,r,z,q⟩=>⟨by rw[← r.length];exact z,?_⟩)
 have hf:H1 s1.heap.objs.size=none:=I1.hok.fresh (Nat.le_refl _)
 refine⟨.ref s1.heap.objs.size,upd H1 s1.heap.objs.size (.tup xs),I1.laid (t':=s1.toks) (fun b u e=>Heap.get?_push_of_some _ e) (Nat.le_refl _) ?_,rfl,q _ hf⟩
 exact⟨z,us,r,⟨_,Heap.get?_push_size _ rfl,rfl,_,rfl⟩⟩
theorem z2y(h:PA X es t):PE X (.List es pos) (tLst t):=by
 intro pins s σ H Q I hq
 refine wpAny_List_spliced (thn (h pos pins s σ H _ I hq) fun us s1 ⟨xs,H1,I1,r,z,q⟩=>⟨by rw[← r.length];exact z,?_⟩)
 have hf:H1 s1.heap.objs.size=none:=I1.hok.fresh (Nat.le_refl _)
 refine⟨.ref s1.heap.objs.size,upd H1 s1.heap.objs.size (.lst xs),I1.laid (t':=s1.toks) (fun b u e=>Heap.get?_push_of_some _ e) (Nat.le_refl _) ?_,rfl,q _ hf⟩
 exact⟨z,us,0,r,Heap.get?_push_size _ rfl⟩
abbrev Sp:=List V->Hp->VK->XK->Prop
abbrev CXT:=List Env->Hp->Shared->XK->Value->Shared->Prop
structure Env0 (P:Program) (w:World) (K:PySem.W.Frag) (mg:Str->Option Value) (base:Heap) (A:Around) (outer:List Env) (s:Shared) (H:Hp):Prop where
 frames:A.frames=some outer
 mod:Mod K mg base
 bs:∀b o,base.get? b=some o->s.heap.get? b=some o/\H b=none
 bsz:base.objs.size<=s.heap.objs.size
 funs:s.heap.FunFrames base outer
 frf:∀b∈frs outer,H b=none
 hok:HOk P w H s.heap
 bare:AllBare s.gens
def CE(outer:List Env)(P:Program)(w:World)(H:Hp)(s:Shared)(Q:VK)(u:Value)(s':Shared):Prop :=
 ∃v H',s'.os=s.os/\AllBare s'.gens/\Un (frs outer) [] H H' s.heap s'.heap/\HOk P w H' s'.heap/\RelV v u/\Q v H'
def CR(CX:CXT)(outer:List Env)(P:Program)(w:World)(H:Hp)(s:Shared)(Q:VK)(E:XK)(r:Result)(s':Shared):Prop :=
 match r with
 | .ok (.ret u)=>CE outer P w H s Q u s'
 | .ok _=>False
 | .error e=>CX outer H s E e s'
structure FnOk (P:Program) (w:World) (K:PySem.W.Frag) (mg:Str->Option Value) (base:Heap) (CX:CXT) (k:Nat) (f:Addr) (fd:FuncData) (ps:List Str) (sp:Sp):Prop where
 len:∀vs H Q E,sp vs H Q E->vs.length=ps.length
 run:∀(A:Around) (outer:List Env) (s:Shared) (H:Hp) (args:Args) (us:List Value) (vs:List V) (Q:VK) (E:XK),Room k A->Env0 P w K mg base A outer s H->BindsTo s fd args (ps.zip us)->Vals vs us->sp vs H Q E ->
  codeAny (model P w) A (.call (.ref f) args) (CR CX outer P w H s Q E) s
theorem FnOk.mono{P:Program}{w:World}{K:PySem.W.Frag}{mg:Str->Option Value}{base:Heap}{CX:CXT}{j k:Nat}{f:Addr}{fd:FuncData}{ps:List Str}{sp:Sp}(F:FnOk P w K mg base CX j f fd ps sp)(h:j<=k) :
  FnOk P w K mg base CX k f fd ps sp:=⟨F.len,fun A outer s H args us vs Q E hr=>F.run A outer s H args us vs Q E (hr.mono h)⟩
variable{f:Addr}{mg:Str->Option Value}{base:Heap}{CX:CXT}{fd:FuncData}{ps:List Str}{sp:Sp}
theorem FnOk.imp{sp':Sp}(F:FnOk P w K mg base CX k f fd ps sp)(h:∀vs H Q E,sp' vs H Q E->sp vs H Q E):FnOk P w K mg base CX k f fd ps sp' :=
 ⟨fun vs H Q E q=>F.len vs H Q E (h _ _ _ _ q),fun A outer s H args us vs Q E hr he hb hv hs=>F.run A outer s H args us vs Q E hr he hb hv (h _ _ _ _ hs)⟩
variable{outer:List Env}
theorem Env0.make(e:Env0 P w K mg base A outer s H)(C:Addr)(us:List Value)(kw:List (Str×Value)) :
  Env0 P w K mg base (A.under (.builtin "type.__call__" ⟨.ref C::us,kw⟩)) outer s H:=⟨by first | exact e.frames | (simpa[Around.under,Code.envs,Code.isFrame,pushEnvs] using e.frames),e.mod,e.bs,e.bsz,e.funs,e.frf,e.hok,e.bare⟩
theorem Env0.in1(e:Env0 P w K mg base A outer s H) :
  Env0 P w K mg base A.in1 outer s H:=⟨e.frames,e.mod,e.bs,e.bsz,e.funs,e.frf,e.hok,e.bare⟩
protected theorem Inv.env0(I:Inv X pins σ H s):Env0 X.prog X.w X.K X.mg X.base X.A X.stack s H :=
 ⟨I.ok.frames,I.ok.mod,I.bs,Nat.le_trans I.ok.bsz I.sz,I.stack,I.stkFree,I.hok,I.bare⟩
variable{Q:VK}
theorem Inv.after(I:Inv X pins σ H s)(h:CE X.stack X.prog X.w H s Q u s'):EP X pins σ Q u s':=by
 obtain⟨v,H',os,bare,un,hok,r,q⟩:=h
 obtain⟨hh,g,d,t,os'⟩:=s'
 obtain rfl:os'=s.os:=os
 exact⟨v,H',I.call (h':=hh) (g':=g) (d':=d) (t':=t) (ch:=[]) un hok bare (fun b z=>absurd z (by simp)),r,q⟩
def zuc(sp:Sp)(dvs:List V)(E:XK)(t:TA):TE:=fun σ H Q=>t σ H fun vs H1=>sp (vs++dvs) H1 Q E
def Binds(K:PySem.W.Frag)(fd:FuncData)(ps:List Str)(ds:List Value):Prop :=
 ∀(s:Shared) (us:List Value),K.In s.heap->(us++ds).length=ps.length->BindsTo s fd ⟨us,[]⟩ (ps.zip (us++ds))
theorem Binds.all(h:∀us:List Value,us.length=ps.length->bindArgs fd ⟨us,[]⟩=pure (ps.zip us)):Binds K fd ps []:=fun s us _ hl=>by
 rw[List.append_nil] at hl ⊢
 exact .of_eq (h us hl)
def zud(CX:CXT)(X:Cx)(E:XK):Prop:=∀(pins:List (Addr×Obj)) (σ:St) (H:Hp) (s:Shared) (e:Value) (s':Shared),Inv X pins σ H s->CX X.stack H s E e s'->X.xe e s'
variable{E:XK}{dvs:List V}{ds:List Value}
theorem z2z(F:FnOk X.prog X.w X.K X.mg X.base CX k f fd ps sp)(hr:Room k X.A)(hb:Binds X.K fd ps ds)(hd:Vals dvs ds)(hx:zud CX X E)(I:Inv X pins σ H s)(r:Vals vs us)(h:sp (vs++dvs) H Q E):wpAny (model X.prog X.w) X.A (call (.ref f) us) (EP X pins σ Q) X.xe s:=by
 have r2:Vals (vs++dvs) (us++ds):=r.append hd
 have hl:(us++ds).length=ps.length:=by rw[← r2.length];exact F.len _ _ _ _ h
 refine wpAny_call (codeAny_mono (F.run X.A X.stack s H ⟨us,[]⟩ (us++ds) (vs++dvs) Q E hr I.env0 (hb s us I.kIn hl) r2 h) fun r s' hq=>?_)
 cases r with
 | error e=>exact hx pins σ H s e s' I hq
 | ok fl =>
   cases fl with
   | ret u=>exact I.after hq
   | next=>exact False.elim hq
   | brk=>exact False.elim hq
   | cont=>exact False.elim hq
theorem zns(F:FnOk X.prog X.w X.K X.mg X.base CX k f fd ps sp)(hr:Room k X.A)(hg:Gl X x)(hm:X.mg x=some (.ref f))(hk:PySem.W.keepIn X.K (.ref f)=true)(hb:Binds X.K fd ps ds)(hd:Vals dvs ds)(hx:zud CX X E)(ha:PA X (e::es) t)(hdb:(x==("__debug__" : Str))=false:=by decide)(he:starEach (e::es) X.env=(false,eval e X.env)::starEach es X.env:=by rfl)(hpl:(backTo pos (starEach es X.env)).any (·.1)=false:=by rfl) :
  PE X (.Call (.Name x p) (e::es) [] pos) (zuc sp dvs E t):=by
 intro pins s σ H Q I h
 refine wpAny_Call_Name_kw (zl1 I hg hm ?_ hdb)
 refine PySem.W.callWith_K (h₀:=X.base) I.ok.mod.kin hk (thn (ha pos pins s σ H _ I h) fun us s1 ⟨vs,H1,I1,r,q⟩=>⟨I1.kIn,?_⟩) he hpl
 exact z2z F hr hb hd hx I1 r q
structure Mk (K:PySem.W.Frag) (C f:Addr):Prop where
 makes:PySem.W.makesIn K C=true
 init:PySem.W.findIn K (.ref C) "__init__" = some (some (.ref f))
 fn:PySem.W.isFn K (.ref f)=true
 kp:PySem.W.keepIn K (.ref C)=true
def PK(X:Cx)(kws:List Keyword)(t:TA):Prop :=
 ∀(pos:Pos) (pins:List (Addr×Obj)) (s:Shared) (σ:St) (H:Hp) (Q:List V->Hp->Prop),Inv X pins σ H s->t σ H Q->wpAny (model X.prog X.w) X.A (evalAll ((backToKw pos (keywordEach kws X.env)).map (·.2))) (AP X pins σ Q) X.xe s
section
variable {X:Cx} {CX:CXT} {k:Nat} {f C:Addr} {fd:FuncData} {ps ks:List Str} {sp:Sp} {E:XK} {x m:Str} {p pos apos kpos:Pos} {e o:Expr} {es:List Expr} {kws:List Keyword} {te ta:TE} {t tk:TA} {nm:Option Str}
theorem z20:PK X [] tNil:=fun _ _ _ _ H Q I h=>wpAny_evalAll_nil ⟨[],H,I,.nil,h⟩
theorem zz1(ha:PE X e te)(hr:PK X kws t):PK X (⟨nm,e,kpos⟩::kws) (z2w te t):=by
 intro pos pins s σ H Q I h
 show wpAny _ _ (evalAll ((do let v ← eval e X.env;standAt pos;pure v)::(backToKw pos (keywordEach kws X.env)).map (·.2))) _ _ s
 refine wpAny_evalAll_cons (wpAny_bind (thn (ha pins s σ H _ I h) fun u s1 ⟨x,H1,I1,r1,q1⟩=>wpAny_bind (wpAny_standAt (wpAny_pure ?_))))
 exact thn (hr pos pins s1 σ H1 _ I1 q1) fun us s2 ⟨xs,H2,I2,r2,q2⟩=>⟨x::xs,H2,I2,.cons r1 r2,q2⟩
structure z6e (K:PySem.W.Frag) (fd:FuncData) (ps ks:List Str) (g:List Value->List Value->List Value) (gV:List V->List V->List V):Prop where
 to:∀(s:Shared) (us ws:List Value),K.In s.heap->(g us ws).length=ps.length->BindsTo s fd ⟨us,ks.zip ws⟩ (ps.zip (g us ws))
 rel:∀ {vs:List V} {us:List Value} {zs:List V} {ws:List Value},Vals vs us->Vals zs ws->Vals (gV vs zs) (g us ws)
variable {g:List Value->List Value->List Value} {gV:List V->List V->List V}
end
structure zfu (N P:List Str) (sc:Scope):Prop where
 kind:sc.kind=.function
 co:sc.isCoroutine=false
 gen:sc.isGenerator=false
 nd:N.Nodup
 pre:N.take P.length=P
 par:∀x∈P,sc.names.lookup x=some .local\/sc.names.lookup x=some .cell
 nofree:∀y∈sc.names,y.2≠.free
theorem zo8{kindOf:Str->Option NameKind}{x:Str}:∀ {binds:List (Str×Value)} {m:Str->Option Value},(∀v,(x,v)∉binds)->bindL kindOf binds m x=m x
 | [],_,_=>rfl
 | (n,v)::r,m,h=>by
   unfold bindL
   rw[zo8 fun w hw=>h w (List.mem_cons_of_mem _ hw)]
   split
   ·have:x≠n:=by rintro rfl;exact h v List.mem_cons_self
    simp[this]
   ·rfl
theorem zo9{kindOf:Str->Option NameKind}{x:Str}:∀ {binds:List (Str×Value)} {m:Str->Option Value},(∀v,(x,v)∉binds)->bindC kindOf binds m x=m x
 | [],_,_=>rfl
 | (n,v)::r,m,h=>by
   unfold bindC
   rw[zo9 fun w hw=>h w (List.mem_cons_of_mem _ hw)]
   split
   ·rfl
   ·have:x≠n:=by rintro rfl;exact h v List.mem_cons_self
    simp[this]
theorem zpa{kindOf:Str->Option NameKind}{x:Str}{v:Value}:∀ {P:List Str} {vs:List Value} {i:Nat} {m:Str->Option Value},P.Nodup->P[i]?=some x->vs[i]?=some v->kindOf x=some .local ->
  bindL kindOf (P.zip vs) m x=some v
 | [],_,_,_,_,h,_,_=>by simp at h
 | _::_,[],_,_,_,_,h,_=>by simp at h
 | p::P,w::vs,0,m,nd,h1,h2,hk=>by
   simp at h1 h2;subst h1;subst h2
   show bindL kindOf ((p,w)::P.zip vs) m p=_
   unfold bindL
   rw[zo8 fun v hv=>(List.nodup_cons.mp nd).1 (List.of_mem_zip hv).1,if_pos hk]
   simp
 | p::P,w::vs,i+1,m,nd,h1,h2,hk=>by
   show bindL kindOf ((p,w)::P.zip vs) m x=_
   unfold bindL
   exact zpa (i:=i) (List.nodup_cons.mp nd).2 (by simpa using h1) (by simpa using h2) hk
theorem zpb{kindOf:Str->Option NameKind}{x:Str}{v:Value}:∀ {P:List Str} {vs:List Value} {i:Nat} {m:Str->Option Value},P.Nodup->P[i]?=some x->vs[i]?=some v->kindOf x≠some .local ->
  bindC kindOf (P.zip vs) m x=some v
 | [],_,_,_,_,h,_,_=>by simp at h
 | _::_,[],_,_,_,_,h,_=>by simp at h
 | p::P,w::vs,0,m,nd,h1,h2,hk=>by
   simp at h1 h2;subst h1;subst h2
   show bindC kindOf ((p,w)::P.zip vs) m p=_
   unfold bindC
   rw[zo9 fun v hv=>(List.nodup_cons.mp nd).1 (List.of_mem_zip hv).1,if_neg hk]
   simp
 | p::P,w::vs,i+1,m,nd,h1,h2,hk=>by
   show bindC kindOf ((p,w)::P.zip vs) m x=_
   unfold bindC
   exact zpb (i:=i) (List.nodup_cons.mp nd).2 (by simpa using h1) (by simpa using h2) hk
def start(N:List Str)(vs:List V):St:=vs.map some++List.replicate (N.length-vs.length) none
def cxOf(CX:CXT)(P:Program)(w:World)(K:PySem.W.Frag)(mg:Str->Option Value)(base:Heap)(N:List Str)(qual:Str)(scope:Scope)(f:Addr)(cd:Value)(A:Around)(outer:List Env)(s:Shared)(H:Hp)(E:XK):Cx where
 prog:=P
 w:=w
 K:=K
 mg:=mg
 base:=base
 A:=A.deeper (envOfC qual scope s.heap.objs.size f cd)
 N:=N
 s₀:=s
 H₀:=H
 env:=envOfC qual scope s.heap.objs.size f cd
 outer:=outer
 stack:=envOfC qual scope s.heap.objs.size f cd::outer
 ex:=[]
 calm:=true
 fn:=fun _=>true
 pn:=[]
 xe:=fun e s'=>wpAny (model P w) (A.deeper (envOfC qual scope s.heap.objs.size f cd)) (leaving (envOfC qual scope s.heap.objs.size f cd) e) (fun _ s''=>CX outer H s E e s'') (fun e' s''=>CX outer H s E e' s'') s'
theorem zrg{sc:Scope}(h:sc.names.lookup x=some .cell):∃c,(cellsFrom n sc.names []).lookup x=some c:=by
 have q:=PySem.W.cellsFrom_some sc.names n [] (.inl h)
 exact Option.isSome_iff_exists.mp q
variable{qual:Str}{scope:Scope}
theorem zue{cd:Value}{s1:Shared}(S:zfu N ps scope)(hd:A.handled=none)(e0:Env0 P w K mg base A outer s H)(hl:vs.length=ps.length)(r:Vals vs us)(x:InCallC s s.heap.objs.size (bindL (envOfC qual scope s.heap.objs.size f cd).kindOf (ps.zip us) fun _=>none) (cellsFrom (s.heap.objs.size+1) scope.names []) (bindC (envOfC qual scope s.heap.objs.size f cd).kindOf (ps.zip us) fun _=>none) s1) :
  Inv (cxOf CX P w K mg base N qual scope f cd A outer s H E) [] (start N vs) H s1:=by
 have hpl:ps.length<=N.length:=by have:=congrArg List.length S.pre;rw[List.length_take] at this;omega
 obtain⟨h1,tk,rfl,hk⟩:=x.done
 have noA:∀b:Addr,b∉(cxOf CX P w K mg base N qual scope f cd A outer s H E).ex:=fun b z=>absurd (show b∈([]:List Addr) from z) (by simp)
 refine⟨⟨e0.mod,S.kind,rfl,rfl,Nat.le_refl _,fun y z c h1 h2=>?_,fun y hy=>?_,fun y c _ h=>?_,fun _=>hd,Around.frames_deeper e0.frames,.inr ⟨rfl,rfl⟩,fun b z=>absurd z (noA b),e0.bs,e0.bsz,fun b _ _=>noA b,fun b z=>absurd z (noA b),e0.funs,e0.frf⟩,
  rfl,e0.bare,Un.kept hk,⟨_,x.toInCall.ns,fun i y v h1 h2 h3=>?_⟩,fun y c h=>⟨_,x.cell y c h⟩,e0.hok.fresh (Nat.le_refl _),fun y c h=>?_,fun p hp=>absurd (show p∈([]:List (Addr×Obj)) from hp) (by simp),e0.hok.kept hk,?_⟩
 ·exact name_of_addr x.apart (PySem.mem_of_lookup h1) (PySem.mem_of_lookup h2)
 ·have hy:scope.names.lookup y=some .cell\/scope.names.lookup y=some .free:=hy
  rcases hy with hy | hy
  ·exact zrg hy
  ·exact absurd rfl (S.nofree _ (PySem.mem_of_lookup hy))
 ·exact Nat.le_of_lt (x.above y c (PySem.mem_of_lookup h))
 ·have hi:i<vs.length:=by
   unfold start at h2
   by_cases hi:i<vs.length
   ·exact hi
   ·rw[List.getElem?_append_right (by simpa using hi)] at h2
    rw[List.getElem?_replicate] at h2
    split at h2 <;> cases h2
  have ha:vs[i]?=some v:=by
   unfold start at h2
   rw[List.getElem?_append_left (by simpa using hi),List.getElem?_map] at h2
   cases e:vs[i]? with
   | none=>rw[e] at h2;cases h2
   | some a=>rw[e] at h2;cases h2;rfl
  obtain⟨u,hu,rv⟩:=r.get ha
  have hp:ps[i]?=some y:=by
   rw[← S.pre,List.getElem?_take_of_lt (by omega)];exact h1
  have ndP:ps.Nodup:=by rw[← S.pre];exact S.nd.sublist (List.take_sublist _ _)
  refine⟨u,rv,?_⟩
  rcases S.par y (List.mem_of_getElem? hp) with k | k
  ·exact .inl ⟨k,zpa ndP hp hu k⟩
  ·obtain⟨c,e⟩:=zrg (n:=s.heap.objs.size+1) k
   refine .inr ⟨.inl k,c,e,?_⟩
   have q:=x.cell y c e
   rw[zpb ndP hp hu (by show scope.names.lookup y≠_;rw[k];decide)] at q
   exact q
 ·exact e0.hok.fresh (Nat.le_of_lt (x.above y c (PySem.mem_of_lookup h)))
 ·unfold start
  show _=N.length
  rw[List.length_append,List.length_map,List.length_replicate]
  omega
theorem z21{params:Arguments}{dV kV doc pm cdv ct oc:Value}{an od:Option Addr}{osl:Array (Option Value)}(lk:K.lookup f=some ⟨oc,od,.func (PySem.W.fnOf name qual params body scope dV kV doc pm an cdv ct),osl⟩)(hcd:PySem.W.codeIn K cdv qual=true)(S:zfu N ps scope)(len:∀vs H Q E,sp vs H Q E->vs.length=ps.length)(hbody:∀(A:Around) (outer:List Env) (s:Shared) (H:Hp) (vs:List V) (Q:VK) (E:XK),Room k (A.deeper (envOfC qual scope s.heap.objs.size f cdv))->sp vs H Q E ->
   ∃t,PSs (cxOf CX P w K mg base N qual scope f cdv A outer s H E) body t/\t { nx:=fun _ H'=>Q .non H',rt:=Q } (start N vs) H) :
  FnOk P w K mg base CX (k+1) f (PySem.W.fnOf name qual params body scope dV kV doc pm an cdv ct) ps sp:=by
 refine⟨len,fun A outer s H args us vs Q E hr e0 hb r hsp=>?_⟩
 have hl:=len _ _ _ _ hsp
 have KX:K.In s.heap:=e0.mod.kin.keeps fun b o e=>(e0.bs b o e).1
 have lim:s.heap.NoLimit:=e0.mod.nolimit.keeps fun b o e=>(e0.bs b o e).1
 have hkind:∀y∈ps.zip us,scope.names.lookup y.1=some .local\/(scope.names.lookup y.1=some .cell/\((cellsFrom (s.heap.objs.size+1) scope.names []).lookup y.1).isSome=true):=fun⟨n,v⟩ hy=>by
  rcases S.par n (List.of_mem_zip hy).1 with q | q
  ·exact .inl q
  ·exact .inr ⟨q,PySem.W.cellsFrom_some _ _ _ (.inl q)⟩
 refine codeAny_call_function hr.depth (KX _ _ lk) rfl S.co S.gen rfl (PySem.W.codeRec_of KX hcd) (hb _ _ _ _ ?_)
 refine wpAny_newFunctionEnv_cells S.kind hkind fun env he s1 x=>?_
 subst he
 refine⟨lim.keeps x.toInCall.keep,codeAny_func ?_⟩
 obtain⟨t,ht,hq⟩:=hbody A outer s H vs Q E (hr.deeper _) hsp
 have I:Inv (cxOf CX P w K mg base N qual scope f cdv A outer s H E) [] (start N vs) H s1:=zue S hr.hd e0 hl r x
 refine wpAny_mono (ht [] s1 (start N vs) H _ I hq) (fun fl s' hs=>?_) fun e s' hs=>hs
 have fin:∀ {σ':St} {H':Hp} {v:V} {u:Value},Inv (cxOf CX P w K mg base N qual scope f cdv A outer s H E) [] σ' H' s'->RelV v u->Q v H'->CE outer P w H s Q u s' :=
  fun {σ' H' v u} J rv q=>⟨v,H',J.os,J.bare,J.base,J.hok,rv,q⟩
 cases fl with
 | ret u =>
   obtain⟨v,σ',H',J,rv,q⟩:=hs
   exact fin J rv q
 | next =>
   obtain⟨σ',H',J,q⟩:=hs
   exact fin (v:=V.non) (u:=Value.none) J rfl q
 | brk =>
   obtain⟨_,_,_,q⟩:=hs
   exact False.elim q
 | cont =>
   obtain⟨_,_,_,q⟩:=hs
   exact False.elim q
def tCB(r:List V->Hp->VK->Prop)(t:TA):TE:=fun σ H Q=>t σ H fun vs H1=>r vs H1 Q
variable{r:List V->Hp->VK->Prop}{id:String}
theorem zlt(hc:CallR X (.builtin id) r)(hg:Gl X x)(hm:X.mg x=none)(hv:bootBuiltins x=some (.builtin id))(ha:PA X (e::es) t)(hn:x ≠ "__name__":=by decide)(hdb:(x==("__debug__" : Str))=false:=by decide)(he:starEach (e::es) X.env=(false,eval e X.env)::starEach es X.env:=by rfl)(hpl:(backTo pos (starEach es X.env)).any (·.1)=false:=by rfl):PE X (.Call (.Name x p) (e::es) [] pos) (tCB r t):=by
 intro pins s σ H Q I h
 refine wpAny_Call_Name_kw (zl2 I hg hm hv ?_ hn hdb)
 exact PyProof.Rows.callWith_builtin1 (thn (ha pos pins s σ H _ I h) fun us s1 ⟨vs,H1,I1,r1,q1⟩=>hc pins s1 σ H1 vs us Q I1 r1 q1) he hpl
variable{T:String}
theorem zpc(hc:CallR X (.type T) r)(hg:Gl X x)(hm:X.mg x=none)(hv:bootBuiltins x=some (.type T))(ha:PA X (e::es) t)(hn:x ≠ "__name__":=by decide)(hdb:(x==("__debug__" : Str))=false:=by decide)(he:starEach (e::es) X.env=(false,eval e X.env)::starEach es X.env:=by rfl)(hpl:(backTo pos (starEach es X.env)).any (·.1)=false:=by rfl):PE X (.Call (.Name x p) (e::es) [] pos) (tCB r t):=by
 intro pins s σ H Q I h
 refine wpAny_Call_Name_kw (zl2 I hg hm hv ?_ hn hdb)
 exact PyProof.Rows.callWith_type1 (thn (ha pos pins s σ H _ I h) fun us s1 ⟨vs,H1,I1,r1,q1⟩=>hc pins s1 σ H1 vs us Q I1 r1 q1) he hpl
end L2
namespace HT
open PySem PyProof.Rows
section
open PySem.SeqAt
open PySem.AutoSeq1 (wpAny_loadPart')
open PySem.MeetsSeq PySem.MeetsSeq2 PySem.MeetsSeq3
end
variable{t:Addr}{Q E:Value->Shared->Prop}{prog:Program}{w:World}{A:Around}{s:Shared}
theorem cat_tup{b:Addr}{vs ws:List Value}(ht:IsTup s.heap t vs.toArray)(hb:IsTup s.heap b ws.toArray)(hv:vs≠[])(h1:ws=[]->Q (.ref t) s)(h2:ws≠[]->Q (.ref s.heap.objs.size) { s with heap:=s.heap.push { cls:=.type "tuple",data:=.seq (vs++ws).toArray } })(hsz:vs.length+ws.length<=sizeLine):wpAny (model prog w) A (binaryOp .Add (.ref t) (.ref b)) Q E s:=by
 obtain⟨⟨cls,dd,data,sl⟩,ho,hc,n,hd⟩:=id ht
 obtain⟨⟨cls2,dd2,data2,sl2⟩,ho2,hc2,n2,hd2⟩:=id hb
 simp only at hc hd hc2 hd2
 subst hc hd hc2 hd2
 have e:vs.toArray++ws.toArray=(vs++ws).toArray:=by simp
 by_cases hw:ws=[]
 ·exact concat_meets ⟨_,ho,rfl⟩ ⟨_,ho2,rfl⟩ noFill_tuple_add seq_tuple_add PySem.F.slot_tuple_add PySem.F.entry_tuple_add (PySem.F.args_tuple_add_2 _ _)
   (tuple_addW1 t b vs.toArray ws.toArray n n2 dd dd2 sl sl2 (by simpa using hv) (by simp[hw])) ⟨ho,ho2,h1 hw⟩
 ·refine concat_meets ⟨_,ho,rfl⟩ ⟨_,ho2,rfl⟩ noFill_tuple_add seq_tuple_add PySem.F.slot_tuple_add PySem.F.entry_tuple_add (PySem.F.args_tuple_add_2 _ _)
   (tuple_addW2 t b vs.toArray ws.toArray n n2 dd dd2 sl sl2 (by simpa using hv) (by simpa using hw) (by rw[List.size_toArray,List.size_toArray];exact hsz)) ⟨ho,ho2,?_⟩
  rw[e]
  exact h2 hw
def sIx(n d:Nat):Option Int->Nat
 | none=>d
 | some v=>if v<0 then(v+(n:Int)).toNat else min v.toNat n
theorem sIx_none(n d:Nat):sIx n d none=d:=rfl
theorem sIx_nat(n d k:Nat):sIx n d (some (k:Int))=min k n:=by
 show(if (k:Int)<0 then((k:Int)+(n:Int)).toNat else min (k:Int).toNat n)=min k n
 rw[if_neg (by omega),Int.toNat_natCast]
theorem z22(n d:Nat)(hd:d<=n)(o:Option Int):sIx n d o<=n:=by
 cases o with
 | none=>exact hd
 | some v =>
   show(if v<0 then(v+(n:Int)).toNat else min v.toNat n)<=n
   by_cases hv:v<0
   ·rw[if_pos hv];omega
   ·rw[if_neg hv];exact Nat.min_le_right _ _
theorem zuf(v:Int)(n d:Nat):(if v<0 then max (v+(n:Int)) 0 else min v (n:Int))=((sIx n d (some v):Nat):Int):=by
 show(if v<0 then max (v+(n:Int)) 0 else min v (n:Int))=(((if v<0 then(v+(n:Int)).toNat else min v.toNat n):Nat):Int)
 by_cases hv:v<0
 ·simp only[if_pos hv];omega
 ·simp only[if_neg hv];omega
theorem zsz(lo hi:Option Int)(n:Nat):Builtin.Slice.sliceAdjust lo hi 1 (n:Int)=(((sIx n 0 lo:Nat):Int),((sIx n n hi:Nat):Int)):=by
 have h1:¬((1:Int)<0):=by omega
 unfold Builtin.Slice.sliceAdjust
 simp only[h1,if_false]
 refine Prod.ext ?_ ?_
 ·cases lo with
  | none=>rfl
  | some v=>exact zuf v n 0
 ·cases hi with
  | none=>rfl
  | some v=>exact zuf v n n
theorem zs0(i j:Nat):Builtin.Slice.slicePlaces (i:Int) (j:Int) 1=j-i:=by
 unfold Builtin.Slice.slicePlaces
 have h1:(1:Int) > 0:=by omega
 simp only[h1,if_true,Int.ediv_one]
 split <;> omega
theorem znd{v:Value}{o:Option Int}{Q:Option Int->Shared->Prop}(p:IsPart v o)(h:Q o s):wpAny (model prog w) A (Builtin.Slice.slicePartIndex v) Q E s:=by
 cases p with
 | none=>exact slicePart_none h
 | int i t=>exact slicePart_int h
variable{sl:Addr}{vl vu:Value}{lo hi:Option Int}
theorem zlm{n:Nat}{Q:Int×Int×Nat->Shared->Prop}(hs:s.heap.IsSliceOf sl vl vu .none)(pl:IsPart vl lo)(pu:IsPart vu hi)(h:Q (((sIx n 0 lo:Nat):Int),1,sIx n n hi-sIx n 0 lo) s):wpAny (model prog w) A (Builtin.Slice.sliceApplied (.ref sl) (pure (n:Int))) Q E s:=by
 obtain⟨os,hos,hcs,hds⟩:=id hs
 unfold Builtin.Slice.sliceApplied Builtin.Slice.sliceFields
 refine wpAny_bind (wpAny_bind (wpAny_field hos hds (x:=vl) rfl (wpAny_bind (wpAny_field hos hds (x:=vu) rfl (wpAny_bind (wpAny_field hos hds (x:=.none) rfl (wpAny_pure ?_)))))))
 refine wpAny_bind (slicePart_none ?_)
 show wpAny _ _ (if ((1:Int)==0)=true then _ else _) _ _ s
 rw[if_neg (by decide)]
 refine wpAny_bind (znd pl (wpAny_bind (znd pu (wpAny_bind (wpAny_pure ?_)))))
 show wpAny _ _ (match Builtin.Slice.sliceAdjust lo hi 1 (n:Int) with | (lo,hi)=>pure (lo,(1:Int),Builtin.Slice.slicePlaces lo hi 1)) _ _ s
 rw[zsz lo hi n]
 show wpAny _ _ (pure (((sIx n 0 lo:Nat):Int),(1:Int),Builtin.Slice.slicePlaces ((sIx n 0 lo:Nat):Int) ((sIx n n hi:Nat):Int) 1)) _ _ s
 rw[zs0]
 exact wpAny_pure h
theorem zwp(xs:Array Value)(i k:Nat):((List.range k).filterMap fun(m:Nat)=>xs[((i:Int)+(m:Int)*1).toNat]?).toArray=((xs.toList.drop i).take k).toArray:=by
 have e:(fun(m:Nat)=>xs[((i:Int)+(m:Int)*1).toNat]?)=fun m=>xs[i+m]?:=by
  funext m
  have:((i:Int)+(m:Int)*1).toNat=i+m:=by omega
  rw[this]
 rw[e]
 have:=pick_run xs i k
 rw[List.filterMap_map] at this
 have e2:((fun x=>xs[x]?) ∘ fun x=>i+x)=fun m=>xs[i+m]?:=rfl
 rw[e2] at this
 rw[this]
theorem getItem_tuple_cut{items:Array Value}(ht:IsTup s.heap t items)(hs:s.heap.IsSliceOf sl vl vu .none)(pl:IsPart vl lo)(pu:IsPart vu hi)(hw:¬(sIx items.size 0 lo=0/\sIx items.size items.size hi=items.size))(h:Q (.ref s.heap.objs.size) { s with heap:=s.heap.push { cls:=.type "tuple",data:=.seq ((items.toList.drop (sIx items.size 0 lo)).take (sIx items.size items.size hi-sIx items.size 0 lo)).toArray } })(hsz:items.size<=sizeLine):wpAny (model prog w) A (getItem (.ref t) (.ref sl)) Q E s:=by
 have htake:sizeOk (.seq ((items.toList.drop (sIx items.size 0 lo)).take (sIx items.size items.size hi-sIx items.size 0 lo)).toArray):=by
  show((items.toList.drop (sIx items.size 0 lo)).take (sIx items.size items.size hi-sIx items.size 0 lo)).toArray.size<=sizeLine
  rw[List.size_toArray,List.length_take,List.length_drop,Array.length_toList]
  omega
 have hj:sIx items.size items.size hi<=items.size:=z22 _ _ (Nat.le_refl _) hi
 obtain⟨os,hos,hcs,hds⟩:=id hs
 have hTs:s.TypeIs (.ref sl) "slice":=⟨os,hos,hcs⟩
 unfold getItem
 try with_reducible refine wpAny_holding ?_
 first | refine wpAny_bind (wpAny_pure ?_) | skip
 refine wpAny_bind (wpAny_sequenceKey ht.typeIs (by decide) ?_)
 refine wpAny_bind (wpAny_callSpecial?_slot (name:=Str.ofString "__getitem__") ht.typeIs PyProof.Rows.slot_tuple_getitem
  (wpAny_call_entry PyProof.Rows.slot_tuple_getitem ht.typeIs entry_tuple_getitem ?_ (args_tuple_getitem _ _)))
 show wpAny _ _ (Builtin.Tuple.tupleItemsOf (.ref t) >>= _) _ _ s
 refine wpAny_bind (tupleItemsOf_ ht ?_)
 refine wpAny_bind (wpAny_typeOf hTs ?_)
 rw[if_pos (by decide)]
 refine wpAny_bind (zlm hs pl pu ?_)
 have hno:¬((((sIx items.size 0 lo:Nat):Int)==0 && (1:Int)==1 && (sIx items.size items.size hi-sIx items.size 0 lo)==items.size)=true):=by
  intro q
  rw[Bool.and_eq_true,Bool.and_eq_true] at q
  have q1:((sIx items.size 0 lo:Nat):Int)=0:=eq_of_beq q.1.1
  have q2:sIx items.size items.size hi-sIx items.size 0 lo=items.size:=eq_of_beq q.2
  exact hw ⟨by omega,by omega⟩
 show wpAny _ _ (if (((sIx items.size 0 lo:Nat):Int)==0 && (1:Int)==1 && (sIx items.size items.size hi-sIx items.size 0 lo)==items.size)=true then _ else _) _ _ s
 rw[if_neg hno,zwp]
 first
  | exact wpAny_bind (m:=Builtin.Tuple.tupleExact _) (wpAny_newObj_type (wpAny_pure ⟨_,rfl,wpAny_pure h⟩) htake)
  | exact wpAny_bind (m:=Builtin.Tuple.tupleExact _) (wpAny_newObj_type (wpAny_bind (wpAny_pure (wpAny_pure ⟨_,rfl,wpAny_pure h⟩))) htake)
  | exact wpAny_bind (wpAny_bind (m:=Builtin.Tuple.tupleExact _) (wpAny_newObj_type (wpAny_pure (wpAny_pure ⟨_,rfl,wpAny_pure h⟩)) htake))
  | exact wpAny_bind (wpAny_bind (m:=Builtin.Tuple.tupleExact _) (wpAny_newObj_type (wpAny_pure ⟨_,rfl,wpAny_pure h⟩) htake))
end HT
namespace L2
open PySem PySem.Spec PyProof.Rows
abbrev TO:=St->Hp->(Option Int->Hp->Prop)->Prop
def PO(X:Cx)(e:Option Expr)(t:TO):Prop :=
 ∀(pins:List (Addr×Obj)) (s:Shared) (σ:St) (H:Hp) (Q:Option Int->Hp->Prop),Inv X pins σ H s->t σ H Q ->
  wpAny (model X.prog X.w) X.A (evalPart e X.env) (fun u s'=>∃o H',Inv X pins σ H' s'/\IsPart u o/\Q o H') X.xe s
def zz2:TO:=fun _ H Q=>Q none H
def z5f(t:TE):TO:=fun σ H Q=>t σ H fun x H1=>∃i,x=.int i/\Q (some i) H1
theorem zs1{ns:List Int}:∀ {us:List Value},Vals (ns.map V.int) us->IntsAre us ns:=by
 induction ns with
 | nil=>intro us r;rw[List.map_nil] at r;cases r;exact .nil
 | cons n ns ih =>
   intro us r
   rw[List.map_cons] at r
   cases r with
   | cons r1 r2 =>
     obtain⟨t,e⟩:=r1
     subst e
     exact .cons n t (ih r2)
variable{X:Cx}
theorem zz3:PO X none zz2:=by
 intro pins s σ H Q I h
 rw[evalPart_none]
 exact wpAny_pure ⟨none,H,I,.none,h⟩
variable{e:Expr}{te:TE}
theorem zz4(h:PE X e te):PO X (some e) (z5f te):=by
 intro pins s σ H Q I hw
 rw[evalPart_some]
 refine thn (h pins s σ H _ I hw) fun u s1 ⟨x,H1,I1,r1,q1⟩=>?_
 obtain⟨i,rfl,q⟩:=q1
 obtain⟨t,rfl⟩:=r1
 exact⟨some i,H1,I1,.int i t,q⟩
variable{lo hi:Option Expr}
def SlR(X:Cx)(r:V->Option Int->Option Int->Hp->VK->Prop):Prop :=
 ∀(pins:List (Addr×Obj)) (s:Shared) (σ:St) (H:Hp) (x:V) (v vl vu:Value) (lo hi:Option Int) (sl:Addr) (Q:VK),Inv X pins σ H s->RelV x v->s.heap.IsSliceOf sl vl vu .none->IsPart vl lo->IsPart vu hi->r x lo hi H Q ->
  ∃T id,typeLookup (.type T) "__getitem__" = pure (some (.builtin id))/\s.TypeIs v T/\wpAny (model X.prog X.w) X.A (getItem v (.ref sl)) (EP X pins σ Q) X.xe s
variable{r:V->Option Int->Option Int->Hp->VK->Prop}
theorem SlR.or{r':V->Option Int->Option Int->Hp->VK->Prop}(h:SlR X r)(h':SlR X r'):SlR X (fun x lo hi H Q=>r x lo hi H Q\/r' x lo hi H Q):=by
 intro pins s σ H x v vl vu lo hi sl Q I rx hs pl pu q
 rcases q with q | q
 ·exact h pins s σ H x v vl vu lo hi sl Q I rx hs pl pu q
 ·exact h' pins s σ H x v vl vu lo hi sl Q I rx hs pl pu q
def tSl(r:V->Option Int->Option Int->Hp->VK->Prop)(te:TE)(tl th:TO):TE:=fun σ H Q=>te σ H fun x H1=>tl σ H1 fun l H2=>th σ H2 fun u H3=>r x l u H3 Q
variable{tl th:TO}{pos p2:Pos}
theorem zrh(hr:SlR X r)(he:PE X e te)(hl:PO X lo tl)(hu:PO X hi th):PE X (.Subscript e (.Slice lo hi none p2) pos) (tSl r te tl th):=by
 intro pins s σ H Q I h
 refine Subscript_ (thn (he pins s σ H _ I h) fun v s1 ⟨x,H1,I1,r1,q1⟩=>?_)
 refine wpAny_Slice (thn (hl pins s1 σ H1 _ I1 q1) fun vl s2 ⟨l,H2,I2,pl,q2⟩=>thn (hu pins s2 σ H2 _ I2 q2) fun vu s3 ⟨u,H3,I3,pu,q3⟩=>?_)
 rw[evalPart_none]
 refine wpAny_pure ?_
 have I4:Inv X pins σ H3 { s3 with heap:=s3.heap.push { cls:=.type "slice",data:=.fields #[vl,vu,.none] } }:=I3.kept (t':=s3.toks) fun b ob q=>Heap.get?_push_of_some _ q
 obtain⟨T,id,hT,ht,hg⟩:=hr pins { s3 with heap:=s3.heap.push { cls:=.type "slice",data:=.fields #[vl,vu,.none] } } σ H3 x v vl vu l u s3.heap.objs.size Q I4 r1 (Heap.IsSliceOf.new ..) pl pu q3
 show wpAny (model X.prog X.w) X.A (subscriptTail e (.Slice lo hi none p2) v (.ref s3.heap.objs.size)) (EP X pins σ Q) X.xe { s3 with heap:=s3.heap.push { cls:=.type "slice",data:=.fields #[vl,vu,.none] } }
 exact tail_any (ops:=[.ref s3.heap.objs.size,v]) ht hT hg (by with_unfolding_all rfl)
def cutV(xs:List V)(lo hi:Option Int):List V:=(xs.drop (HT.sIx xs.length 0 lo)).take (HT.sIx xs.length xs.length hi-HT.sIx xs.length 0 lo)
theorem zl6(xs:List V)(lo hi:Option Int):(cutV xs lo hi).length<=xs.length:=by
 unfold cutV
 rw[List.length_take,List.length_drop]
 omega
def rSlT(K:PySem.W.Frag):V->Option Int->Option Int->Hp->VK->Prop:=fun x lo hi H Q=>∃a xs,x=.ref a/\SqT K H a xs /\
 ¬(HT.sIx xs.length 0 lo=0/\HT.sIx xs.length xs.length hi=xs.length)/\∀p,H p=none->Q (.ref p) (upd H p (.tup (cutV xs lo hi)))
theorem z23:SlR X (rSlT X.K):=by
 intro pins s σ H x v vl vu lo hi sl Q I rx hs pl pu h
 obtain⟨a,xs,rfl,hx,hw,q⟩:=h
 cases rx
 obtain⟨its,r,ht,hz⟩:=I.tuple hx
 have hlen:its.toArray.size=xs.length:=by rw[List.size_toArray];exact r.length.symm
 refine⟨"tuple",_,PyProof.Rows.slot_tuple_getitem.lookup,ht.typeIs,?_⟩
 refine HT.getItem_tuple_cut ht hs pl pu (by rw[hlen];exact hw) ?_ (by rw[hlen];exact hz)
 rw[hlen]
 refine⟨.ref s.heap.objs.size,_,I.laid (t':=s.toks) (o:=.tup (cutV xs lo hi)) (fun b ob q=>Heap.get?_push_of_some _ q) (Nat.le_refl _) ?_,rfl,q _ (I.hok.fresh (Nat.le_refl _))⟩
 exact⟨Nat.le_trans (zl6 xs lo hi) hz,_,(r.drop (HT.sIx xs.length 0 lo)).take (HT.sIx xs.length xs.length hi-HT.sIx xs.length 0 lo),IsTup.new _ _⟩
def z24(K:PySem.W.Frag):R2:=fun x y H Q=>∃a b xs ys,x=.ref a/\y=.ref b/\SqT K H a xs/\SqT K H b ys/\xs≠[]/\xs.length+ys.length<=sizeLine /\
 (ys=[]->Q (.ref a) H)/\(ys≠[]->∀p,H p=none->Q (.ref p) (upd H p (.tup (xs++ys))))
variable{xs:List V}{us:List Value}
theorem Vals.nil_iff(r:Vals xs us):us=[]↔xs=[]:=by
 cases r with
 | nil=>simp
 | cons _ _=>simp
theorem zz5:OpR X (binaryOp .Add) (z24 X.K):=by
 intro pins s σ H x y v u Q I rx ry h
 obtain⟨a,b,xs,ys,rfl,rfl,ha,hb,hx,hz,q1,q2⟩:=h
 cases rx
 cases ry
 obtain⟨its,r1,p1,_⟩:=I.tuple ha
 obtain⟨its2,r2,p2,_⟩:=I.tuple hb
 refine HT.cat_tup p1 p2 (fun z=>hx (r1.nil_iff.mp z)) (fun z=>⟨.ref a,H,I,rfl,q1 (r2.nil_iff.mp z)⟩) (fun z=>?_) (by rw[← r1.length,← r2.length];exact hz)
 refine⟨.ref s.heap.objs.size,_,I.laid (t':=s.toks) (o:=.tup (xs++ys)) (fun b ob q=>Heap.get?_push_of_some _ q) (Nat.le_refl _) ?_,rfl,q2 (fun w=>z (r2.nil_iff.mpr w)) _ (I.hok.fresh (Nat.le_refl _))⟩
 exact⟨by rw[List.length_append];exact hz,_,r1.append r2,IsTup.new _ _⟩
def ixN(n:Nat)(i:Int):Option Nat:=if 0<=i then(if i<n then some i.toNat else none) else if -(n:Int)<=i then some (i+n).toNat else none
variable{α:Type}
def atI(xs:List α)(i:Int):Option α:=(ixN xs.length i).bind fun j=>xs[j]?
variable{n:Nat}{i:Int}
theorem znt{j:Nat}(h:ixN n i=some j):seqIndex? i n=some j/\j<n/\-(n:Int)<=i/\i<n:=by
 unfold ixN at h
 by_cases h0:0<=i
 ·rw[if_pos h0] at h
  by_cases h1:i<n
  ·rw[if_pos h1] at h
   have e:i.toNat=j:=Option.some.inj h
   exact⟨by rw[seqIndex_of h0 h1,e],by omega,by omega,h1⟩
  ·rw[if_neg h1] at h;cases h
 ·rw[if_neg h0] at h
  by_cases h1:-(n:Int)<=i
  ·rw[if_pos h1] at h
   have e:(i+n).toNat=j:=Option.some.inj h
   exact⟨by rw[seqIndex_neg (by omega) h1,e],by omega,h1,by omega⟩
  ·rw[if_neg h1] at h;cases h
theorem zqh{xs:List α}{v:α}(h:atI xs i=some v):∃j,seqIndex? i xs.length=some j/\xs[j]?=some v/\j<xs.length/\-(xs.length:Int)<=i/\i<xs.length:=by
 unfold atI at h
 cases e:ixN xs.length i with
 | none=>rw[e] at h;cases h
 | some j =>
   rw[e] at h
   obtain⟨h1,h2,h3,h4⟩:=znt e
   exact⟨j,h1,h,h2,h3,h4⟩
theorem zwq(xs:List α)(v:α):atI (xs++[v]) (-1)=some v:=by
 have hl:(xs++[v]).length=xs.length+1:=by simp
 have e:ixN (xs++[v]).length (-1)=some xs.length:=by
  unfold ixN
  rw[hl,if_neg (by decide),if_pos (by omega)]
  congr 1
  omega
 unfold atI
 rw[e]
 show(xs++[v])[xs.length]?=some v
 simp
def zjk(b:Expr):Prop:=∀o i,subscripted b false o i=operate [o,i] (getItem o i)
def IxR(X:Cx)(r:R2):Prop :=
 ∀(value slice:Expr) (pins:List (Addr×Obj)) (s:Shared) (σ:St) (H:Hp) (x y:V) (v u:Value) (Q:VK),Inv X pins σ H s->RelV x v->RelV y u->r x y H Q ->
  subscripted slice false v u=operate [v,u] (getItem v u)->wpAny (model X.prog X.w) X.A (subscriptTail value slice v u) (EP X pins σ Q) X.xe s
def MtR(X:Cx)(id:String)(r:V->List V->Hp->VK->Prop):Prop :=
 ∀(pins:List (Addr×Obj)) (s:Shared) (σ:St) (H:Hp) (x:V) (xs:List V) (v:Value) (us:List Value) (Q:VK),Inv X pins σ H s->RelV x v->Vals xs us->r x xs H Q ->
  wpAny (model X.prog X.w) X.A (call (.builtin id) (v::us)) (EP X pins σ Q) X.xe s
variable{r:V->List V->Hp->VK->Prop}
theorem IxR.or{r r':R2}(h:IxR X r)(h':IxR X r'):IxR X (fun x y H Q=>r x y H Q\/r' x y H Q):=by
 intro value slice pins s σ H x y v u Q I rx ry q hs
 rcases q with q | q
 ·exact h value slice pins s σ H x y v u Q I rx ry q hs
 ·exact h' value slice pins s σ H x y v u Q I rx ry q hs
variable{id:String}
theorem MtR.or{r':V->List V->Hp->VK->Prop}(h:MtR X id r)(h':MtR X id r'):MtR X id (fun x xs H Q=>r x xs H Q\/r' x xs H Q):=by
 intro pins s σ H x xs v us Q I rx rs q
 rcases q with q | q
 ·exact h pins s σ H x xs v us Q I rx rs q
 ·exact h' pins s σ H x xs v us Q I rx rs q
variable{a b:Expr}{ta tb:TE}
theorem zug{r:R2}(hr:IxR X r)(ha:PE X a ta)(hb:PE X b tb)(hs:zjk b):PE X (.Subscript a b pos) (tOp r ta tb):=by
 intro pins s σ H Q I h
 exact Subscript_ (binT ha hb I h fun v u s2 x y H2 I2 rx ry q=>hr a b pins s2 σ H2 x y v u Q I2 rx ry q (hs _ _))
def rIxL(K:PySem.W.Frag):R2:=fun x y H Q=>∃p xs i v,x=.ref p/\y=.int i/\SqL K H p xs/\atI xs i=some v/\Q v H
def rIxT(K:PySem.W.Frag):R2:=fun x y H Q=>∃p xs i v,x=.ref p/\y=.int i/\SqT K H p xs/\atI xs i=some v/\Q v H
def rIxS:R2:=fun x y H Q=>∃z i c,x=.str z/\y=.int i/\z.length<=sizeLine/\atI z.cps.toList i=some c/\Q (.str ⟨#[c]⟩) H
theorem zqi:IxR X (rIxL X.K):=by
 intro value slice pins s σ H x y v u Q I rx ry h hs
 obtain⟨p,xs,i,z,rfl,rfl,hq,he,q⟩:=h
 cases rx
 obtain⟨t,rfl⟩:=ry
 obtain⟨its,r,pl,hz⟩:=I.list hq
 obtain⟨j,h1,h2,h3,h4,h5⟩:=zqh he
 obtain⟨w,ew,rw'⟩:=r.get h2
 have hl:=r.length
 have hn:=znb
 have fin:EP X pins σ Q w s:=⟨z,H,I,rw',q⟩
 by_cases h0:0<=i
 ·have hj:i.toNat=j:=by
   rw[seqIndex_of h0 h5] at h1
   exact Option.some.inj h1
  exact item_listR pl.isList h0 (by omega) (by rw[hj];simpa using ew) fin hs
 ·have hj:(i+(its.toArray.size:Int)).toNat=j:=by
   rw[seqIndex_neg (by omega) h4] at h1
   rw[List.size_toArray,← hl]
   exact Option.some.inj h1
  exact subscriptTail_builtinR (x:=w) pl.isList.typeIs slot_list_getitem.lookup
   (wpAny_getItem_list_neg (Q:=fun r s'=>r=w/\EP X pins σ Q r s') pl.isList (by omega) (by rw[List.size_toArray] <;> omega) (by omega) (by rw[hj];simpa using ew) ⟨rfl,fin⟩) hs
theorem z25:IxR X (rIxT X.K):=by
 intro value slice pins s σ H x y v u Q I rx ry h hs
 obtain⟨p,xs,i,z,rfl,rfl,hq,he,q⟩:=h
 cases rx
 obtain⟨t,rfl⟩:=ry
 obtain⟨its,r,pl,hz⟩:=I.tuple hq
 obtain⟨j,h1,h2,h3,h4,h5⟩:=zqh he
 obtain⟨w,ew,rw'⟩:=r.get h2
 have hl:=r.length
 have hn:=znb
 have fin:EP X pins σ Q w s:=⟨z,H,I,rw',q⟩
 exact subscriptTail_builtinR (x:=w) pl.typeIs slot_tuple_getitem.lookup
  (getItem_tuple (j:=j) (Q:=fun r s'=>r=w/\EP X pins σ Q r s') pl (by omega) (by omega) (by rw[List.size_toArray,← hl];exact h1) (by simpa using ew) ⟨rfl,fin⟩) hs
theorem z26:IxR X rIxS:=by
 intro value slice pins s σ H x y v u Q I rx ry h hs
 obtain⟨z,i,c,rfl,rfl,hz,he,q⟩:=h
 obtain⟨t,rfl⟩:=rx
 obtain⟨t',rfl⟩:=ry
 obtain⟨j,h1,h2,h3,h4,h5⟩:=zqh he
 have hl:z.cps.toList.length=z.length:=by simp[Str.length]
 rw[hl] at h1 h4 h5
 have hn:=znb
 exact tail_any (typeIs_str s z t) slot_str_getitem.lookup (getItem_str (c:=c) (by
  have e1:decide (i < -(2 ^ 63:Int))=false:=decide_eq_false (by omega)
  have e2:decide (i >= 2 ^ 63)=false:=decide_eq_false (by omega)
  rw[e1,e2,Bool.or_false]) (by rw[h1];simpa using h2) ⟨.str ⟨#[c]⟩,H,I.tok _,⟨_,rfl⟩,q⟩) hs
def rIx(K:PySem.W.Frag):R2:=fun x y H Q=>rIxL K x y H Q\/rIxT K x y H Q\/rIxS x y H Q
theorem zuh:IxR X (rIx X.K):=zqi.or (z25.or z26)
theorem zs2(its:List Value)(n j:Nat)(u:Value):Obj.mapSeq (·.setIfInBounds j u) { cls:=.type "list",data:=.seq its.toArray n }={ cls:=.type "list",data:=.seq (its.set j u).toArray n }:=by
 simp[Obj.mapSeq]
theorem Inv.lst{pins:List (Addr×Obj)}{σ:St}{H:Hp}{s:Shared}{p:Addr}{xs:List V}(I:Inv X pins σ H s)(h:H p=some (.lst xs)) :
  ∃(its:List Value) (n:Nat),Vals xs its/\s.heap.get? p=some { cls:=.type "list",data:=.seq its.toArray n }/\xs.length<=sizeLine:=by
 obtain⟨z,its,n,r,e⟩:=I.hok p _ h
 exact⟨its,n,r,e,z⟩
variable{pins:List (Addr×Obj)}{σ:St}{H:Hp}{s:Shared}{ys:List V}{its its':List Value}
theorem Inv.lstUpd{p:Addr}{n':Nat}{f:Obj->Obj}(I:Inv X pins σ H s)(h:H p=some (.lst xs))(ho:s.heap.get? p=some { cls:=.type "list",data:=.seq its.toArray n })(hf:f { cls:=.type "list",data:=.seq its.toArray n }={ cls:=.type "list",data:=.seq its'.toArray n' })(r:Vals ys its')(hz:ys.length<=sizeLine)(t:Nat) :
  Inv X pins σ (upd H p (.lst ys)) { s with heap:=s.heap.update p f,toks:=t }:=by
 have e:(s.heap.update p f).get? p=some { cls:=.type "list",data:=.seq its'.toArray n' }:=by
  rw[Heap.get?_update_self f ho (by rw[hf] <;> rfl),hf]
 refine I.write (x:=p) (e:=p) (by rw[h];trivial) (.inl rfl) (fun b u hb q=>(Heap.get?_update_other _ _ (Ne.symm hb)).trans q) ⟨_,e⟩ ?_
 exact⟨hz,its',n',r,e⟩
def z27:V->V->V->Hp->(Hp->Prop)->Prop:=fun o i v H Q=>∃p xs k j,o=.ref p/\i=.int k/\H p=some (.lst xs)/\ixN xs.length k=some j/\Q (upd H p (.lst (xs.set j v)))
theorem zj6:PSet X z27:=by
 intro pins s σ H o i v ov iv u Q I ro ri rv h
 obtain⟨p,xs,k,j,rfl,rfl,hp,hj,q⟩:=h
 cases ro
 obtain⟨t,rfl⟩:=ri
 obtain⟨its,n,r,ho,hz⟩:=I.lst hp
 obtain⟨h1,h2,h3,h4⟩:=znt hj
 have hl:=r.length
 have hn:=znb
 have I':Inv X pins σ (upd H p (.lst (xs.set j v))) { s with heap:=s.heap.update p (Obj.mapSeq (·.setIfInBounds j u)) } :=
  I.lstUpd hp ho (zs2 its n j u) (r.set rv j) (by rw[List.length_set];exact hz) s.toks
 by_cases h0:0<=k
 ·have hk:k.toNat=j:=by
   rw[seqIndex_of h0 h4] at h1
   exact Option.some.inj h1
  exact PySem.W.ki_setAt ho h0 (by omega) (by rw[List.size_toArray,← hl];exact h4) (by rw[hk];exact⟨_,I',q⟩)
 ·have hk:(k+(its.toArray.size:Int)).toNat=j:=by
   rw[seqIndex_neg (by omega) h3] at h1
   rw[List.size_toArray,← hl]
   exact Option.some.inj h1
  exact PySem.W.ki_setBack ho (by omega) (by rw[List.size_toArray,← hl];exact h3) (by omega) (by rw[hk];exact⟨_,I',q⟩)
theorem zpd(lo hi:Option Int)(n:Nat):(sliceBounds lo hi none n).1=((HT.sIx n 0 lo:Nat):Int)/\(sliceBounds lo hi none n).2.1=((HT.sIx n n hi:Nat):Int)/\(sliceBounds lo hi none n).2.2=1:=by
 refine⟨?_,?_,rfl⟩
 ·cases lo with
  | none=>simp[sliceBounds,HT.sIx]
  | some i =>
    simp only[sliceBounds,HT.sIx,Option.getD_none,show(1:Int) > 0 by decide,if_true]
    by_cases h:i<0
    ·simp only[h,if_true] <;> omega
    ·simp only[h,if_false] <;> omega
 ·cases hi with
  | none=>simp[sliceBounds,HT.sIx]
  | some i =>
    simp only[sliceBounds,HT.sIx,Option.getD_none,show(1:Int) > 0 by decide,if_true]
    by_cases h:i<0
    ·simp only[h,if_true] <;> omega
    ·simp only[h,if_false] <;> omega
theorem znu(its:List Value)(lo hi:Option Int):slicePick its.toArray lo hi none=((its.drop (HT.sIx its.length 0 lo)).take (HT.sIx its.length its.length hi-HT.sIx its.length 0 lo)).toArray:=by
 obtain⟨h1,h2,h3⟩:=zpd lo hi its.toArray.size
 unfold slicePick
 rw[h1,h2,h3]
 simp only[sliceRange_one,pick_run,List.size_toArray] <;> rfl
def rSlL(K:PySem.W.Frag):V->Option Int->Option Int->Hp->VK->Prop:=fun x lo hi H Q=>∃a xs,x=.ref a/\SqL K H a xs/\∀p,H p=none->Q (.ref p) (upd H p (.lst (cutV xs lo hi)))
theorem zz6:SlR X (rSlL X.K):=by
 intro pins s σ H x v vl vu lo hi sl Q I rx hs pl pu h
 obtain⟨a,xs,rfl,hx,q⟩:=h
 cases rx
 obtain⟨its,r,ht,hz⟩:=I.list hx
 have hlen:=r.length
 refine⟨"list",_,slot_list_getitem.lookup,ht.isList.typeIs,?_⟩
 refine wpAny_getItem_list_slice ht.isList hs pl pu .none (by simp) ?_ (by rw[List.size_toArray] <;> omega)
 rw[znu,← hlen]
 refine⟨.ref s.heap.objs.size,_,I.laid (t':=s.toks) (o:=.lst (cutV xs lo hi)) (fun b ob q=>Heap.get?_push_of_some _ q) (Nat.le_refl _) ?_,rfl,q _ (I.hok.fresh (Nat.le_refl _))⟩
 exact⟨Nat.le_trans (zl6 xs lo hi) hz,_,0,(r.drop (HT.sIx xs.length 0 lo)).take (HT.sIx xs.length xs.length hi-HT.sIx xs.length 0 lo),Heap.get?_push_size _ rfl⟩
theorem zlc:CallR X (.builtin "len") (fun xs H Q=>∃p ys,xs=[.ref p]/\(SqL X.K H p ys\/SqT X.K H p ys)/\Q (.int ys.length) H):=by
 intro pins s σ H xs us Q I r h
 obtain⟨p,ys,rfl,hq,q⟩:=h
 obtain⟨u,rfl,rx⟩:=zzw r
 cases rx
 have hn:=znb
 rcases hq with hq | hq
 ·obtain⟨its,r',pl,hz⟩:=I.list hq
  have hlen:=r'.length
  exact Calls.call_len_list pl.isList (by simp only[List.size_toArray] <;> omega) ⟨.int ys.length,H,I.tok _,⟨s.toks+1,by rw[List.size_toArray,hlen]⟩,q⟩
 ·obtain⟨its,r',pl,hz⟩:=I.tuple hq
  have hlen:=r'.length
  exact len_tuple pl (by simp only[List.size_toArray] <;> omega) ⟨.int ys.length,H,I.tok _,⟨s.toks+1,by rw[List.size_toArray,hlen]⟩,q⟩
theorem CallR.or{f:Value}{r r':List V->Hp->VK->Prop}(h:CallR X f r)(h':CallR X f r'):CallR X f (fun xs H Q=>r xs H Q\/r' xs H Q):=by
 intro pins s σ H xs us Q I rs q
 rcases q with q | q
 ·exact h pins s σ H xs us Q I rs q
 ·exact h' pins s σ H xs us Q I rs q
theorem zld:CallR X (.type "list") (fun xs H Q=>∃p ys,xs=[.ref p]/\(SqL X.K H p ys\/SqT X.K H p ys)/\∀l,H l=none->Q (.ref l) (upd H l (.lst ys))):=by
 intro pins s σ H xs us Q I r h
 obtain⟨p,ys,rfl,hq,q⟩:=h
 obtain⟨u,rfl,rx⟩:=zzw r
 cases rx
 have fin:∀(its:List Value),Vals ys its->ys.length<=sizeLine->∀(h':Heap) (c':Nat),(∀b o',s.heap.get? b=some o'->h'.get? b=some o') ->
   h'.get? s.heap.objs.size=some { cls:=.type "list",dict:=none,data:=.seq its.toArray c',slots:=#[] }->EP X pins σ Q (.ref s.heap.objs.size) { s with heap:=h' }:=fun its r' hz h' c' kp e =>
  ⟨.ref s.heap.objs.size,_,I.laid (t':=s.toks) kp (Nat.le_refl _) (show ObjOk X.prog X.w _ h' _ (.lst ys) from⟨hz,its,c',r',e⟩),rfl,q _ (I.hok.fresh (Nat.le_refl _))⟩
 rcases hq with hq | hq
 ·obtain⟨its,r',pl,hz⟩:=I.list hq
  have hlen:=r'.length
  obtain⟨o,ho,hc,n,hd⟩:=pl.isList
  exact call_list_seq p (.inl rfl) ho hc hd (fun h' c' kp e=>fin its r' hz h' c' kp e) (by simp only[List.size_toArray] <;> omega)
 ·obtain⟨its,r',pl,hz⟩:=I.tuple hq
  have hlen:=r'.length
  obtain⟨o,ho,hc,n,hd⟩:=pl
  exact call_list_seq p (.inr rfl) ho hc hd (fun h' c' kp e=>fin its r' hz h' c' kp e) (by simp only[List.size_toArray] <;> omega)
def tyV(K:PySem.W.Frag)(T:String)(x:V)(H:Hp):Prop:=match x with
 | .str _=>T = "str"
 | .int _=>T = "int"
 | .ref p=>(T = "list"/\∃xs,SqL K H p xs)\/(T = "tuple"/\∃o,K.lookup p=some o/\o.cls=.type "tuple"/\o.dict=none) \/
    (T = "dict"/\((∃kvs,H p=some (.dK kvs))\/∃kvs,H p=some (.dT kvs)))\/(T = "set"/\∃S n,H p=some (.set S n))
 | _=>False
variable{T:String}
theorem zyz{x:V}{v:Value}(I:Inv X pins σ H s)(r:RelV x v)(ty:tyV X.K T x H) :
  s.TypeIs v T/\∀a,v=.ref a->∃ob,s.heap.get? a=some ob/\ob.dict=none:=by
 cases x with
 | str z =>
   obtain⟨t,rfl⟩:=r
   cases (show T = "str" from ty)
   exact⟨typeIs_str s z t,fun _ e=>nomatch e⟩
 | int i =>
   obtain⟨t,rfl⟩:=r
   cases (show T = "int" from ty)
   exact⟨typeIs_int s i t,fun _ e=>nomatch e⟩
 | ref p =>
   cases r
   rcases ty with⟨rfl,xs,hq⟩ | ⟨rfl,o,hk,hc,hd⟩ | ⟨rfl,hk⟩ | ⟨rfl,S,n,hk⟩
   ·obtain⟨its,_,pl,_⟩:=I.list hq
    refine⟨pl.isList.typeIs,fun a e=>?_⟩
    cases e
    obtain⟨o,n,e,c,hd,_⟩:=pl
    exact⟨o,e,hd⟩
   ·refine⟨⟨o,I.kIn p o hk,hc⟩,fun a e=>?_⟩
    cases e
    exact⟨o,I.kIn _ o hk,hd⟩
   ·have z:∃o,s.heap.get? p=some o/\o.ExactDict:=by
     rcases hk with⟨kvs,hk⟩ | ⟨kvs,hk⟩
     ·obtain⟨_,_,_,_,o,_,_,e,ex,_⟩:=I.hok p _ hk
      exact⟨o,e,ex⟩
     ·obtain⟨_,_,_,_,o,_,_,e,ex,_⟩:=I.hok p _ hk
      exact⟨o,e,ex⟩
    obtain⟨o,e,ex⟩:=z
    refine⟨⟨o,e,ex.1⟩,fun a e2=>?_⟩
    cases e2
    exact⟨o,e,ex.2.1⟩
   ·obtain⟨o,_,_,_,e,ex,_⟩:=I.hok p _ hk
    refine⟨⟨o,e,ex.1⟩,fun a e2=>?_⟩
    cases e2
    exact⟨o,e,ex.2.1⟩
 | _=>exact False.elim ty
def tBM0(K:PySem.W.Frag)(T:String)(r:V->List V->Hp->VK->Prop)(to:TE):TE:=fun σ H Q=>to σ H fun x H1=>tyV K T x H1/\r x [] H1 Q
def tBM(K:PySem.W.Frag)(T:String)(r:V->List V->Hp->VK->Prop)(to:TE)(t:TA):TE:=fun σ H Q=>to σ H fun x H1=>tyV K T x H1/\t σ H1 fun xs H2=>r x xs H2 Q
variable{o:Expr}{to:TE}{name:Str}{apos cpos:Pos}
theorem z28(pa:PlainAttrs T)(slot:Slot T name id)(hty:typeOf (.builtin id)=pure (.type "method_descriptor"))(hm:MtR X id r)(ho:PE X o to)(hbase:attributeBase o name X.env (eval o X.env)=eval o X.env:=by rfl)(hline:(apos.endLine==cpos.line)=true:=by rfl):PE X (.Call (.Attribute o name apos) [] [] cpos) (tBM0 X.K T r to):=by
 intro pins s σ H Q I h
 refine wpAny_Call_method0_late hbase hline (thn (ho pins s σ H _ I h) fun v s1 ⟨x,H1,I1,r1,ty,q1⟩=>?_)
 obtain⟨h1,h2⟩:=zyz I1 r1 ty
 exact⟨T,id,pa,slot,hty,h1,h2,Calls.callWith_builtin rfl (PySem.evalArgs_none (hm pins s1 σ H1 x [] v [] Q I1 r1 .nil q1))⟩
variable{es:List Expr}{t:TA}
theorem zui(pa:PlainAttrs T)(slot:Slot T name id)(hty:typeOf (.builtin id)=pure (.type "method_descriptor"))(hm:MtR X id r)(ho:PE X o to)(ha:PA X (e::es) t)(hbase:attributeBase o name X.env (eval o X.env)=eval o X.env:=by rfl)(hfew:((backTo cpos (starEach (e::es) X.env)).all (fun x=>!x.1) && (backToKw cpos (keywordEach [] X.env)).all (fun x=>x.1.isSome)
   && decide ((e::es).length+([]:List Keyword).length+(if ([]:List Keyword).isEmpty then 0 else 1)<30))=true:=by rfl)(hline:(apos.endLine==cpos.line)=true:=by rfl)(hs:starEach (e::es) X.env=(false,eval e X.env)::starEach es X.env:=by rfl)(hplain:(backTo cpos (starEach es X.env)).any (·.1)=false:=by rfl) :
  PE X (.Call (.Attribute o name apos) (e::es) [] cpos) (tBM X.K T r to t):=by
 intro pins s σ H Q I h
 refine wpAny_Call_method_late hbase hfew hline rfl (thn (ho pins s σ H _ I h) fun v s1 ⟨x,H1,I1,r1,ty,q1⟩=>?_)
 obtain⟨h1,h2⟩:=zyz I1 r1 ty
 refine⟨T,id,pa,slot,hty,h1,h2,?_⟩
 have hA:=ha cpos pins s1 σ H1 _ I1 q1
 rw[hs] at hA ⊢
 refine Calls.callWith_builtin (by show(false || (backTo cpos (starEach es X.env)).any (·.1))=false;rw[hplain] <;> rfl) (Calls.evalArgs_plain ?_)
 exact thn hA fun us s2 ⟨vs,H2,I2,r2,q2⟩=>hm pins s2 σ H2 x vs v us Q I2 r1 r2 q2
def MtM(X:Cx)(id:String)(r:V->List V->Hp->VK->Prop):Prop :=
 ∀(pins:List (Addr×Obj)) (s:Shared) (σ:St) (H:Hp) (x:V) (xs:List V) (v:Value) (us:List Value) (Q:VK),Inv X pins σ H s->RelV x v->Vals xs us->r x xs H Q ->
  wpAny (model X.prog X.w) X.A (call (.builtin id) (v::us)) (EP X pins σ Q) X.xe s
theorem Vals.one:∀ {x:V} {us:List Value},Vals [x] us->∃u,us=[u]/\RelV x u
 | _,_,.cons r .nil=>⟨_,rfl,r⟩
theorem Vals.two:∀ {x y:V} {us:List Value},Vals [x,y] us->∃u v,us=[u,v]/\RelV x u/\RelV y v
 | _,_,_,.cons r (.cons q .nil)=>⟨_,_,rfl,r,q⟩
theorem Vals.zero:∀ {us:List Value},Vals [] us->us=[]
 | _,.nil=>rfl
theorem Vals.dropLast(h:Vals xs us):Vals xs.dropLast us.dropLast:=by
 induction h with
 | nil=>exact .nil
 | cons r t ih =>
   cases t with
   | nil=>exact .nil
   | cons q t'=>exact .cons r ih
theorem Vals.eraseIdx:∀ {xs:List V} {us:List Value} (i:Nat),Vals xs us->Vals (xs.eraseIdx i) (us.eraseIdx i)
 | _,_,_,.nil=>.nil
 | _,_,0,.cons _ t=>t
 | _,_,i+1,.cons r t=>.cons r (Vals.eraseIdx i t)
theorem Vals.reverse(h:Vals xs us):Vals xs.reverse us.reverse:=by
 induction h with
 | nil=>exact .nil
 | cons r t ih=>rw[List.reverse_cons,List.reverse_cons];exact Vals.append ih (.cons r .nil)
theorem Vals.rep{xs:List V}{us:List Value}(h:Vals xs us):∀k:Nat,Vals (List.replicate k xs).flatten (List.replicate k us).flatten
 | 0=>.nil
 | k+1=>by
   rw[List.replicate_succ,List.replicate_succ,List.flatten_cons,List.flatten_cons]
   exact Vals.append h (Vals.rep h k)
theorem zs3(l:List α):l.eraseIdx (l.length-1)=l.dropLast:=by
 induction l with
 | nil=>rfl
 | cons a r ih =>
   cases r with
   | nil=>rfl
   | cons b r =>
     have e:(a::b::r).length-1=((b::r).length-1)+1:=by
      have h1:(a::b::r).length=r.length+2:=rfl
      have h2:(b::r).length=r.length+1:=rfl
      omega
     rw[e,List.eraseIdx_cons_succ,ih]
     all_goals rfl
theorem zpe{α:Type}:∀(l:List α) (i:Nat),(l.eraseIdx i).length<=l.length
 | [],_=>Nat.le_refl _
 | _::_,0=>Nat.le_succ _
 | _::r,i+1=>Nat.succ_le_succ (zpe r i)
theorem zpf(its:List Value):∀(k:Nat) (acc:List Value),
  List.foldl (fun x1 x2=>x1++x2) acc.toArray (List.replicate k its.toArray)=(acc++(List.replicate k its).flatten).toArray
 | 0,acc=>by simp
 | k+1,acc=>by
   have e:acc.toArray++its.toArray=(acc++its).toArray:=by simp
   have e2:(acc++its)++(List.replicate k its).flatten=acc++(List.replicate (k+1) its).flatten:=by
    rw[List.replicate_succ,List.flatten_cons,List.append_assoc]
   rw[← e2,← zpf its k (acc++its),← e,List.replicate_succ,List.foldl_cons]
variable{t':Nat}{l:Addr}
theorem Inv.lset{f:Array Value->Array Value}(I:Inv X pins σ H s)(hH:H l=some (.lst xs))(e:s.heap.get? l=some { cls:=.type "list",data:=.seq its.toArray n })(hf:f its.toArray=its'.toArray)(hv:Vals ys its')(hz:ys.length<=sizeLine) :
  Inv X pins σ (upd H l (.lst ys)) { s with heap:=s.heap.update l (Obj.mapSeq f),toks:=t' }:=by
 have q:=PySem.IsL.update e f
 rw[hf] at q
 refine I.write (x:=l) (e:=l) (by rw[hH];exact trivial) (.inl rfl) (fun b' u hb hu=>(Heap.get?_update_other s.heap (Obj.mapSeq f) (Ne.symm hb)).trans hu) ⟨_,q⟩ ?_
 exact⟨hz,its',_,hv,q⟩
theorem Inv.lnew(I:Inv X pins σ H s)(hv:Vals ys its)(hz:ys.length<=sizeLine) :
  Inv X pins σ (upd H s.heap.objs.size (.lst ys)) { s with heap:=s.heap.push { cls:=.type "list",data:=.seq its.toArray },toks:=t' } :=
 I.laid (fun _ _ q=>Heap.get?_push_of_some _ q) (Nat.le_refl _) ⟨hz,its,0,hv,Heap.get?_push_size _ rfl⟩
theorem Inv.fresh(I:Inv X pins σ H s):H s.heap.objs.size=none:=I.hok.fresh (Nat.le_refl _)
theorem Inv.lstM(I:Inv X pins σ H s)(hH:H l=some (.lst xs)):xs.length<=sizeLine/\∃(its:List Value) (n:Nat),Vals xs its/\xs.length=its.length/\s.heap.get? l=some { cls:=.type "list",data:=.seq its.toArray n }:=by
 obtain⟨z,its,n,r,e⟩:=I.hok l _ hH
 exact⟨z,its,n,r,r.length,e⟩
theorem zri(h:n<=sizeLine):Builtin.List.listTooLong n=false:=by
 unfold Builtin.List.listTooLong
 exact decide_eq_false (by omega)
def zz7:V->List V->Hp->VK->Prop:=fun x vs H Q=>∃l xs y,x=.ref l/\vs=[y]/\H l=some (.lst xs)/\xs.length<sizeLine/\Q .non (upd H l (.lst (xs++[y])))
theorem zpg:MtM X "list.append" zz7:=by
 intro pins s σ H x vs v us Q I rx rv h
 obtain⟨l,xs,y,rfl,rfl,hH,hz,q⟩:=h
 cases rx
 obtain⟨u,rfl,ru⟩:=rv.one
 obtain⟨z,its,n,r,hl,e⟩:=I.lstM hH
 refine call_meets F.slot_list_append ⟨_,e,rfl⟩ F.entry_list_append (F.args_list_append_2 _ _) (PySem.list_append l its.toArray n u (by rw[List.size_toArray];omega)) ⟨e,?_⟩
 refine⟨.non,_,I.lset (its':=its++[u]) hH e (by simp) (r.append (.cons ru .nil)) ?_,rfl,q⟩
 rw[List.length_append,List.length_singleton]
 omega
def zz8:V->List V->Hp->VK->Prop:=fun x vs H Q=>∃l b xs zs,x=.ref l/\vs=[.ref b]/\H l=some (.lst xs)/\H b=some (.lst zs)/\xs.length+zs.length<=sizeLine/\Q .non (upd H l (.lst (xs++zs)))
theorem zuj:MtM X "list.extend" zz8:=by
 intro pins s σ H x vs v us Q I rx rv h
 obtain⟨l,b,xs,zs,rfl,rfl,hH,hB,hz,q⟩:=h
 cases rx
 obtain⟨u,rfl,ru⟩:=rv.one
 cases ru
 obtain⟨z,its,n,r,hl,e⟩:=I.lstM hH
 obtain⟨z2,its2,n2,r2,hl2,e2⟩:=I.lstM hB
 have hsz:its.toArray.size+its2.toArray.size<=sizeLine:=by rw[List.size_toArray,List.size_toArray];omega
 have hlong:¬(!its.toArray.isEmpty && Builtin.List.listTooLong (its.toArray.size+its2.toArray.size))=true:=by
  rw[zri hsz,Bool.and_false]
  exact Bool.false_ne_true
 refine call_meets F.slot_list_extend ⟨_,e,rfl⟩ F.entry_list_extend (F.args_list_extend_2 _ _)
  (AutoSeq1.list_extend_list_list_0 l its.toArray n b its2.toArray n2 hlong (by rw[List.size_toArray];omega) (by omega)) ⟨e,e2,?_⟩
 refine⟨.non,_,I.lset (its':=its++its2) hH e (by simp) (r.append r2) ?_,rfl,q⟩
 rw[List.length_append]
 omega
def rPop:V->List V->Hp->VK->Prop:=fun x vs H Q=>∃l xs y,x=.ref l/\vs=[]/\H l=some (.lst xs)/\xs[xs.length-1]?=some y/\Q y (upd H l (.lst xs.dropLast))
theorem z29:MtM X "list.pop" rPop:=by
 intro pins s σ H x vs v us Q I rx rv h
 obtain⟨l,xs,y,rfl,rfl,hH,hy,q⟩:=h
 cases rx
 have hus:=rv.zero
 subst hus
 obtain⟨z,its,n,r,hl,e⟩:=I.lstM hH
 obtain⟨u,hu,ru⟩:=r.get hy
 have hy':its.toArray[its.toArray.size-1]?=some u:=by
  show its.toArray[its.length-1]?=some u
  rw[← Array.getElem?_toList,← hl]
  exact hu
 refine call_meets F.slot_list_pop ⟨_,e,rfl⟩ F.entry_list_pop (F.args_list_pop_1 _) (MeetsSeq.list_pop_last l its.toArray n u hy' (by rw[List.size_toArray];omega)) ⟨e,?_⟩
 refine⟨y,_,I.lset (its':=its.dropLast) hH e ?_ r.dropLast ?_,ru,q⟩
 ·show its.toArray.eraseIdxIfInBounds (its.toArray.size-1)=its.dropLast.toArray
  rw[List.size_toArray,List.eraseIdxIfInBounds_toArray,zs3]
 ·rw[List.length_dropLast]
  omega
def z3a:V->List V->Hp->VK->Prop:=fun x vs H Q=>∃l xs i k y,x=.ref l/\vs=[.int i]/\H l=some (.lst xs)/\-(2 ^ 63)<=i/\i<2 ^ 63/\seqIndex? i xs.length=some k/\xs[k]?=some y/\Q y (upd H l (.lst (xs.eraseIdx k)))
theorem zwr:MtM X "list.pop" z3a:=by
 intro pins s σ H x vs v us Q I rx rv h
 obtain⟨l,xs,i,k,y,rfl,rfl,hH,h1,h2,hk,hy,q⟩:=h
 cases rx
 obtain⟨u,rfl,ru⟩:=rv.one
 obtain⟨t,rfl⟩:=ru
 obtain⟨z,its,n,r,hl,e⟩:=I.lstM hH
 obtain⟨w,hw,rw'⟩:=r.get hy
 refine call_meets F.slot_list_pop ⟨_,e,rfl⟩ F.entry_list_pop (F.args_list_pop_2 _ _)
  (MeetsSeq.list_pop_at l its.toArray n i t k w (fitsIndex_both h1 h2) (by rw[List.size_toArray,← hl];exact hk) (by rw[← Array.getElem?_toList];exact hw) (by rw[List.size_toArray];omega)) ⟨e,?_⟩
 refine⟨y,_,I.lset (its':=its.eraseIdx k) hH e ?_ (r.eraseIdx k) ?_,rw',q⟩
 ·show its.toArray.eraseIdxIfInBounds k=(its.eraseIdx k).toArray
  rw[List.eraseIdxIfInBounds_toArray]
 ·have:=zpe xs k
  omega
def rRep:R2:=fun x y H Q=>∃l k xs,x=.ref l/\y=.int k/\H l=some (.lst xs)/\-(2 ^ 63)<=k/\k<2 ^ 63/\xs.length*k.toNat<=sizeLine /\
 ∀p,H p=none->Q (.ref p) (upd H p (.lst (List.replicate k.toNat xs).flatten))
theorem zz9(xs:List α)(k:Nat):(List.replicate k xs).flatten.length=k*xs.length:=by
 induction k with
 | zero=>simp
 | succ k ih=>rw[List.replicate_succ,List.flatten_cons,List.length_append,ih,Nat.succ_mul,Nat.add_comm]
theorem z3b:OpR X (binaryOp .Mult) rRep:=by
 intro pins s σ H x y v u Q I rx ry h
 obtain⟨l,k,xs,rfl,rfl,hH,h1,h2,hz,q⟩:=h
 cases rx
 obtain⟨t,rfl⟩:=ry
 obtain⟨z,its,n,r,hl,e⟩:=I.lstM hH
 have hlen:its.toArray.size*k.toNat<=sizeLine:=by rw[List.size_toArray,← hl];exact hz
 have hcap:¬its.toArray.size*k.toNat > (2 ^ 63-1) / 8:=by
  have:(sizeLine:Nat)<=(2 ^ 63-1) / 8:=by decide
  omega
 have hfit:¬(!Builtin.List.listFitsIndex k)=true:=by
  rw[fitsIndex_both h1 h2]
  exact Bool.false_ne_true
 have hlong:¬Builtin.List.listTooLong (its.toArray.size*k.toNat)=true:=by
  rw[zri hlen]
  exact Bool.false_ne_true
 have hnew:List.foldl (fun x1 x2=>x1++x2) #[] (List.replicate (if its.toArray.isEmpty=true then 0 else k.toNat) its.toArray)=(List.replicate k.toNat its).flatten.toArray:=by
  have f0:∀m:Nat,List.foldl (fun x1 x2=>x1++x2) #[] (List.replicate m its.toArray)=(List.replicate m its).flatten.toArray:=fun m=>by
   have:=zpf its m []
   rw[List.nil_append] at this
   exact this
  rw[f0]
  cases its with
  | nil=>simp
  | cons a r'=>rw[if_neg (by simp)]
 refine wpAny_binaryOp_repeat_ref (T:="list") (U:="int") (by decide) ⟨_,e,rfl⟩ (fun s'=>typeIs_int s' k t) noFill_list_mul F.fills_int_mul F.slot_int_rmul repeat_list F.slot_int_index.lookup
  (call_meets F.slot_int_rmul (typeIs_int s k t) F.entry_int_rmul (F.args_int_rmul_2 _ _) (int___rmul___int_list k t l its.toArray n)
    ⟨e,rfl,⟨_,e,rfl⟩,call_meets F.slot_list_mul ⟨_,e,rfl⟩ F.entry_list_mul (F.args_list_mul_2 _ _) (AutoListH.list___mul___list_int_3 l its.toArray n k t hfit hcap hlong) ⟨e,?_⟩⟩)
 rw[hnew]
 exact⟨.ref _,_,I.lnew (t':=s.toks) (r.rep k.toNat) (by rw[zz9,Nat.mul_comm];exact hz),rfl,q _ I.fresh⟩
end L2
namespace Att
open PySem PySem.W PySem.Calls PyProof.Rows
variable{P:Params}{h:Heap}
theorem zl7:∀(ns:List Int) (vs:List Value),WellAll P h vs (ns.map WData.int)->IntsAre vs ns:=by
 intro ns
 induction ns with
 | nil =>
   intro vs w
   rw[List.map_nil] at w
   cases w
   exact .nil
 | cons n ns ih =>
   intro vs w
   rw[List.map_cons] at w
   cases w with
   | cons a b =>
     cases a
     exact .cons _ _ (ih _ b)
variable{l:OpenLaw}{n:Nat}
theorem zuk(hn:l.most=some n){args:List WData}{vals:List Value}(hpre:l.row.toRowW.claim.pre args=true)(hwl:WellAll P h vals args) :
  ∃a vs ns,vals=[Value.ref a]/\args=[WData.list (ns.map WData.int)]/\h.get? a=some { cls:=.type "list",data:=.seq vs.toArray }/\IntsAre vs ns/\ns.length<=n:=by
 have hsh:WShape.hasAll [] args [.list .int]=true:=(pre_splitW hpre).1
 have hc:l.pre.holds [] { args:=args }=true:=(pre_splitW hpre).2
 obtain⟨d,r,rfl,h1,h2⟩:=hasAllW_cons hsh
 obtain rfl:=hasAllW_nil h2
 obtain⟨xs,rfl,h3⟩:=hasW_list h1
 obtain⟨ns,rfl⟩:=items_int h3
 have hlen:ns.length<=n:=by
  unfold OpenLaw.pre at hc
  have h4:(WTm.not (.lt (.lit (.int (n:Int))) (.len (.arg 0)))).holds [] { args:=[.list (ns.map .int)] }=true:=by
   have h4:=(holds_andW hc).1
   rw[hn] at h4
   exact h4
  have h5:=condW_of h4 (w_not (w_lt w_lit (w_len_list (w_arg rfl))))
  rw[List.length_map] at h5
  refine Nat.le_of_not_lt fun q=>?_
  have q':(n:Int)<((ns.length:Nat):Int):=by omega
  first
   | (rw[decide_eq_true q'] at h5;exact absurd h5 (by decide))
   | (simp at h5;omega)
 cases hwl with
 | cons w1 w2 =>
   cases w2
   cases w1 with
   | list ho hall=>exact⟨_,_,ns,rfl,rfl,ho,zl7 ns _ hall,hlen⟩
theorem zul(l:OpenLaw)(args:List WData):l.row.toRowW.claim.post args (.bool true) args=true :=
 postW_of (r:=l.row.toRowW) (X:=(true==true))
  (show WShape.has [] (.bool true) .bool=true by first | rfl | decide | simp[WShape.has,WShape.arms,WShape.armsAll])
  (show(WTm.eq .res (.lit (.bool true))).value [] { args:=args,res:=some (.bool true),after:=args }=some (.bool (true==true)) from w_eq_bool (w_res rfl) w_lit) rfl
theorem attach_call{q:Program}{loose:List Str}{XP:(Str->Option Value)->Heap->Prop}{YP:World->Heap->Prop}{d:DefRec}(hn:l.most=some n)(hdf:d.params.defaults=[])(call:∀(w:World) (s₀ s₁:Shared) (mg mb:Str->Option Value) (fa:Addr) (o:Obj) (pm cd doc:Value) (a:Addr) (vs:List Value) (ns:List Int),
   Ground q loose [] XP w s₀ mg mb s₁.heap->YP w s₁.heap ->
   s₁.heap.get? fa=some o->o.data=.func (docDef d.name d.params d.body d.scope pm cd doc)->s₁.heap.CodeRec cd d.name->mg d.name=some (.ref fa) ->
   s₁.heap.get? a=some { cls:=.type "list",data:=.seq vs.toArray }->IntsAre vs ns->ns.length<=n->s₁.gens=#[] ->
   codeAny (model l.prog w) callerA (.call (.ref fa) ⟨[.ref a],[]⟩) (fun r s'=>r=.ok (.ret (.bool true))/\OldK s₁.heap s'.heap/\s'.os=s₁.os/\AllBare s'.gens) s₁) :
  WalkO q loose XP YP l.row.toRowW d [] (fun f vs=>PySem.call f vs):=by
 intro w s₀ s₁ mg mb G Y fa o pm cd doc dV kV ho hd hcd hD hmg hg args vals as hpre hlay hrd hwl hlo
 obtain rfl:dV=.none:=Dflts.none hD hdf
 obtain rfl:kV=.none:=Dflts.noKw hD
 obtain⟨a,vs,ns,rfl,rfl,hobj,hints,hlen⟩:=zuk hn hpre hwl
 refine enter_call (codeAny_mono (call w s₀ s₁ mg mb fa o pm cd doc a vs ns G Y ho (fd_plain hd) hcd hmg hobj hints hlen hg) fun r s' hq=>?_)
 obtain⟨rfl,h2,h3,h4⟩:=hq
 exact⟨.inl ⟨.bool true,.bool true,[],rfl,fun _=>rfl,.bool true,zul l _,fun _=>⟨List.Pairwise.nil,fun _ hm=>(nomatch hm)⟩⟩,h2,h3,h4⟩
end Att
namespace L2
open PySem PySem.Spec PyProof.Rows
theorem zph:∀ {vs:List Value} {ns:List Int},IntsAre vs ns->Vals (ns.map V.int) vs
 | _,_,.nil=>.nil
 | _,_,.cons n t h=>.cons ⟨t,rfl⟩ (zph h)
def Only(H:Hp):Prop:=∀b,H b=none\/∃o xs,H b=some (.frz o (.lst xs))
variable{P:Program}{w:World}{K:PySem.W.Frag}{mg:Str->Option Value}{k:Nat}{a:Addr}{fd:FuncData}{x:Str}{sp:Sp}{vs:List Value}
theorem zws{mb:Str->Option Value}{CX:CXT}{fa:Addr}{s₁:Shared}{ns:List Int}(KX:K.In s₁.heap)(hns:s₁.heap.Ns mainGlobals mg)(hb:s₁.heap.Ns builtinsNs mb)(hbb:∀x:Str,x ≠ "__name__"->mb x=bootBuiltins x)(hlim:s₁.heap.NoLimit)(hg:s₁.gens=#[])(ha:s₁.heap.get? a=some { cls:=.type "list",data:=.seq vs.toArray })(hi:IntsAre vs ns)(hl:ns.length<=sizeLine)(hr:Room k callerA)(F:∀base:Heap,K.In base->base.Ns mainGlobals mg->FnOk P w K mg base CX k fa fd [x] sp)(hbind:∀(s:Shared) (u:Value),BindsTo s fd ⟨[u],[]⟩ [(x,u)])(hsp:∀H:Hp,Only H->SqL K H a (ns.map V.int)->sp [.ref a] H (fun v _=>v=.bl true) fun _ _ _=>False)(hCX:∀H e s',CX [] H s₁ (fun _ _ _=>False) e s'->False) :
  codeAny (model P w) callerA (.call (.ref fa) ⟨[.ref a],[]⟩) (fun r s'=>r=.ok (.ret (.bool true))/\OldK s₁.heap s'.heap/\s'.os=s₁.os/\AllBare s'.gens) s₁:=by
 have rv:=zph hi
 have lenV:=hi.length
 have core:∀H:Hp,Only H->SqL K H a (ns.map V.int)->HOk P w H s₁.heap->(∀b,H b≠none->b=a)->(H a≠none->K.lookup a=none) ->
   codeAny (model P w) callerA (.call (.ref fa) ⟨[.ref a],[]⟩) (fun r s'=>r=.ok (.ret (.bool true))/\OldK s₁.heap s'.heap/\s'.os=s₁.os/\AllBare s'.gens) s₁:=by
  intro H hO hS hok hA hK
  have base_of:∀ {b:Addr} {o:Obj},s₁.heap.get? b=some o->H b=none->(hidT s₁.heap H).get? b=some o:=fun e n=>zwg e n
  have noA:∀ {b:Addr} {o:Obj} {es:Array DictEntry} {ep:Nat},s₁.heap.get? b=some o->o.data=.dict es ep->H b=none:=fun {b o es ep} e d=>by
   cases q:H b with
   | none=>rfl
   | some u =>
     have e':b=a:=hA b (by rw[q];simp)
     subst e'
     rw[ha] at e;cases e
     have d':Data.seq vs.toArray _=Data.dict es ep:=d
     cases d'
  have nsK:∀ {b:Addr} {m:Str->Option Value},s₁.heap.Ns b m->(hidT s₁.heap H).Ns b m:=fun {b m} ⟨o,es,ep,e,d,r⟩=>⟨o,es,ep,base_of e (noA e d),d,r⟩
  have hKb:K.In (hidT s₁.heap H):=fun b o e=>base_of (KX b o e) (by
   cases q:H b with
   | none=>rfl
   | some u =>
     have e':b=a:=hA b (by rw[q];simp)
     subst e'
     rw[hK (by rw[q];simp)] at e;cases e)
  have hM:Mod K mg (hidT s₁.heap H):=⟨hKb,nsK hns,⟨mb,nsK hb,hbb⟩,let ⟨mc,h1,h2⟩:=hlim;⟨mc,nsK h1,h2⟩⟩
  have e0:Env0 P w K mg (hidT s₁.heap H) callerA [] s₁ H:=⟨rfl,hM,fun b o e=>zzj e,Nat.le_of_eq (ztt _ _),trivial,fun b hb=>absurd (show b∈([]:List Addr) from hb) (by simp),hok,.of_eq hg⟩
  refine codeAny_mono ((F _ hKb (nsK hns)).run callerA [] s₁ H ⟨[.ref a],[]⟩ [.ref a] [.ref a] _ _ hr e0 (hbind s₁ (.ref a)) (.cons rfl .nil) (hsp H hO hS)) fun r s' h=>?_
  cases r with
  | error e=>exact(hCX H e s' h).elim
  | ok fl =>
    cases fl with
    | next=>exact False.elim h
    | brk=>exact False.elim h
    | cont=>exact False.elim h
    | ret u =>
      obtain⟨v,H',os,bare,un,hok',r',q⟩:=h
      have q':v=.bl true:=q
      subst q'
      obtain rfl:u=Value.bool true:=r'
      refine⟨rfl,OldK.of_keep fun b o e=>?_,os,bare⟩
      cases q:H b with
      | none=>exact un.keep b o e q (by intro z;exact absurd (show b∈([]:List Addr) from z) (by simp)) (by simp)
      | some u =>
        rcases hO b with z | ⟨ob,xs,z⟩
        ·rw[q] at z;cases z
        ·have z2:=un.frzs b ob _ z
         obtain⟨e1,_⟩:=hok b _ z
         obtain⟨e2,_⟩:=hok' b _ z2
         rw[e] at e1;cases e1
         exact e2
 cases hk:K.lookup a with
 | some o =>
   have e:=KX a o hk
   rw[ha] at e
   cases e
   refine core (fun _=>none) (fun _=>.inl rfl) (.inr ⟨_,vs.toArray,_,hk,rfl,rfl,rfl,by rw[List.size_toArray,lenV];exact hl,by simpa using rv⟩) (fun b u z=>by have z':(none:Option HO)=some u:=z;cases z') (fun b z=>absurd rfl z) fun z=>absurd rfl z
 | none =>
   refine core (fun b=>if b=a then some (.frz { cls:=.type "list",data:=.seq vs.toArray } (.lst (ns.map V.int))) else none) (fun b=>?_) (.inl (.inr ⟨{ cls:=.type "list",data:=.seq vs.toArray },if_pos rfl⟩)) (fun b u z=>?_) (fun b z=>?_) fun _=>hk
   ·by_cases hb:b=a
    ·exact .inr ⟨_,_,if_pos hb⟩
    ·exact .inl (if_neg hb)
   ·by_cases hb:b=a
    ·have z':=(if_pos hb).symm.trans z
     cases z'
     subst hb
     exact⟨ha,by rw[List.length_map];exact hl,vs,_,rv,ha⟩
    ·have z':=(if_neg hb).symm.trans z
     cases z'
   ·by_cases hb:b=a
    ·exact hb
    ·exact absurd (if_neg hb) z
variable{l:Addr}{d:D}
theorem z0a{l:PySem.W.OpenLaw}{n:Nat}{q:Program}{loose:List Str}{XP:(Str->Option Value)->Heap->Prop}{YP:World->Heap->Prop}{d:DefRec}{K:Params->PySem.W.Frag}{CX:World->CXT}{sp:World->Sp}(hn:l.most=some n)(hn2:n<=sizeLine)(hdf:d.params.defaults=[])(hr:Room k callerA)(hY:∀(w:World) (h:Heap),YP w h->(K w.params).In h)(F:∀(w:World) (mg:Str->Option Value) (fa:Addr) (h:Heap),(K w.params).In h->h.Ns mainGlobals mg->mg d.name=some (.ref fa) ->
   ∃fd:FuncData,(∀(s:Shared) (u:Value),BindsTo s fd ⟨[u],[]⟩ [(x,u)]) /\
    ∀base:Heap,(K w.params).In base->base.Ns mainGlobals mg->FnOk l.prog w (K w.params) mg base (CX w) k fa fd [x] (sp w))(hsp:∀(w:World) (H:Hp) (a:Addr) (ns:List Int),ns.length<=n->Only H->SqL (K w.params) H a (ns.map V.int)->sp w [.ref a] H (fun v _=>v=.bl true) fun _ _ _=>False)(hCX:∀(w:World) (H:Hp) (s:Shared) (e:Value) (s':Shared),CX w [] H s (fun _ _ _=>False) e s'->False) :
  PySem.W.WalkO q loose XP YP l.row.toRowW d [] (fun f vs=>PySem.call f vs):=by
 refine Att.attach_call hn hdf fun w s₀ s₁ mg mb fa o pm cd doc a vs ns G Y ho hd hcd hmg hobj hints hlen hg=>?_
 have KX:=hY w _ Y
 obtain⟨fd,hb,hF⟩:=F w mg fa _ KX G.T.g hmg
 exact zws KX G.T.g G.T.b G.T.builtins G.T.nolimit hg hobj hints (Nat.le_trans hlen hn2) hr hF hb (fun H hO hS=>hsp w H a ns hlen hO hS) fun H e s'=>hCX w H s₁ e s'
def zhc(s:Stmt):Arguments:=match s with
 | .FunctionDef _ a _ _ _ _ _ _ _ _=>a
 | _=>{ posonlyargs:=[],args:=[],vararg:=none,kwonlyargs:=[],kw_defaults:=[],kwarg:=none,defaults:=[] }
def zb4(s:Stmt):List Stmt:=match s with
 | .FunctionDef _ _ b _ _ _ _ _ _ _=>b
 | _=>[]
def zaj(s:Stmt):Scope:=match s with
 | .FunctionDef _ _ _ _ _ _ sc _ _ _=>sc
 | _=>{ kind:=.function,names:=[],isGenerator:=false,isCoroutine:=false }
abbrev CX0:CXT:=fun _ _ _ _ _ _=>False
abbrev E0:XK:=fun _ _ _=>False
variable{X:Cx}
theorem zwt:zud CX0 X E0:=fun _ _ _ _ _ _ _ h=>h.elim
structure Fun (K:PySem.W.Frag) (x qual:Str) (st:Stmt) (f:Addr) (fd:FuncData):Prop where
 ex:∃(oc:Value) (od:Option Addr) (kV doc pm:Value) (an:Option Addr) (cdv ct:Value) (osl:Array (Option Value)),
  fd=PySem.W.fnOf x qual (zhc st) (zb4 st) (zaj st) .none kV doc pm an cdv ct/\K.lookup f=some ⟨oc,od,.func fd,osl⟩/\PySem.W.codeIn K cdv qual=true
 kp:PySem.W.keepIn K (.ref f)=true
variable{qual:Str}{st:Stmt}{f:Addr}{N:List Str}{ps:List Pt}{base:Heap}
theorem Fun.ok{ps:List Str}(F:Fun K x qual st f fd)(S:zfu N ps (zaj st))(len:∀vs H Q E,sp vs H Q E->vs.length=ps.length)(hbody:∀(cdv:Value) (A:Around) (outer:List Env) (s:Shared) (H:Hp) (vs:List V) (Q:VK) (E:XK),Room k (A.deeper (envOfC qual (zaj st) s.heap.objs.size f cdv))->sp vs H Q E ->
   ∃t,PSs (cxOf CX0 P w K mg base N qual (zaj st) f cdv A outer s H E).nox (zb4 st) t/\t { nx:=fun _ H'=>Q .non H',rt:=Q } (start N vs) H):FnOk P w K mg base CX0 (k+1) f fd ps sp:=by
 obtain⟨oc,od,kV,doc,pm,an,cdv,ct,osl,rfl,lk,hcd⟩:=F.ex
 refine z21 lk hcd S len fun A outer s H vs Q E hr hsp=>?_
 obtain⟨t,h,q⟩:=hbody cdv A outer s H vs Q E hr hsp
 exact⟨t,h.nox,q⟩
theorem zum{oc:Value}{od an:Option Addr}{osl:Array (Option Value)}{kV doc pm cdv ct:Value}(l:K.lookup f=some ⟨oc,od,.func (PySem.W.fnOf x qual (zhc st) (zb4 st) (zaj st) .none kV doc pm an cdv ct),osl⟩)(c:PySem.W.codeIn K cdv qual=true)(k:PySem.W.keepIn K (.ref f)=true):Fun K x qual st f (PySem.W.fnOf x qual (zhc st) (zb4 st) (zaj st) .none kV doc pm an cdv ct):=⟨⟨oc,od,kV,doc,pm,an,cdv,ct,osl,rfl,l,c⟩,k⟩
def Same(H H':Hp):Prop:=∀b o,H b=some o->H' b=some o
theorem Same.refl(H:Hp):Same H H:=fun _ _ h=>h
variable{H H1 H2:Hp}
theorem Same.trans(a:Same H H1)(b:Same H1 H2):Same H H2:=fun c o h=>b c o (a c o h)
variable{H':Hp}
theorem Same.free(e:Same H H')(h:H' l=Option.none):H l=Option.none:=by
 cases q:H l with
 | none=>rfl
 | some o =>
   rw[e l o q] at h
   cases h
theorem Same.seq{xs:List V}(e:Same H H')(h:SqL K H a xs):SqL K H' a xs:=by
 rcases h with(h | ⟨o,h⟩) | h
 ·exact .inl (.inl (e _ _ h))
 ·exact .inl (.inr ⟨o,e _ _ h⟩)
 ·exact .inr h
theorem zjl{env:Env}:∀(names:List (Str×NameKind)) (acc:List (Str×Addr)),
  (∀y∈names,y.2=.free->∃c,env.cells.lookup y.1=some c)->(∀y c,acc.lookup y=some c->env.cells.lookup y=some c) ->
  ∃cl,(forIn names acc fun(x:Str×NameKind) (cs:List (Str×Addr))=>if (x.2==NameKind.free)=true then(do let c ← cellOf env x.1;pure (ForInStep.yield ((x.1,c)::cs)):Sem _) else pure (ForInStep.yield cs))=pure cl /\
   (∀y c,cl.lookup y=some c->env.cells.lookup y=some c)/\(∀y c,acc.lookup y=some c->∃c',cl.lookup y=some c')/\∀y∈names,y.2=.free->∃c,cl.lookup y.1=some c
 | [],acc,_,ha=>⟨acc,rfl,ha,fun y c e=>⟨c,e⟩,fun _ h=>nomatch h⟩
 | (n,k)::r,acc,hn,ha=>by
   by_cases hk:k=.free
   ·subst hk
    obtain⟨c,hc⟩:=hn (n,.free) List.mem_cons_self rfl
    have hc:env.cells.lookup n=some c:=hc
    obtain⟨cl,e,h1,h2,h3⟩:=zjl r ((n,c)::acc) (fun y hy=>hn y (List.mem_cons_of_mem _ hy)) (fun y c' e=>by
     rw[List.lookup_cons] at e
     cases hq:y==n with
     | true=>rw[hq] at e;cases e;rw[eq_of_beq hq];exact hc
     | false=>rw[hq] at e;exact ha y c' e)
    have hself:List.lookup n ((n,c)::acc)=some c:=by simp[List.lookup_cons]
    refine⟨cl,?_,h1,fun y c' e'=>?_,fun y hy hf=>?_⟩
    ·rw[List.forIn_cons]
     have e1:cellOf env n=pure c:=by unfold cellOf;rw[hc]
     simp only[beq_self_eq_true,if_true,e1,pure_bind]
     exact e
    ·cases hq:y==n with
     | true=>rw[eq_of_beq hq];exact h2 n c hself
     | false=>exact h2 y c' (by rw[List.lookup_cons,hq];exact e')
    ·rcases List.mem_cons.mp hy with rfl | hy
     ·exact h2 n c hself
     ·exact h3 y hy hf
   ·obtain⟨cl,e,h1,h2,h3⟩:=zjl r acc (fun y hy=>hn y (List.mem_cons_of_mem _ hy)) ha
    refine⟨cl,?_,h1,h2,fun y hy hf=>?_⟩
    ·rw[List.forIn_cons]
     have hb:(k==NameKind.free)=false:=by cases k <;> first | rfl | exact absurd rfl hk
     simp only[hb,Bool.false_eq_true,if_false,pure_bind]
     exact e
    ·rcases List.mem_cons.mp hy with rfl | hy
     ·exact absurd hf hk
     ·exact h3 y hy hf
variable{sc:Scope}{env:DE0}
theorem znf{env:Env}(h:∀y∈sc.names,y.2=.free->∃c,env.cells.lookup y.1=some c) :
  ∃cl,closureFor sc env=pure cl/\(∀y c,cl.lookup y=some c->env.cells.lookup y=some c)/\∀y∈sc.names,y.2=.free->∃c,cl.lookup y.1=some c:=by
 obtain⟨cl,e,h1,_,h3⟩:=zjl (env:=env) sc.names [] h (fun y c e=>by simp at e)
 refine⟨cl,?_,h1,h3⟩
 unfold closureFor
 rw[show(pure cl:Sem _)=(pure cl >>= fun cs=>pure cs) by rw[pure_bind],← e]
theorem zdm{env:Env}:∀ {names:List (Str×NameKind)} {x:Str} {k:NameKind},
  (names.map fun(n,k)=>if (k==NameKind.free && env.scope.kind==.function && env.kindOf n==some .cell) then(n,NameKind.cell) else(n,k)).lookup x=some k ->
  names.lookup x=some k\/(names.lookup x=some .free/\k=.cell)
 | [],_,_,h=>by simp at h
 | (n,k0)::r,x,k,h=>by
   have ih:=@zdm env r x k
   have h:List.lookup x ((if (k0==NameKind.free && env.scope.kind==.function && env.kindOf n==some .cell)=true then(n,NameKind.cell) else(n,k0))::_)=_:=h
   cases hx:x==n with
   | true =>
     by_cases hc:(k0==NameKind.free && env.scope.kind==.function && env.kindOf n==some .cell)=true
     ·rw[if_pos hc] at h
      simp only[List.lookup_cons,hx] at h ⊢
      simp only[Bool.and_eq_true,beq_iff_eq] at hc
      cases h
      exact .inr ⟨by rw[hc.1.1],rfl⟩
     ·rw[if_neg hc] at h
      simp only[List.lookup_cons,hx] at h ⊢
      exact .inl h
   | false =>
     by_cases hc:(k0==NameKind.free && env.scope.kind==.function && env.kindOf n==some .cell)=true
     ·rw[if_pos hc] at h
      simp only[List.lookup_cons,hx] at h ⊢
      exact ih h
     ·rw[if_neg hc] at h
      simp only[List.lookup_cons,hx] at h ⊢
      exact ih h
theorem zci{env:Env}:∀ {names:List (Str×NameKind)} {x:Str},names.lookup x=some .free ->
  (names.map fun(n,k)=>if (k==NameKind.free && env.scope.kind==.function && env.kindOf n==some .cell) then(n,NameKind.cell) else(n,k)).lookup x=some .cell \/
  (names.map fun(n,k)=>if (k==NameKind.free && env.scope.kind==.function && env.kindOf n==some .cell) then(n,NameKind.cell) else(n,k)).lookup x=some .free
 | [],_,h=>by simp at h
 | (n,k0)::r,x,h=>by
   have ih:=@zci env r x
   show List.lookup x ((if (k0==NameKind.free && env.scope.kind==.function && env.kindOf n==some .cell)=true then(n,NameKind.cell) else(n,k0))::_)=_\/List.lookup x ((if (k0==NameKind.free && env.scope.kind==.function && env.kindOf n==some .cell)=true then(n,NameKind.cell) else(n,k0))::_)=_
   cases hx:x==n with
   | true =>
     simp only[List.lookup_cons,hx] at h
     cases h
     by_cases hc:(NameKind.free==NameKind.free && env.scope.kind==.function && env.kindOf n==some .cell)=true
     ·rw[if_pos hc];simp only[List.lookup_cons,hx];exact .inl trivial
     ·rw[if_neg hc];simp only[List.lookup_cons,hx];exact .inr trivial
   | false =>
     simp only[List.lookup_cons,hx] at h
     by_cases hc:(k0==NameKind.free && env.scope.kind==.function && env.kindOf n==some .cell)=true
     ·rw[if_pos hc];simp only[List.lookup_cons,hx];exact ih h
     ·rw[if_neg hc];simp only[List.lookup_cons,hx];exact ih h
def zaz(X:Cx)(x:Str)(N':List Str)(sc:Scope)(cl:List (Str×Addr))(C:Addr)(s₂:Shared)(H₂:Hp)(fp:List Addr):Cx :=
 { X with N:=x::N',s₀:=s₂,H₀:=H₂,env:=compEnvC sc cl C X.env,outer:=X.stack,stack:=X.stack,ex:=fp,fn:=fun _=>false,pn:=[],xe:=fun _ _=>False }
def PIfs(X:Cx)(ifs:List Expr)(tt:TT):Prop :=
 ∀(pins:List (Addr×Obj)) (s:Shared) (σ:St) (H:Hp) (Q:Bool->Hp->Prop),Inv X pins σ H s->tt σ H Q ->
  wpAny (model X.prog X.w) X.A (forIn ifs true fun c r=>if r=true then do let ok ← isTrue c X.env (eval c X.env);pure (ForInStep.yield ok) else pure (ForInStep.yield r)) (TP X pins σ Q) X.xe s
def tYes:TT:=fun _ H Q=>Q true H
theorem zwu:PIfs X [] tYes:=fun _ _ _ H _ I h=>wpAny_tests_nil ⟨H,I,h⟩
theorem zwv{c:Expr}{tc:TT}(h:PT X c tc):PIfs X [c] tc:=fun pins s σ H Q I q=>wpAny_tests_one (h pins s σ H Q I q)
def zs4(wi:TI)(ix:List Nat)(tt:TT)(te:TE):TE:=fun σ H Q=>wi σ H fun J H1=>∃W:Nat->Nat->Hp->List V->Prop,(∃m,W 0 m H1 [])/\∀i m H ys,W i m H ys ->
 (J.stop i H/\ys.length<=sizeLine/\∀D,H D=none->Q (.ref D) (upd H D (.lst ys))) \/
 (J.go i H/\∀x H',J.yld i H x H'->tt (some x::ix.map (fun j=>σ.getD j none)) H' fun b H2 =>
   if b=true then te (some x::ix.map (fun j=>σ.getD j none)) H2 fun v H3=>ys.length<sizeLine/\∃m',m'<m/\W (i+1) m' H3 (ys++[v]) else ∃m',m'<m/\W (i+1) m' H2 ys)
abbrev lobj(ys:List Value):Obj:={ cls:=.type "list",data:=.seq ys.toArray ys.length }
variable{pins:List (Addr×Obj)}{σ:St}{s2:Shared}{fp:List Addr}{cl:List (Str×Addr)}{h₁:Heap}{m₁:Str->Option Value}{ix:List Nat}{N':List Str}
theorem zun{tk:Nat}(hN:N'=ix.map fun i=>X.N.getD i ("" : Str))(hk:sc.kind=.function)(hcell:∀y∈sc.names,y.2≠.cell)(hfree:∀y∈sc.names,y.2=.free->X.env.kindOf y.1=some .cell\/X.env.kindOf y.1=some .free)(hfv:∀y∈N',sc.names.lookup y=some .free)(h1:∀y c,cl.lookup y=some c->X.env.cells.lookup y=some c)(h3:∀y∈sc.names,y.2=.free->∃c,cl.lookup y.1=some c)(I:Inv X pins σ H2 s2)(hf:∀b∈fp,FpOk X pins H2 b)(hfo:∀b∈fp,∃o,s2.heap.get? b=some o)(old:∀b o,s2.heap.get? b=some o->h₁.get? b=some o)(hns:h₁.Ns (s2.heap.objs.size+1) m₁)(hD:h₁.get? s2.heap.objs.size=some (lobj [])) :
  Inv (zaz X x N' sc cl (s2.heap.objs.size+1) s2 H2 fp) [(s2.heap.objs.size,lobj [])] (none::ix.map (fun j=>σ.getD j none)) H2 { s2 with heap:=h₁,toks:=tk }:=by
 have lts:∀b∈fp,b<s2.heap.objs.size:=fun b hb=>by obtain⟨o,e⟩:=hfo b hb;exact Heap.lt_size e
 have nstk:∀b,s2.heap.objs.size<=b->b∉frs X.stack:=fun b hb z=>by
  rcases List.mem_cons.mp (I.stkSub b z) with e | z
  ·exact absurd (Nat.lt_of_lt_of_le I.lt (e ▸ hb)) (Nat.lt_irrefl _)
  ·exact I.nofs hb z
 refine⟨⟨I.ok.mod,hk,I.ok.glob,I.ok.blt,Nat.le_succ _,fun y z c e1 e2=>I.ok.inj y z c (h1 _ _ e1) (h1 _ _ e2),fun y hy=>?_,fun y c z _=>(by cases z),I.ok.hd,I.ok.frames,.inl rfl,fun b hb=>⟨?_,fun y c e=>?_⟩,I.bs,Nat.le_trans I.ok.bsz I.sz,fun b o e hb=>?_,fun b hb z=>?_,I.stack,I.stkFree⟩,
  rfl,I.bare,Un.kept old,⟨m₁,hns,fun i y v e1 e2 e3=>?_⟩,fun y c e=>?_,I.hok.fresh (Nat.le_succ _),fun y c e=>I.freeC y c (h1 y c e),fun p hp=>?_,I.hok.kept old,?_⟩
 ·have hy':(relabel sc X.env).names.lookup y=some .cell\/(relabel sc X.env).names.lookup y=some .free:=hy
  have hq:sc.names.lookup y=some .free:=by
   rcases hy' with q | q
   ·rcases zdm q with q | ⟨q,_⟩
    ·exact absurd rfl (hcell _ (PySem.mem_of_lookup q))
    ·exact q
   ·rcases zdm q with q | ⟨_,q⟩
    ·exact q
    ·cases q
  exact h3 (y,.free) (PySem.mem_of_lookup hq) rfl
 ·exact Nat.ne_of_lt (Nat.lt_succ_of_lt (lts b hb))
 ·exact(hf b hb).2.2.2.2.1 y c (h1 y c e)
 ·rcases(hf b hb).2.2.2.1 with z | z
  ·exact I.ok.noex b o e z
  ·exact absurd (Nat.lt_of_lt_of_le (Heap.lt_size e) (Nat.le_trans I.ok.bsz z)) (Nat.lt_irrefl _)
 ·have z:b∈frs X.stack:=z
  rcases List.mem_cons.mp (I.stkSub b z) with e | z
  ·exact(hf b hb).2.1 e
  ·exact(hf b hb).2.2.1 z
 ·cases i with
  | zero=>simp at e2
  | succ j =>
    have e1:N'[j]?=some y:=by simpa[zaz] using e1
    have e2:(ix.map (fun j=>σ.getD j none))[j]?=some (some v):=by simpa using e2
    rw[hN,List.getElem?_map] at e1
    rw[List.getElem?_map] at e2
    cases q:ix[j]? with
    | none=>rw[q] at e1;cases e1
    | some k =>
      rw[q] at e1 e2
      have e1:X.N.getD k "" = y:=Option.some.inj e1
      have e2:σ.getD k none=some v:=Option.some.inj e2
      have e2':σ[k]?=some (some v):=by
       rw[List.getD_eq_getElem?_getD] at e2
       cases q2:σ[k]? with
       | none=>rw[q2] at e2;cases e2
       | some z=>rw[q2] at e2;rw[show z=some v from e2]
      have hlt:k<X.N.length:=by rw[← I.len];exact(List.getElem?_eq_some_iff.mp e2').1
      have e1':X.N[k]?=some y:=by
       rw[List.getD_eq_getElem?_getD,List.getElem?_eq_getElem hlt] at e1
       rw[List.getElem?_eq_getElem hlt];exact congrArg some e1
      have hyN:y∈N':=by
       rw[hN,← e1]
       exact List.mem_map.mpr ⟨k,List.mem_of_getElem? q,rfl⟩
      have hyf:=hfv y hyN
      have hkd:=hfree (y,.free) (PySem.mem_of_lookup hyf) rfl
      have hvis:Vis X.env.scope y:=by
       rcases hkd with z | z
       ·exact .inr (.inl z)
       ·exact .inr (.inr z)
      obtain⟨m,hn,hl⟩:=I.loc
      obtain⟨u,ru,lk⟩:=hl k y v e1' e2' hvis
      refine⟨u,ru,.inr ⟨?_,?_⟩⟩
      ·exact zci hyf
      ·rcases lk with⟨z,_⟩ | ⟨_,c,hc,hcv⟩
       ·rcases hkd with w | w <;> rw[show X.env.kindOf y=_ from w] at z <;> cases z
       ·obtain⟨c',hc'⟩:=h3 (y,.free) (PySem.mem_of_lookup hyf) rfl
        have:=h1 y c' hc'
        rw[hc] at this;cases this
        exact⟨c,hc',hcv.keeps old⟩
 ·obtain⟨v,q⟩:=I.cell y c (h1 y c e)
  exact⟨v,q.keeps old⟩
 ·have hp:p∈[(s2.heap.objs.size,lobj [])]:=hp
  rw[List.mem_singleton.mp hp]
  exact⟨hD,I.hok.fresh (Nat.le_refl _),Nat.ne_of_lt (Nat.lt_succ_self _),nstk _ (Nat.le_refl _),fun v z=>by cases z⟩
 ·simp[zaz,hN]
variable{ys:List V}{y:Str}
theorem Vals.snoc{y:V}{u:Value}(h:Vals ys vs)(r:RelV y u):Vals (ys++[y]) (vs++[u]):=Vals.append h (.cons r .nil)
theorem zuo(vs:List Value)(u:Value):({ cls:=.type "list",data:=.seq (vs.toArray.push u) (vs.length+1) }:Obj)=lobj (vs++[u]):=LCg.lst_snoc vs u
theorem zrj{σ':St}{s4:Shared}{h':Heap}(I:Inv X pins σ H2 s2)(hf:∀b∈fp,FpOk X pins H2 b)(hfo:∀b∈fp,∃o,s2.heap.get? b=some o)(J:Inv (zaz X x N' sc cl (s2.heap.objs.size+1) s2 H2 fp) [(s2.heap.objs.size,lobj vs)] σ' H' s4)(hv:Vals ys vs)(hl:ys.length<=sizeLine)(sb:Heap.SameBut (s2.heap.objs.size+1) s4.heap h') :
  Inv X pins σ (upd H' s2.heap.objs.size (.lst ys)) { s4 with heap:=h' }:=by
 have pD:=J.pin (s2.heap.objs.size,lobj vs) (List.mem_append_right _ List.mem_cons_self)
 have hDn:H' s2.heap.objs.size=none:=pD.2.1
 have hCn:H' (s2.heap.objs.size+1)=none:=J.free
 have u0:Un (frs X.stack) fp H2 H' s2.heap s4.heap:=J.base
 have ne:∀b o,s2.heap.get? b=some o->b≠s2.heap.objs.size/\b≠s2.heap.objs.size+1:=fun b o e=>by
  have:=Heap.lt_size e
  exact⟨Nat.ne_of_lt this,Nat.ne_of_lt (Nat.lt_succ_of_lt this)⟩
 have f2:∀b,s2.heap.objs.size<=b->H2 b=none:=fun b hb=>I.hok.fresh hb
 have ou:∀b o,H2 b=some o->b≠s2.heap.objs.size:=fun b o e z=>by rw[z,f2 _ (Nat.le_refl _)] at e;cases e
 have u1:Un (frs X.stack) fp H2 (upd H' s2.heap.objs.size (.lst ys)) s2.heap h':=by
  refine⟨fun b o e n hb hx=>(sb.2 b (ne b o e).2).trans (u0.keep b o e n hb hx),fun b o e n hb hx=>?_,fun b o e n hx=>?_,fun b o e hx=>?_,fun b xs e=>?_,fun b o u e=>?_,fun b ps e=>?_⟩
  ·obtain⟨sl,q⟩:=u0.slot b o e n hb hx
   exact⟨sl,(sb.2 b (ne b o e).2).trans q⟩
  ·rw[zaq (ne b o e).1];exact u0.free b o e n hx
  ·obtain⟨o',q⟩:=u0.there b o e hx
   exact⟨o',(sb.2 b (ne b o e).2).trans q⟩
  ·rw[zaq (ou b _ e)];exact u0.tups b xs e
  ·rw[zaq (ou b _ e)];exact u0.frzs b o u e
  ·rw[zaq (ou b _ e)];exact u0.tbls b ps e
 have kk:∀b u,b≠s2.heap.objs.size+1->s4.heap.get? b=some u->h'.get? b=some u:=fun b u hb q=>(sb.2 b hb).trans q
 have hok:HOk X.prog X.w (upd H' s2.heap.objs.size (.lst ys)) h':=fun b u e=>by
  by_cases hb:b=s2.heap.objs.size
  ·subst hb
   rw[za3] at e;cases e
   exact⟨hl,vs,vs.length,hv,kk _ _ (Nat.ne_of_lt (Nat.lt_succ_self _)) pD.1⟩
  ·rw[zaq hb] at e
   have nC:b≠s2.heap.objs.size+1:=fun z=>by rw[z,hCn] at e;cases e
   refine(J.hok b u e).stay (fun c v hc q=>kk c v ?_ q) (fun c q=>?_) fun c xs q=>?_
   ·rcases hc with rfl | hc
    ·exact nC
    ·intro z;rw[z,hCn] at hc;cases hc
   ·rw[zaq (fun z=>by rw[z,hDn] at q;cases q)];exact q
   ·rw[zaq (fun z=>by rw[z,hDn] at q;cases q)];exact q
 refine I.call' (s':={ s4 with heap:=h' }) (ch:=fp) J.os u1 hok J.bare fun b hb=>?_
 obtain⟨_,q1,_,q3,q4,q5⟩:=hf b hb
 exact⟨q3,q1,q4,q5⟩
variable{Q:Unit->Shared->Prop}{W:Addr->Prop}{Cm:Cx->Prop}{px pos:Pos}{iter elt:Expr}{ifs:List Expr}{tt:TT}{te:TE}
theorem zpi{it:Addr}{tn:Nat->Heap->Prop}{J:It}{Q:VK}{R:Result->Shared->Prop}{m0:Nat}{W:Nat->Nat->Hp->List V->Prop}(hc:∀cl C s₂ H₂ fp pins σ,Inv X pins σ H₂ s₂->(∀b∈fp,FpOk X pins H₂ b)->Cm (zaz X x N' sc cl C s₂ H₂ fp))(hif:∀cl C s₂ H₂ fp,Cm (zaz X x N' sc cl C s₂ H₂ fp)->PIfs (zaz X x N' sc cl C s₂ H₂ fp) ifs tt)(hel:∀cl C s₂ H₂ fp,Cm (zaz X x N' sc cl C s₂ H₂ fp)->PE (zaz X x N' sc cl C s₂ H₂ fp) elt te)(hN:N'=ix.map fun i=>X.N.getD i ("" : Str))(hnd:(x::N').Nodup)(hk:sc.kind=.function)(hx:sc.names.lookup x=some .local)(hcell:∀y∈sc.names,y.2≠.cell)(hnames:∀y∈sc.names,y.2=.local->sc.names.lookup y.1=some .local)(hfree:∀y∈sc.names,y.2=.free->X.env.kindOf y.1=some .cell\/X.env.kindOf y.1=some .free)(hfv:∀y∈N',sc.names.lookup y=some .free)(h1:∀y c,cl.lookup y=some c->X.env.cells.lookup y=some c)(h3:∀y∈sc.names,y.2=.free->∃c,cl.lookup y.1=some c)(I2:Inv X pins σ H2 s2)(T:zsr Cm X.prog X.w X.K (.Name x px) J fp it tn)(st2:tn 0 s2.heap)(f2:∀b∈fp,FpOk X pins H2 b)(w0:W 0 m0 H2 [])(turn:∀i m H ys,W i m H ys ->
   (J.stop i H/\ys.length<=sizeLine/\∀D,H D=none->Q (.ref D) (upd H D (.lst ys))) \/
   (J.go i H/\∀x H',J.yld i H x H'->tt (some x::ix.map (fun j=>σ.getD j none)) H' fun b H2 =>
     if b=true then te (some x::ix.map (fun j=>σ.getD j none)) H2 fun v H3=>ys.length<sizeLine/\∃m',m'<m/\W (i+1) m' H3 (ys++[v]) else ∃m',m'<m/\W (i+1) m' H2 ys))(old:∀b o,s2.heap.get? b=some o->h₁.get? b=some o)(hns₁:h₁.Ns (s2.heap.objs.size+1) m₁)(hacc:h₁.get? s2.heap.objs.size=some (lobj []))(hR:∀s5 H4 ys vs σ',Inv (zaz X x N' sc cl (s2.heap.objs.size+1) s2 H2 fp) [(s2.heap.objs.size,lobj vs)] σ' H4 s5->Vals ys vs->ys.length<=sizeLine->(∀D,H4 D=none->Q (.ref D) (upd H4 D (.lst ys)))->R (.ok .next) s5) :
  codeAny (model X.prog X.w) X.A (.compStart (.ListComp elt [⟨.Name x px,iter,ifs,0⟩] sc pos) 0 (.ref it) (.ref s2.heap.objs.size) (compEnvC sc cl (s2.heap.objs.size+1) X.env)) R { s2 with heap:=h₁,toks:=s2.toks+([]:List (Str×Value)).length }:=by
 have hfo:∀b∈fp,∃o,s2.heap.get? b=some o:=fun b hb=>by obtain⟨o,e,_⟩:=T.obj _ _ st2 b hb;exact⟨o,e⟩
 have lts:∀b∈fp,b<s2.heap.objs.size:=fun b hb=>by obtain⟨o,e⟩:=hfo b hb;exact Heap.lt_size e
 have I3:=zun (x:=x) (tk:=s2.toks+([]:List (Str×Value)).length) hN hk hcell hfree hfv h1 h3 I2 f2 hfo old hns₁ hacc
 have st3:tn 0 h₁:=T.keep _ _ _ st2 fun b hb o e=>old b o e
 generalize hX:zaz X x N' sc cl (s2.heap.objs.size+1) s2 H2 fp=X' at I3
 have eP:X'.prog=X.prog:=by rw[← hX];rfl
 have eW:X'.w=X.w:=by rw[← hX];rfl
 have eK:X'.K=X.K:=by rw[← hX];rfl
 have eA:X'.A=X.A:=by rw[← hX];rfl
 have eE:X'.env=compEnvC sc cl (s2.heap.objs.size+1) X.env:=by rw[← hX];rfl
 have eC:Cm X':=by rw[← hX];exact hc _ _ _ _ _ _ _ I2 f2
 have ePn:X'.pn=[]:=by rw[← hX];rfl
 have eXe:X'.xe=fun _ _=>False:=by rw[← hX];rfl
 have eFs:X'.fs=frs X.stack:=by rw[← hX];rfl
 have eEx:X'.ex=fp:=by rw[← hX];rfl
 have eN:X'.N=x::N':=by rw[← hX];rfl
 have eS:X'.s₀=s2:=by rw[← hX];rfl
 have nst:∀b∈fp,b∉frs X.stack:=fun b hb z=>by
  rcases List.mem_cons.mp (I2.stkSub b z) with e | z
  ·exact(f2 b hb).2.1 e
  ·exact(f2 b hb).2.2.1 z
 have nstD:s2.heap.objs.size∉frs X.stack:=fun z=>by
  rcases List.mem_cons.mp (I2.stkSub _ z) with e | z
  ·exact absurd (e ▸ I2.lt) (Nat.lt_irrefl _)
  ·exact I2.nofs (Nat.le_refl _) z
 have stat:∀ {H':Hp} {vs:List Value},(∀b∈fp,H' b=none)->∀b∈fp,FpOk X' [(s2.heap.objs.size,lobj vs)] H' b:=fun {H' vs} hn b hb=>by
  refine⟨hn b hb,?_,?_,.inl (by rw[eEx];exact hb),fun y c e=>?_,fun p hp=>?_⟩
  ·rw[eE];exact Nat.ne_of_lt (Nat.lt_succ_of_lt (lts b hb))
  ·rw[eFs];exact nst b hb
  ·rw[eE] at e;exact(f2 b hb).2.2.2.2.1 y c (h1 y c e)
  ·rw[ePn] at hp
   rw[List.mem_singleton.mp (show p∈[(s2.heap.objs.size,lobj vs)] from hp)]
   exact Nat.ne_of_gt (lts b hb)
 have loop:∀s₃:Shared,s₃={ s2 with heap:=h₁,toks:=s2.toks+([]:List (Str×Value)).length } ->
   codeAny (model X.prog X.w) X.A (.compLoop (.ListComp elt [⟨.Name x px,iter,ifs,0⟩] sc pos) 0 (.ref it) (.ref s2.heap.objs.size) (compEnvC sc cl (s2.heap.objs.size+1) X.env))
    (R) s₃:=by
  rintro s₃ rfl
  refine codeAny_compLoop_tests (fun n s'=>∃i σv H' ys vs,Inv X' [(s2.heap.objs.size,lobj vs)] (σv::ix.map (fun j=>σ.getD j none)) H' s'/\Vals ys vs/\tn i s'.heap/\(∀b∈fp,H' b=none)/\W i n H' ys) ?_ m0
   ⟨0,none,H2,[],[],I3,.nil,st3,fun b hb=>(f2 b hb).1,w0⟩
  rintro n s4 ⟨i,σv,H4,ys,vs,I4,hv4,st4,fr4,w4⟩
  rcases turn i n H4 ys w4 with⟨stop,hl,qn⟩ | ⟨go,step⟩
  ·have D:=T.done X' eP eW eK eC i _ s4 _ H4 (notedBy (model X.prog X.w) X.A (compEnvC sc cl (s2.heap.objs.size+1) X.env) fun e s'=>R (.error e) s') I4 (stat fr4) st4 stop
   rw[eA] at D
   refine thn D fun r s5 ⟨hr,I5⟩=>?_
   subst hr
   exact hR s5 H4 ys vs _ (hX ▸ I5) hv4 hl qn
  ·have D:=T.item X' eP eW eK eC i _ s4 _ H4 (notedBy (model X.prog X.w) X.A (compEnvC sc cl (s2.heap.objs.size+1) X.env) fun e s'=>R (.error e) s') I4 (stat fr4) st4 go
   rw[eA] at D
   refine thn D fun r s5 ⟨u,hr,h5⟩=>?_
   subst hr
   have key:wpAny (model X.prog X.w) X.A (letOwnedTupleGo (.Name x px) (.ref it) u >>= fun _=>assign (.Name x px) (compEnvC sc cl (s2.heap.objs.size+1) X.env) u) (fun _ s₂ =>
     wpAny (model X.prog X.w) X.A (forIn ifs true fun c r=>if r=true then do let ok ← isTrue c (compEnvC sc cl (s2.heap.objs.size+1) X.env) (eval c (compEnvC sc cl (s2.heap.objs.size+1) X.env));pure (ForInStep.yield ok) else pure (ForInStep.yield r)) (fun ok s₃ =>
      if ok=true then wpAny (model X.prog X.w) X.A (eval elt (compEnvC sc cl (s2.heap.objs.size+1) X.env)) (fun x s₄ =>
       wpAny (model X.prog X.w) X.A (call (.builtin "list.append") [.ref s2.heap.objs.size,x]) (fun _ s₅=>∃m,m<n/\∃i σv H' ys vs,Inv X' [(s2.heap.objs.size,lobj vs)] (σv::ix.map (fun j=>σ.getD j none)) H' s₅/\Vals ys vs/\tn i s₅.heap/\(∀b∈fp,H' b=none)/\W i m H' ys)
        (notedBy (model X.prog X.w) X.A (compEnvC sc cl (s2.heap.objs.size+1) X.env) fun e s'=>R (.error e) s') s₄)
       (notedBy (model X.prog X.w) X.A (compEnvC sc cl (s2.heap.objs.size+1) X.env) fun e s'=>R (.error e) s') s₃
      else ∃m,m<n/\∃i σv H' ys vs,Inv X' [(s2.heap.objs.size,lobj vs)] (σv::ix.map (fun j=>σ.getD j none)) H' s₃/\Vals ys vs/\tn i s₃.heap/\(∀b∈fp,H' b=none)/\W i m H' ys)
      (notedBy (model X.prog X.w) X.A (compEnvC sc cl (s2.heap.objs.size+1) X.env) fun e s'=>R (.error e) s') s₂)
     (notedBy (model X.prog X.w) X.A (compEnvC sc cl (s2.heap.objs.size+1) X.env) fun e s'=>R (.error e) s') s5:=by
    refine wpAny_bind (thn h5 fun _ s6 ⟨z,H6,I6,r6,y6,st6,fr6⟩=>?_)
    have I6':=I6.pinned (stat fr6) (T.obj _ _ st6)
    have q6:=step z H6 y6
    refine wpAny_assign_Name (?_:wpAny _ _ (storeName (compEnvC sc cl (s2.heap.objs.size+1) X.env) x u) _ _ s6)
    rw[← eE]
    refine zls (i:=0) I6' (by rw[eN];exact hnd) (by rw[eN];rfl) (.inl (by rw[eE];exact lookup_relabel_local hx)) r6 (fun s7 I7=>?_) (.inr (by rw[eE];exact lookup_relabel_local hx))
    have t7:=(hX ▸ hif cl (s2.heap.objs.size+1) s2 H2 fp (hc _ _ _ _ _ _ _ I2 f2):PIfs X' ifs tt) _ s7 _ H6 _ I7 q6
    rw[eP,eW,eA] at t7
    refine wpAny_mono t7 (fun b s8 ⟨H8,I8,q8⟩=>?_) (fun e s' z=>by rw[eXe] at z;exact z.elim)
    have keepT:∀ {s':Shared} {H':Hp} {σ':St},Inv X' ([(s2.heap.objs.size,lobj vs)]++zo7 fp s6.heap) σ' H' s'->tn (i+1) s'.heap/\∀b∈fp,H' b=none:=fun {s' H' σ'} J'=>by
     refine⟨T.keep _ _ _ st6 fun b hb o e=>(J'.pin (b,o) (List.mem_append_right _ (List.mem_append_right _ (zi5 hb e)))).1,fun b hb=>?_⟩
     obtain⟨o,e,d⟩:=T.obj _ _ st6 b hb
     exact(J'.pin (b,o) (List.mem_append_right _ (List.mem_append_right _ (zi5 hb e)))).2.1
    cases b with
    | false =>
      rw[if_neg Bool.false_ne_true] at q8 ⊢
      obtain⟨m',hm,w8⟩:=q8
      obtain⟨k1,k2⟩:=keepT I8
      exact⟨m',hm,i+1,some z,H8,ys,vs,I8.unpinned,hv4,k1,k2,w8⟩
    | true =>
      rw[if_pos rfl] at q8 ⊢
      have t8:=(hX ▸ hel cl (s2.heap.objs.size+1) s2 H2 fp (hc _ _ _ _ _ _ _ I2 f2):PE X' elt te) _ s8 _ H8 _ I8 q8
      rw[eP,eW,eA] at t8
      refine wpAny_mono t8 (fun v s9 ⟨y,H9,I9,r9,hsz,m',hm,w9⟩=>?_) (fun e s' z=>by rw[eXe] at z;exact z.elim)
      have pD:=I9.pin (s2.heap.objs.size,lobj vs) (List.mem_append_right _ (List.mem_append_left _ List.mem_cons_self))
      obtain⟨k1,k2⟩:=keepT I9
      have hvl:=hv4.length
      refine append_at (D:=s2.heap.objs.size) (its:=vs.toArray) (n:=vs.length) pD.1 (fun h' sb hD=>?_) (by rw[List.size_toArray];omega)
      have I9u:Inv X' [] (some z::ix.map (fun j=>σ.getD j none)) H9 s9:=I9.pins_of fun p hp=>nomatch hp
      have cne:∀y c,X'.env.cells.lookup y=some c->c≠s2.heap.objs.size:=fun y c e=>by
       rw[eE] at e
       obtain⟨v',q⟩:=I2.cell y c (h1 y c e)
       exact Nat.ne_of_lt q.lt
      have I10:Inv X' [] (some z::ix.map (fun j=>σ.getD j none)) H9 { s9 with heap:=h' }:=I9u.turned (t':=s9.toks) (it:=s2.heap.objs.size) (fun b o hb e=>(sb.2 b hb).trans e) pD.2.1 (by rw[eE];exact Nat.ne_of_lt (Nat.lt_succ_self _)) (.inr (by rw[eS];exact Nat.le_refl _)) cne (fun p hp=>by rw[ePn] at hp;exact nomatch hp)
      have I11:Inv X' [(s2.heap.objs.size,lobj (vs++[v]))] (some z::ix.map (fun j=>σ.getD j none)) H9 { s9 with heap:=h' }:=I10.pins_of fun p hp=>by
       rw[List.mem_singleton.mp hp]
       exact⟨hD.trans (congrArg some (zuo vs v)),pD.2.1,by rw[eE];exact Nat.ne_of_lt (Nat.lt_succ_self _),by rw[eFs];exact nstD,fun v' z'=>by cases z'⟩
      exact⟨m',hm,i+1,some z,H9,ys++[y],vs++[v],I11,hv4.snoc r9,T.keep _ _ _ k1 (fun b hb o e=>(sb.2 b (Nat.ne_of_lt (lts b hb))).trans e),k2,w9⟩
   exact key
 exact codeAny_compStart_list (loop _ rfl) (T.self X.A 0 _ _ _ st3 (loop _ rfl))
variable{h:Heap}
theorem Heap.SameBut.rf(e:∃o,h.get? a=some o):Heap.SameBut a h h:=by
 first | exact⟨rfl,fun _ _=>rfl⟩ | exact⟨e,fun _ _=>rfl⟩
structure zup (X:Cx) (x:Str) (N':List Str) (ix:List Nat) (sc:Scope):Prop where
 nm:N'=ix.map fun i=>X.N.getD i ("" : Str)
 nd:(x::N').Nodup
 kind:sc.kind=.function
 hx:sc.names.lookup x=some .local
 cell:∀y∈sc.names,y.2≠.cell
 names:∀y∈sc.names,y.2=.local->sc.names.lookup y.1=some .local
 free:∀y∈sc.names,y.2=.free->X.env.kindOf y.1=some .cell\/X.env.kindOf y.1=some .free
 fv:∀y∈N',sc.names.lookup y=some .free
variable{wi:TI}
theorem znv(c:zup X x N' ix sc)(hc:∀cl C s₂ H₂ fp pins σ,Inv X pins σ H₂ s₂->(∀b∈fp,FpOk X pins H₂ b)->Cm (zaz X x N' sc cl C s₂ H₂ fp))(hi:PIC Cm X (.Name x px) iter wi)(hif:∀cl C s₂ H₂ fp,Cm (zaz X x N' sc cl C s₂ H₂ fp)->PIfs (zaz X x N' sc cl C s₂ H₂ fp) ifs tt)(hel:∀cl C s₂ H₂ fp,Cm (zaz X x N' sc cl C s₂ H₂ fp)->PE (zaz X x N' sc cl C s₂ H₂ fp) elt te)(hs:∀v,foldedSetIterable iter X.env v=pure v:=by intro _;rfl) :
  PE X (.ListComp elt [⟨.Name x px,iter,ifs,0⟩] sc pos) (zs4 wi ix tt te):=by
 intro pins s σ H Q I h
 obtain⟨cl,hcl,h1,h3⟩:=znf (sc:=sc) (env:=X.env) (fun y hy hf=>I.ok.has y.1 (c.free y hy hf))
 rw[eval_ListComp]
 refine wpAny_comprehension_free (use:=none) rfl hs hcl c.kind c.names (thn (hi pins s σ H _ I h) fun v s1 g1=>thn g1 fun itv s2 h2=>?_)
 obtain⟨it,fp,tn,J,H2,rfl,I2,T,st2,f2,W,⟨m0,w0⟩,turn⟩:=h2
 refine wpAny_newObj_type (wpAny_newFunctionEnv c.cell (by intro y hy;simp at hy) (fun h₁ hns₁ hsb₁=>?_) c.kind)
 dsimp only at hns₁ hsb₁ ⊢
 have hCsz:(s2.heap.push { cls:=.type "list",dict:=none,data:=.seq ([]:List Value).toArray }).objs.size=s2.heap.objs.size+1:=Heap.size_push ..
 rw[hCsz] at hns₁ hsb₁ ⊢
 have old:∀b o,s2.heap.get? b=some o->h₁.get? b=some o:=fun b o e=>hsb₁.extBut b o (Nat.ne_of_lt (Nat.lt_succ_of_lt (Heap.lt_size e))) (Heap.get?_push_of_some _ (Heap.get?_push_of_some _ e))
 have hacc:h₁.get? s2.heap.objs.size=some (lobj []):=hsb₁.extBut _ _ (Nat.ne_of_lt (Nat.lt_succ_self _)) (Heap.get?_push_of_some _ (Heap.get?_push_size _ rfl))
 have hfo:∀b∈fp,∃o,s2.heap.get? b=some o:=fun b hb=>by obtain⟨o,e,_⟩:=T.obj _ _ st2 b hb;exact⟨o,e⟩
 refine zpi hc hif hel c.nm c.nd c.kind c.hx c.cell c.names c.free c.fv h1 h3 I2 T st2 f2 w0 turn old hns₁ hacc fun s5 H4 ys vs σ' I5 hv4 hl qn=>?_
 obtain⟨m5,hn5,_⟩:=I5.loc
 refine⟨m5,hn5,fun h' sb=>?_⟩
 have hDn:=(I5.pin (s2.heap.objs.size,lobj vs) (List.mem_append_right _ List.mem_cons_self)).2.1
 exact⟨.ref s2.heap.objs.size,_,zrj I2 f2 hfo I5 hv4 hl sb,rfl,qn _ hDn⟩
variable{i:Nat}
theorem zqj{py spos:Pos}(c:zup X x N' ix sc)(hc:∀cl C s₂ H₂ fp pins σ,Inv X pins σ H₂ s₂->(∀b∈fp,FpOk X pins H₂ b)->Cm (zaz X x N' sc cl C s₂ H₂ fp))(hnN:X.N.Nodup)(hiy:X.N[i]?=some y)(hly:Loc X.env.scope y)(hi:PIC Cm X (.Name x px) iter wi)(hif:∀cl C s₂ H₂ fp,Cm (zaz X x N' sc cl C s₂ H₂ fp)->PIfs (zaz X x N' sc cl C s₂ H₂ fp) ifs tt)(hel:∀cl C s₂ H₂ fp,Cm (zaz X x N' sc cl C s₂ H₂ fp)->PE (zaz X x N' sc cl C s₂ H₂ fp) elt te)(hsw:swapsWith (.ListComp elt [⟨.Name x px,iter,ifs,0⟩] sc pos) (some (.Name y py)) spos.line X.env=pure true)(hf:X.fn y=true\/X.env.scope.names.lookup y=some .local:=by first | exact .inl rfl | exact .inr rfl | assumption)(hs:∀v,foldedSetIterable iter X.env v=pure v:=by intro _;rfl) :
  PS X (.Assign [.Name y py] (.ListComp elt [⟨.Name x px,iter,ifs,0⟩] sc pos) spos) (tAsg (zs4 wi ix tt te) (zhb i)):=by
 intro pins s σ H Dn I h
 have h:zs4 wi ix tt te σ H fun v H1=>Dn.nx (σ.set i (some v)) H1:=h
 obtain⟨cl,hcl,h1,h3⟩:=znf (sc:=sc) (env:=X.env) (fun y hy hf=>I.ok.has y.1 (c.free y hy hf))
 rw[exec_Assign_Name_used _ _ _ _ hsw]
 refine wpAny_bind (wpAny_standAt (wpAny_bind ?_))
 show wpAny _ X.A (do let _ ← comprehension (.ListComp elt [⟨.Name x px,iter,ifs,0⟩] sc pos) sc X.env _ (newList []) false (eval iter X.env) (some (assign (.Name y py) X.env))) _ _ s
 refine wpAny_bind (wpAny_mono (wpAny_comprehension_free (use:=some (assign (.Name y py) X.env)) (Q:=fun _ s'=>SP X pins Dn .next s') rfl hs hcl c.kind c.names
  (thn (hi pins s σ H _ I h) fun v s1 g1=>thn g1 fun itv s2 h2=>?_)) (fun _ s' hq=>wpAny_pure (wpAny_pure hq)) fun _ _ e=>e)
 obtain⟨it,fp,tn,J,H2,rfl,I2,T,st2,f2,W,⟨m0,w0⟩,turn⟩:=h2
 refine wpAny_newObj_type (wpAny_newFunctionEnv c.cell (by intro y hy;simp at hy) (fun h₁ hns₁ hsb₁=>?_) c.kind)
 dsimp only at hns₁ hsb₁ ⊢
 have hCsz:(s2.heap.push { cls:=.type "list",dict:=none,data:=.seq ([]:List Value).toArray }).objs.size=s2.heap.objs.size+1:=Heap.size_push ..
 rw[hCsz] at hns₁ hsb₁ ⊢
 have old:∀b o,s2.heap.get? b=some o->h₁.get? b=some o:=fun b o e=>hsb₁.extBut b o (Nat.ne_of_lt (Nat.lt_succ_of_lt (Heap.lt_size e))) (Heap.get?_push_of_some _ (Heap.get?_push_of_some _ e))
 have hacc:h₁.get? s2.heap.objs.size=some (lobj []):=hsb₁.extBut _ _ (Nat.ne_of_lt (Nat.lt_succ_self _)) (Heap.get?_push_of_some _ (Heap.get?_push_size _ rfl))
 have hfo:∀b∈fp,∃o,s2.heap.get? b=some o:=fun b hb=>by obtain⟨o,e,_⟩:=T.obj _ _ st2 b hb;exact⟨o,e⟩
 refine zpi (Q:=fun v H1=>Dn.nx (σ.set i (some v)) H1) hc hif hel c.nm c.nd c.kind c.hx c.cell c.names c.free c.fv h1 h3 I2 T st2 f2 w0 turn old hns₁ hacc fun s5 H4 ys vs σ' I5 hv4 hl qn=>?_
 obtain⟨m5,hn5,_⟩:=I5.loc
 have hn5:s5.heap.Ns (s2.heap.objs.size+1) m5:=hn5
 have hDn:=(I5.pin (s2.heap.objs.size,lobj vs) (List.mem_append_right _ List.mem_cons_self)).2.1
 have oC:∃o,s5.heap.get? (s2.heap.objs.size+1)=some o:=let ⟨o,_,_,e,_⟩:=hn5;⟨o,e⟩
 have I6:Inv X pins σ (upd H4 s2.heap.objs.size (.lst ys)) { s5 with heap:=s5.heap }:=zrj I2 f2 hfo I5 hv4 hl (Heap.SameBut.rf oC)
 show wpAny _ X.A (assign (.Name y py) X.env (.ref s2.heap.objs.size)) _ _ s5
 have HC:upd H4 s2.heap.objs.size (.lst ys) (s2.heap.objs.size+1)=none:=by rw[zaq (Nat.ne_of_gt (Nat.lt_succ_self _))];exact I5.free
 have ltC:∀a o,s2.heap.get? a=some o->s2.heap.objs.size+1≠a:=fun a o e=>Nat.ne_of_gt (Nat.lt_succ_of_lt (Heap.lt_size e))
 have oL:∃o,s2.heap.get? X.env.locals=some o:=let ⟨m,hn,_⟩:=I2.loc;let ⟨o,_,_,e,_⟩:=hn;⟨o,e⟩
 have cL:s2.heap.objs.size+1≠X.env.locals:=let ⟨o,e⟩:=oL;ltC _ o e
 have cC:∀z c',X.env.cells.lookup z=some c'->c'≠s2.heap.objs.size+1:=fun z c' e=>by
  obtain⟨v',o,e',_⟩:=I2.cell z c' e
  exact Ne.symm (ltC _ o e')
 refine wpAny_assign_Name (zo4 (v:=.ref s2.heap.objs.size) I6 hnN hiy hly rfl (fun s7 I7 ⟨a,sb,ha⟩=>?_) hf)
 have naC:s2.heap.objs.size+1≠a:=by
  rcases ha with rfl | ha
  ·exact cL
  ·exact Ne.symm (cC _ _ ha)
 refine⟨m5,hn5.sameBut sb naC,fun h' sb'=>?_⟩
 refine⟨_,_,I7.turned (t':=s7.toks) (it:=s2.heap.objs.size+1) (fun b o hb e=>(sb'.2 b hb).trans e) HC cL (.inr ?_) cC (fun p hp=>?_),qn _ hDn⟩
 ·exact Nat.le_succ_of_le I2.sz
 ·exact Ne.symm (ltC _ _ (I2.pin p hp).1)
def z0b(X:Cx)(xs N':List Str)(sc:Scope)(cl:List (Str×Addr))(C:Addr)(s₂:Shared)(H₂:Hp)(fp:List Addr):Cx :=
 { X with N:=xs++N',s₀:=s₂,H₀:=H₂,env:=compEnvC sc cl C X.env,outer:=X.stack,stack:=X.stack,ex:=fp,fn:=fun _=>false,pn:=[],xe:=fun _ _=>False }
structure z5g (X:Cx) (xs N':List Str) (ix:List Nat) (sc:Scope):Prop where
 nm:N'=ix.map fun i=>X.N.getD i ("" : Str)
 nd:(xs++N').Nodup
 kind:sc.kind=.function
 hx:∀y∈xs,sc.names.lookup y=some .local
 cell:∀y∈sc.names,y.2≠.cell
 names:∀y∈sc.names,y.2=.local->sc.names.lookup y.1=some .local
 free:∀y∈sc.names,y.2=.free->X.env.kindOf y.1=some .cell\/X.env.kindOf y.1=some .free
 fv:∀y∈N',sc.names.lookup y=some .free
inductive D where
 | non | bl (b:Bool) | int (i:Int) | str (s:Str) | tup (ds:List D) | lst (ds:List D)
 | dct (ks:List Int) (ds:List D)
 | exc (a:Addr)
inductive Im where
 | t (vs:List V) | d (kvs:List (Key×V))
@[reducible] def Im.out:Im->HO | .t vs=>.tup vs | .d kvs=>.dK kvs
def dkv(ks:List Int)(vs:List V):List (Key×V):=ks.zipWith (fun k v=>(Sum.inl k,v)) vs
def KL(K:PySem.W.Frag)(a:Addr)(xs:List V):Prop :=
 ∃(o:Obj) (its:Array Value) (n:Nat),K.lookup a=some o/\o.cls=.type "list"/\o.dict=none/\o.data=.seq its n/\its.size<=sizeLine/\Vals xs its.toList
mutual
inductive Rep (K:PySem.W.Frag) (H:Hp) (O:Addr->Prop):D->V->Prop
 | non:Rep K H O .non .non
 | bl (b:Bool):Rep K H O (.bl b) (.bl b)
 | int (i:Int):Rep K H O (.int i) (.int i)
 | str (s:Str):Rep K H O (.str s) (.str s)
 | tup {a:Addr} {vs:List V} {ds:List D}:H a=some (.tup vs)->Reps K H O ds vs->Rep K H O (.tup ds) (.ref a)
 | lst {a:Addr} {vs:List V} {ds:List D}:O a->Rd H a (.lst vs)->Reps K H O ds vs->Rep K H O (.lst ds) (.ref a)
 | klst {a:Addr} {vs:List V} {ds:List D}:KL K a vs->Reps K H O ds vs->Rep K H O (.lst ds) (.ref a)
 | dct {a:Addr} {ks:List Int} {vs:List V} {ds:List D}:H a=some (.dK (dkv ks vs))->Reps K H O ds vs->Rep K H O (.dct ks ds) (.ref a)
 | exc (a:Addr):Rep K H O (.exc a) (.ref a)
inductive Reps (K:PySem.W.Frag) (H:Hp) (O:Addr->Prop):List D->List V->Prop
 | nil:Reps K H O [] []
 | cons {d:D} {v:V} {ds:List D} {vs:List V}:Rep K H O d v->Reps K H O ds vs->Reps K H O (d::ds) (v::vs)
end
mutual
theorem Rep.mono (ht:∀a (u:Im),H a=some u.out->H' a=some u.out) (hl:∀a vs,O a->Rd H a (.lst vs)->O' a/\Rd H' a (.lst vs)):∀ {d:D} {v:V},Rep K H O d v->Rep K H' O' d v
 | _,_,.non=>.non
 | _,_,.bl b=>.bl b
 | _,_,.int i=>.int i
 | _,_,.str s=>.str s
 | _,_,.tup h r=>.tup (ht _ (.t _) h) (Reps.mono ht hl r)
 | _,_,.lst o h r=>.lst (hl _ _ o h).1 (hl _ _ o h).2 (Reps.mono ht hl r)
 | _,_,.klst h r=>.klst h (Reps.mono ht hl r)
 | _,_,.dct h r=>.dct (ht _ (.d _) h) (Reps.mono ht hl r)
 | _,_,.exc a=>.exc a
theorem Reps.mono (ht:∀a (u:Im),H a=some u.out->H' a=some u.out) (hl:∀a vs,O a->Rd H a (.lst vs)->O' a/\Rd H' a (.lst vs)):∀ {ds:List D} {vs:List V},Reps K H O ds vs->Reps K H' O' ds vs
 | _,_,.nil=>.nil
 | _,_,.cons r t=>.cons (Rep.mono ht hl r) (Reps.mono ht hl t)
end
variable{O:Addr->Prop}
theorem Reps.length:∀ {ds:List D} {vs:List V},Reps K H O ds vs->ds.length=vs.length
 | _,_,.nil=>rfl
 | _,_,.cons _ t=>by rw[List.length_cons,List.length_cons,Reps.length t]
theorem Reps.get:∀ {ds:List D} {vs:List V} {i:Nat} {d:D},Reps K H O ds vs->ds[i]?=some d->∃v,vs[i]?=some v/\Rep K H O d v
 | _,_,_,_,.nil,e=>by simp at e
 | _,_,0,_,.cons r _,e=>by simp at e;subst e;exact⟨_,rfl,r⟩
 | _,_,i+1,d,.cons _ t,e=>by
   obtain⟨u,h1,h2⟩:=Reps.get (i:=i) (d:=d) t (by simpa using e)
   exact⟨u,by simpa using h1,h2⟩
theorem Reps.append:∀ {ds es:List D} {vs ws:List V},Reps K H O ds vs->Reps K H O es ws->Reps K H O (ds++es) (vs++ws)
 | _,_,_,_,.nil,s=>s
 | _,_,_,_,.cons r t,s=>.cons r (Reps.append t s)
theorem Reps.take:∀ {ds:List D} {vs:List V} (n:Nat),Reps K H O ds vs->Reps K H O (ds.take n) (vs.take n)
 | _,_,0,_=>.nil
 | _,_,_+1,.nil=>.nil
 | _,_,n+1,.cons r t=>.cons r (Reps.take n t)
theorem Reps.drop:∀ {ds:List D} {vs:List V} (n:Nat),Reps K H O ds vs->Reps K H O (ds.drop n) (vs.drop n)
 | _,_,0,r=>r
 | _,_,_+1,.nil=>.nil
 | _,_,n+1,.cons _ t=>Reps.drop n t
theorem Reps.set{d:D}{v:V}(r:Rep K H O d v):∀ {ds:List D} {vs:List V} (i:Nat),Reps K H O ds vs->Reps K H O (ds.set i d) (vs.set i v)
 | _,_,_,.nil=>.nil
 | _,_,0,.cons _ t=>.cons r t
 | _,_,i+1,.cons q t=>.cons q (Reps.set r i t)
theorem Reps.eraseIdx:∀ {ds:List D} {vs:List V} (i:Nat),Reps K H O ds vs->Reps K H O (ds.eraseIdx i) (vs.eraseIdx i)
 | _,_,_,.nil=>.nil
 | _,_,0,.cons _ t=>t
 | _,_,i+1,.cons q t=>.cons q (Reps.eraseIdx i t)
theorem Reps.dropLast:∀ {ds:List D} {vs:List V},Reps K H O ds vs->Reps K H O ds.dropLast vs.dropLast
 | _,_,.nil=>.nil
 | _,_,.cons _ .nil=>.nil
 | _,_,.cons r (.cons q t)=>.cons r (Reps.dropLast (.cons q t))
variable{vs:List V}{ds:List D}
theorem Reps.reverse(h:Reps K H O ds vs):Reps K H O ds.reverse vs.reverse:=by
 induction ds generalizing vs with
 | nil=>cases h;exact .nil
 | cons d ds ih =>
   cases h with
   | cons r t=>rw[List.reverse_cons,List.reverse_cons];exact(ih t).append (.cons r .nil)
variable{v:V}
theorem Rep.int_{i:Int}(h:Rep K H O (.int i) v):v=.int i:=by cases h;rfl
theorem Rep.bl_{i:Bool}(h:Rep K H O (.bl i) v):v=.bl i:=by cases h;rfl
theorem Rep.non_(h:Rep K H O .non v):v=.non:=by cases h;rfl
theorem Rep.tup_(h:Rep K H O (.tup ds) v):∃a vs,v=.ref a/\H a=some (.tup vs)/\Reps K H O ds vs:=by cases h with | tup a b=>exact⟨_,_,rfl,a,b⟩
def LsOk(K:PySem.W.Frag)(H:Hp)(O:Addr->Prop)(a:Addr)(vs:List V):Prop:=(O a/\Rd H a (.lst vs))\/KL K a vs
theorem LsOk.sq(h:LsOk K H O a vs):SqL K H a vs:=h.elim (fun z=>.inl z.2) .inr
theorem Rep.lst_(h:Rep K H O (.lst ds) v):∃a vs,v=.ref a/\LsOk K H O a vs/\Reps K H O ds vs:=by
 cases h with
 | lst o a b=>exact⟨_,_,rfl,.inl ⟨o,a⟩,b⟩
 | klst a b=>exact⟨_,_,rfl,.inr a,b⟩
inductive Mo where
 | l (vs:List V) | i (C dx:Addr) (fs:List (Str×V))
@[reducible] def Mo.out:Mo->HO | .l vs=>.lst vs | .i C dx fs=>.ins C dx fs
inductive Pt where
 | d (d:D) | o (ds:List D)
inductive AK where
 | ls | ins (b:Bool) (c:Str) (fs:List Str)
inductive Sl where
 | sh (d:D) | ow (ds:List D) | o2 (dss:List (List D)) | ag (k:AK) (r:Option Nat) (ps:List Pt) | al (r j:Nat) | ro (k:AK) (ps:List Pt)
structure Gd where
 g:Addr->Prop
 r:Nat->List Addr
instance:CoeFun Gd (fun _=>Addr->Prop):=⟨Gd.g⟩
abbrev gd(g:Addr->Prop):Gd:=⟨g,fun _=>[]⟩
abbrev DE0:=List (Option Sl)
def Ow(G:Gd)(W:Addr->Prop):Addr->Prop:=fun a=>G a/\¬W a
def Inn(K:PySem.W.Frag)(G:Gd)(W:Addr->Prop)(H:Hp)(dss:List (List D))(ls:List Addr):Prop :=
 ls.length=dss.length/\∀(j:Nat) (ds:List D) (a:Addr),dss[j]?=some ds->ls[j]?=some a->W a/\∃vs,H a=some (.lst vs)/\Reps K H (Ow G W) ds vs
inductive PtsOk (K:PySem.W.Frag) (G:Gd) (W:Addr->Prop) (H:Hp):List Pt->List Addr->List V->Prop
 | nil:PtsOk K G W H [] [] []
 | d {d:D} {v:V} {ps:List Pt} {as:List Addr} {us:List V}:Rep K H (Ow G W) d v->PtsOk K G W H ps as us->PtsOk K G W H (.d d::ps) as (v::us)
 | o {ds:List D} {a:Addr} {vs:List V} {ps:List Pt} {as:List Addr} {us:List V}:W a->H a=some (.lst vs)->Reps K H (Ow G W) ds vs->PtsOk K G W H ps as us->PtsOk K G W H (.o ds::ps) (a::as) (.ref a::us)
inductive PtsRo (K:PySem.W.Frag) (G:Gd) (W:Addr->Prop) (H:Hp):List Pt->List V->Prop
 | nil:PtsRo K G W H [] []
 | d {d:D} {v:V} {ps:List Pt} {us:List V}:Rep K H (Ow G W) d v->PtsRo K G W H ps us->PtsRo K G W H (.d d::ps) (v::us)
 | o {ds:List D} {a:Addr} {vs:List V} {ps:List Pt} {us:List V}:¬W a->H a=some (.lst vs)->Reps K H (Ow G W) ds vs->PtsRo K G W H ps us->PtsRo K G W H (.o ds::ps) (.ref a::us)
def AkOk(K:PySem.W.Frag)(H:Hp):AK->Addr->List V->Prop
 | .ls,p,us=>H p=some (.lst us)
 | .ins _ c fs,p,us=>∃C dx,PySem.W.nsIn K mainGlobals c=some (some (.ref C))/\H p=some (.ins C dx (fs.zip us))/\fs.length=us.length
def Lab:AK->List Addr->Addr->List Addr->Prop
 | .ins true _ _,l,p,_=>l=[p]
 | _,l,p,as=>l=p::as
def SlOk(K:PySem.W.Frag)(G:Gd)(W:Addr->Prop)(H:Hp):Sl->V->Prop
 | .sh d,v=>Rep K H (Ow G W) d v
 | .ow ds,v=>∃l vs,v=.ref l/\W l/\H l=some (.lst vs)/\Reps K H (Ow G W) ds vs
 | .o2 dss,v=>∃(l:Addr) (ls:List Addr),v=.ref l/\W l/\H l=some (.lst (ls.map V.ref))/\(l::ls).Nodup/\Inn K G W H dss ls
 | .ag k r ps,v=>∃(p:Addr) (as:List Addr) (us:List V),v=.ref p/\W p/\(p::as).Nodup/\(∀n,r=some n->Lab k (G.r n) p as)/\AkOk K H k p us/\PtsOk K G W H ps as us
 | .al r j,v=>∃p as a,G.r r=p::as/\as[j]?=some a/\v=.ref a
 | .ro k ps,v=>∃(p:Addr) (us:List V),v=.ref p/\¬W p/\AkOk K H k p us/\PtsRo K G W H ps us
def zww:List Pt->List V->Addr->Prop:=fun ps us a=>∃(j:Nat) (ds:List D),ps[j]?=some (.o ds)/\us[j]?=some (.ref a)
def AkH(H:Hp):AK->Addr->List V->Prop
 | .ls,p,us=>H p=some (.lst us)
 | .ins _ _ fs,p,us=>fs.length=us.length/\∃C dx,H p=some (.ins C dx (fs.zip us))
def Owns(H:Hp):Sl->V->Addr->Prop
 | .sh _,_,_=>False
 | .ow _,v,a=>v=.ref a
 | .o2 _,v,a=>v=.ref a\/∃(l:Addr) (ls:List Addr),v=.ref l/\H l=some (.lst (ls.map V.ref))/\a∈ls
 | .ag k _ ps,v,a=>v=.ref a\/∃(p:Addr) (us:List V),v=.ref p/\AkH H k p us/\zww ps us a
 | .al _ _,_,_=>False
 | .ro _ _,_,_=>False
structure Ok (K:PySem.W.Frag) (G:Gd) (H0:Hp) (W:Addr->Prop) (env:DE0) (σ:St) (H:Hp):Prop where
 stay:Same H0 H
 good:∀a,H0 a=none->G a
 wl:∀l,W l->H0 l=none/\∃m:Mo,H l=some m.out
 slot:∀(i:Nat) (s:Sl),env[i]?=some (some s)->∃v,σ[i]?=some (some v)/\SlOk K G W H s v
 uniq:∀(i j:Nat) (s s':Sl) (v v':V) (a:Addr),env[i]?=some (some s)->env[j]?=some (some s')->σ[i]?=some (some v)->σ[j]?=some (some v')->Owns H s v a->Owns H s' v' a->i=j
 len:env.length=σ.length
variable{ls:List Addr}
theorem zgb{ls':List Addr}(h:ls.map V.ref=ls'.map V.ref):ls=ls':=by
 induction ls generalizing ls' with
 | nil=>cases ls' with | nil=>rfl | cons b r=>cases h
 | cons a t ih=>cases ls' with | nil=>cases h | cons b r=>simp only[List.map_cons,List.cons.injEq,V.ref.injEq] at h;rw[h.1,ih h.2]
variable{G:Gd}{as:List Addr}{us:List V}
theorem PtsOk.own(h:PtsOk K G W H ps as us)(ha:a∈as):W a/\∃vs,H a=some (.lst vs):=by
 induction h with
 | nil=>cases ha
 | d _ _ ih=>exact ih ha
 | o hW hl _ _ ih =>
   rcases List.mem_cons.mp ha with rfl | ha
   ·exact⟨hW,_,hl⟩
   ·exact ih ha
theorem PtsOk.parts_iff(h:PtsOk K G W H ps as us):zww ps us a↔a∈as:=by
 induction h with
 | nil=>exact⟨fun⟨j,ds,e,_⟩=>by simp at e,fun z=>by cases z⟩
 | d _ _ ih =>
   rw[← ih]
   constructor
   ·rintro⟨j,ds,e1,e2⟩
    cases j with
    | zero=>simp at e1
    | succ j=>exact⟨j,ds,by simpa using e1,by simpa using e2⟩
   ·rintro⟨j,ds,e1,e2⟩
    exact⟨j+1,ds,by simpa using e1,by simpa using e2⟩
 | o _ _ _ _ ih =>
   rw[List.mem_cons,← ih]
   constructor
   ·rintro⟨j,ds,e1,e2⟩
    cases j with
    | zero=>simp at e2;exact .inl e2.symm
    | succ j=>exact .inr ⟨j,ds,by simpa using e1,by simpa using e2⟩
   ·rintro(rfl | ⟨j,ds,e1,e2⟩)
    ·exact⟨0,_,rfl,rfl⟩
    ·exact⟨j+1,ds,by simpa using e1,by simpa using e2⟩
variable{G':Gd}{W':Addr->Prop}
theorem PtsOk.step(h:PtsOk K G W H ps as us)(k:∀a vs,a∈as->H a=some (.lst vs)->W' a/\H' a=some (.lst vs))(r:∀d v,Rep K H (Ow G W) d v->Rep K H' (Ow G' W') d v)(rs:∀ds vs,Reps K H (Ow G W) ds vs->Reps K H' (Ow G' W') ds vs):PtsOk K G' W' H' ps as us:=by
 induction h with
 | nil=>exact .nil
 | d q _ ih=>exact .d (r _ _ q) (ih k)
 | o hW hl q _ ih =>
   obtain⟨w1,w2⟩:=k _ _ List.mem_cons_self hl
   exact .o w1 w2 (rs _ _ q) (ih fun a vs ha=>k a vs (List.mem_cons_of_mem _ ha))
theorem PtsRo.step(h:PtsRo K G W H ps us)(k:∀a vs,¬W a->H a=some (.lst vs)->¬W' a/\H' a=some (.lst vs))(r:∀d v,Rep K H (Ow G W) d v->Rep K H' (Ow G' W') d v)(rs:∀ds vs,Reps K H (Ow G W) ds vs->Reps K H' (Ow G' W') ds vs):PtsRo K G' W' H' ps us:=by
 induction h with
 | nil=>exact .nil
 | d q _ ih=>exact .d (r _ _ q) ih
 | o hW hl q _ ih=>obtain⟨w1,w2⟩:=k _ _ hW hl;exact .o w1 w2 (rs _ _ q) ih
variable{j:Nat}
theorem PtsRo.get(h:PtsRo K G W H ps us)(e:ps[j]?=some (.o ds)):∃a vs,us[j]?=some (.ref a)/\¬W a/\H a=some (.lst vs)/\Reps K H (Ow G W) ds vs:=by
 induction h generalizing j with
 | nil=>simp at e
 | d _ _ ih =>
   cases j with
   | zero=>simp at e
   | succ j=>obtain⟨a,vs,h1,h2⟩:=ih (j:=j) (by simpa using e);exact⟨a,vs,by simpa using h1,h2⟩
 | @o _ a vs _ _ hW hl r _ ih =>
   cases j with
   | zero=>simp at e;subst e;exact⟨a,vs,rfl,hW,hl,r⟩
   | succ j=>obtain⟨a,vs,h1,h2⟩:=ih (j:=j) (by simpa using e);exact⟨a,vs,by simpa using h1,h2⟩
theorem PtsRo.getD(h:PtsRo K G W H ps us)(e:ps[j]?=some (.d d)):∃v,us[j]?=some v/\Rep K H (Ow G W) d v:=by
 induction h generalizing j with
 | nil=>simp at e
 | d q _ ih =>
   cases j with
   | zero=>simp at e;subst e;exact⟨_,rfl,q⟩
   | succ j=>obtain⟨a,h1,h2⟩:=ih (j:=j) (by simpa using e);exact⟨a,by simpa using h1,h2⟩
 | o _ _ _ _ ih =>
   cases j with
   | zero=>simp at e
   | succ j=>obtain⟨a,h1,h2⟩:=ih (j:=j) (by simpa using e);exact⟨a,by simpa using h1,h2⟩
variable{k:AK}{p:Addr}
theorem zl8{us':List V}(h:AkOk K H k p us)(h':AkH H k p us'):us'=us:=by
 cases k with
 | ls=>have h:H p=_:=h;have h':H p=_:=h';rw[h] at h';cases h';rfl
 | ins b c fs =>
   obtain⟨C,dx,_,z2,z3⟩:=h
   obtain⟨l',C',dx',e⟩:=h'
   rw[z2] at e
   have e:fs.zip us=fs.zip us':=by injection e with e;injection e
   have:=congrArg (List.map Prod.snd) e
   rw[List.map_snd_zip (by omega),List.map_snd_zip (by omega)] at this
   exact this.symm
protected theorem AkOk.o{K:PySem.W.Frag}{H:Hp}{k:AK}{p:Addr}{us:List V}(h:AkOk K H k p us):AkH H k p us:=by
 cases k with
 | ls=>exact h
 | ins b c fs=>obtain⟨C,dx,_,z2,z3⟩:=h;exact⟨z3,C,dx,z2⟩
theorem AkOk.mo(h:AkOk K H k p us):∃m:Mo,H p=some m.out/\∀H',H' p=some m.out->AkOk K H' k p us:=by
 cases k with
 | ls=>exact⟨.l us,h,fun H' e=>e⟩
 | ins b c fs=>obtain⟨C,dx,z1,z2,z3⟩:=h;exact⟨.i C dx (fs.zip us),z2,fun H' e=>⟨C,dx,z1,e,z3⟩⟩
variable{s:Sl}
theorem SlOk.owns(h:SlOk K G W H s v)(o:Owns H s v a):W a:=by
 cases s with
 | sh d=>exact o.elim
 | ow ds=>obtain⟨l,vs,e,hW,_⟩:=h;rw[show v=.ref a from o] at e;cases e;exact hW
 | o2 dss =>
   obtain⟨l,ls,e,hW,hl,nd,hi⟩:=h
   rcases o with o | ⟨l',ls',e',hl',ha⟩
   ·rw[o] at e;cases e;exact hW
   ·rw[e] at e';cases e'
    rw[hl] at hl'
    have:=zgb (by simpa using hl')
    subst this
    obtain⟨j,hj,e2⟩:=List.getElem_of_mem ha
    have hj':j<dss.length:=by rw[← hi.1];exact hj
    exact(hi.2 j dss[j] a (by simp[hj']) (by simp[hj,e2])).1
 | ag k r ps =>
   obtain⟨p,as,us,e,hW,nd,hr,hk,hp⟩:=h
   rcases o with o | ⟨p',us',e',hk',ha⟩
   ·rw[o] at e;cases e;exact hW
   ·rw[e] at e';cases e'
    rw[zl8 hk hk'] at ha
    exact(hp.own (hp.parts_iff.mp ha)).1
 | al _ _=>exact o.elim
 | ro _ _=>exact o.elim
theorem SlOk.back(h:SlOk K G W H s v)(k:∀l,v=.ref l->W l->∀m:Mo,H l=some m.out->H' l=some m.out)(o:Owns H' s v a):Owns H s v a:=by
 cases s with
 | sh d=>exact o.elim
 | ow ds=>exact o
 | o2 dss =>
   obtain⟨l,ls,e,hW,hl,nd,hi⟩:=h
   rcases o with o | ⟨l',ls',e',hl',ha⟩
   ·exact .inl o
   ·rw[e] at e';cases e'
    rw[k l e hW (.l _) hl] at hl'
    have:=zgb (by simpa using hl')
    subst this
    exact .inr ⟨l,ls,e,hl,ha⟩
 | ag q r ps =>
   obtain⟨p,as,us,e,hW,nd,hr,hk,hp⟩:=h
   rcases o with o | ⟨p',us',e',hk',ha⟩
   ·exact .inl o
   ·rw[e] at e';cases e'
    obtain⟨m,m1,m2⟩:=hk.mo
    rw[zl8 (m2 H' (k p e hW m m1)) hk'] at ha
    exact .inr ⟨p,us,e,hk.o,ha⟩
 | al _ _=>exact o.elim
 | ro _ _=>exact o.elim
structure Step (W:Addr->Prop) (H:Hp) (W':Addr->Prop) (H':Hp):Prop where
 keep:∀b o,H b=some o->¬W b->H' b=some o
 ws:∀l,W' l->W l\/H l=none
theorem Step.refl:Step W H W H:=⟨fun _ _ e _=>e,fun _ h=>.inl h⟩
theorem Step.trans{W1 W2:Addr->Prop}(a:Step W H W1 H1)(b:Step W1 H1 W2 H2):Step W H W2 H2 where
 keep:=fun c o e n=>b.keep c o (a.keep c o e n) fun z=>(a.ws c z).elim n fun q=>by rw[q] at e;cases e
 ws:=fun l h=>by
  rcases b.ws l h with z | z
  ·exact a.ws l z
  ·by_cases n:W l
   ·exact .inl n
   ·cases e:H l with
    | none=>exact .inr rfl
    | some o=>rw[a.keep l o e n] at z;cases z
theorem Step.same(h:Same H H'):Step W H W H':=⟨fun b o e _=>h b o e,fun _ h=>.inl h⟩
variable{H0:Hp}
theorem Ok.wkeep(ok:Ok K G H0 W env σ H)(st:Step W H W' H'):∀b o,H b=some o->(∀m:Mo,o≠m.out)->H' b=some o:=fun b o e n =>
 st.keep b o e fun z=>by obtain⟨_,m,q⟩:=ok.wl b z;rw[e] at q;exact n m (Option.some.inj q)
theorem Rd.keep{u:HO}(h:Rd H a u)(k:∀o,H a=some o->H' a=some o):Rd H' a u:=by
 rcases h with h | ⟨o,h⟩
 ·exact .inl (k _ h)
 ·exact .inr ⟨o,k _ h⟩
theorem Ok.tstep(ok:Ok K G H0 W env σ H)(st:Step W H W' H'):∀a vs,H a=some (.tup vs)->H' a=some (.tup vs):=fun _ _ h=>ok.wkeep st _ _ h fun m z=>by cases m <;> cases z
theorem Ok.istep(ok:Ok K G H0 W env σ H)(st:Step W H W' H'):∀a (u:Im),H a=some u.out->H' a=some u.out:=fun _ u h=>ok.wkeep st _ _ h fun m z=>by cases u <;> cases m <;> cases z
theorem Ok.lstep(ok:Ok K G H0 W env σ H)(st:Step W H W' H'):∀a vs,Ow G W a->Rd H a (.lst vs)->Ow G W' a/\Rd H' a (.lst vs):=fun a vs o h=>by
 refine⟨⟨o.1,fun z=>?_⟩,h.keep fun u e=>st.keep a u e o.2⟩
 rcases st.ws a z with q | q
 ·exact o.2 q
 ·rcases h with h | ⟨_,h⟩ <;> rw[q] at h <;> cases h
theorem Ok.lsstep(ok:Ok K G H0 W env σ H)(st:Step W H W' H')(h:LsOk K H (Ow G W) a vs):LsOk K H' (Ow G W') a vs:=h.elim (fun z=>.inl (ok.lstep st a vs z.1 z.2)) .inr
theorem Ok.rep(ok:Ok K G H0 W env σ H)(st:Step W H W' H')(r:Rep K H (Ow G W) d v):Rep K H' (Ow G W') d v:=r.mono (ok.istep st) (ok.lstep st)
theorem Ok.reps(ok:Ok K G H0 W env σ H)(st:Step W H W' H'){d:List D}{v:List V}(r:Reps K H (Ow G W) d v):Reps K H' (Ow G W') d v:=r.mono (ok.istep st) (ok.lstep st)
variable{dss:List (List D)}
theorem Inn.step(h:Inn K G W H dss ls)(k:∀a vs,W a->a∈ls->H a=some (.lst vs)->H' a=some (.lst vs))(w:∀a,W a->a∈ls->W' a)(r:∀ds vs,Reps K H (Ow G W) ds vs->Reps K H' (Ow G W') ds vs):Inn K G W' H' dss ls :=
 ⟨h.1,fun j ds a e1 e2=>by
  obtain⟨hW,vs,ha,rp⟩:=h.2 j ds a e1 e2
  exact⟨w a hW (List.mem_of_getElem? e2),vs,k a vs hW (List.mem_of_getElem? e2) ha,r ds vs rp⟩⟩
theorem Ok.slstep(ok:Ok K G H0 W env σ H)(st:Step W H W' H')(h:SlOk K G W H s v)(k:∀a (m:Mo),Owns H s v a->H a=some m.out->W' a/\H' a=some m.out):SlOk K G W' H' s v:=by
 cases s with
 | sh d=>exact ok.rep st h
 | ow ds =>
   obtain⟨l,vs,e,hW,hl,r⟩:=h
   obtain⟨h1,h2⟩:=k l (.l vs) e hl
   exact⟨l,vs,e,h1,h2,ok.reps st r⟩
 | o2 dss =>
   obtain⟨l,ls,e,hW,hl,nd,hi⟩:=h
   obtain⟨h1,h2⟩:=k l (.l _) (.inl e) hl
   have ik:∀a vs,a∈ls->H a=some (.lst vs)->W' a/\H' a=some (.lst vs):=fun a vs ha e2=>k a (.l vs) (.inr ⟨l,ls,e,hl,ha⟩) e2
   refine⟨l,ls,e,h1,h2,nd,hi.1,fun j ds a e1 e2=>?_⟩
   obtain⟨_,vs,ha,rp⟩:=hi.2 j ds a e1 e2
   obtain⟨k1,k2⟩:=ik a vs (List.mem_of_getElem? e2) ha
   exact⟨k1,vs,k2,ok.reps st rp⟩
 | ag q r ps =>
   obtain⟨p,as,us,e,hW,nd,hr,hk,hp⟩:=h
   obtain⟨m,m1,m2⟩:=hk.mo
   obtain⟨h1,h2⟩:=k p m (.inl e) m1
   exact⟨p,as,us,e,h1,nd,hr,m2 H' h2,hp.step (fun a vs ha e2=>k a (.l vs) (.inr ⟨p,us,e,hk.o,hp.parts_iff.mpr ha⟩) e2) (fun _ _ r=>ok.rep st r) fun _ _ r=>ok.reps st r⟩
 | al _ _=>exact h
 | ro q ps =>
   obtain⟨p,us,e,hW,hk,hp⟩:=h
   have nw:∀a o,¬W a->H a=some o->¬W' a:=fun a o n e z=>(st.ws a z).elim n fun y=>by rw[y] at e;cases e
   obtain⟨m,m1,m2⟩:=hk.mo
   exact⟨p,us,e,nw p _ hW m1,m2 H' (st.keep p _ m1 hW),hp.step (fun a vs na e2=>⟨nw a _ na e2,st.keep a _ e2 na⟩) (fun _ _ r=>ok.rep st r) fun _ _ r=>ok.reps st r⟩
theorem Ok.same(ok:Ok K G H0 W env σ H)(s:Same H H'):Ok K G H0 W env σ H':=by
 have st:Step W H W H':=Step.same s
 have bk:∀ {i:Nat} {sl:Sl} {v:V} {a:Addr},env[i]?=some (some sl)->σ[i]?=some (some v)->Owns H' sl v a->Owns H sl v a:=fun {i sl v a} e e1 o=>by
  obtain⟨v',e2,h⟩:=ok.slot i sl e
  rw[e1] at e2;cases e2
  exact h.back (fun l _ _ vs q=>s l _ q) o
 refine⟨ok.stay.trans s,ok.good,fun l h=>?_,fun i sl e=>?_,fun i j s1 s2 v1 v2 a e1 e2 e3 e4 o1 o2=>ok.uniq i j s1 s2 v1 v2 a e1 e2 e3 e4 (bk e1 e3 o1) (bk e2 e4 o2),ok.len⟩
 ·obtain⟨a,vs,b⟩:=ok.wl l h
  exact⟨a,vs,s _ _ b⟩
 ·obtain⟨v,e1,h⟩:=ok.slot i sl e
  exact⟨v,e1,ok.slstep st h fun a vs o e2=>⟨h.owns o,s _ _ e2⟩⟩
theorem zb8{o:HO}(h:H a=none):Same H (upd H a o):=fun b u e=>by rw[zaq (zbh e h)];exact e
def addW(W:Addr->Prop)(l:Addr):Addr->Prop:=fun a=>W a\/a=l
theorem Ok.fresh0(ok:Ok K G H0 W env σ H)(s:Same H H')(hl:H l=none)(hl':H' l=some (.lst vs)) :
  ¬W l/\H0 l=none/\Ok K G H0 (addW W l) env σ H'/\Step W H (addW W l) H':=by
 have n0:H0 l=none:=ok.stay.free hl
 have nW:¬W l:=fun z=>by obtain⟨_,vs,q⟩:=ok.wl l z;rw[hl] at q;cases q
 have st:Step W H (addW W l) H':=⟨fun b o e _=>s b o e,fun a z=>z.elim .inl fun q=>.inr (by rw[q];exact hl)⟩
 have ok':=ok.same s
 refine⟨nW,n0,⟨ok.stay.trans s,ok.good,fun a z=>?_,fun i sl e=>?_,ok'.uniq,ok.len⟩,st⟩
 ·rcases z with z | rfl
  ·obtain⟨q,us,b⟩:=ok.wl a z
   exact⟨q,us,s _ _ b⟩
  ·exact⟨n0,.l vs,hl'⟩
 ·obtain⟨v,e1,h⟩:=ok.slot i sl e
  exact⟨v,e1,ok.slstep st h fun a vs o e2=>⟨.inl (h.owns o),s _ _ e2⟩⟩
theorem Ok.fresh(ok:Ok K G H0 W env σ H)(s:Same H H')(hl:H l=none)(hl':H' l=some (.lst vs))(r:Reps K H' (fun a=>(Ow G W a\/H a=none)/\a≠l) ds vs) :
  ¬W l/\H0 l=none/\Ok K G H0 (addW W l) env σ H'/\Reps K H' (Ow G (addW W l)) ds vs/\Step W H (addW W l) H':=by
 have n0:H0 l=none:=ok.stay.free hl
 have nW:¬W l:=fun z=>by obtain⟨_,vs,q⟩:=ok.wl l z;rw[hl] at q;cases q
 have st:Step W H (addW W l) H':=⟨fun b o e _=>s b o e,fun a z=>z.elim .inl fun q=>.inr (by rw[q];exact hl)⟩
 have wH:∀a,W a->H a≠none:=fun a z q=>by obtain⟨_,vs,e⟩:=ok.wl a z;rw[q] at e;cases e
 have ok':=ok.same s
 refine⟨nW,n0,⟨ok.stay.trans s,ok.good,fun a z=>?_,fun i sl e=>?_,ok'.uniq,ok.len⟩,r.mono (fun _ _ h=>h) fun a us o h=>⟨⟨?_,?_⟩,h⟩,st⟩
 ·rcases z with z | rfl
  ·obtain⟨q,us,b⟩:=ok.wl a z
   exact⟨q,us,s _ _ b⟩
  ·exact⟨n0,.l vs,hl'⟩
 ·obtain⟨v,e1,h⟩:=ok.slot i sl e
  exact⟨v,e1,ok.slstep st h fun a vs o e2=>⟨.inl (h.owns o),s _ _ e2⟩⟩
 ·rcases o.1 with q | q
  ·exact q.1
  ·exact ok.good a (ok.stay.free q)
 ·rintro(z | z)
  ·rcases o.1 with q | q
   ·exact q.2 z
   ·exact wH a z q
  ·exact o.2 z
theorem Ok.noOwn(ok:Ok K G H0 W env σ H)(nW:¬W l):∀(j:Nat) (s:Sl) (v:V),env[j]?=some (some s)->σ[j]?=some (some v)->¬Owns H s v l:=fun j s v e e1 o=>by
 obtain⟨v',e2,h⟩:=ok.slot j s e
 rw[e1] at e2;cases e2
 exact nW (h.owns o)
variable{α:Type}
theorem zlu{N:List α}(hN:N.Nodup){x:α}(a:N[i]?=some x)(b:N[j]?=some x):i=j:=by
 obtain⟨h1,e1⟩:=List.getElem?_eq_some_iff.mp a
 obtain⟨h2,e2⟩:=List.getElem?_eq_some_iff.mp b
 exact(List.getElem_inj hN).mp (e1.trans e2.symm)
theorem zfv{xs:List α}{x y:α}(h:(xs.set i x)[j]?=some y):(i=j/\y=x/\i<xs.length)\/(i≠j/\xs[j]?=some y):=by
 by_cases hj:i=j
 ·subst hj
  by_cases hi:i<xs.length
  ·rw[List.getElem?_set_self hi] at h;cases h;exact .inl ⟨rfl,rfl,hi⟩
  ·rw[List.getElem?_eq_none (by rw[List.length_set];omega)] at h;cases h
 ·rw[List.getElem?_set_ne hj] at h;exact .inr ⟨hj,h⟩
theorem Ok.put(ok:Ok K G H0 W env σ H)(h:SlOk K G W H s v)(no:∀(j:Nat) (s':Sl) (v':V) (a:Addr),env[j]?=some (some s')->σ[j]?=some (some v')->Owns H s v a->¬Owns H s' v' a) :
  Ok K G H0 W (env.set i (some s)) (σ.set i (some v)) H:=by
 refine⟨ok.stay,ok.good,ok.wl,fun j sl e=>?_,fun j k s1 s2 v1 v2 a e1 e2 e3 e4 o1 o2=>?_,by rw[List.length_set,List.length_set,ok.len]⟩
 ·rcases zfv e with⟨rfl,q,hi⟩ | ⟨hj,q⟩
  ·cases q
   exact⟨v,List.getElem?_set_self (by rw[← ok.len];exact hi),h⟩
  ·obtain⟨u,e1,r⟩:=ok.slot j sl q
   exact⟨u,by rw[List.getElem?_set_ne hj];exact e1,r⟩
 ·rcases zfv e1 with⟨a1,b1,c1⟩ | ⟨a1,b1⟩ <;> rcases zfv e2 with⟨a2,b2,c2⟩ | ⟨a2,b2⟩
  ·rw[← a1,← a2]
  ·subst a1
   cases b1
   rw[List.getElem?_set_self (by rw[← ok.len];exact c1)] at e3;cases e3
   rw[List.getElem?_set_ne a2] at e4
   exact absurd o2 (no k s2 v2 a b2 e4 o1)
  ·subst a2
   cases b2
   rw[List.getElem?_set_self (by rw[← ok.len];exact c2)] at e4;cases e4
   rw[List.getElem?_set_ne a1] at e3
   exact absurd o1 (no j s1 v1 a b1 e3 o2)
  ·rw[List.getElem?_set_ne a1] at e3
   rw[List.getElem?_set_ne a2] at e4
   exact ok.uniq j k s1 s2 v1 v2 a b1 b2 e3 e4 o1 o2
theorem Ok.set(ok:Ok K G H0 W env σ H)(r:Rep K H (Ow G W) d v):Ok K G H0 W (env.set i (some (.sh d))) (σ.set i (some v)) H :=
 ok.put (s:=.sh d) r fun _ _ _ _ _ _ o=>o.elim
theorem Ok.setO(ok:Ok K G H0 W env σ H)(hW:W l)(hl:H l=some (.lst vs))(r:Reps K H (Ow G W) ds vs)(no:∀(j:Nat) (s:Sl) (v:V),env[j]?=some (some s)->σ[j]?=some (some v)->¬Owns H s v l) :
  Ok K G H0 W (env.set i (some (.ow ds))) (σ.set i (some (.ref l))) H :=
 ok.put (s:=.ow ds) ⟨l,vs,rfl,hW,hl,r⟩ fun j s' v' a e e1 o=>by
  have:l=a:=by have o:V.ref l=V.ref a:=o;simpa using o
  subst this
  exact no j s' v' e e1
theorem Ok.let(ok:Ok K G H0 W env σ H)(e:env[i]?=some (some s))(e1:σ[i]?=some (some v))(W':Addr->Prop)(hW:∀a,W' a↔W a/\¬Owns H s v a)(r:Rep K H (Ow G W') d v) :
  Step W H W' H/\Ok K G H0 W' (env.set i (some (.sh d))) σ H:=by
 have st:Step W H W' H:=⟨fun b o q _=>q,fun a z=>.inl ((hW a).mp z).1⟩
 have hi:i<env.length:=(List.getElem?_eq_some_iff.mp e).1
 refine⟨st,⟨ok.stay,ok.good,fun a z=>ok.wl a ((hW a).mp z).1,fun j sl q=>?_,fun j k s1 s2 v1 v2 a q1 q2 q3 q4 o1 o2=>?_,by rw[List.length_set,ok.len]⟩⟩
 ·rcases zfv q with⟨rfl,q',_⟩ | ⟨hj,q'⟩
  ·cases q'
   exact⟨v,e1,r⟩
  ·obtain⟨u,e2,h⟩:=ok.slot j sl q'
   exact⟨u,e2,ok.slstep st h fun a vs o q2=>⟨(hW a).mpr ⟨h.owns o,fun z=>hj (ok.uniq i j s sl v u a e q' e1 e2 z o)⟩,q2⟩⟩
 ·rcases zfv q1 with⟨_,b1,_⟩ | ⟨a1,b1⟩
  ·cases b1;exact o1.elim
  ·rcases zfv q2 with⟨_,b2,_⟩ | ⟨a2,b2⟩
   ·cases b2;exact o2.elim
   ·exact ok.uniq j k s1 s2 v1 v2 a b1 b2 q3 q4 o1 o2
theorem Ok.share(ok:Ok K G H0 W env σ H)(e:env[i]?=some (some (.ow ds))) :
  ∃W' v,σ[i]?=some (some v)/\Step W H W' H/\Ok K G H0 W' (env.set i (some (.sh (.lst ds)))) σ H/\Rep K H (Ow G W') (.lst ds) v:=by
 obtain⟨v,e1,l,vs,rfl,hW,hl,r⟩:=ok.slot i _ e
 have rp:Rep K H (Ow G fun a=>W a/\¬Owns H (.ow ds) (.ref l) a) (.lst ds) (.ref l) :=
  .lst ⟨ok.good l (ok.wl l hW).1,fun z=>z.2 rfl⟩ (.inl hl) (r.mono (fun _ _ h=>h) fun a us o h=>⟨⟨o.1,fun z=>o.2 z.1⟩,h⟩)
 obtain⟨st,ok'⟩:=ok.let e e1 _ (fun a=>Iff.rfl) rp
 exact⟨_,.ref l,e1,st,ok',rp⟩
theorem znw:∀ {dss:List (List D)} {ls:List Addr},Inn K G W H dss ls->(∀a,a∈ls->W a->G a/\¬W' a)->(∀ds vs,Reps K H (Ow G W) ds vs->Reps K H (Ow G W') ds vs)->Reps K H (Ow G W') (dss.map D.lst) (ls.map V.ref)
 | [],[],_,_,_=>.nil
 | [],_::_,h,_,_=>by have:=h.1;cases this
 | _::_,[],h,_,_=>by have:=h.1;cases this
 | ds::dss,a::ls,h,g,r=>by
   obtain⟨hW,vs,ha,rp⟩:=h.2 0 ds a rfl rfl
   refine .cons (.lst (g a List.mem_cons_self hW) (.inl ha) (r _ _ rp)) (znw (dss:=dss) (ls:=ls) ⟨Nat.succ.inj h.1,fun j ds' a' e1 e2=>h.2 (j+1) ds' a' (by simpa using e1) (by simpa using e2)⟩ (fun a' ha'=>g a' (List.mem_cons_of_mem _ ha')) r)
theorem Ok.share2(ok:Ok K G H0 W env σ H)(e:env[i]?=some (some (.o2 dss))) :
  ∃W' v,σ[i]?=some (some v)/\Step W H W' H/\Ok K G H0 W' (env.set i (some (.sh (.lst (dss.map D.lst))))) σ H/\Rep K H (Ow G W') (.lst (dss.map D.lst)) v:=by
 obtain⟨v,e1,l,ls,rfl,hW,hl,nd,hi⟩:=ok.slot i _ e
 have rp:Rep K H (Ow G fun a=>W a/\¬Owns H (.o2 dss) (.ref l) a) (.lst (dss.map D.lst)) (.ref l) :=
  .lst ⟨ok.good l (ok.wl l hW).1,fun z=>z.2 (.inl rfl)⟩ (.inl hl) (znw hi (fun a ha wa=>⟨ok.good a (ok.wl a wa).1,fun z=>z.2 (.inr ⟨l,ls,rfl,hl,ha⟩)⟩) fun ds vs r=>r.mono (fun _ _ h=>h) fun a us o h=>⟨⟨o.1,fun z=>o.2 z.1⟩,h⟩)
 obtain⟨st,ok'⟩:=ok.let e e1 _ (fun a=>Iff.rfl) rp
 exact⟨_,.ref l,e1,st,ok',rp⟩
theorem Ok.chg(ok:Ok K G H0 W env σ H){s':Sl}(m':Mo)(e:env[i]?=some (some s))(e1:σ[i]?=some (some v))(ho:Owns H s v a)(hs:SlOk K G W (upd H a m'.out) s' v)(hb:∀b,Owns (upd H a m'.out) s' v b->Owns H s v b):Ok K G H0 W (env.set i (some s')) σ (upd H a m'.out)/\Step W H W (upd H a m'.out):=by
 have hWa:W a:=by obtain⟨v',e2,h⟩:=ok.slot i s e;rw[e1] at e2;cases e2;exact h.owns ho
 have st:Step W H W (upd H a m'.out):=⟨fun b o q n=>by rw[zaq (fun z:b=a=>n (by rw[z];exact hWa))];exact q,fun b z=>.inl z⟩
 have ne:∀ {j:Nat} {sl:Sl} {u:V} {b:Addr},i≠j->env[j]?=some (some sl)->σ[j]?=some (some u)->Owns H sl u b->b≠a:=fun {j sl u b} hj q q1 o z=>by
  subst z
  exact hj (ok.uniq i j s sl v u b e q e1 q1 ho o)
 have bk:∀ {j:Nat} {sl:Sl} {u:V} {b:Addr},i≠j->env[j]?=some (some sl)->σ[j]?=some (some u)->Owns (upd H a m'.out) sl u b->Owns H sl u b:=fun {j sl u b} hj q q1 o=>by
  obtain⟨u',q2,h⟩:=ok.slot j sl q
  rw[q1] at q2;cases q2
  cases sl with
  | sh d=>exact o.elim
  | ow ds=>exact o
  | o2 dss=>exact h.back (fun l q3 _ vs q4=>by rw[zaq (ne hj q q1 (.inl q3))];exact q4) o
  | ag k p ps=>exact h.back (fun l q3 _ vs q4=>by rw[zaq (ne hj q q1 (.inl q3))];exact q4) o
  | al _ _=>exact o.elim
  | ro _ _=>exact o.elim
 refine⟨⟨fun b o q=>?_,ok.good,fun b z=>?_,fun j sl q=>?_,fun j k s1 s2 v1 v2 b q1 q2 q3 q4 o1 o2=>?_,by rw[List.length_set,ok.len]⟩,st⟩
 ·rw[zaq (fun z=>by rw[z,(ok.wl a hWa).1] at q;cases q)];exact ok.stay b o q
 ·obtain⟨q,us,hb⟩:=ok.wl b z
  by_cases h:b=a
  ·exact⟨q,m',by rw[h,za3]⟩
  ·exact⟨q,us,by rw[zaq h];exact hb⟩
 ·rcases zfv q with⟨rfl,q',_⟩ | ⟨hj,q'⟩
  ·cases q'
   exact⟨v,e1,hs⟩
  ·obtain⟨u,e2,h⟩:=ok.slot j sl q'
   exact⟨u,e2,ok.slstep st h fun b vs o q2=>⟨h.owns o,by rw[zaq (ne hj q' e2 o)];exact q2⟩⟩
 ·have back:∀ {m:Nat} {sl:Sl} {u:V},(env.set i (some s'))[m]?=some (some sl)->σ[m]?=some (some u)->Owns (upd H a m'.out) sl u b->∃sl',env[m]?=some (some sl')/\Owns H sl' u b:=fun {m sl u} q q1 o=>by
   rcases zfv q with⟨rfl,q',_⟩ | ⟨hj,q'⟩
   ·cases q'
    rw[e1] at q1;cases q1
    exact⟨s,e,hb b o⟩
   ·exact⟨sl,q',bk hj q' q1 o⟩
  obtain⟨t1,b1,c1⟩:=back q1 q3 o1
  obtain⟨t2,b2,c2⟩:=back q2 q4 o2
  exact ok.uniq j k t1 t2 v1 v2 b b1 b2 q3 q4 c1 c2
variable{ds':List D}{vs':List V}
theorem Ok.turn(ok:Ok K G H0 W env σ H)(e:env[i]?=some (some (.ow ds)))(e1:σ[i]?=some (some (.ref l)))(r:Reps K H (Ow G W) ds' vs') :
  Ok K G H0 W (env.set i (some (.ow ds'))) σ (upd H l (.lst vs'))/\Step W H W (upd H l (.lst vs')):=by
 obtain⟨v,e1',l',vs,rfl,hW,hl,_⟩:=ok.slot i _ e
 rw[e1] at e1';cases e1'
 have st:Step W H W (upd H l (.lst vs')):=⟨fun b o q n=>by rw[zaq (fun z:b=l=>n (by rw[z];exact hW))];exact q,fun b z=>.inl z⟩
 exact ok.chg (.l vs') e e1 (show Owns H (.ow ds) (.ref l) l from rfl) ⟨l,vs',rfl,hW,za3,ok.reps st r⟩ fun b o=>o
theorem Ok.turn2(ok:Ok K G H0 W env σ H)(e:env[i]?=some (some (.o2 dss)))(e1:σ[i]?=some (some (.ref l)))(hl:H l=some (.lst (ls.map V.ref)))(hj:dss[j]?=some ds)(ha:ls[j]?=some a)(r:Reps K H (Ow G W) ds' vs'):Ok K G H0 W (env.set i (some (.o2 (dss.set j ds')))) σ (upd H a (.lst vs'))/\Step W H W (upd H a (.lst vs')):=by
 obtain⟨v,e1',l',ls',rfl,hW,hl',nd,hi⟩:=ok.slot i _ e
 rw[e1] at e1';cases e1'
 rw[hl] at hl'
 have:=zgb (by simpa using hl')
 subst this
 have hm:a∈ls:=List.mem_of_getElem? ha
 have hWa:W a:=(hi.2 j ds a hj ha).1
 have st:Step W H W (upd H a (.lst vs')):=⟨fun b o q n=>by rw[zaq (fun z:b=a=>n (by rw[z];exact hWa))];exact q,fun b z=>.inl z⟩
 have nla:l≠a:=fun z=>by subst z;exact(List.nodup_cons.mp nd).1 hm
 have hl2:upd H a (.lst vs') l=some (.lst (ls.map V.ref)):=by rw[zaq nla];exact hl
 refine ok.chg (.l vs') e e1 (.inr ⟨l,ls,rfl,hl,hm⟩) ⟨l,ls,rfl,hW,hl2,nd,by rw[List.length_set];exact hi.1,fun k es b q1 q2=>?_⟩ fun b o=>?_
 ·rcases zfv q1 with⟨rfl,z,_⟩ | ⟨hk,q'⟩
  ·cases z
   rw[ha] at q2;cases q2
   exact⟨hWa,vs',za3,ok.reps st r⟩
  ·obtain⟨hWb,us,hb,rb⟩:=hi.2 k es b q' q2
   refine⟨hWb,us,?_,ok.reps st rb⟩
   have hne:b≠a:=fun z=>hk (by
    subst z
    exact zlu (List.nodup_cons.mp nd).2 ha q2)
   rw[zaq hne];exact hb
 ·rcases o with o | ⟨l',ls',z,q,hb⟩
  ·exact .inl o
  ·cases z
   rw[hl2] at q
   have:=zgb (by simpa using q)
   subst this
   exact .inr ⟨l,ls,rfl,hl,hb⟩
theorem PtsOk.get(h:PtsOk K G W H ps as us)(e:ps[j]?=some (.o ds)):∃a vs,us[j]?=some (.ref a)/\a∈as/\W a/\H a=some (.lst vs)/\Reps K H (Ow G W) ds vs:=by
 induction h generalizing j with
 | nil=>simp at e
 | d _ _ ih =>
   cases j with
   | zero=>simp at e
   | succ j=>obtain⟨a,vs,h1,h2⟩:=ih (j:=j) (by simpa using e);exact⟨a,vs,by simpa using h1,h2⟩
 | @o _ a vs _ _ _ hW hl r _ ih =>
   cases j with
   | zero=>simp at e;subst e;exact⟨a,vs,rfl,List.mem_cons_self,hW,hl,r⟩
   | succ j=>obtain⟨a,vs,h1,h2,h3⟩:=ih (j:=j) (by simpa using e);exact⟨a,vs,by simpa using h1,List.mem_cons_of_mem _ h2,h3⟩
theorem PtsOk.getD(h:PtsOk K G W H ps as us)(e:ps[j]?=some (.d d)):∃v,us[j]?=some v/\Rep K H (Ow G W) d v:=by
 induction h generalizing j with
 | nil=>simp at e
 | d q _ ih =>
   cases j with
   | zero=>simp at e;subst e;exact⟨_,rfl,q⟩
   | succ j=>obtain⟨a,h1,h2⟩:=ih (j:=j) (by simpa using e);exact⟨a,by simpa using h1,h2⟩
 | o _ _ _ _ ih =>
   cases j with
   | zero=>simp at e
   | succ j=>obtain⟨a,h1,h2⟩:=ih (j:=j) (by simpa using e);exact⟨a,by simpa using h1,h2⟩
theorem PtsOk.set(st:Step W H W (upd H a (.lst vs')))(ok:Ok K G H0 W env σ H)(h:PtsOk K G W H ps as us)(nd:as.Nodup)(e:ps[j]?=some (.o ds))(e2:us[j]?=some (.ref a))(r:Reps K H (Ow G W) ds' vs') :
  PtsOk K G W (upd H a (.lst vs')) (ps.set j (.o ds')) as us:=by
 induction h generalizing j with
 | nil=>simp at e
 | d q t ih =>
   cases j with
   | zero=>simp at e
   | succ j=>exact .d (ok.rep st q) (ih nd (by simpa using e) (by simpa using e2))
 | @o es b vs ps' as' us' hW hl q t ih =>
   cases j with
   | zero =>
     simp at e2;subst e2
     refine .o hW za3 (ok.reps st r) (t.step (fun b vs hb e2=>⟨(t.own hb).1,?_⟩) (fun _ _ r=>ok.rep st r) fun _ _ r=>ok.reps st r)
     rw[zaq (fun z:b=_=>by subst z;exact(List.nodup_cons.mp nd).1 hb)];exact e2
   | succ j =>
     have e:ps'[j]?=some (.o ds):=by simpa using e
     have e2:us'[j]?=some (.ref a):=by simpa using e2
     have ha:a∈as':=t.parts_iff.mp ⟨j,ds,e,e2⟩
     have nb:b≠a:=fun z=>by subst z;exact(List.nodup_cons.mp nd).1 ha
     exact .o hW (by rw[zaq nb];exact hl) (ok.reps st q) (ih (List.nodup_cons.mp nd).2 e e2)
variable{b:Expr}
theorem zuq{b:Addr}(e:ps[j]?=some (.o ds))(h:zww (ps.set j (.o ds')) us b):zww ps us b:=by
 obtain⟨i,es,h1,h2⟩:=h
 rcases zfv h1 with⟨rfl,_,_⟩ | ⟨_,z⟩
 ·exact⟨j,ds,e,h2⟩
 ·exact⟨i,es,z,h2⟩
variable{r:R2}
theorem Ok.turnP(ok:Ok K G H0 W env σ H){r:Option Nat}(e:env[i]?=some (some (.ag k r ps)))(e1:σ[i]?=some (some (.ref p)))(hk:AkOk K H k p us)(hj:ps[j]?=some (.o ds))(hu:us[j]?=some (.ref a))(rp:Reps K H (Ow G W) ds' vs') :
  Ok K G H0 W (env.set i (some (.ag k r (ps.set j (.o ds'))))) σ (upd H a (.lst vs'))/\Step W H W (upd H a (.lst vs')):=by
 obtain⟨v,e1',p',as,us',rfl,hW,nd,hr,hk',hp⟩:=ok.slot i _ e
 rw[e1] at e1';cases e1'
 have:=zl8 hk' hk.o
 subst this
 have ha:a∈as:=hp.parts_iff.mp ⟨j,ds,hj,hu⟩
 have hWa:=(hp.own ha).1
 have st:Step W H W (upd H a (.lst vs')):=⟨fun b o q n=>by rw[zaq (fun z:b=a=>n (by rw[z];exact hWa))];exact q,fun b z=>.inl z⟩
 have npa:p≠a:=fun z=>by subst z;exact(List.nodup_cons.mp nd).1 ha
 have hp':=PtsOk.set st ok hp (List.nodup_cons.mp nd).2 hj hu rp
 obtain⟨m,m1,m2⟩:=hk.mo
 have hk2:AkOk K (upd H a (.lst vs')) k p us:=m2 _ (by rw[zaq npa];exact m1)
 refine ok.chg (.l vs') e e1 (.inr ⟨p,us,rfl,hk.o,j,ds,hj,hu⟩) ⟨p,as,us,rfl,hW,nd,hr,hk2,hp'⟩ fun b o=>?_
 rcases o with o | ⟨p',us',z,q,hb⟩
 ·exact .inl o
 ·cases z
  rw[zl8 hk2 q] at hb
  exact .inr ⟨p,us,rfl,hk.o,zuq hj hb⟩
structure At (X:Cx) (i:Nat) (x:Str):Prop where
 n:X.N[i]?=some x
 v:Vis X.env.scope x
 d:(x==("__debug__" : Str))=false
 c:(x==("__classdict__" : Str))=false
theorem At.pe(h:At X i x):PE X (.Name x pos) (tVar i):=z19 h.n h.v h.d h.c
structure To (X:Cx) (i:Nat) (x:Str):Prop where
 nd:X.N.Nodup
 n:X.N[i]?=some x
 l:Loc X.env.scope x
 f:X.fn x=true\/X.env.scope.names.lookup x=some .local
structure Bn (X:Cx) (x:Str):Prop where
 g:Gl X x
 m:X.mg x=none
structure Ats (N cs:List Str) (X:Cx):Prop where
 n:X.N=N
 get:∀i x,N[i]?=some x->At X i x
 ck:∀u∈cs,X.env.kindOf u=some .cell\/X.env.kindOf u=some .free
structure Tos (N:List Str) (X:Cx):Prop where
 to:∀i x,N[i]?=some x->To X i x
variable{cs:List Str}
protected theorem Ats.a(h:Ats N cs X)(e:N[i]?=some x):At X i x:=h.get i x e
protected theorem Tos.t(h:Tos N X)(e:N[i]?=some x):To X i x:=h.to i x e
theorem Ats.nox(h:Ats N cs X):Ats N cs X.nox:=⟨h.n,fun i x e=>let z:=h.get i x e;⟨z.n,z.v,z.d,z.c⟩,h.ck⟩
theorem Tos.nox(h:Tos N X):Tos N X.nox:=⟨fun i x e=>let z:=h.to i x e;⟨z.nd,z.n,z.l,z.f⟩⟩
def okN(x:Str):Bool:=!(x==("__debug__" : Str)) && !(x==("__classdict__" : Str))
theorem zj7(h:okN x=true):(x==("__debug__" : Str))=false/\(x==("__classdict__" : Str))=false:=by
 unfold okN at h
 rwa [Bool.and_eq_true,Bool.not_eq_true',Bool.not_eq_true'] at h
theorem zpj{o:Option NameKind}{k:NameKind}(h:(o==some k)=true):o=some k:=by
 cases o with
 | none=>cases h
 | some a=>cases a <;> cases k <;> first | rfl | cases h
def subN(N:List Str)(ix:List Nat):List Str:=ix.map fun i=>N.getD i ("" : Str)
def zln(N cs:List Str)(ix:List Nat)(y:Str)(sc:Scope):Bool:=decide ((y::subN N ix).Nodup) && decide (sc.kind=.function) && (sc.names.lookup y==some .local) && decide (∀z∈sc.names,z.2≠.cell) && decide (∀z∈sc.names,z.2=.local->sc.names.lookup z.1=some .local) && decide (∀z∈sc.names,z.2=.free->z.1∈subN N ix) && (subN N ix).all (fun u=>(sc.names.lookup u==some .free) && cs.elem u) && (y::subN N ix).all okN
theorem gl_d(h:X.env.scope.names.lookup x=some .globalImplicit):Gl X x:=h
variable{s:Shared}{C:Addr}
theorem z3c(h:sc.names.lookup x=some .local):Vis (zaz X y N' sc cl C s H fp).env.scope x:=.inl (lookup_relabel_local h)
theorem z3d(h:sc.names.lookup x=some .free):Vis (zaz X y N' sc cl C s H fp).env.scope x:=.inr (zci h)
theorem zjm(hA:Ats N cs X)(h:zln N cs ix y sc=true):zup X y (subN N ix) ix sc:=by
 unfold zln at h
 simp only[Bool.and_eq_true,decide_eq_true_eq,List.all_eq_true] at h
 obtain⟨⟨⟨⟨⟨⟨⟨h1,h2⟩,h3⟩,h4⟩,h5⟩,h6⟩,h7⟩,_⟩:=h
 exact⟨by rw[hA.n];rfl,h1,h2,zpj h3,h4,h5,fun z hz hf=>hA.ck z.1 (List.mem_of_elem_eq_true (h7 z.1 (h6 z hz hf)).2),fun u hu=>zpj (h7 u hu).1⟩
variable{s₂:Shared}{H₂:Hp}
theorem zfe(h:zln N cs ix y sc=true):Ats (y::subN N ix) (subN N ix) (zaz X y (subN N ix) sc cl C s₂ H₂ fp):=by
 unfold zln at h
 simp only[Bool.and_eq_true,decide_eq_true_eq,List.all_eq_true] at h
 obtain⟨⟨⟨⟨⟨⟨⟨h1,h2⟩,h3⟩,h4⟩,h5⟩,h6⟩,h7⟩,h8⟩:=h
 refine⟨rfl,fun i x e=>⟨e,?_,(zj7 (h8 x (List.mem_of_getElem? e))).1,(zj7 (h8 x (List.mem_of_getElem? e))).2⟩,fun u hu=>?_⟩
 ·rcases List.mem_cons.mp (List.mem_of_getElem? e) with rfl | hm
  ·exact z3c (zpj h3)
  ·exact z3d (zpj (h7 x hm).1)
 ·exact zci (env:=X.env) (zpj (h7 u hu).1)
abbrev FE:=DE0->Option (D×DE0)
abbrev FT:=DE0->Option (Bool×DE0)
abbrev FA:=DE0->Option (List D×DE0)
def tD(K:PySem.W.Frag)(G:Gd)(H0:Hp)(f:FE):TE:=fun σ H Q=>∃W env d env',Ok K G H0 W env σ H/\f env=some (d,env') /\
 ∀W' v H',Step W H W' H'->Ok K G H0 W' env' σ H'->Rep K H' (Ow G W') d v->Q v H'
def tDT(K:PySem.W.Frag)(G:Gd)(H0:Hp)(f:FT):TT:=fun σ H Q=>∃W env b env',Ok K G H0 W env σ H/\f env=some (b,env') /\
 ∀W' H',Step W H W' H'->Ok K G H0 W' env' σ H'->Q b H'
def tDA(K:PySem.W.Frag)(G:Gd)(H0:Hp)(f:FA):TA:=fun σ H Q=>∃W env ds env',Ok K G H0 W env σ H/\f env=some (ds,env') /\
 ∀W' vs H',Step W H W' H'->Ok K G H0 W' env' σ H'->Reps K H' (Ow G W') ds vs->Q vs H'
def tDF(K:PySem.W.Frag)(G:Gd)(H0:Hp)(f:FA):TE:=fun σ H Q=>∃W env ds env',Ok K G H0 W env σ H/\f env=some (ds,env') /\
 ∀W' l vs H',Step W H (addW W' l) H'->Ok K G H0 W' env' σ H'->Ok K G H0 (addW W' l) env' σ H'->¬W' l->H' l=some (.lst vs)->Reps K H' (Ow G (addW W' l)) ds vs->Q (.ref l) H'
structure DEx (X:Cx) (G:Gd) (H0:Hp) (e:Expr) (f:FE):Prop where
 out:PE X e (tD X.K G H0 f)
structure DTx (X:Cx) (G:Gd) (H0:Hp) (e:Expr) (f:FT):Prop where
 out:PT X e (tDT X.K G H0 f)
structure DAx (X:Cx) (G:Gd) (H0:Hp) (es:List Expr) (f:FA):Prop where
 out:PA X es (tDA X.K G H0 f)
structure DFx (X:Cx) (G:Gd) (H0:Hp) (e:Expr) (f:FA):Prop where
 out:PE X e (tDF X.K G H0 f)
variable{e:Expr}{t:TE}
theorem PE.imp{t':TE}(h:PE X e t)(i:∀σ H Q,t' σ H Q->t σ H Q):PE X e t':=fun pins s σ H Q I q=>h pins s σ H Q I (i σ H Q q)
theorem PT.imp{t t':TT}(h:PT X e t)(i:∀σ H Q,t' σ H Q->t σ H Q):PT X e t':=fun pins s σ H Q I q=>h pins s σ H Q I (i σ H Q q)
theorem PA.imp{e:List Expr}{t t':TA}(h:PA X e t)(i:∀σ H Q,t' σ H Q->t σ H Q):PA X e t':=fun pos pins s σ H Q I q=>h pos pins s σ H Q I (i σ H Q q)
@[simp] def fVar(i:Nat):FE:=fun e=>match e[i]? with
 | some (some (.sh d))=>some (d,e)
 | some (some (.ow ds))=>some (.lst ds,e.set i (some (.sh (.lst ds))))
 | some (some (.o2 dss))=>some (.lst (dss.map D.lst),e.set i (some (.sh (.lst (dss.map D.lst)))))
 | _=>none
@[simp] def fC(d:D):FE:=fun e=>some (d,e)
@[simp] def fBin(op:D->D->Option D)(f g:FE):FE:=fun e=>(f e).bind fun r=>(g r.2).bind fun q=>(op r.1 q.1).map fun d=>(d,q.2)
@[simp] def fUn(op:D->Option D)(f:FE):FE:=fun e=>(f e).bind fun r=>(op r.1).map fun d=>(d,r.2)
@[simp] def fAnd(f g:FT):FT:=fun e=>(f e).bind fun r=>if r.1=true then g r.2 else some (false,r.2)
@[simp] def fOr(f g:FT):FT:=fun e=>(f e).bind fun r=>if r.1=true then some (true,r.2) else g r.2
@[simp] def fNot(f:FT):FT:=fun e=>(f e).map fun r=>(!r.1,r.2)
@[simp] def fTst(f:FE):FT:=fun e=>(f e).bind fun r=>match r.1 with | .bl b=>some (b,r.2) | _=>none
@[simp] def zmz(f g:FE):FE:=fun e=>(f e).bind fun r=>match r.1 with | .bl true=>g r.2 | .bl false=>some (.bl false,r.2) | _=>none
@[simp] def zur(f:FE):FE:=fun e=>(f e).bind fun r=>match r.1 with | .bl b=>some (.bl (!b),r.2) | _=>none
@[simp] def fNil:FA:=fun e=>some ([],e)
@[simp] def zac(f:FE)(g:FA):FA:=fun e=>(f e).bind fun r=>(g r.2).bind fun q=>some (r.1::q.1,q.2)
@[simp] def fTup(g:FA):FE:=fun e=>(g e).bind fun r=>if r.1.length<=64 then some (.tup r.1,r.2) else none
@[simp] def zat(g:FA):FA:=fun e=>(g e).bind fun r=>if r.1.length<=64 then some (r.1,r.2) else none
@[simp] def fLst(g:FA):FE:=fun e=>(g e).map fun r=>(.lst r.1,r.2)
@[simp] def zav:D->D->Option D | .int i,.int j=>some (.int (i+j)) | _,_=>none
@[simp] def dSub:D->D->Option D | .int i,.int j=>some (.int (i-j)) | _,_=>none
def zfb(i:Int):Prop:=-(2 ^ 64)<i/\i<2 ^ 64
noncomputable instance (i:Int):Decidable (zfb i):=Classical.propDecidable _
def Few(n:Nat):Prop:=n<=2 ^ 20
noncomputable instance (n:Nat):Decidable (Few n):=Classical.propDecidable _
def Bnd(lo hi i:Int):Prop:=lo<=i/\i<hi
noncomputable instance (lo hi i:Int):Decidable (Bnd lo hi i):=Classical.propDecidable _
def dMul:D->D->Option D | .int i,.int j=>if zfb i\/zfb j then some (.int (i*j)) else none | _,_=>none
def dMod:D->D->Option D | .int i,.int j=>if 0<j then some (.int (i % j)) else none | _,_=>none
def dDiv:D->D->Option D | .int i,.int j=>if Bnd 1 1073741824 j then some (.int (i / j)) else none | _,_=>none
@[simp] def dNeg:D->Option D | .int i=>some (.int (-i)) | _=>none
@[simp] def dLt:D->D->Option D | .int i,.int j=>some (.bl (decide (i<j))) | _,_=>none
@[simp] def dGt:D->D->Option D | .int i,.int j=>some (.bl (decide (j<i))) | _,_=>none
@[simp] def dGe:D->D->Option D | .int i,.int j=>some (.bl (decide (j<=i))) | _,_=>none
@[simp] def dEq:D->D->Option D
 | .int i,.int j=>some (.bl (decide (i=j))) | .str i,.str j=>some (.bl (decide (i=j))) | .bl i,.bl j=>some (.bl (decide (i=j))) | _,_=>none
@[simp] def dNe:D->D->Option D
 | .int i,.int j=>some (.bl (!decide (i=j))) | .str i,.str j=>some (.bl (!decide (i=j))) | .bl i,.bl j=>some (.bl (!decide (i=j))) | _,_=>none
@[simp] def dIx:D->D->Option D | .tup ds,.int i=>atI ds i | .lst ds,.int i=>atI ds i | _,_=>none
def OpD(X:Cx)(G:Gd)(H0:Hp)(r:R2)(op:D->D->Option D):Prop :=
 ∀W env σ H x y d1 d2 d (Q:VK),Ok X.K G H0 W env σ H->Rep X.K H (Ow G W) d1 x->Rep X.K H (Ow G W) d2 y->op d1 d2=some d ->
  (∀v H',Step W H W H'->Ok X.K G H0 W env σ H'->Rep X.K H' (Ow G W) d v->Q v H')->r x y H Q
variable{f g:FE}{op:D->D->Option D}
theorem zwx(ho:OpD X G H0 r op):∀σ H Q,tD X.K G H0 (fBin op f g) σ H Q->tOp r (tD X.K G H0 f) (tD X.K G H0 g) σ H Q:=by
 rintro σ H Q ⟨W,env,d,env',ok,e,k⟩
 cases e1:f env with
 | none=>simp[fBin,e1] at e
 | some r1 =>
   cases e2:g r1.2 with
   | none=>simp[fBin,e1,e2] at e
   | some r2 =>
     have e:(op r1.1 r2.1).map (fun d=>(d,r2.2))=some (d,env'):=by simpa[fBin,e1,e2] using e
     cases e3:op r1.1 r2.1 with
     | none=>rw[e3] at e;cases e
     | some d' =>
       rw[e3] at e
       have e4:(d',r2.2)=(d,env'):=Option.some.inj e
       cases e4
       refine⟨W,env,r1.1,r1.2,ok,e1,fun W1 v1 H1 s1 ok1 p1=>⟨W1,r1.2,r2.1,r2.2,ok1,e2,fun W2 v2 H2 s2 ok2 p2=>?_⟩⟩
       exact ho W2 _ σ H2 v1 v2 _ _ _ Q ok2 (ok1.rep s2 p1) p2 e3 fun v H3 s3 ok3 p3=>k W2 v H3 ((s1.trans s2).trans s3) ok3 p3
variable{a:Expr}{p:D->D->Option D}
theorem zng{op:Operator}(ho:OpR X (binaryOp op) r)(hd:OpD X G H0 r p)(ha:DEx X G H0 a f)(hb:DEx X G H0 b g):DEx X G H0 (.BinOp a op b pos) (fBin p f g) :=
 ⟨(zzs ho ha.out hb.out).imp (zwx hd)⟩
theorem z3e{op:CmpOp}(ho:OpR X (compareOp op) r)(hd:OpD X G H0 r p)(ha:DEx X G H0 a f)(hb:DEx X G H0 b g)(hm:behindInMarks op b=false):DEx X G H0 (.Compare a [op] [b] pos) (fBin p f g) :=
 ⟨(zzu ho ha.out hb.out hm).imp (zwx hd)⟩
theorem z3f(hr:IxR X r)(hd:OpD X G H0 r p)(ha:DEx X G H0 a f)(hb:DEx X G H0 b g)(hs:zjk b):DEx X G H0 (.Subscript a b pos) (fBin p f g) :=
 ⟨(zug hr ha.out hb.out hs).imp (zwx hd)⟩
theorem z3g(h:∀σ H Q,tD X.K G H0 f σ H Q->t σ H Q):∀σ H Q,tDT X.K G H0 (fTst f) σ H Q->z2u t σ H Q:=by
 rintro σ H Q ⟨W,env,b,env',ok,e,k⟩
 refine h σ H _ ?_
 cases e1:f env with
 | none=>simp[fTst,e1] at e
 | some r1 =>
   obtain⟨d,env1⟩:=r1
   cases d with
   | bl b' =>
     have e:some (b',env1)=some (b,env'):=by simpa[fTst,e1] using e
     cases e
     exact⟨W,env,_,_,ok,e1,fun W1 v1 H1 s1 ok1 p1=>⟨_,p1.bl_,k W1 H1 s1 ok1⟩⟩
   | _=>simp[fTst,e1] at e
theorem zpk{op:CmpOp}(ho:OpR X (compareOp op) r)(hd:OpD X G H0 r p)(ha:DEx X G H0 a f)(hb:DEx X G H0 b g)(hm:behindInMarks op b=false):DTx X G H0 (.Compare a [op] [b] pos) (fTst (fBin p f g)) :=
 ⟨(zzv ho ha.out hb.out hm).imp (z3g (zwx hd))⟩
variable{g:Int->Int->Int}
theorem od_I{C:Int->Int->Prop}(h:∀d1 d2 d,op d1 d2=some d->∃i j,d1=.int i/\d2=.int j/\C i j/\d=.int (g i j)):OpD X G H0 (rI C fun i j=>.int (g i j)) op:=by
 intro W env σ H x y d1 d2 d Q ok p1 p2 e k
 obtain⟨i,j,rfl,rfl,hc,rfl⟩:=h _ _ _ e
 exact⟨i,j,p1.int_,p2.int_,hc,k _ H Step.refl ok (.int _)⟩
theorem z3h(h:∀d1 d2 d,op d1 d2=some d->∃i j,d1=.int i/\d2=.int j/\d=.int (g i j)):OpD X G H0 (rI0 fun i j=>.int (g i j)) op:=by
 intro W env σ H x y d1 d2 d Q ok p1 p2 e k
 obtain⟨i,j,rfl,rfl,rfl⟩:=h _ _ _ e
 exact⟨i,j,p1.int_,p2.int_,k _ H Step.refl ok (.int _)⟩
variable{g:FE}
theorem z0c{g:Int->Int->Bool}(h:∀d1 d2 d,op d1 d2=some d->∃i j,d1=.int i/\d2=.int j/\d=.bl (g i j)):OpD X G H0 (rI0 fun i j=>.bl (g i j)) op:=by
 intro W env σ H x y d1 d2 d Q ok p1 p2 e k
 obtain⟨i,j,rfl,rfl,rfl⟩:=h _ _ _ e
 exact⟨i,j,p1.int_,p2.int_,k _ H Step.refl ok (.bl _)⟩
theorem z3i:OpD X G H0 (rI0 fun i j=>.int (i+j)) zav:=z3h fun d1 d2 d e=>by
 cases d1 <;> cases d2 <;> first | (cases e;done) | exact⟨_,_,rfl,rfl,(Option.some.inj e).symm⟩
theorem z3j:OpD X G H0 (rI0 fun i j=>.int (i-j)) dSub:=z3h fun d1 d2 d e=>by
 cases d1 <;> cases d2 <;> first | (cases e;done) | exact⟨_,_,rfl,rfl,(Option.some.inj e).symm⟩
theorem z3k:OpD X G H0 (rI CMul fun i j=>.int (i*j)) dMul:=od_I fun d1 d2 d e=>by
 cases d1 <;> cases d2 <;> first
  | (cases e;done)
  | (rename_i i j
     by_cases h:zfb i\/zfb j
     ·simp only[dMul,if_pos h] at e;exact⟨_,_,rfl,rfl,h,(Option.some.inj e).symm⟩
     ·simp only[dMul,if_neg h] at e;cases e)
theorem z3l:OpD X G H0 (rI (fun _ j=>0<j) fun i j=>.int (i % j)) dMod:=od_I fun d1 d2 d e=>by
 cases d1 <;> cases d2 <;> first
  | (cases e;done)
  | (rename_i i j
     by_cases h:0<j
     ·simp only[dMod,if_pos h] at e;exact⟨_,_,rfl,rfl,h,(Option.some.inj e).symm⟩
     ·simp only[dMod,if_neg h] at e;cases e)
theorem z3m:OpD X G H0 (rI CDiv fun i j=>.int (i / j)) dDiv:=od_I fun d1 d2 d e=>by
 cases d1 <;> cases d2 <;> first
  | (cases e;done)
  | (rename_i i j
     by_cases h:Bnd 1 1073741824 j
     ·simp only[dDiv,if_pos h] at e;exact⟨_,_,rfl,rfl,⟨by have:=h.1;omega,h.2⟩,(Option.some.inj e).symm⟩
     ·simp only[dDiv,if_neg h] at e;cases e)
theorem z5h:OpD X G H0 (rI0 fun i j=>.bl (decide (i<j))) dLt:=z0c fun d1 d2 d e=>by
 cases d1 <;> cases d2 <;> first | (cases e;done) | exact⟨_,_,rfl,rfl,(Option.some.inj e).symm⟩
theorem z3n:OpD X G H0 (rI0 fun i j=>.bl (decide (j<i))) dGt:=z0c fun d1 d2 d e=>by
 cases d1 <;> cases d2 <;> first | (cases e;done) | exact⟨_,_,rfl,rfl,(Option.some.inj e).symm⟩
theorem z5i:OpD X G H0 (rI0 fun i j=>.bl (decide (j<=i))) dGe:=z0c fun d1 d2 d e=>by
 cases d1 <;> cases d2 <;> first | (cases e;done) | exact⟨_,_,rfl,rfl,(Option.some.inj e).symm⟩
theorem zy0(i j:Int):decide (V.int i=V.int j)=decide (i=j):=by simp
theorem zy1(i j:Str):decide (V.str i=V.str j)=decide (i=j):=by simp
theorem z3o(i j:Bool):decide (V.bl i=V.bl j)=decide (i=j):=by simp
theorem z5j:OpD X G H0 rEq dEq:=by
 intro W env σ H x y d1 d2 d Q ok p1 p2 e k
 cases d1 <;> cases d2 <;> first
  | (cases e;done)
  | (cases e;cases p1;cases p2
     refine⟨rfl,?_⟩
     first
      | (rw[zy0];exact k _ H Step.refl ok (.bl _))
      | (rw[zy1];exact k _ H Step.refl ok (.bl _))
      | (rw[z3o];exact k _ H Step.refl ok (.bl _)))
theorem z5k:OpD X G H0 rNe dNe:=by
 intro W env σ H x y d1 d2 d Q ok p1 p2 e k
 cases d1 <;> cases d2 <;> first
  | (cases e;done)
  | (cases e;cases p1;cases p2
     refine⟨rfl,?_⟩
     first
      | (rw[zy0];exact k _ H Step.refl ok (.bl _))
      | (rw[zy1];exact k _ H Step.refl ok (.bl _))
      | (rw[z3o];exact k _ H Step.refl ok (.bl _)))
theorem zkr{i:Int}(r:Reps K H O ds vs)(h:atI ds i=some d):∃v,atI vs i=some v/\Rep K H O d v:=by
 unfold atI at h ⊢
 rw[← r.length]
 cases q:ixN ds.length i with
 | none=>rw[q] at h;cases h
 | some j=>rw[q] at h;exact r.get h
theorem z5l:OpD X G H0 (rIx X.K) dIx:=by
 intro W env σ H x y d1 d2 d Q ok p1 p2 e k
 cases d1 <;> first
  | (cases e;done)
  | (cases d2 <;> first
      | (cases e;done)
      | (cases p2
         first
          | (obtain⟨a, vs, rfl, h, r⟩ := p1.tup_
             obtain⟨v,e1,r1⟩:=zkr r e
             exact .inr (.inl ⟨a,vs,_,v,rfl,rfl,SqT.of h,e1,k _ H Step.refl ok r1⟩))
          | (obtain⟨a, vs, rfl, h, r⟩ := p1.lst_
             obtain⟨v,e1,r1⟩:=zkr r e
             exact .inl ⟨a,vs,_,v,rfl,rfl,h.sq,e1,k _ H Step.refl ok r1⟩)))
theorem zbe(ha:DEx X G H0 a f)(hb:DEx X G H0 b g):DEx X G H0 (.BinOp a .Add b pos) (fBin zav f g):=zng z2p z3i ha hb
theorem zbm(ha:DEx X G H0 a f)(hb:DEx X G H0 b g):DEx X G H0 (.BinOp a .Sub b pos) (fBin dSub f g):=zng z2q z3j ha hb
theorem zfw(ha:DEx X G H0 a f)(hb:DEx X G H0 b g):DEx X G H0 (.BinOp a .Mult b pos) (fBin dMul f g):=zng z2r z3k ha hb
theorem zgc(ha:DEx X G H0 a f)(hb:DEx X G H0 b g):DEx X G H0 (.BinOp a .Mod b pos) (fBin dMod f g):=zng z2s z3l ha hb
theorem zl9(ha:DEx X G H0 a f)(hb:DEx X G H0 b g):DEx X G H0 (.BinOp a .FloorDiv b pos) (fBin dDiv f g):=zng zzt z3m ha hb
theorem z5m(ha:DEx X G H0 a f)(hb:DEx X G H0 b g):DEx X G H0 (.Compare a [.Gt] [b] pos) (fBin dGt f g):=z3e z2t z3n ha hb (zna _)
theorem zlo(ha:DEx X G H0 a f)(hb:DEx X G H0 b g):DTx X G H0 (.Compare a [.Lt] [b] pos) (fTst (fBin dLt f g)):=zpk z5d z5h ha hb (zna _)
theorem zks(ha:DEx X G H0 a f)(hb:DEx X G H0 b g):DTx X G H0 (.Compare a [.Gt] [b] pos) (fTst (fBin dGt f g)):=zpk z2t z3n ha hb (zna _)
theorem zwy(ha:DEx X G H0 a f)(hb:DEx X G H0 b g):DTx X G H0 (.Compare a [.GtE] [b] pos) (fTst (fBin dGe f g)):=zpk z5e z5i ha hb (zna _)
theorem zqk(ha:DEx X G H0 a f)(hb:DEx X G H0 b g):DTx X G H0 (.Compare a [.Eq] [b] pos) (fTst (fBin dEq f g)):=zpk z5b z5j ha hb (zna _)
theorem zkt(ha:DEx X G H0 a f)(hb:DEx X G H0 b g):DTx X G H0 (.Compare a [.NotEq] [b] pos) (fTst (fBin dNe f g)):=zpk z5c z5k ha hb (zna _)
theorem zgr(ha:DEx X G H0 a f)(hb:DEx X G H0 b g)(hs:zjk b:=by intro _ _;rfl):DEx X G H0 (.Subscript a b pos) (fBin dIx f g):=z3f zuh z5l ha hb hs
theorem zab{Nn Cn:List Str}(an:Ats Nn Cn X)(hno:Nn[i]?=some x:=by rfl):DEx X G H0 (.Name x pos) (fVar i):=⟨((an.a hno).pe).imp fun σ H Q ⟨W,env,d,env',ok,e,k⟩=>by
 unfold fVar at e
 cases q:env[i]? with
 | none=>rw[q] at e;cases e
 | some o =>
   cases o with
   | none=>rw[q] at e;cases e
   | some sl =>
     cases sl with
     | sh d' =>
       rw[q] at e;cases e
       obtain⟨v,e1,r⟩:=ok.slot i _ q
       exact⟨v,e1,k W v H Step.refl ok r⟩
     | ow ds =>
       rw[q] at e;cases e
       obtain⟨W',v,e1,st,ok',r⟩:=ok.share q
       exact⟨v,e1,k W' v H st ok' r⟩
     | o2 dss =>
       rw[q] at e;cases e
       obtain⟨W',v,e1,st,ok',r⟩:=ok.share2 q
       exact⟨v,e1,k W' v H st ok' r⟩
     | ag _ _ _=>rw[q] at e;cases e
     | al _ _=>rw[q] at e;cases e
     | ro _ _=>rw[q] at e;cases e⟩
theorem de_c(h:PE X e (tC v))(r:∀H O,Rep X.K H O d v):DEx X G H0 e (fC d):=⟨h.imp fun σ H Q ⟨W,env,d',env',ok,q,k⟩=>by
 cases q
 exact k W v H Step.refl ok (r _ _)⟩
theorem zaf{i:Int}:DEx X G H0 (.Constant (.int i) j pos) (fC (.int i)):=de_c ztu fun _ _=>.int _
theorem zee{i:Bool}:DEx X G H0 (.Constant (.bool i) j pos) (fC (.bl i)):=de_c z42 fun _ _=>.bl _
theorem zma{i:Str}:DEx X G H0 (.Constant (.str i) j pos) (fC (.str i)):=de_c zyu fun _ _=>.str _
theorem zpl(ha:DEx X G H0 a f):DEx X G H0 (.UnaryOp .USub a pos) (fUn dNeg f):=⟨(z2o zyw ha.out).imp fun σ H Q ⟨W,env,d',env',ok,q,k⟩=>by
 cases e1:f env with
 | none=>simp[fUn,e1] at q
 | some r =>
   obtain⟨d,env1⟩:=r
   cases d with
   | int i =>
     have q:some (D.int (-i),env1)=some (d',env'):=by simpa[fUn,e1,dNeg] using q
     cases q
     exact⟨W,env,_,_,ok,e1,fun W1 v1 H1 s1 ok1 p1=>⟨i,p1.int_,k W1 _ H1 s1 ok1 (.int _)⟩⟩
   | _=>simp[fUn,e1,dNeg] at q⟩
section
variable {X:Cx} {G:Gd} {H0:Hp} {a b c e:Expr} {es rest:List Expr} {f g:FE} {F:FA} {p q:FT} {pos:Pos}
structure DWx (X:Cx) (G:Gd) (H0:Hp) (e:Expr) (f:FT):Prop where
 out:PW X e (tDT X.K G H0 f)
theorem PW.imp{X:Cx}{e:Expr}{t t':TT}(h:PW X e t)(i:∀σ H Q,t' σ H Q->t σ H Q):PW X e t':=fun w pins s σ H Q I q=>h w pins s σ H Q I (i σ H Q q)
theorem dt_w(h:DWx X G H0 e p):DTx X G H0 e p:=⟨PW.pt h.out⟩
theorem znx(h:DTx X G H0 a p):DWx X G H0 (.BoolOp .And [a] pos) p:=⟨zzn h.out⟩
theorem zdq(h:DTx X G H0 a p):DWx X G H0 (.BoolOp .Or [a] pos) p:=⟨z2b h.out⟩
theorem zrk(h:DTx X G H0 a p)(h2:DWx X G H0 (.BoolOp .And (b::rest) pos) q):DWx X G H0 (.BoolOp .And (a::b::rest) pos) (fAnd p q):=⟨(z2c h.out h2.out).imp fun σ H Q ⟨W,env,d,env',ok,e,k⟩=>by
 cases e1:p env with
 | none=>simp[fAnd,e1] at e
 | some r =>
   obtain⟨t,env1⟩:=r
   refine⟨W,env,t,env1,ok,e1,fun W1 H1 s1 ok1=>?_⟩
   cases t with
   | true =>
     rw[if_pos rfl]
     exact⟨W1,env1,d,env',ok1,by simpa[fAnd,e1] using e,fun W2 H2 s2 ok2=>k W2 H2 (s1.trans s2) ok2⟩
   | false =>
     rw[if_neg Bool.false_ne_true]
     have e:some (false,env1)=some (d,env'):=by simpa[fAnd,e1] using e
     cases e
     exact k W1 H1 s1 ok1⟩
theorem zf8(h:DTx X G H0 a p)(h2:DWx X G H0 (.BoolOp .Or (b::rest) pos) q):DWx X G H0 (.BoolOp .Or (a::b::rest) pos) (fOr p q):=⟨(z43 h.out h2.out).imp fun σ H Q ⟨W,env,d,env',ok,e,k⟩=>by
 cases e1:p env with
 | none=>simp[fOr,e1] at e
 | some r =>
   obtain⟨t,env1⟩:=r
   refine⟨W,env,t,env1,ok,e1,fun W1 H1 s1 ok1=>?_⟩
   cases t with
   | false =>
     rw[if_neg Bool.false_ne_true]
     exact⟨W1,env1,d,env',ok1,by simpa[fOr,e1] using e,fun W2 H2 s2 ok2=>k W2 H2 (s1.trans s2) ok2⟩
   | true =>
     rw[if_pos rfl]
     have e:some (true,env1)=some (d,env'):=by simpa[fOr,e1] using e
     cases e
     exact k W1 H1 s1 ok1⟩
theorem zcg(h:DTx X G H0 a p):DTx X G H0 (.UnaryOp .Not a pos) (fNot p):=⟨(z2d h.out).imp fun σ H Q ⟨W,env,d,env',ok,e,k⟩=>by
 cases e1:p env with
 | none=>simp[fNot,e1] at e
 | some r =>
   have e:some (!r.1,r.2)=some (d,env'):=by simpa[fNot,e1] using e
   cases e
   exact⟨W,env,_,_,ok,e1,fun W1 H1 s1 ok1=>k W1 H1 s1 ok1⟩⟩
theorem zb9(h:DEx X G H0 a f)(he:∀whole,isTrue a X.env whole=(do let v ← whole;standAt a.pos;holding [v] (truthy v)):=by intro _;rfl):DTx X G H0 a (fTst f):=⟨(z2a h.out he).imp (z3g fun _ _ _ z=>z)⟩
theorem zus{op:BoolOp}(h:DEx X G H0 a f):DEx X G H0 (.BoolOp op [a] pos) f:=⟨z2e h.out⟩
theorem zut(h:DEx X G H0 a f)(h2:DEx X G H0 (.BoolOp .And (b::rest) pos) g):DEx X G H0 (.BoolOp .And (a::b::rest) pos) (zmz f g):=⟨(z2f h.out h2.out).imp fun σ H Q ⟨W,env,d,env',ok,e,k⟩=>by
 cases e1:f env with
 | none=>simp[zmz,e1] at e
 | some r =>
   obtain⟨t,env1⟩:=r
   refine⟨W,env,t,env1,ok,e1,fun W1 v1 H1 s1 ok1 p1=>?_⟩
   cases t with
   | bl t =>
     refine⟨t,p1.bl_,?_⟩
     cases t with
     | true =>
       rw[if_pos rfl]
       exact⟨W1,env1,d,env',ok1,by simpa[zmz,e1] using e,fun W2 v2 H2 s2 ok2 p2=>k W2 v2 H2 (s1.trans s2) ok2 p2⟩
     | false =>
       rw[if_neg Bool.false_ne_true]
       have e:some (D.bl false,env1)=some (d,env'):=by simpa[zmz,e1] using e
       cases e
       exact k W1 _ H1 s1 ok1 (.bl _)
   | _=>simp[zmz,e1] at e⟩
theorem z3p(h:DEx X G H0 a f):DEx X G H0 (.UnaryOp .Not a pos) (zur f):=⟨(z2g h.out).imp fun σ H Q ⟨W,env,d,env',ok,e,k⟩=>by
 cases e1:f env with
 | none=>simp[zur,e1] at e
 | some r =>
   obtain⟨t,env1⟩:=r
   refine⟨W,env,t,env1,ok,e1,fun W1 v1 H1 s1 ok1 p1=>?_⟩
   cases t with
   | bl t =>
     have e:some (D.bl (!t),env1)=some (d,env'):=by simpa[zur,e1] using e
     cases e
     exact⟨t,p1.bl_,k W1 _ H1 s1 ok1 (.bl _)⟩
   | _=>simp[zur,e1] at e⟩
theorem zae  : DAx X G H0 [] fNil:=⟨zje.imp fun σ H Q ⟨W,env,ds,env',ok,e,k⟩=>by
 cases e
 exact k W [] H Step.refl ok .nil⟩
theorem zaa(ha:DEx X G H0 e f)(hr:DAx X G H0 es F)(hs:starEach (e::es) X.env=(false,eval e X.env)::starEach es X.env:=by rfl):DAx X G H0 (e::es) (zac f F):=⟨(zed ha.out hr.out hs).imp fun σ H Q ⟨W,env,ds,env',ok,q,k⟩=>by
 cases e1:f env with
 | none=>simp[zac,e1] at q
 | some r =>
   obtain⟨d,env1⟩:=r
   cases e2:F env1 with
   | none=>simp[zac,e1,e2] at q
   | some r2 =>
     have q:some (d::r2.1,r2.2)=some (ds,env'):=by simpa[zac,e1,e2] using q
     cases q
     exact⟨W,env,d,env1,ok,e1,fun W1 v1 H1 s1 ok1 p1=>⟨W1,env1,_,_,ok1,e2,fun W2 vs H2 s2 ok2 p2=>k W2 _ H2 (s1.trans s2) ok2 (.cons (ok1.rep s2 p1) p2)⟩⟩⟩
theorem le64{n:Nat}(h:n<=64):n<=sizeLine:=Nat.le_trans h (by rw[sizeLine_eq];decide)
theorem zcs{k1}(h:DAx X G H0 es F):DEx X G H0 (.Tuple es k1 pos) (fTup F):=⟨(z2x h.out).imp fun σ H Q ⟨W,env,d,env',ok,q,k⟩=>by
 cases e1:F env with
 | none=>simp[fTup,e1] at q
 | some r =>
   obtain⟨ds,env1⟩:=r
   by_cases hl:ds.length<=64
   ·have q:some (D.tup ds,env1)=some (d,env'):=by simpa[fTup,e1,hl] using q
    cases q
    refine⟨W,env,ds,_,ok,e1,fun W1 vs H1 s1 ok1 p1=>⟨by rw[← p1.length];exact le64 hl,fun l hn=>?_⟩⟩
    have sm:Same H1 (upd H1 l (.tup vs)):=zb8 hn
    have st:Step W1 H1 W1 (upd H1 l (.tup vs)):=Step.same sm
    exact k W1 _ _ (s1.trans st) (ok1.same sm) (.tup za3 (ok1.reps st p1))
   ·simp[fTup,e1,hl] at q⟩
theorem zle{W:Addr->Prop}{env:DE0}{σ:St}{H:Hp}{l:Addr}{vs:List V}{ds:List D}(ok:Ok X.K G H0 W env σ H)(r:Reps X.K H (Ow G W) ds vs)(hn:H l=none) :
  Step W H (addW W l) (upd H l (.lst vs))/\Ok X.K G H0 W env σ (upd H l (.lst vs))/\Ok X.K G H0 (addW W l) env σ (upd H l (.lst vs))/\¬W l/\upd H l (.lst vs) l=some (.lst vs)/\Reps X.K (upd H l (.lst vs)) (Ow G (addW W l)) ds vs:=by
 have sm:Same H (upd H l (.lst vs)):=zb8 hn
 obtain⟨h1,h2,h3,h4,h5⟩:=ok.fresh (l:=l) (vs:=vs) (ds:=ds) sm hn za3 ((r.mono (O':=fun a=>(Ow G W a\/H a=none)/\a≠l) (fun _ _ h=>sm _ _ h) fun a us o h=>⟨⟨.inl o,fun z=>by
  subst z
  have h2:Rd H a (.lst us):=h
  rcases h2 with h2 | ⟨_,h2⟩ <;> rw[hn] at h2 <;> cases h2⟩,h.keep fun o e=>sm _ o e⟩))
 exact⟨h5,ok.same sm,h3,h1,za3,h4⟩
theorem zba(h:DAx X G H0 es F):DFx X G H0 (.List es pos) (zat F):=⟨(z2y h.out).imp fun σ H Q ⟨W,env,d,env',ok,q,k⟩=>by
 cases e1:F env with
 | none=>simp[zat,e1] at q
 | some r =>
   obtain⟨ds,env1⟩:=r
   by_cases hl:ds.length<=64
   ·have q:some (ds,env1)=some (d,env'):=by simpa[zat,e1,hl] using q
    cases q
    refine⟨W,env,_,_,ok,e1,fun W1 vs H1 s1 ok1 p1=>⟨by rw[← p1.length];exact le64 hl,fun l hn=>?_⟩⟩
    obtain⟨h1,h2,h3,h4,h5,h6⟩:=zle ok1 p1 hn
    exact k W1 l vs _ (s1.trans h1) h2 h3 h4 h5 h6
   ·simp[zat,e1,hl] at q⟩
theorem zbd(h:DFx X G H0 e F):DEx X G H0 e (fLst F):=⟨h.out.imp fun σ H Q ⟨W,env,d,env',ok,q,k⟩=>by
 cases e1:F env with
 | none=>simp[fLst,e1] at q
 | some r =>
   have q:some (D.lst r.1,r.2)=some (d,env'):=by simpa[fLst,e1] using q
   cases q
   refine⟨W,env,_,_,ok,e1,fun W1 l vs H1 s1 ok1 ok2 nW hl rp=>k W1 _ H1 ⟨s1.keep,fun a z=>s1.ws a (.inl z)⟩ ok1 (.lst ⟨ok1.good l (ok2.wl l (.inr rfl)).1,nW⟩ (.inl hl) (rp.mono (fun _ _ h=>h) fun a us o h=>⟨⟨o.1,fun z=>o.2 (.inl z)⟩,h⟩))⟩⟩
def Cal(P:Program)(w:World)(K:PySem.W.Frag)(mg:Str->Option Value)(base:Heap)(CX:CXT)(x:Str)(k:Nat)(sp:Sp):Prop :=
 ∃fa fd ps,FnOk P w K mg base CX k fa fd ps sp/\mg x=some (.ref fa)/\PySem.W.keepIn K (.ref fa)=true/\Binds K fd ps []/\(x==("__debug__" : Str))=false
def dSp(K:PySem.W.Frag)(m:List D->Option D):Sp:=fun vs H Q _=>∃O ds d,Reps K H O ds vs/\m ds=some d/\∀v H',Same H H'->Rep K H' (fun a=>O a\/H a=none) d v->Q v H'
def fSp(K:PySem.W.Frag)(m:List D->Option (List D)):Sp:=fun vs H Q _=>∃O ds rs,Reps K H O ds vs/\m ds=some rs/\∀l us H',Same H H'->H l=none->H' l=some (.lst us)->Reps K H' (fun a=>(O a\/H a=none)/\a≠l) rs us->Q (.ref l) H'
@[simp] def zah(m:List D->Option D)(F:FA):FE:=fun e=>(F e).bind fun r=>(m r.1).map fun d=>(d,r.2)
@[simp] def zao(m:List D->Option (List D))(F:FA):FA:=fun e=>(F e).bind fun r=>(m r.1).map fun d=>(d,r.2)
theorem z3q{m:List D->Option D}{E:XK}:∀σ H Q,tD X.K G H0 (zah m F) σ H Q->zuc (dSp X.K m) [] E (tDA X.K G H0 F) σ H Q:=fun σ H Q ⟨W,env,d,env',ok,q,k⟩=>by
 cases e1:F env with
 | none=>simp[zah,e1] at q
 | some r =>
   obtain⟨ds,env1⟩:=r
   cases e2:m ds with
   | none=>simp[zah,e1,e2] at q
   | some d' =>
     have q:some (d',env1)=some (d,env'):=by simpa[zah,e1,e2] using q
     cases q
     refine⟨W,env,ds,_,ok,e1,fun W1 vs H1 s1 ok1 p1=>?_⟩
     show dSp X.K m (vs++[]) H1 Q E
     rw[List.append_nil]
     refine⟨Ow G W1,ds,_,p1,e2,fun v H2 sm r2=>?_⟩
     refine k W1 v H2 (s1.trans (Step.same sm)) (ok1.same sm) (r2.mono (fun _ _ h=>h) fun a us o h=>⟨?_,h⟩)
     rcases o with o | o
     ·exact o
     ·exact⟨ok1.good a (ok1.stay.free o),fun z=>by obtain⟨_,us,q⟩:=ok1.wl a z;rw[o] at q;cases q⟩
theorem z0d{m:List D->Option (List D)}{E:XK}:∀σ H Q,tDF X.K G H0 (zao m F) σ H Q->zuc (fSp X.K m) [] E (tDA X.K G H0 F) σ H Q:=fun σ H Q ⟨W,env,d,env',ok,q,k⟩=>by
 cases e1:F env with
 | none=>simp[zao,e1] at q
 | some r =>
   obtain⟨ds,env1⟩:=r
   cases e2:m ds with
   | none=>simp[zao,e1,e2] at q
   | some d' =>
     have q:some (d',env1)=some (d,env'):=by simpa[zao,e1,e2] using q
     cases q
     refine⟨W,env,ds,_,ok,e1,fun W1 vs H1 s1 ok1 p1=>?_⟩
     show fSp X.K m (vs++[]) H1 Q E
     rw[List.append_nil]
     refine⟨Ow G W1,ds,_,p1,e2,fun l us H2 sm hn hl r2=>?_⟩
     obtain⟨h1,h2,h3,h4,h5⟩:=ok1.fresh sm hn hl r2
     exact k W1 l us H2 (s1.trans h5) (ok1.same sm) h3 h1 hl h4
variable {CX:CXT} {k:Nat} {fa:Addr} {fd:FuncData} {ps:List Str} {m:List D->Option D} {mF:List D->Option (List D)} {x:Str} {p':Pos} {E:XK}
theorem zai{jr:Nat}(c:Cal X.prog X.w X.K X.mg X.base CX0 x k (dSp X.K m))(rm:Room jr X.A)(ha:DAx X G H0 (e::es) F)(hkj:k<=jr:=by decide)(hg:Gl X x:=by walk_at "g")(he:starEach (e::es) X.env=(false,eval e X.env)::starEach es X.env:=by rfl)(hpl:(backTo pos (starEach es X.env)).any (·.1)=false:=by rfl) :
  DEx X G H0 (.Call (.Name x p') (e::es) [] pos) (zah m F):=let ⟨_,_,_,Fn,hm,hk,hb,hdb⟩:=c;⟨(zns Fn (rm.mono hkj) hg hm hk hb .nil zwt ha.out hdb he hpl).imp z3q⟩
theorem zku{jr:Nat}(c:Cal X.prog X.w X.K X.mg X.base CX0 x k (fSp X.K mF))(rm:Room jr X.A)(ha:DAx X G H0 (e::es) F)(hkj:k<=jr:=by decide)(hg:Gl X x:=by walk_at "g")(he:starEach (e::es) X.env=(false,eval e X.env)::starEach es X.env:=by rfl)(hpl:(backTo pos (starEach es X.env)).any (·.1)=false:=by rfl) :
  DFx X G H0 (.Call (.Name x p') (e::es) [] pos) (zao mF F):=let ⟨_,_,_,Fn,hm,hk,hb,hdb⟩:=c;⟨(zns Fn (rm.mono hkj) hg hm hk hb .nil zwt ha.out hdb he hpl).imp z0d⟩
end
section
variable {X:Cx} {G:Gd} {H0:Hp} {a b c e:Expr} {es rest:List Expr} {f g:FE} {F:FA} {p q:FT} {pos p':Pos} {x:Str}
def zs5(X:Cx)(G:Gd)(H0:Hp)(r:List V->Hp->VK->Prop)(op:List D->Option D):Prop :=
 ∀W env σ H vs ds d (Q:VK),Ok X.K G H0 W env σ H->Reps X.K H (Ow G W) ds vs->op ds=some d ->
  (∀v H',Step W H W H'->Ok X.K G H0 W env σ H'->Rep X.K H' (Ow G W) d v->Q v H')->r vs H Q
def zuu(X:Cx)(G:Gd)(H0:Hp)(r:List V->Hp->VK->Prop)(op:List D->Option (List D)):Prop :=
 ∀W env σ H vs ds rs (Q:VK),Ok X.K G H0 W env σ H->Reps X.K H (Ow G W) ds vs->op ds=some rs ->
  (∀l us H',Step W H (addW W l) H'->Ok X.K G H0 W env σ H'->Ok X.K G H0 (addW W l) env σ H'->¬W l->H' l=some (.lst us)->Reps X.K H' (Ow G (addW W l)) rs us->Q (.ref l) H')->r vs H Q
theorem z5n{r:List V->Hp->VK->Prop}{op:List D->Option D}(hd:zs5 X G H0 r op):∀σ H Q,tD X.K G H0 (zah op F) σ H Q->tCB r (tDA X.K G H0 F) σ H Q:=fun σ H Q ⟨W,env,d,env',ok,q,k⟩=>by
 cases e1:F env with
 | none=>simp[zah,e1] at q
 | some z =>
   obtain⟨ds,env1⟩:=z
   cases e2:op ds with
   | none=>simp[zah,e1,e2] at q
   | some d' =>
     have q:some (d',env1)=some (d,env'):=by simpa[zah,e1,e2] using q
     cases q
     exact⟨W,env,ds,_,ok,e1,fun W1 vs H1 s1 ok1 p1=>hd W1 _ σ H1 vs ds _ Q ok1 p1 e2 fun v H2 s2 ok2 p2=>k W1 v H2 (s1.trans s2) ok2 p2⟩
theorem z3r{r:List V->Hp->VK->Prop}{op:List D->Option (List D)}(hd:zuu X G H0 r op):∀σ H Q,tDF X.K G H0 (zao op F) σ H Q->tCB r (tDA X.K G H0 F) σ H Q:=fun σ H Q ⟨W,env,d,env',ok,q,k⟩=>by
 cases e1:F env with
 | none=>simp[zao,e1] at q
 | some z =>
   obtain⟨ds,env1⟩:=z
   cases e2:op ds with
   | none=>simp[zao,e1,e2] at q
   | some d' =>
     have q:some (d',env1)=some (d,env'):=by simpa[zao,e1,e2] using q
     cases q
     exact⟨W,env,ds,_,ok,e1,fun W1 vs H1 s1 ok1 p1=>hd W1 _ σ H1 vs ds _ Q ok1 p1 e2 fun l us H2 s2 ok2 ok3 nW hl rp=>k W1 l us H2 (s1.trans s2) ok2 ok3 nW hl rp⟩
variable {id T:String} {r:List V->Hp->VK->Prop} {op:List D->Option D} {opF:List D->Option (List D)}
theorem zlv(hc:CallR X (.builtin id) r)(hd:zs5 X G H0 r op)(hg:Gl X x)(hm:X.mg x=none)(hv:bootBuiltins x=some (.builtin id))(ha:DAx X G H0 (e::es) F)(hn:x ≠ "__name__":=by decide)(hdb:(x==("__debug__" : Str))=false:=by decide)(he:starEach (e::es) X.env=(false,eval e X.env)::starEach es X.env:=by rfl)(hpl:(backTo pos (starEach es X.env)).any (·.1)=false:=by rfl):DEx X G H0 (.Call (.Name x p') (e::es) [] pos) (zah op F):=⟨(zlt hc hg hm hv ha.out hn hdb he hpl).imp (z5n hd)⟩
theorem zwz(hc:CallR X (.type T) r)(hd:zuu X G H0 r opF)(hg:Gl X x)(hm:X.mg x=none)(hv:bootBuiltins x=some (.type T))(ha:DAx X G H0 (e::es) F)(hn:x ≠ "__name__":=by decide)(hdb:(x==("__debug__" : Str))=false:=by decide)(he:starEach (e::es) X.env=(false,eval e X.env)::starEach es X.env:=by rfl)(hpl:(backTo pos (starEach es X.env)).any (·.1)=false:=by rfl):DFx X G H0 (.Call (.Name x p') (e::es) [] pos) (zao opF F):=⟨(zpc hc hg hm hv ha.out hn hdb he hpl).imp (z3r hd)⟩
theorem zql{K:PySem.W.Frag}{H:Hp}{O:Addr->Prop}{d:D}{vs:List V}(h:Reps K H O [d] vs):∃v,vs=[v]/\Rep K H O d v:=by
 cases h with | cons r t=>cases t;exact⟨_,rfl,r⟩
theorem z0e{K:PySem.W.Frag}{H:Hp}{O:Addr->Prop}{d d':D}{vs:List V}(h:Reps K H O [d,d'] vs):∃v v',vs=[v,v']/\Rep K H O d v/\Rep K H O d' v':=by
 cases h with | cons r t=>cases t with | cons r' t=>cases t;exact⟨_,_,rfl,r,r'⟩
@[simp] def bLen:List D->Option D | [.tup ds]=>some (.int ds.length) | [.lst ds]=>some (.int ds.length) | _=>none
theorem z3s:zs5 X G H0 (fun xs H Q=>∃p ys,xs=[.ref p]/\(SqL X.K H p ys\/SqT X.K H p ys)/\Q (.int ys.length) H) bLen:=by
 intro W env σ H vs ds d Q ok r e k
 unfold bLen at e
 split at e
 ·rename_i ds
  cases e
  obtain⟨v,rfl,r1⟩:=zql r;have r:=r1
  obtain⟨a,us,rfl,h,r⟩:=r.tup_
  exact⟨a,us,rfl,.inr (SqT.of h),by rw[← r.length];exact k _ H Step.refl ok (.int _)⟩
 ·rename_i ds
  cases e
  obtain⟨v,rfl,r1⟩:=zql r;have r:=r1
  obtain⟨a,us,rfl,h,r⟩:=r.lst_
  exact⟨a,us,rfl,.inl h.sq,by rw[← r.length];exact k _ H Step.refl ok (.int _)⟩
 ·cases e
theorem zrl(ha:DAx X G H0 [e] F)(bt:Bn X "len":=by walk_at "b")(he:starEach [e] X.env=(false,eval e X.env)::starEach [] X.env:=by rfl):DEx X G H0 (.Call (.Name "len" p') [e] [] pos) (zah bLen F) :=
 zlv zlc z3s bt.g bt.m PySem.boot_len ha (by decide) (by decide) he rfl
@[simp] def bMax:List D->Option D | [.int i,.int j]=>some (.int (if j > i then j else i)) | _=>none
@[simp] def bMin:List D->Option D | [.int i,.int j]=>some (.int (if j<i then j else i)) | _=>none
theorem z3t:zs5 X G H0 (fun xs H Q=>∃i j,xs=[.int i,.int j]/\Q (.int (if j > i then j else i)) H) bMax:=by
 intro W env σ H vs ds d Q ok r e k
 unfold bMax at e
 split at e
 ·cases e
  obtain⟨v,v',rfl,r1,r'⟩:=z0e r;have r:=r1
  exact⟨_,_,by rw[r.int_,r'.int_],k _ H Step.refl ok (.int _)⟩
 ·cases e
theorem z3u:zs5 X G H0 (fun xs H Q=>∃i j,xs=[.int i,.int j]/\Q (.int (if j<i then j else i)) H) bMin:=by
 intro W env σ H vs ds d Q ok r e k
 unfold bMin at e
 split at e
 ·cases e
  obtain⟨v,v',rfl,r1,r'⟩:=z0e r;have r:=r1
  exact⟨_,_,by rw[r.int_,r'.int_],k _ H Step.refl ok (.int _)⟩
 ·cases e
theorem z3v(ha:DAx X G H0 [a,b] F)(hc:X.calm=true:=by rfl)(bt:Bn X "max":=by walk_at "b")(he:starEach [a,b] X.env=(false,eval a X.env)::starEach [b] X.env:=by rfl)(hpl:(backTo pos (starEach [b] X.env)).any (·.1)=false:=by rfl):DEx X G H0 (.Call (.Name "max" p') [a,b] [] pos) (zah bMax F) :=
 zlv (zt7 hc) z3t bt.g bt.m boot_max ha (by decide) (by decide) he hpl
theorem z3w(ha:DAx X G H0 [a,b] F)(hc:X.calm=true:=by rfl)(bt:Bn X "min":=by walk_at "b")(he:starEach [a,b] X.env=(false,eval a X.env)::starEach [b] X.env:=by rfl)(hpl:(backTo pos (starEach [b] X.env)).any (·.1)=false:=by rfl):DEx X G H0 (.Call (.Name "min" p') [a,b] [] pos) (zah bMin F) :=
 zlv (zt8 hc) z3u bt.g bt.m boot_min ha (by decide) (by decide) he hpl
def ints?:List D->Option (List Int)
 | []=>some []
 | .int i::r=>(ints? r).map (i::·)
 | _::_=>none
theorem zlw:∀ {ds:List D} {ns:List Int},ints? ds=some ns->ds=ns.map D.int
 | [],ns,h=>by cases h;rfl
 | .int i::r,ns,h=>by
   unfold ints? at h
   cases q:ints? r with
   | none=>rw[q] at h;cases h
   | some ms=>rw[q] at h;cases h;rw[zlw q];rfl
 | .non::_,_,h=>by cases h
 | .bl _::_,_,h=>by cases h
 | .str _::_,_,h=>by cases h
 | .tup _::_,_,h=>by cases h
 | .lst _::_,_,h=>by cases h
theorem zuv(ns:List Int):ints? (ns.map D.int)=some ns:=by
 induction ns with
 | nil=>rfl
 | cons n r ih=>show(ints? (r.map D.int)).map (n::·)=_;rw[ih];rfl
theorem zj8{K:PySem.W.Frag}{H:Hp}{O:Addr->Prop}:∀ {ns:List Int} {vs:List V},Reps K H O (ns.map D.int) vs->vs=ns.map V.int
 | [],_,h=>by cases h;rfl
 | n::r,_,h=>by cases h with | cons a t=>rw[zj8 t,a.int_];rfl
theorem zpm(hc:X.calm=true):CallR X (.builtin "sum") (fun xs H Q=>∃p,∃ns:List Int,xs=[.ref p]/\SqL X.K H p (ns.map V.int)/\Q (.int ns.sum) H):=by
 intro pins s σ H xs us Q I r h
 obtain⟨p,ns,rfl,hq,q⟩:=h
 obtain⟨u,rfl,rx⟩:=zzw r
 cases rx
 obtain⟨its,r',pl,hz⟩:=I.list hq
 have hi:IntsAre its ns:=zs1 r'
 have hl:=pl.isList
 obtain⟨xs,hxs⟩:=hi.allInts.items
 rw[hxs] at hl
 refine sum_intListG (I.ok.hd hc) hl fun h' tk t' hk=>⟨.int ns.sum,H,I.kept hk,⟨t',?_⟩,q⟩
 have e1:numsOf its=ns:=hi.numsOf
 have e2:numsOf (intItems xs).toList=ns:=by rw[← hxs];exact e1
 rw[nums_intItems] at e2
 rw[preSum_eq,List.take_of_length_le (by simp),e2]
def bSum:List D->Option D | [.lst ds]=>(ints? ds).map fun ns=>.int ns.sum | _=>none
theorem z3x:zs5 X G H0 (fun xs H Q=>∃p,∃ns:List Int,xs=[.ref p]/\SqL X.K H p (ns.map V.int)/\Q (.int ns.sum) H) bSum:=by
 intro W env σ H vs ds d Q ok r e k
 unfold bSum at e
 split at e
 ·rename_i ds
  cases q:ints? ds with
  | none=>rw[q] at e;cases e
  | some ns =>
    rw[q] at e;cases e
    obtain⟨v,rfl,r1⟩:=zql r;have r:=r1
    obtain⟨a,us,rfl,h,r⟩:=r.lst_
    rw[zlw q] at r
    rw[zj8 r] at h
    exact⟨a,ns,rfl,h.sq,k _ H Step.refl ok (.int _)⟩
 ·cases e
theorem znh(ha:DAx X G H0 [e] F)(hc:X.calm=true:=by rfl)(bt:Bn X "sum":=by walk_at "b")(he:starEach [e] X.env=(false,eval e X.env)::starEach [] X.env:=by rfl):DEx X G H0 (.Call (.Name "sum" p') [e] [] pos) (zah bSum F) :=
 zlv (zpm hc) z3x bt.g bt.m boot_sum ha (by decide) (by decide) he rfl
@[simp] def zkv:List D->Option (List D) | [.lst ds]=>some ds | [.tup ds]=>some ds | _=>none
theorem z0f:zuu X G H0 (fun xs H Q=>∃p ys,xs=[.ref p]/\(SqL X.K H p ys\/SqT X.K H p ys)/\∀l,H l=none->Q (.ref l) (upd H l (.lst ys))) zkv:=by
 intro W env σ H vs ds rs Q ok r e k
 unfold zkv at e
 split at e
 ·cases e
  obtain⟨v,rfl,r1⟩:=zql r;have r:=r1
  obtain⟨a,us,rfl,h,r⟩:=r.lst_
  refine⟨a,us,rfl,.inl h.sq,fun l hn=>?_⟩
  obtain⟨h1,h2,h3,h4,h5,h6⟩:=zle ok r hn
  exact k l us _ h1 h2 h3 h4 h5 h6
 ·cases e
  obtain⟨v,rfl,r1⟩:=zql r;have r:=r1
  obtain⟨a,us,rfl,h,r⟩:=r.tup_
  refine⟨a,us,rfl,.inr (SqT.of h),fun l hn=>?_⟩
  obtain⟨h1,h2,h3,h4,h5,h6⟩:=zle ok r hn
  exact k l us _ h1 h2 h3 h4 h5 h6
 ·cases e
theorem zni:bootBuiltins "list" = some (.type "list"):=by decide +kernel
theorem zmb(ha:DAx X G H0 [e] F)(bt:Bn X "list":=by walk_at "b")(he:starEach [e] X.env=(false,eval e X.env)::starEach [] X.env:=by rfl):DFx X G H0 (.Call (.Name "list" p') [e] [] pos) (zao zkv F) :=
 zwz zld z0f bt.g bt.m zni ha (by decide) (by decide) he rfl
end
section
variable {X:Cx} {G:Gd} {H0:Hp} {a b c e:Expr} {es rest:List Expr} {f g:FE} {F:FA} {p q:FT} {pos p' p1 pos1:Pos} {x:Str}
theorem Vals.of:∀ {xs:List V} {us:List Value},xs.length=us.length->(∀(j:Nat) (x:V) (u:Value),xs[j]?=some x->us[j]?=some u->RelV x u)->Vals xs us
 | [],[],_,_=>.nil
 | [],_::_,h,_=>by cases h
 | _::_,[],h,_=>by cases h
 | x::xs,u::us,h,r=>.cons (r 0 x u rfl rfl) (Vals.of (Nat.succ.inj h) fun j y w e1 e2=>r (j+1) y w (by simpa using e1) (by simpa using e2))
def rngL(lo hi:Int):List Int:=(List.range (hi-lo).toNat).map fun(k:Nat)=>lo+(k:Int)
def z6g(ds:List D):Option (List D):=match ds with
 | [.int j]=>if Bnd (-(2 ^ 62)) (2 ^ 20+1) j then some ((rngL 0 j).map D.int) else none
 | _=>none
theorem zh9{K:PySem.W.Frag}{H:Hp}{O:Addr->Prop}:∀(ns:List Int),Reps K H O (ns.map D.int) (ns.map V.int)
 | []=>.nil
 | n::r=>.cons (.int n) (zh9 r)
abbrev FO:=DE0->Option (Option Int×DE0)
def tDO(K:PySem.W.Frag)(G:Gd)(H0:Hp)(f:FO):TO:=fun σ H Q=>∃W env o env',Ok K G H0 W env σ H/\f env=some (o,env')/\∀W' H',Step W H W' H'->Ok K G H0 W' env' σ H'->Q o H'
structure DOx (X:Cx) (G:Gd) (H0:Hp) (e:Option Expr) (f:FO):Prop where
 out:PO X e (tDO X.K G H0 f)
theorem PO.imp{X:Cx}{e:Option Expr}{t t':TO}(h:PO X e t)(i:∀σ H Q,t' σ H Q->t σ H Q):PO X e t':=fun pins s σ H Q I q=>h pins s σ H Q I (i σ H Q q)
@[simp] def fO0:FO:=fun e=>some (none,e)
@[simp] def fO1(f:FE):FO:=fun e=>(f e).bind fun r=>match r.1 with | .int i=>some (some i,r.2) | _=>none
theorem zfc  : DOx X G H0 none fO0:=⟨zz3.imp fun σ H Q ⟨W,env,o,env',ok,q,k⟩=>by cases q;exact k W H Step.refl ok⟩
theorem zds(h:DEx X G H0 e f):DOx X G H0 (some e) (fO1 f):=⟨(zz4 h.out).imp fun σ H Q ⟨W,env,o,env',ok,q,k⟩=>by
 cases e1:f env with
 | none=>simp[fO1,e1] at q
 | some r =>
   obtain⟨d,env1⟩:=r
   cases d with
   | int i =>
     have q:some (some i,env1)=some (o,env'):=by simpa[fO1,e1] using q
     cases q
     exact⟨W,env,_,_,ok,e1,fun W1 v1 H1 s1 ok1 p1=>⟨i,p1.int_,k W1 H1 s1 ok1⟩⟩
   | _=>simp[fO1,e1] at q⟩
def cutD(xs:List D)(lo hi:Option Int):List D:=(xs.drop (HT.sIx xs.length 0 lo)).take (HT.sIx xs.length xs.length hi-HT.sIx xs.length 0 lo)
theorem Reps.cut{K:PySem.W.Frag}{H:Hp}{O:Addr->Prop}{ds:List D}{vs:List V}(r:Reps K H O ds vs)(lo hi:Option Int):Reps K H O (cutD ds lo hi) (cutV vs lo hi):=by
 unfold cutD cutV
 rw[r.length]
 exact(r.drop _).take _
@[simp] def fSl(f:FE)(l h:FO):FA:=fun e=>(f e).bind fun r=>(l r.2).bind fun r1=>(h r1.2).bind fun r2=>match r.1 with | .lst ds=>some (cutD ds r1.1 r2.1,r2.2) | _=>none
theorem zlp{lo hi:Option Expr}{fl fh:FO}{sp:Pos}(he:DEx X G H0 a f)(hl:DOx X G H0 lo fl)(hu:DOx X G H0 hi fh) :
  DFx X G H0 (.Subscript a (.Slice lo hi none sp) pos) (fSl f fl fh):=⟨(zrh zz6 he.out hl.out hu.out).imp fun σ H Q ⟨W,env,d,env',ok,q,k⟩=>by
 cases e1:f env with
 | none=>simp[fSl,e1] at q
 | some r =>
   obtain⟨d1,env1⟩:=r
   cases e2:fl env1 with
   | none=>simp[fSl,e1,e2] at q
   | some r2 =>
     obtain⟨o1,env2⟩:=r2
     cases e3:fh env2 with
     | none=>simp[fSl,e1,e2,e3] at q
     | some r3 =>
       obtain⟨o2,env3⟩:=r3
       cases d1 with
       | lst ds =>
         have q:some (cutD ds o1 o2,env3)=some (d,env'):=by simpa[fSl,e1,e2,e3] using q
         cases q
         refine⟨W,env,_,_,ok,e1,fun W1 v1 H1 s1 ok1 p1=>⟨W1,env1,_,_,ok1,e2,fun W2 H2 s2 ok2=>⟨W2,env2,_,_,ok2,e3,fun W3 H3 s3 ok3=>?_⟩⟩⟩
         obtain⟨l,us,rfl,h,r⟩:=(ok1.rep (s2.trans s3) p1).lst_
         refine⟨l,us,rfl,h.sq,fun l' hn=>?_⟩
         obtain⟨h1,h2,h3,h4,h5,h6⟩:=zle ok3 (r.cut o1 o2) hn
         exact k W3 l' _ _ (((s1.trans s2).trans s3).trans h1) h2 h3 h4 h5 h6
       | _=>simp[fSl,e1,e2,e3] at q⟩
def z5o(K:PySem.W.Frag):R2:=fun x y H Q=>∃l b xs zs,x=.ref l/\y=.ref b/\SqL K H l xs/\SqL K H b zs/\xs.length+zs.length<=sizeLine/\∀p,H p=none->Q (.ref p) (upd H p (.lst (xs++zs)))
theorem z0g:OpR X (binaryOp .Add) (z5o X.K):=by
 intro pins s σ H x y v u Q I rx ry h
 obtain⟨l,b,xs,zs,rfl,rfl,hH,hB,hz,q⟩:=h
 cases rx
 cases ry
 obtain⟨its,r,⟨⟨cls,dd,data,sl⟩,n,ho,hc,hdd,hd⟩,z⟩:=I.list hH
 obtain⟨its2,r2,⟨⟨cls2,dd2,data2,sl2⟩,n2,ho2,hc2,hdd2,hd2⟩,z2⟩:=I.list hB
 simp only at hc hd hc2 hd2 hdd hdd2
 subst hc hd hc2 hd2 hdd hdd2
 have hl:=r.length
 have hl2:=r2.length
 refine concat_meets ⟨_,ho,rfl⟩ ⟨_,ho2,rfl⟩ noFill_list_add seq_list_add PySem.F.slot_list_add PySem.F.entry_list_add (PySem.F.args_list_add_2 _ _) (list_addW l b its.toArray its2.toArray n n2 none none sl sl2 (by simp only[List.size_toArray];omega)) ⟨ho,ho2,?_⟩
 have ea:its.toArray++its2.toArray=(its++its2).toArray:=by simp
 rw[ea]
 exact⟨.ref _,_,I.lnew (t':=s.toks) (r.append r2) (by rw[List.length_append];omega),rfl,q _ I.fresh⟩
@[simp] def fCat(f g:FE):FA:=fun e=>(f e).bind fun r=>(g r.2).bind fun q=>match r.1,q.1 with | .lst ds,.lst es=>if Few (ds.length+es.length) then some (ds++es,q.2) else none | _,_=>none
theorem zjf(ha:DEx X G H0 a f)(hb:DEx X G H0 b g):DFx X G H0 (.BinOp a .Add b pos) (fCat f g):=⟨(zzs z0g ha.out hb.out).imp fun σ H Q ⟨W,env,d,env',ok,q,k⟩=>by
 cases e1:f env with
 | none=>simp[fCat,e1] at q
 | some r =>
   obtain⟨d1,env1⟩:=r
   cases e2:g env1 with
   | none=>simp[fCat,e1,e2] at q
   | some r2 =>
     obtain⟨d2,env2⟩:=r2
     cases d1 with
     | lst ds =>
       cases d2 with
       | lst es =>
         by_cases hl:Few (ds.length+es.length)
         ·have q:some (ds++es,env2)=some (d,env'):=by simpa only[fCat,e1,e2,Option.bind_some,if_pos hl] using q
          cases q
          refine⟨W,env,_,_,ok,e1,fun W1 v1 H1 s1 ok1 p1=>⟨W1,env1,_,_,ok1,e2,fun W2 v2 H2 s2 ok2 p2=>?_⟩⟩
          obtain⟨l,us,rfl,h,r⟩:=(ok1.rep s2 p1).lst_
          obtain⟨l',us',rfl,h',r'⟩:=p2.lst_
          refine⟨l,l',us,us',rfl,rfl,h.sq,h'.sq,?_,fun n hn=>?_⟩
          ·rw[← r.length,← r'.length];exact Nat.le_trans hl (by rw[sizeLine_eq];decide)
          ·obtain⟨h1,h2,h3,h4,h5,h6⟩:=zle ok2 (r.append r') hn
           exact k W2 n _ _ ((s1.trans s2).trans h1) h2 h3 h4 h5 h6
         ·simp only[fCat,e1,e2,Option.bind_some,if_neg hl] at q;cases q
       | _=>simp[fCat,e1,e2] at q
     | _=>simp[fCat,e1,e2] at q⟩
@[simp] def za9(i:Nat):FE:=fun e=>match e[i]? with
 | some (some (.ow ds))=>some (.int ds.length,e)
 | some (some (.sh (.lst ds)))=>some (.int ds.length,e)
 | some (some (.sh (.tup ds)))=>some (.int ds.length,e)
 | _=>none
theorem za2{Nn Cn:List Str}{i:Nat}(an:Ats Nn Cn X)(bt:Bn X "len":=by walk_at "b")(hno:Nn[i]?=some x:=by rfl)(he:starEach [.Name x p1] X.env=(false,eval (.Name x p1) X.env)::starEach [] X.env:=by rfl):DEx X G H0 (.Call (.Name "len" p') [.Name x p1] [] pos) (za9 i) :=
 ⟨(zlt zlc bt.g bt.m PySem.boot_len (zed ((an.a hno).pe) zje he) (by decide) (by decide) he rfl).imp fun σ H Q ⟨W,env,d,env',ok,q,k⟩=>by
  unfold za9 at q
  split at q
  ·rename_i ds hq
   cases q
   obtain⟨v,e1,l,vs,rfl,hW,hl,r⟩:=ok.slot i _ hq
   exact⟨_,e1,l,vs,rfl,.inl (.inl (.inl hl)),by rw[← r.length];exact k W _ H Step.refl ok (.int _)⟩
  ·rename_i ds hq
   cases q
   obtain⟨v,e1,r⟩:=ok.slot i _ hq
   obtain⟨l,us,rfl,h,r⟩:=Rep.lst_ r
   exact⟨_,e1,l,us,rfl,.inl h.sq,by rw[← r.length];exact k W _ H Step.refl ok (.int _)⟩
  ·rename_i ds hq
   cases q
   obtain⟨v,e1,r⟩:=ok.slot i _ hq
   obtain⟨l,us,rfl,h,r⟩:=Rep.tup_ r
   exact⟨_,e1,l,us,rfl,.inr (SqT.of h),by rw[← r.length];exact k W _ H Step.refl ok (.int _)⟩
  ·cases q⟩
@[simp] def ixSl:D->Option (Option Sl)->Option D
 | .int k,some (some (.ow ds))=>atI ds k
 | .int k,some (some (.sh (.lst ds)))=>atI ds k
 | .int k,some (some (.sh (.tup ds)))=>atI ds k
 | _,_=>none
@[simp] def fIxV(i:Nat)(g:FE):FE:=fun e=>match e[i]? with
 | some (some _)=>(g e).bind fun r=>(ixSl r.1 r.2[i]?).map fun d=>(d,r.2)
 | _=>none
theorem zak{Nn Cn:List Str}{i:Nat}(hb:DEx X G H0 b g)(an:Ats Nn Cn X)(hs:zjk b:=by intro _ _;rfl)(hno:Nn[i]?=some x:=by rfl):DEx X G H0 (.Subscript (.Name x p1) b pos) (fIxV i g) :=
 ⟨(zug zuh ((an.a hno).pe) hb.out hs).imp fun σ H Q ⟨W,env,d,env',ok,q,k⟩=>by
  unfold fIxV at q
  split at q
  case h_2=>cases q
  rename_i s0 hs0
  obtain⟨v,hv,_⟩:=ok.slot i _ hs0
  cases e1:g env with
  | none=>rw[e1] at q;cases q
  | some r =>
    obtain⟨dk,env1⟩:=r
    rw[e1,Option.bind_some] at q
    cases e3:ixSl dk env1[i]? with
    | none=>rw[e3] at q;cases q
    | some d' =>
      rw[e3] at q;cases q
      refine⟨v,hv,W,env,dk,_,ok,e1,fun W1 v1 H1 s1 ok1 p1=>?_⟩
      unfold ixSl at e3
      split at e3
      ·rename_i kk ds hq
       obtain⟨v',e2,l,vs,rfl,hW,hl,r⟩:=ok1.slot i _ hq
       rw[hv] at e2;cases e2
       obtain⟨u,e4,r4⟩:=zkr r e3
       exact .inl ⟨l,vs,kk,u,rfl,p1.int_,.inl (.inl hl),e4,k W1 _ H1 s1 ok1 r4⟩
      ·rename_i kk ds hq
       obtain⟨v',e2,r⟩:=ok1.slot i _ hq
       rw[hv] at e2;cases e2
       obtain⟨l,us,rfl,h,r⟩:=Rep.lst_ r
       obtain⟨u,e4,r4⟩:=zkr r e3
       exact .inl ⟨l,us,kk,u,rfl,p1.int_,h.sq,e4,k W1 _ H1 s1 ok1 r4⟩
      ·rename_i kk ds hq
       obtain⟨v',e2,r⟩:=ok1.slot i _ hq
       rw[hv] at e2;cases e2
       obtain⟨l,us,rfl,h,r⟩:=Rep.tup_ r
       obtain⟨u,e4,r4⟩:=zkr r e3
       exact .inr (.inl ⟨l,us,kk,u,rfl,p1.int_,SqT.of h,e4,k W1 _ H1 s1 ok1 r4⟩)
      ·cases e3⟩
end
section
variable {X:Cx} {G:Gd} {H0:Hp} {a b c e:Expr} {es rest:List Expr} {f g:FE} {F:FA} {p q:FT} {pos p' p1 pos1:Pos} {x:Str}
@[simp] def tyD:D->String | .non=>"NoneType" | .bl _=>"bool" | .int _=>"int" | .str _=>"str" | .tup _=>"tuple" | .lst _=>"list" | .dct _ _=>"dict" | .exc _=>"exc"
@[simp] def isiT(t T:String):Bool:=t==T || (t=="bool" && T=="int")
def zuw(T:String):Bool:=T=="int" || T=="bool" || T=="str" || T=="tuple" || T=="list"
theorem zw0(K:PySem.W.Frag)(d:D)(T:String)(h:zuw T=true)(hd:∀a,d≠.exc a):PySem.W.kitOne K (.type (tyD d)) (.type T)=some (isiT (tyD d) T):=by
 simp only[zuw,Bool.or_eq_true,beq_iff_eq] at h
 rcases h with(((rfl | rfl) | rfl) | rfl) | rfl <;> cases d <;> first | rfl | exact absurd rfl (hd _)
theorem zw1:CallR X (.builtin "isinstance") (fun xs H Q=>∃x T t b,xs=[x,.ty T]/\(TyOf X.K H x t\/(t=.type "list"/\∃a us,x=.ref a/\SqL X.K H a us))/\PySem.W.kitOne X.K t (.type T)=some b/\Q (.bl b) H):=by
 intro pins s σ H xs us Q I r h
 obtain⟨x,T,t,b,rfl,ty,e,q⟩:=h
 obtain⟨u,u',rfl,rx,rt⟩:=zzx r
 cases (show u'=Value.type T from rt)
 rcases ty with ty | ⟨rfl,a,ws,rfl,hq⟩
 ·exact zub I rx ty e fun tk=>⟨.bl b,H,I.tok tk,rfl,q⟩
 ·cases (show u=Value.ref a from rx)
  obtain⟨its,_,⟨o,n,h1,h2,_⟩,_⟩:=I.list hq
  exact PySem.W.kia_one PySem.W.kitx_list I.kIn ⟨o,h1,h2⟩ e (fun z=>nomatch z) fun tk=>⟨.bl b,H,I.tok tk,rfl,q⟩
theorem z3y{K:PySem.W.Frag}{H:Hp}{O:Addr->Prop}{d:D}{v:V}(r:Rep K H O d v)(hd:∀a,d≠.exc a):TyOf K H v (.type (tyD d))\/(Value.type (tyD d)=.type "list"/\∃a us,v=.ref a/\SqL K H a us):=by
 cases r with
 | non=>exact .inl .non
 | bl b=>exact .inl (.bl b)
 | int i=>exact .inl (.int i)
 | str s=>exact .inl (.str s)
 | tup h _=>exact .inl (.tup h)
 | lst o h _=>exact .inr ⟨rfl,_,_,rfl,.inl h⟩
 | klst h _=>exact .inr ⟨rfl,_,_,rfl,.inr h⟩
 | dct h _=>exact .inl (.dK h)
 | exc a=>exact absurd rfl (hd a)
theorem zw2:bootBuiltins "isinstance" = some (.builtin "isinstance"):=by decide +kernel
@[simp] def fIsi(T:String)(f:FE):FE:=fun e=>(f e).bind fun r=>match r.1 with | .exc _=>none | d=>some (.bl (isiT (tyD d) T),r.2)
structure Ty (x:Str) (T:String):Prop where
 b:bootBuiltins x=some (.type T)
 k:zuw T=true
 d:(x==("__debug__" : Str))=false
 n:x ≠ "__name__"
theorem zia{T:String}(ty:Ty x T)(ha:DEx X G H0 a f)(bt:Bn X "isinstance":=by walk_at "b")(hgT:Gl X x:=by walk_at "g")(hmT:X.mg x=none:=by assumption)(he:starEach [a,.Name x p1] X.env=(false,eval a X.env)::starEach [.Name x p1] X.env:=by rfl)(he2:starEach [.Name x p1] X.env=(false,eval (.Name x p1) X.env)::starEach [] X.env:=by rfl)(hpl:(backTo pos (starEach [.Name x p1] X.env)).any (·.1)=false:=by rfl) :
  DEx X G H0 (.Call (.Name "isinstance" p') [a,.Name x p1] [] pos) (fIsi T f) :=
 ⟨(zlt zw1 bt.g bt.m zw2 (zed ha.out (zed (zzm (v:=.ty T) hgT hmT ty.b rfl ty.n ty.d) zje he2) he) (by decide) (by decide) he hpl).imp fun σ H Q ⟨W,env,d,env',ok,q,k⟩=>by
  cases e1:f env with
  | none=>simp[fIsi,e1] at q
  | some r =>
    unfold fIsi at q
    rw[e1,Option.bind_some] at q
    split at q
    ·cases q
    ·rename_i hd
     cases q
     exact⟨W,env,_,_,ok,e1,fun W1 v1 H1 s1 ok1 p1=>⟨v1,T,_,_,rfl,z3y p1 hd,zw0 X.K _ T ty.k hd,k W1 _ H1 s1 ok1 (.bl _)⟩⟩⟩
abbrev FI:=DE0->Option (List D×DE0)
structure Walk (K:PySem.W.Frag) (G:Gd) (J:It) (W:Addr->Prop) (H:Hp) (ds:List D):Prop where
 go:∀W' H' (i:Nat) d,Step W H W' H'->ds[i]?=some d->J.go i H'/\∀x H'',J.yld i H' x H''->H''=H'/\Rep K H' (Ow G W') d x
 stop:∀W' H',Step W H W' H'->J.stop ds.length H'
def tDI(K:PySem.W.Frag)(G:Gd)(H0:Hp)(f:FI):TI:=fun σ H R=>∃W env ds env',Ok K G H0 W env σ H/\f env=some (ds,env') /\
 ∀W' J H',Step W H W' H'->Ok K G H0 W' env' σ H'->Walk K G J W' H' ds->R J H'
structure DIC (Cm:Cx->Prop) (X:Cx) (G:Gd) (H0:Hp) (tg:Expr) (e:Expr) (f:FI):Prop where
 out:PIC Cm X tg e (tDI X.K G H0 f)
abbrev DIx:=DIC fun X=>X.calm=true
theorem PI.imp{X:Cx}{tg e:Expr}{t t':TI}(h:PI X tg e t)(i:∀σ H Q,t' σ H Q->t σ H Q):PI X tg e t':=fun pins s σ H Q I q=>h pins s σ H Q I (i σ H Q q)
theorem PIC.imp{Cm:Cx->Prop}{X:Cx}{tg e:Expr}{t t':TI}(h:PIC Cm X tg e t)(i:∀σ H Q,t' σ H Q->t σ H Q):PIC Cm X tg e t':=fun pins s σ H Q I q=>h pins s σ H Q I (i σ H Q q)
theorem zpn{W:Addr->Prop}{H:Hp}{a:Addr}{vs:List V}{ds:List D}{env:DE0}{σ:St}(ok:Ok X.K G H0 W env σ H)(h:LsOk X.K H (Ow G W) a vs)(r:Reps X.K H (Ow G W) ds vs):Walk X.K G (Itl X.K a) W H ds where
 go:=fun W' H' i d st e=>by
  obtain⟨v,e1,r1⟩:=(ok.reps st r).get e
  have h':=(ok.lsstep st h).sq
  exact⟨⟨vs,v,h',e1⟩,fun x H'' ⟨e2,y⟩=>⟨e2,by have:=y vs h';rw[e1] at this;cases this;exact r1⟩⟩
 stop:=fun W' H' st=>⟨vs,(ok.lsstep st h).sq,by rw[r.length];exact Nat.le_refl _⟩
theorem zw3{W:Addr->Prop}{H:Hp}{a:Addr}{vs:List V}{ds:List D}{env:DE0}{σ:St}(ok:Ok X.K G H0 W env σ H)(h:H a=some (.tup vs))(r:Reps X.K H (Ow G W) ds vs):Walk X.K G (Itt X.K a) W H ds where
 go:=fun W' H' i d st e=>by
  obtain⟨v,e1,r1⟩:=(ok.reps st r).get e
  have h':=ok.tstep st a vs h
  exact⟨⟨vs,v,SqT.of h',e1⟩,fun x H'' ⟨e2,y⟩=>⟨e2,by have:=y vs (SqT.of h');rw[e1] at this;cases this;exact r1⟩⟩
 stop:=fun W' H' st=>⟨vs,SqT.of (ok.tstep st a vs h),by rw[r.length];exact Nat.le_refl _⟩
theorem zw4{W:Addr->Prop}{H:Hp}{lo:Int}{n:Nat}:Walk X.K G (Itr lo n) W H ((List.range n).map fun(k:Nat)=>D.int (lo+(k:Int))) where
 go:=fun W' H' i d st e=>by
  rw[List.getElem?_map] at e
  have hi:i<n:=by
   have:=(List.getElem?_eq_some_iff.mp (show((List.range n).map fun(k:Nat)=>D.int (lo+(k:Int)))[i]?=some d by rw[List.getElem?_map];exact e)).1
   simpa using this
  rw[List.getElem?_range hi] at e
  cases e
  exact⟨hi,fun x H'' ⟨e2,y⟩=>⟨e2,by rw[y];exact .int _⟩⟩
 stop:=fun W' H' st=>by rw[List.length_map,List.length_range];exact Nat.le_refl _
@[simp] def fiS(f:FE):FI:=fun e=>(f e).bind fun r=>match r.1 with | .lst ds=>some (ds,r.2) | .tup ds=>some (ds,r.2) | _=>none
theorem PI.or{tg:Expr}{t t':TI}(h:PI X tg e t)(h':PI X tg e t'):PI X tg e (fun σ H R=>t σ H R\/t' σ H R):=fun pins s σ H R I q=>q.elim (h pins s σ H R I) (h' pins s σ H R I)
theorem zbz{tg:Expr}(h:DEx X G H0 e f):DIx X G H0 tg e (fiS f):=⟨((zt1 h.out).or (z2n h.out)).imp fun σ H R ⟨W,env,ds,env',ok,q,k⟩=>by
 cases e1:f env with
 | none=>simp[fiS,e1] at q
 | some r =>
   obtain⟨d,env1⟩:=r
   cases d with
   | lst ds' =>
     have q:some (ds',env1)=some (ds,env'):=by simpa[fiS,e1] using q
     cases q
     refine .inl ⟨W,env,_,_,ok,e1,fun W1 v1 H1 s1 ok1 p1=>?_⟩
     obtain⟨a,vs,rfl,h.out,r⟩:=p1.lst_
     exact⟨a,rfl,⟨vs,h.out.sq⟩,k W1 _ H1 s1 ok1 (zpn ok1 h.out r)⟩
   | tup ds' =>
     have q:some (ds',env1)=some (ds,env'):=by simpa[fiS,e1] using q
     cases q
     refine .inr ⟨W,env,_,_,ok,e1,fun W1 v1 H1 s1 ok1 p1=>?_⟩
     obtain⟨a,vs,rfl,h.out,r⟩:=p1.tup_
     exact⟨a,rfl,⟨vs,SqT.of h.out⟩,k W1 _ H1 s1 ok1 (zw3 ok1 h.out r)⟩
   | _=>simp[fiS,e1] at q⟩
def rngD(lo:Int)(n:Nat):List D:=(List.range n).map fun(k:Nat)=>D.int (lo+(k:Int))
def iR1(ds:List D):Option (List D):=match ds with | [.int j]=>if Bnd (-(2 ^ 62)) (2 ^ 62) j then some (rngD 0 j.toNat) else none | _=>none
theorem zs6{Cm:Cx->Prop}{tg:Expr}(hT:∀(it:Addr) (lo:Int) (n:Nat),zsr Cm X.prog X.w X.K tg (Itr lo n) [it] it (fun i h=>IsRangeIter h it (lo+(i:Nat)*1) ((n:Int)-(i:Nat)) 1))(ha:DAx X G H0 [a] F)(bt:Bn X "range":=by walk_at "b")(hs:starEach [a] X.env=[(false,eval a X.env)]:=by rfl):DIC Cm X G H0 tg (.Call (.Name "range" p') [a] [] pos) (zao iR1 F) :=
 ⟨PIC.imp (zsu hT bt.g bt.m ha.out hs) fun σ H R ⟨W,env,ds,env',ok,q,k⟩=>by
  cases e1:F env with
  | none=>simp[zao,e1] at q
  | some z =>
    obtain⟨as,env1⟩:=z
    cases e2:iR1 as with
    | none=>simp[zao,e1,e2] at q
    | some d' =>
      have q:some (d',env1)=some (ds,env'):=by simpa[zao,e1,e2] using q
      cases q
      refine⟨W,env,as,_,ok,e1,fun W1 vs H1 s1 ok1 p1=>?_⟩
      unfold iR1 at e2
      split at e2
      ·rename_i j
       split at e2
       ·rename_i hj
        cases e2
        obtain⟨v,rfl,r1⟩:=zql p1
        cases r1
        exact⟨j,rfl,hj.1,hj.2,k W1 _ H1 s1 ok1 zw4⟩
       ·cases e2
      ·cases e2⟩
theorem zca{tg:Expr}(ha:DAx X G H0 [a] F)(bt:Bn X "range":=by walk_at "b")(hs:starEach [a] X.env=[(false,eval a X.env)]:=by rfl):DIx X G H0 tg (.Call (.Name "range" p') [a] [] pos) (zao iR1 F):=zs6 (fun it lo n=>zst it lo n) ha bt hs
def capt:Option Sl->Option Sl | some (.sh d)=>some (.sh d) | _=>none
def zg8(tt:FT)(te:FE)(base:DE0):List D->Option (List D)
 | []=>some []
 | d::r=>(tt (some (.sh d)::base)).bind fun b=>if b.1=true then(te b.2).bind fun v=>(zg8 tt te base r).map (v.1::·) else zg8 tt te base r
def zbq(fi:FI)(ix:List Nat)(tt:FT)(te:FE):FA:=fun e=>(fi e).bind fun r=>if Few r.1.length then(zg8 tt te (ix.map fun j=>capt (r.2.getD j none)) r.1).map fun ds=>(ds,r.2) else none
@[simp] def fYes:FT:=fun e=>some (true,e)
def tDxT(K:PySem.W.Frag)(f:FT):TT:=fun σ H Q=>∃G H0,tDT K G H0 f σ H Q
def tDx(K:PySem.W.Frag)(f:FE):TE:=fun σ H Q=>∃G H0,tD K G H0 f σ H Q
def NoW:Addr->Prop:=fun _=>False
theorem zny{W:Addr->Prop}{env:DE0}{σ:St}{H:Hp}{ix:List Nat}{d:D}{v:V}(ok:Ok X.K G H0 W env σ H)(r:Rep X.K H (Ow G W) d v) :
  Ok X.K (gd fun a=>Ow G W a\/H a=none) H NoW (some (.sh d)::ix.map fun j=>capt (env.getD j none)) (some v::ix.map fun j=>σ.getD j none) H:=by
 have up:∀ {d:D} {v:V},Rep X.K H (Ow G W) d v->Rep X.K H (Ow (gd fun a=>Ow G W a\/H a=none) NoW) d v:=fun r=>r.mono (fun _ _ h=>h) fun a us o h=>⟨⟨.inl o,fun z=>z⟩,h⟩
 have shs:∀(i:Nat) (s:Sl),(some (Sl.sh d)::ix.map fun j=>capt (env.getD j none))[i]?=some (some s)->∃d',s=.sh d':=fun i s z=>by
  cases i with
  | zero=>exact⟨d,by simpa using z.symm⟩
  | succ i =>
    simp only[List.getElem?_cons_succ,List.getElem?_map] at z
    cases q:ix[i]? with
    | none=>rw[q] at z;cases z
    | some j =>
      rw[q] at z
      have z:capt (env.getD j none)=some s:=Option.some.inj z
      unfold capt at z
      split at z
      ·cases z;exact⟨_,rfl⟩
      ·cases z
 refine⟨Same.refl _,fun a z=>.inr z,fun l z=>z.elim,fun i s e=>?_,fun i j s1 s2 v1 v2 a e1 _ _ _ o _=>by obtain⟨d',rfl⟩:=shs i s1 e1;exact o.elim,by simp⟩
 cases i with
 | zero =>
   have e:some (Sl.sh d)=some s:=by simpa using e
   cases e
   exact⟨v,rfl,up r⟩
 | succ i =>
   simp only[List.getElem?_cons_succ,List.getElem?_map] at e ⊢
   cases q:ix[i]? with
   | none=>rw[q] at e;cases e
   | some j =>
     rw[q] at e
     have e:capt (env.getD j none)=some s:=Option.some.inj e
     rw[List.getD_eq_getElem?_getD] at e
     cases q2:env[j]? with
     | none=>rw[q2] at e;cases e
     | some o =>
       rw[q2] at e
       have e:capt o=some s:=e
       unfold capt at e
       split at e
       ·rename_i d'
        cases e
        obtain⟨u,e1,r1⟩:=ok.slot j _ q2
        exact⟨u,by simp only[Option.map_some];rw[List.getD_eq_getElem?_getD,e1];rfl,up r1⟩
       ·cases e
theorem zrm{fi:FI}{ix:List Nat}{tt:FT}{te:FE}:∀σ H Q,tDF X.K G H0 (zbq fi ix tt te) σ H Q->zs4 (tDI X.K G H0 fi) ix (tDxT X.K tt) (tDx X.K te) σ H Q:=fun σ H Q ⟨W,env,d,env',ok,q,k⟩=>by
 cases e1:fi env with
 | none=>simp[zbq,e1] at q
 | some z =>
   obtain⟨ds,env1⟩:=z
   by_cases hl:Few ds.length
   ·simp only[zbq,e1,Option.bind_some,if_pos hl] at q
    cases e2:zg8 tt te (ix.map fun j=>capt (env1.getD j none)) ds with
    | none=>rw[e2] at q;cases q
    | some outs =>
      rw[e2] at q;cases q
      refine⟨W,env,ds,_,ok,e1,fun W1 J H1 s1 ok1 wk=>?_⟩
      refine⟨fun i m H' ys=>∃rest done,m=ds.length-i/\i<=ds.length/\Same H1 H'/\Reps X.K H' (Ow G W1) done ys/\done.length<=i/\zg8 tt te (ix.map fun j=>capt (env'.getD j none)) (ds.drop i)=some rest/\d=done++rest,⟨ds.length,d,[],rfl,Nat.zero_le _,Same.refl _,.nil,Nat.le_refl _,e2,rfl⟩,?_⟩
      rintro i m H' ys ⟨rest,done,rfl,hi,sm,rp,hd,ec,rfl⟩
      have st:Step W1 H1 W1 H':=Step.same sm
      have ok':Ok X.K G H0 W1 env' σ H':=ok1.same sm
      by_cases hlt:i<ds.length
      ·have eq:ds.drop i=ds[i]::ds.drop (i+1):=List.drop_eq_getElem_cons hlt
       rw[eq] at ec
       obtain⟨hg,hy⟩:=wk.go W1 H' i ds[i] st (by simp[hlt])
       refine .inr ⟨hg,fun x H'' y=>?_⟩
       obtain⟨rfl,rx⟩:=hy x H'' y
       have oki:=zny (ix:=ix) ok' rx
       unfold zg8 at ec
       cases e3:tt (some (.sh ds[i])::ix.map fun j=>capt (env'.getD j none)) with
       | none=>rw[e3] at ec;cases ec
       | some bb =>
         obtain⟨b,envb⟩:=bb
         rw[e3,Option.bind_some] at ec
         refine⟨_,_,NoW,_,b,envb,oki,e3,fun W2 H2 s2 ok2=>?_⟩
         have sm2:Same H1 H2:=sm.trans ok2.stay
         have rp2:Reps X.K H2 (Ow G W1) done ys:=ok'.reps (Step.same ok2.stay) rp
         cases b with
         | false =>
           dsimp only
           rw[if_neg Bool.false_ne_true] at ec ⊢
           exact⟨ds.length-(i+1),by omega,rest,done,rfl,hlt,sm2,rp2,by omega,ec,rfl⟩
         | true =>
           dsimp only
           rw[if_pos rfl] at ec ⊢
           cases e4:te envb with
           | none=>simp only[e4] at ec;cases ec
           | some vv =>
             obtain⟨dv,envv⟩:=vv
             simp only[e4,Option.bind_some] at ec
             cases e5:zg8 tt te (ix.map fun j=>capt (env'.getD j none)) (ds.drop (i+1)) with
             | none=>rw[e5] at ec;cases ec
             | some rest' =>
               rw[e5] at ec;cases ec
               refine⟨_,_,W2,envb,dv,envv,ok2,e4,fun W3 v H3 s3 ok3 r3=>⟨?_,ds.length-(i+1),by omega,rest',done++[dv],rfl,hlt,sm.trans ok3.stay,?_,by rw[List.length_append,List.length_singleton];omega,by first | exact e5 | rfl,by simp⟩⟩
               ·have:ys.length<2 ^ 20:=by rw[← rp.length];have:ds.length<=2 ^ 20:=hl;omega
                exact Nat.lt_of_lt_of_le this (by rw[sizeLine_eq];decide)
               ·refine(ok'.reps (Step.same ok3.stay) rp).append (.cons (r3.mono (fun _ _ h=>h) fun a us o h=>⟨?_,h⟩) .nil)
                rcases o.1 with z | z
                ·exact z
                ·exact⟨ok'.good a (ok'.stay.free z),fun w=>by obtain⟨_,us,q⟩:=ok'.wl a w;rw[z] at q;cases q⟩
      ·have e:i=ds.length:=by omega
       subst e
       rw[List.drop_length] at ec
       cases ec
       refine .inl ⟨wk.stop W1 H' st,by rw[← rp.length];exact Nat.le_trans hd (Nat.le_trans hl (by rw[sizeLine_eq];decide)),fun l hn=>?_⟩
       obtain⟨h1,h2,h3,h4,h5,h6⟩:=zle ok' rp hn
       rw[List.append_nil] at k
       exact k W1 l _ _ ((s1.trans st).trans h1) h2 h3 h4 h5 h6
   ·simp only[zbq,e1,Option.bind_some,if_neg hl] at q;cases q
theorem zux{X':Cx}(hK:X'.K=X.K):PIfs X' [] (tDxT X.K fYes):=fun pins s σ H Q I ⟨G,H0,W,env,b,env',ok,e,k⟩=>by
 cases e
 exact zwu pins s σ H Q I (k W H Step.refl ok)
theorem if_x{X':Cx}{tt:FT}(hK:X'.K=X.K)(h:∀G H0,DTx X' G H0 c tt):PIfs X' [c] (tDxT X.K tt):=fun pins s σ H Q I ⟨G,H0,q⟩=>zwv (h G H0).out pins s σ H Q I (by rw[hK];exact q)
theorem el_x{X':Cx}{te:FE}(hK:X'.K=X.K)(h:∀G H0,DEx X' G H0 e te):PE X' e (tDx X.K te):=fun pins s σ H Q I ⟨G,H0,q⟩=>(h G H0).out pins s σ H Q I (by rw[hK];exact q)
theorem zjn{Nn Cn:List Str}{ix:List Nat}{sc:Scope}{px:Pos}{fi:FI}{te:FE}(an:Ats Nn Cn X)(hi:DIx X G H0 (.Name x px) a fi)(hel:∀cl C s₂ H₂ fp G H0,Ats (x::(subN Nn ix)) (subN Nn ix) (zaz X x (subN Nn ix) sc cl C s₂ H₂ fp)->DEx (zaz X x (subN Nn ix) sc cl C s₂ H₂ fp) G H0 e te)(hcb:zln Nn Cn ix x sc=true:=by decide +kernel)(hc:X.calm=true:=by rfl)(hs:∀v,foldedSetIterable a X.env v=pure v:=by intro _;rfl) :
  DFx X G H0 (.ListComp e [⟨.Name x px,a,[],0⟩] sc pos) (zbq fi ix fYes te) :=
 ⟨(znv (zjm an hcb) (fun _ _ _ _ _ _ _ _ _=>hc) hi.out (fun cl C s₂ H₂ fp _=>zux (X:=X) rfl) (fun cl C s₂ H₂ fp _=>el_x (X:=X) rfl (fun G H0=>hel cl C s₂ H₂ fp G H0 (zfe hcb))) hs).imp zrm⟩
theorem zuy{Nn Cn:List Str}{ix:List Nat}{sc:Scope}{px:Pos}{fi:FI}{te:FE}{tt:FT}{cd:Expr}(an:Ats Nn Cn X)(hi:DIx X G H0 (.Name x px) a fi)(hif:∀cl C s₂ H₂ fp G H0,Ats (x::(subN Nn ix)) (subN Nn ix) (zaz X x (subN Nn ix) sc cl C s₂ H₂ fp)->DTx (zaz X x (subN Nn ix) sc cl C s₂ H₂ fp) G H0 cd tt)(hel:∀cl C s₂ H₂ fp G H0,Ats (x::(subN Nn ix)) (subN Nn ix) (zaz X x (subN Nn ix) sc cl C s₂ H₂ fp)->DEx (zaz X x (subN Nn ix) sc cl C s₂ H₂ fp) G H0 e te)(hcb:zln Nn Cn ix x sc=true:=by decide +kernel)(hc:X.calm=true:=by rfl)(hs:∀v,foldedSetIterable a X.env v=pure v:=by intro _;rfl) :
  DFx X G H0 (.ListComp e [⟨.Name x px,a,[cd],0⟩] sc pos) (zbq fi ix tt te) :=
 ⟨(znv (zjm an hcb) (fun _ _ _ _ _ _ _ _ _=>hc) hi.out (fun cl C s₂ H₂ fp _=>if_x (X:=X) rfl (fun G H0=>hif cl C s₂ H₂ fp G H0 (zfe hcb))) (fun cl C s₂ H₂ fp _=>el_x (X:=X) rfl (fun G H0=>hel cl C s₂ H₂ fp G H0 (zfe hcb))) hs).imp zrm⟩
end
def Here(h h':Heap):Prop:=∀b o,h.get? b=some o->∃o',h'.get? b=some o'
theorem Here.trans{a b c:Heap}(x:Here a b)(y:Here b c):Here a c:=fun p o q=>let ⟨o',e⟩:=x p o q;y p o' e
theorem znz{a:Addr}{f:Obj->Obj}(hf:∀o,h.get? a=some o->(h.update a f).get? a=some (f o)):Here h (h.update a f):=fun b o q=>by
 by_cases e:a=b
 ·subst e;exact⟨_,hf o q⟩
 ·exact⟨o,(Heap.get?_update_other _ _ e).trans q⟩
structure XOk (B:Heap) (l:List Env) (e:Addr) (cls fl:Value) (h:Heap):Prop where
 stay:B.StaysIn h
 new:B.get? e=none
 fr:h.FunFrames B l
 tr:∃oe vs T oT ts,h.get? e=some oe/\oe.cls=cls/\oe.dict=none/\oe.data=.fields vs/\vs[1]?=some (.ref T)/\vs[2]?=some .none/\B.get? T=none/\T≠e/\h.get? T=some oT/\oT.data=.fields ts/\ts[3]?=some fl
theorem zuz(o:Obj)(f:Array Value->Array Value):(o.mapFields f).dict=o.dict:=by obtain⟨c,d,dt,sl⟩:=o;cases dt <;> rfl
variable{env:Env}{e L:Addr}{M:Model}{A:Around}{E:Value->Shared->Prop}{B:Heap}{outer:List Env}
theorem zy2{oe:Obj}{vs:Array Value}{hd:Value}{nx:Bool}(f1:A.frames=some (env::outer))(f2:s.heap.FunFrames B (env::outer))(f3:env.frame=some L)(g1:s.heap.get? e=some oe)(gd:oe.dict=none)(g2:oe.data=.fields vs)(g3:1<vs.size)(g4:vs[2]?=some .none)(k1:B.StaysIn s.heap)(k2:B.get? e=none)(h:∀h',XOk B (env::outer) e oe.cls (rawInt L) h'->s.heap.UpToSlots h'->Here s.heap h'->Q () { s with heap:=h' }) :
  wpAny M A (do let a ← frameOf env;let pl ← entryPlaceOf L nx;let b ← EntryCells.newEntry hd a .none (rawInt L) .none pl;setField (.ref e) 1 b) Q E s:=by
 have nfr:e∉(env::outer).filterMap (·.frame):=fun z=>by
  obtain⟨_,o,ho,hn⟩:=f2.mem z
  rw[g1] at ho;cases ho;exact hn vs g2
 refine wpAny_bind (wpAny_frameOf_fun f1 f2 f3 fun h1 so=>?_)
 refine wpAny_bind (wpAny_entryPlaceOf fun pl ipl=>?_)
 unfold EntryCells.newEntry newFields
 refine wpAny_bind (wpAny_newObj_type ?_ (ipl.sizeOk5 _ _ _ _ _))
 have e1:h1.get? e=some oe:=(so.2.1 e nfr).trans g1
 have b1:B.StaysIn h1:=fun b o q=>(so.2.1 b fun z=>by rw[(f2.mem z).1] at q;cases q).trans (k1 b o q)
 generalize hob:({ cls:=.type "traceback",dict:=none,data:=.fields ([hd,.ref L,.none,rawInt L,.none]++(if pl.isEmpty then List.replicate 6 Value.none else pl)).toArray }:Obj)=ob
 have ts3:∃ts,ob.data=.fields ts/\ts[3]?=some (rawInt L):=by subst hob;exact⟨_,rfl,by first | (simp;done) | (rcases ipl with rfl | ⟨_,_,_,_,_,_,_,rfl⟩ <;> simp)⟩
 have nof:ob.isFreed=false:=by subst hob;rfl
 clear hob
 have e2:=Heap.get?_push_of_some (h:=h1) ob e1
 have nT:h1.objs.size≠e:=Nat.ne_of_gt (Heap.lt_size e1)
 have d3:=Obj.data_mapFields g2 (·.setIfInBounds 1 (Value.ref h1.objs.size))
 refine wpAny_setField e2 g2 g3 (h _ ?_ ?_ ?_)
 ·refine⟨fun b o q=>?_,k2,f2.of_keeps fun b o q n=>?_,?_⟩
  ·rw[Heap.get?_update_other _ _ (fun z:e=b=>by rw[← z,k2] at q;cases q)]
   exact Heap.get?_push_of_some _ (b1 b o q)
  ·obtain⟨sl,z⟩:=so.2.2 b o q
   refine⟨{ o with slots:=sl },?_,rfl⟩
   rw[Heap.get?_update_other _ _ (fun y:e=b=>by rw[← y,g1] at q;cases q;exact n vs g2)]
   exact Heap.get?_push_of_some _ z
  ·obtain⟨ts,t1,t2⟩:=ts3
   refine⟨_,_,h1.objs.size,ob,ts,Heap.get?_update_self _ e2 (Obj.isFreed_of_fields d3),Obj.cls_mapFields _ _,(zuz _ _).trans gd,d3,by simp[g3],by rw[Array.getElem?_setIfInBounds_ne (by decide)];exact g4,b1.fresh,nT,?_,t1,t2⟩
   rw[Heap.get?_update_other _ _ (Ne.symm nT)]
   exact Heap.get?_push_size h1 nof
 ·intro b o q n
  obtain⟨sl,z⟩:=so.2.2 b o q
  refine⟨sl,?_⟩
  rw[Heap.get?_update_other _ _ (fun y:e=b=>by rw[← y,g1] at q;cases q;exact n vs g2)]
  exact Heap.get?_push_of_some _ z
 ·intro b o q
  obtain⟨sl,z⟩:=so.2.2 b o q
  exact znz (fun o q=>Heap.get?_update_self _ q (by rw[e2] at q;cases q;exact Obj.isFreed_of_fields d3)) b _ (Heap.get?_push_of_some _ z)
variable{l:List Env}{cls fl:Value}
theorem zu0(x:XOk B l e cls fl s.heap)(h:∀h',XOk B l e cls .none h'->s.heap.UpToSlots h'->Here s.heap h'->Q () { s with heap:=h' }):wpAny M A (setFlight (.ref e) none) Q E s:=by
 obtain⟨oe,vs,T,oT,ts,g1,g2,gd,g3,g4,g5,g6,g7,g8,g9,ga⟩:=x.tr
 have sz:3<ts.size:=(Array.getElem?_eq_some_iff.mp ga).1
 unfold setFlight
 refine wpAny_bind (wpAny_field g1 g3 g4 ?_)
 rw[if_pos (show(Value.ref T != Value.none)=true from by simp)]
 have d3:=Obj.data_mapFields g9 (·.setIfInBounds 3 ((none:Option Addr).elim Value.none fun f=>rawInt f))
 refine wpAny_setField g8 g9 sz (h _ ⟨fun b o q=>?_,x.new,x.fr.of_keeps fun b o q n=>⟨o,?_,rfl⟩,_,vs,T,_,_,(Heap.get?_update_other _ _ g7).trans g1,g2,gd,g3,g4,g5,g6,g7,Heap.get?_update_self _ g8 (Obj.isFreed_of_fields d3),d3,by simp[sz]⟩ (fun b o q n=>⟨o.slots,?_⟩) (znz fun o q=>Heap.get?_update_self _ q (by rw[g8] at q;cases q;exact Obj.isFreed_of_fields d3)))
 ·exact(Heap.get?_update_other _ _ fun z=>by rw[← z,g6] at q;cases q).trans (x.stay b o q)
 ·exact(Heap.get?_update_other _ _ fun z=>by rw[← z,g8] at q;cases q;exact n ts g9).trans q
 ·exact(Heap.get?_update_other _ _ fun z=>by rw[← z,g8] at q;cases q;exact n ts g9).trans q
theorem z5p(f1:A.frames=some (env::outer))(f3:env.frame=some L)(x:XOk B (env::outer) e cls .none s.heap)(h:∀h',XOk B (env::outer) e cls (rawInt L) h'->s.heap.UpToSlots h'->Here s.heap h'->Q () { s with heap:=h' }):wpAny M A (noteFrame (.ref e) env) Q E s:=by
 obtain⟨oe,vs,T,oT,ts,g1,g2,gd,g3,g4,g5,g6,g7,g8,g9,ga⟩:=x.tr
 subst g2
 unfold noteFrame
 simp only[f3]
 refine wpAny_bind (wpAny_field g1 g3 g4 ?_)
 rw[if_pos (show(Value.ref T != Value.none)=true from by simp)]
 refine wpAny_bind (wpAny_field g8 g9 ga ?_)
 rw[if_neg (show ¬((Value.none==rawInt L)=true) from by simp[rawInt])]
 refine wpAny_bind (wpAny_setField g8 g9 (Array.getElem?_eq_some_iff.mp ga).1 ?_)
 have ot:∀b o,s.heap.get? b=some o->(∀vs,o.data≠.fields vs)->(s.heap.update T (Obj.mapFields (·.setIfInBounds 3 Value.none))).get? b=some o:=fun b o q n =>
  (Heap.get?_update_other _ _ fun z=>by rw[← z,g8] at q;cases q;exact n ts g9).trans q
 refine zy2 f1 (x.fr.of_keeps fun b o q n=>⟨o,ot b o q n,rfl⟩) f3 ((Heap.get?_update_other _ _ g7).trans g1) gd g3 (Array.getElem?_eq_some_iff.mp g4).1 g5 (fun b o q=>(Heap.get?_update_other _ _ fun z=>by rw[← z,g6] at q;cases q).trans (x.stay b o q)) x.new fun h' y u w=>h h' y (fun b o q n=>u b o (ot b o q n) n) (Here.trans (znz fun o q=>Heap.get?_update_self _ q (by rw[g8] at q;cases q;exact Obj.isFreed_of_fields (Obj.data_mapFields g9 _))) w)
theorem z5q(f1:A.frames=some (env::outer))(f3:env.frame=some L)(x:XOk B (env::outer) e cls .none s.heap)(h:∀h',XOk B (env::outer) e cls .none h'->s.heap.UpToSlots h'->Here s.heap h'->Q () { s with heap:=h' }):wpAny M A (noteFrame (.ref e) env) (fun _ s1=>wpAny M A (setFlight (.ref e) none) Q E s1) E s :=
 z5p f1 f3 x fun h1 x1 u1 w1=>zu0 x1 fun h2 x2 u2 w2=>h h2 x2 (u1.trans u2) (w1.trans w2)
theorem z3z{h0:Heap}{args:List Value}(f1:A.frames=some (env::outer))(f2:h0.FunFrames B (env::outer))(f3:env.frame=some L)(k1:B.StaysIn h0)(m:Heap.MadeExcOf h0 s.heap e cls args)(h:∀h',XOk B (env::outer) e cls .none h'->s.heap.UpToSlots h'->Here s.heap h'->Q () { s with heap:=h' }):wpAny M A (noteFrame (.ref e) env) (fun _ s1=>wpAny M A (setFlight (.ref e) none) Q E s1) E s:=by
 obtain⟨t,g1,_,_⟩:=m.there
 have k2:B.get? e=none:=by
  cases q:B.get? e with
  | none=>rfl
  | some o=>have:=k1 e o q;rw[m.new] at this;cases this
 unfold noteFrame
 simp only[f3]
 refine wpAny_bind (wpAny_field g1 rfl (x:=Value.none) rfl ?_)
 rw[if_neg (by decide)]
 exact zy2 f1 (f2.of_keeps fun b o q _=>⟨o,m.keeps b o q,rfl⟩) f3 g1 rfl rfl (by simp) rfl (fun b o q=>m.keeps b o (k1 b o q)) k2 fun h1 x1 u1 w1=>zu0 x1 fun h2 x2 u2 w2=>h h2 x2 (u1.trans u2) (w1.trans w2)
end L2
namespace L2
open PySem PySem.Spec PyProof.Rows PySem.W
def Cl(K:PySem.W.Frag)(c:Str)(C:Addr):Prop:=PySem.W.nsIn K mainGlobals c=some (some (.ref C))
def Fly(P:Program)(w:World)(l:List Env)(H:Hp)(s:Shared)(C e:Addr)(H':Hp)(s':Shared):Prop :=
 ∃B,XOk B l e (.ref C) .none s'.heap/\(∀b o,s.heap.get? b=some o->H b=none->b∉frs l->B.get? b=some o)/\HOk P w H' B/\Un (frs l) [] H H' s.heap s'.heap/\s'.os=s.os/\AllBare s'.gens
abbrev CXr(P:Program)(w:World):CXT:=fun l H s E e s'=>∃ea C H',e=.ref ea/\Fly P w l H s C ea H' s'/\E (.ref C) none H'
def XS(X:Cx)(pins:List (Addr×Obj))(σ:St)(H:Hp)(C e:Addr)(s':Shared):Prop :=
 (∃s H1,Inv X pins σ H1 s/\Fly X.prog X.w X.stack H1 s C e H s')\/∃s args,Inv X pins σ H s/\Heap.MadeExcOf s.heap s'.heap e (.ref C) args/\s'={ s with heap:=s'.heap }
variable{CX:CXT}{P:Program}{w:World}{K:PySem.W.Frag}{mg:Str->Option Value}{base:Heap}{x qual:Str}{st:Stmt}{f:Addr}{fd:FuncData}{N ps:List Str}{k:Nat}{sp:Sp}
theorem Fun.okX(F:Fun K x qual st f fd)(S:zfu N ps (zaj st))(len:∀vs H Q E,sp vs H Q E->vs.length=ps.length)(hbody:∀(cdv:Value) (A:Around) (outer:List Env) (s:Shared) (H:Hp) (vs:List V) (Q:VK) (E:XK),Room k (A.deeper (envOfC qual (zaj st) s.heap.objs.size f cdv))->sp vs H Q E ->
   ∃t,PSs (cxOf CX P w K mg base N qual (zaj st) f cdv A outer s H E) (zb4 st) t/\t { nx:=fun _ H'=>Q .non H',rt:=Q } (start N vs) H):FnOk P w K mg base CX (k+1) f fd ps sp:=by
 obtain⟨oc,od,kV,doc,pm,an,cdv,ct,osl,rfl,lk,hcd⟩:=F.ex
 exact z21 lk hcd S len fun A outer s H vs Q E hr hsp=>hbody cdv A outer s H vs Q E hr hsp
theorem Fun.okC(F:Fun K x qual st f fd)(S:zfu N ps (zaj st))(len:∀vs H Q E,sp vs H Q E->vs.length=ps.length)(hbody:∀(cdv:Value) (A:Around) (outer:List Env) (s:Shared) (H:Hp) (vs:List V) (Q:VK) (E:XK),Room k (A.deeper (envOfC qual (zaj st) s.heap.objs.size f cdv))->sp vs H Q E ->
   ∃t,PSs (cxOf CX P w K mg base N qual (zaj st) f cdv A outer s H E).nox (zb4 st) t/\t { nx:=fun _ H'=>Q .non H',rt:=Q } (start N vs) H):FnOk P w K mg base CX (k+1) f fd ps sp :=
 F.okX S len fun cdv A outer s H vs Q E hr h=>let ⟨t,p,q⟩:=hbody cdv A outer s H vs Q E hr h;⟨t,p.nox,q⟩
variable{X:Cx}{pins:List (Addr×Obj)}{σ:St}{H H':Hp}{s s':Shared}{C e:Addr}
theorem Fly.inv(I:Inv X pins σ H s)(f:Fly X.prog X.w X.stack H s C e H' s'):Inv X pins σ H' s':=by
 obtain⟨B,x,_,hk,un,os,ba⟩:=f
 exact I.call' (ch:=[]) os un (hk.kept x.stay) ba fun b z=>absurd z (by simp)
theorem XS.come{E:Value->Shared->Prop}{Q:Unit->Shared->Prop}(h:XS X pins σ H' C e s')(hX:X.stack=X.env::X.outer)(hf:X.env.frame=some X.env.locals)(hQ:∀h2 s1 H1,Inv X pins σ H1 s1->Fly X.prog X.w X.stack H1 s1 C e H' { s' with heap:=h2 }->Q () { s' with heap:=h2 }):wpAny (model X.prog X.w) X.A (noteFrame (.ref e) X.env) (fun _ s1=>wpAny (model X.prog X.w) X.A (setFlight (.ref e) none) Q E s1) E s':=by
 rcases h with⟨s1,H1,I,f⟩ | ⟨s1,args,I,m,es⟩
 ·obtain⟨B,x,kb,hk,un,os,ba⟩:=f
  have st:=I.stack
  rw[hX] at x st
  refine z5q (I.ok.frames.trans (by rw[hX])) hf x fun h2 x2 up he=>hQ h2 s1 H1 I ⟨B,hX ▸ x2,kb,hk,⟨fun b o q n hb _=>x2.stay b o (kb b o q n hb),fun b o q n hb hx=>?_,un.free,fun b o q hx=>?_,un.tups,un.frzs,un.tbls⟩,os,ba⟩
  ·obtain⟨sl,z⟩:=un.slot b o q n hb hx
   rw[hX] at hb
   obtain⟨_,o2,y,nf⟩:=st.mem hb
   rw[q] at y;cases y
   obtain⟨sl',z'⟩:=up b _ z nf
   exact⟨sl',z'⟩
  ·obtain⟨o',z⟩:=un.there b o q hx
   exact he b o' z
 ·have st:=I.stack
  have fr:∀b∈frs X.stack,H' b=none:=I.stkFree
  have nfr:∀b o,H' b=some o->b∉frs X.stack:=fun b o q z=>by rw[fr b z] at q;cases q
  have hkB:HOk X.prog X.w H' (hideAll s1.heap (frs X.stack)):=fun b o q =>
   (I.hok b o q).stay (fun c u hc z=>hideAll_get _ z (by rcases hc with rfl | hc;exact nfr _ _ q;exact nfr _ _ hc)) (fun _ z=>z) fun _ _ z=>z
  have f2:s1.heap.FunFrames (hideAll s1.heap (frs X.stack)) (X.env::X.outer):=hX ▸ funFrames_hide (as:=frs X.stack) st fun env he a ha=>List.mem_filterMap.mpr ⟨env,he,ha⟩
  refine z3z (B:=hideAll s1.heap (frs X.stack)) (I.ok.frames.trans (by rw[hX])) f2 hf (fun b o q=>of_hideAll _ q) m fun h2 x2 up he=>hQ h2 s1 H' I ⟨_,hX ▸ x2,fun b o q n hb=>hideAll_get _ q hb,hkB,⟨fun b o q n hb _=>x2.stay b o (hideAll_get _ q hb),fun b o q n hb _=>?_,fun _ _ _ n _=>n,fun b o q _=>he b o (m.keeps b o q),fun _ _ z=>z,fun _ _ _ z=>z,fun _ ps z=>⟨#[],by rw[Array.append_empty];exact z⟩⟩,by rw[es],by rw[es];exact I.bare⟩
  obtain⟨_,o2,y,nf⟩:=st.mem hb
  rw[q] at y;cases y
  exact up b o (m.keeps b o q) nf
theorem znj{scope:Scope}{cd:Value}{A:Around}{outer:List Env}{s₀:Shared}{H₀:Hp}{E:XK}(h:XS (cxOf (CXr P w) P w K mg base N qual scope f cd A outer s₀ H₀ E) pins σ H' C e s')(hE:E (.ref C) none H'):(cxOf (CXr P w) P w K mg base N qual scope f cd A outer s₀ H₀ E).xe (.ref e) s':=by
 unfold cxOf
 dsimp only
 unfold leaving
 refine wpAny_bind (h.come rfl rfl fun h2 s1 H1 I f=>⟨e,C,H',rfl,?_,hE⟩)
 have J:=f.inv I
 obtain⟨B,x,kb,hk,_⟩:=f
 refine⟨B,⟨x.stay,x.new,x.fr.2.2,x.tr⟩,fun b o q n hb=>?_,hk,J.base,J.os,J.bare⟩
 refine kb b o (I.base.keep b o q n hb (by simp[cxOf])) (I.base.free b o q n (by simp[cxOf])) fun z=>?_
 rcases List.mem_cons.mp (show b∈s₀.heap.objs.size::frs outer from z) with z | z
 ·rw[z] at q;exact absurd (Heap.lt_size q) (Nat.lt_irrefl _)
 ·exact hb z
end L2
namespace L2
open PySem PySem.Spec PyProof.Rows
inductive Fl where
 | nx | bk | ct | rt (d:D) | rf (ds:List D) | r2 (dss:List (List D)) | xc (c:Str) | ra (k:AK) (ps:List Pt)
abbrev FS:=DE0->Option (Fl×DE0)
structure N2 (K:PySem.W.Frag) (G:Gd) (H0 H:Hp) (l:Addr) (ls:List Addr) (dss:List (List D)):Prop where
 nd:(l::ls).Nodup
 new:∀a∈l::ls,H0 a=none
 top:H l=some (.lst (ls.map V.ref))
 len:ls.length=dss.length
 inn:∀(j:Nat) (ds:List D) (a:Addr),dss[j]?=some ds->ls[j]?=some a->∃vs,H a=some (.lst vs)/\Reps K H (fun b=>G b/\b∉l::ls) ds vs
def EndOk(X:Cx)(G:Gd)(H0:Hp)(W:Addr->Prop)(H:Hp)(Dn:Ends)(env':DE0):Fl->Prop
 | .nx=>∀W' σ' H',Step W H W' H'->Ok X.K G H0 W' env' σ' H'->Dn.nx σ' H'
 | .bk=>∀W' σ' H',Step W H W' H'->Ok X.K G H0 W' env' σ' H'->Dn.bk σ' H'
 | .ct=>∀W' σ' H',Step W H W' H'->Ok X.K G H0 W' env' σ' H'->Dn.ct σ' H'
 | .rt d=>∀W' σ' v H',Step W H W' H'->Ok X.K G H0 W' env' σ' H'->Rep X.K H' (Ow G W') d v->Dn.rt v H'
 | .rf ds=>∀l vs H',Same H0 H'->H0 l=none->H' l=some (.lst vs)->Reps X.K H' (fun a=>G a/\a≠l) ds vs->Dn.rt (.ref l) H'
 | .r2 dss=>∀l ls H',Same H0 H'->N2 X.K G H0 H' l ls dss->Dn.rt (.ref l) H'
 | .xc c=>∀W' σ' H' C,Cl X.K c C->Step W H W' H'->Ok X.K G H0 W' env' σ' H'->∀pins e s',XS X pins σ' H' C e s'->X.xe (.ref e) s'
 | .ra k ps=>∀W' σ' p H',Step W H W' H'->Ok X.K G H0 W' env' σ' H'->SlOk X.K G W' H' (.ag k none ps) (.ref p)->Dn.rt (.ref p) H'
def tDS(X:Cx)(G:Gd)(H0:Hp)(g:FS):TS:=fun Dn σ H=>∃W env fl env',Ok X.K G H0 W env σ H/\g env=some (fl,env')/\EndOk X G H0 W H Dn env' fl
structure DSx (X:Cx) (G:Gd) (H0:Hp) (s:Stmt) (g:FS):Prop where
 out:PS X s (tDS X G H0 g)
structure DBx (X:Cx) (G:Gd) (H0:Hp) (s:List Stmt) (g:FS):Prop where
 out:PSs X s (tDS X G H0 g)
variable{X:Cx}{e:Expr}{t t':TS}
theorem PS.imp{e:Stmt}(h:PS X e t)(i:∀D σ H,t' D σ H->t D σ H):PS X e t':=fun pins s σ H D I q=>h pins s σ H D I (i D σ H q)
theorem PSs.imp{e:List Stmt}(h:PSs X e t)(i:∀D σ H,t' D σ H->t D σ H):PSs X e t':=fun pins s σ H D I q=>h pins s σ H D I (i D σ H q)
variable{G:Gd}{W W1:Addr->Prop}{H0 H H1:Hp}{Dn:Ends}{env':DE0}{fl:Fl}
theorem EndOk.step(st:Step W H W1 H1)(h:EndOk X G H0 W H Dn env' fl):EndOk X G H0 W1 H1 Dn env' fl:=by
 cases fl with
 | nx=>exact fun W' σ' H' s o=>h W' σ' H' (st.trans s) o
 | bk=>exact fun W' σ' H' s o=>h W' σ' H' (st.trans s) o
 | ct=>exact fun W' σ' H' s o=>h W' σ' H' (st.trans s) o
 | rt d=>exact fun W' σ' v H' s o=>h W' σ' v H' (st.trans s) o
 | rf ds=>exact h
 | r2 dss=>exact h
 | xc c=>exact fun W' σ' H' C z s o=>h W' σ' H' C z (st.trans s) o
 | ra k ps=>exact fun W' σ' p H' s o=>h W' σ' p H' (st.trans s) o
def Fl.out:Fl->Bool | .rt _=>true | .rf _=>true | .r2 _=>true | .xc _=>true | .ra _ _=>true | _=>false
variable{Dn':Ends}
protected theorem EndOk.go(ho:fl.out=true)(h:EndOk X G H0 W H Dn env' fl)(e:Dn'.rt=Dn.rt)(st:Step W H W1 H1):EndOk X G H0 W1 H1 Dn' env' fl:=by
 cases fl with
 | nx=>cases ho
 | bk=>cases ho
 | ct=>cases ho
 | rt d=>intro W' σ' v H' s o r;rw[e];exact h W' σ' v H' (st.trans s) o r
 | rf ds=>intro v vs H' s n l r;rw[e];exact h v vs H' s n l r
 | r2 dss=>intro v ls H' s n;rw[e];exact h v ls H' s n
 | xc c=>exact fun W' σ' H' C z s o=>h W' σ' H' C z (st.trans s) o
 | ra k ps=>intro W' σ' p H' s o r;rw[e];exact h W' σ' p H' (st.trans s) o r
@[simp] def sNil:FS:=fun e=>some (.nx,e)
@[simp] def sSeq(g h:FS):FS:=fun e=>(g e).bind fun r=>match r.1 with | .nx=>h r.2 | _=>some r
@[simp] def sSet(i:Nat)(f:FE):FS:=fun e=>(f e).map fun r=>(.nx,r.2.set i (some (.sh r.1)))
@[simp] def sOwn(i:Nat)(f:FA):FS:=fun e=>(f e).map fun r=>(.nx,r.2.set i (some (.ow r.1)))
@[simp] def sRet(f:FE):FS:=fun e=>(f e).map fun r=>(.rt r.1,r.2)
@[simp] def zu1(f:FA):FS:=fun e=>(f e).map fun r=>(.rf r.1,r.2)
@[simp] def sIf(c:FT)(g h:FS):FS:=fun e=>(c e).bind fun r=>if r.1=true then g r.2 else h r.2
@[simp] def za7(f:FE):FS:=fun e=>(f e).map fun r=>(.nx,r.2)
@[simp] def zrn:FS:=fun _=>none
def forL(i:Nat)(g:FS):List D->DE0->Option (Fl×DE0)
 | [],e=>some (.nx,e)
 | d::r,e=>(g (e.set i (some (.sh d)))).bind fun q=>match q.1 with | .nx=>forL i g r q.2 | .ct=>forL i g r q.2 | .bk=>some (.nx,q.2) | .rt d=>some (.rt d,q.2) | .rf ds=>some (.rf ds,q.2) | .r2 ds=>some (.r2 ds,q.2) | .xc c=>some (.xc c,q.2) | .ra k ps=>some (.ra k ps,q.2)
@[simp] def sFor(i:Nat)(fi:FI)(g:FS):FS:=fun e=>(fi e).bind fun r=>forL i g r.1 r.2
def zea(c:FT)(g:FS):Nat->DE0->Option (Fl×DE0)
 | 0,_=>none
 | n+1,e=>(c e).bind fun r=>if r.1=true then(g r.2).bind fun q=>match q.1 with | .nx=>zea c g n q.2 | .ct=>zea c g n q.2 | .bk=>some (.nx,q.2) | .rt d=>some (.rt d,q.2) | .rf ds=>some (.rf ds,q.2) | .r2 ds=>some (.r2 ds,q.2) | .xc c=>some (.xc c,q.2) | .ra k ps=>some (.ra k ps,q.2) else some (.nx,r.2)
section
variable {X:Cx} {G:Gd} {H0:Hp} {a b c e:Expr} {es rest:List Expr} {f g:FE} {F:FA} {p q:FT} {s:Stmt} {ss:List Stmt} {u v:FS} {pos p' p1 pos1:Pos} {x:Str} {i:Nat}
theorem za5  : DBx X G H0 [] sNil:=⟨zzo.imp fun Dn σ H ⟨W,env,fl,env',ok,q,k⟩=>by
 cases q
 exact k W σ H Step.refl ok⟩
theorem zad(h1:DSx X G H0 s u)(h2:DBx X G H0 ss v):DBx X G H0 (s::ss) (sSeq u v):=⟨(zwi h1.out h2.out).imp fun Dn σ H ⟨W,env,fl,env',ok,q,k⟩=>by
 cases e1:u env with
 | none=>simp[sSeq,e1] at q
 | some r =>
   obtain⟨fl1,env1⟩:=r
   refine⟨W,env,fl1,env1,ok,e1,?_⟩
   cases fl1 with
   | nx =>
     have q:v env1=some (fl,env'):=by simpa[sSeq,e1] using q
     exact fun W1 σ1 H1 s1 ok1=>⟨W1,env1,fl,env',ok1,q,k.step s1⟩
   | bk =>
     have q:some (Fl.bk,env1)=some (fl,env'):=by simpa[sSeq,e1] using q
     cases q;exact k
   | ct =>
     have q:some (Fl.ct,env1)=some (fl,env'):=by simpa[sSeq,e1] using q
     cases q;exact k
   | rt d =>
     have q:some (Fl.rt d,env1)=some (fl,env'):=by simpa[sSeq,e1] using q
     cases q;exact k
   | rf d =>
     have q:some (Fl.rf d,env1)=some (fl,env'):=by simpa[sSeq,e1] using q
     cases q;exact k
   | r2 d =>
     have q:some (Fl.r2 d,env1)=some (fl,env'):=by simpa[sSeq,e1] using q
     cases q;exact k
   | xc d =>
     have q:some (Fl.xc d,env1)=some (fl,env'):=by simpa[sSeq,e1] using q
     cases q;exact k
   | ra d d' =>
     have q:some (Fl.ra d d',env1)=some (fl,env'):=by simpa[sSeq,e1] using q
     cases q;exact k⟩
theorem zag(h:DSx X G H0 s u):DBx X G H0 [s] u:=⟨zzp h.out⟩
theorem z30(hN:X.N.Nodup)(hi:X.N[i]?=some x:=by rfl)(he:DEx X G H0 e f)(ps:PS X (.Assign [.Name x p'] e pos) (tAsg (tD X.K G H0 f) (zhb i))):DSx X G H0 (.Assign [.Name x p'] e pos) (sSet i f):=⟨ps.imp fun Dn σ H ⟨W,env,fl,env',ok,q,k⟩=>by
 cases e1:f env with
 | none=>simp[sSet,e1] at q
 | some r =>
   have q:some (Fl.nx,r.2.set i (some (Sl.sh r.1)))=some (fl,env'):=by simpa[sSet,e1] using q
   cases q
   exact⟨W,env,_,_,ok,e1,fun W1 v1 H1 s1 ok1 p1=>k W1 _ H1 s1 (ok1.set p1)⟩⟩
theorem zc9(ps:PS X (.Assign [.Name x p'] e pos) (tAsg (tDF X.K G H0 F) (zhb i))):DSx X G H0 (.Assign [.Name x p'] e pos) (sOwn i F):=⟨ps.imp fun Dn σ H ⟨W,env,fl,env',ok,q,k⟩=>by
 cases e1:F env with
 | none=>simp[sOwn,e1] at q
 | some r =>
   have q:some (Fl.nx,r.2.set i (some (Sl.ow r.1)))=some (fl,env'):=by simpa[sOwn,e1] using q
   cases q
   exact⟨W,env,_,_,ok,e1,fun W1 l vs H1 s1 ok1 ok2 nW hl rp=>k (addW W1 l) _ H1 s1 (ok2.setO (.inr rfl) hl rp (ok1.noOwn nW))⟩⟩
theorem zam(he:DEx X G H0 e f):DSx X G H0 (.Return (some e) pos) (sRet f):=⟨(zo5 he.out).imp fun Dn σ H ⟨W,env,fl,env',ok,q,k⟩=>by
 cases e1:f env with
 | none=>simp[sRet,e1] at q
 | some r =>
   have q:some (Fl.rt r.1,r.2)=some (fl,env'):=by simpa[sRet,e1] using q
   cases q
   exact⟨W,env,_,_,ok,e1,fun W1 v1 H1 s1 ok1 p1=>k W1 σ v1 H1 s1 ok1 p1⟩⟩
theorem z0h(he:DFx X G H0 e F):DSx X G H0 (.Return (some e) pos) (zu1 F):=⟨(zo5 he.out).imp fun Dn σ H ⟨W,env,fl,env',ok,q,k⟩=>by
 cases e1:F env with
 | none=>simp[zu1,e1] at q
 | some r =>
   have q:some (Fl.rf r.1,r.2)=some (fl,env'):=by simpa[zu1,e1] using q
   cases q
   exact⟨W,env,_,_,ok,e1,fun W1 l vs H1 s1 ok1 ok2 nW hl rp=>k l vs H1 ok1.stay (ok2.wl l (.inr rfl)).1 hl (rp.mono (fun _ _ h=>h) fun a us o h=>⟨⟨o.1,fun z=>o.2 (.inr z)⟩,h⟩)⟩⟩
def fOwn(i:Nat):FA:=fun e=>match e[i]? with | some (some (.ow ds))=>some (ds,e.set i none) | _=>none
@[simp] def zs7(i:Nat):FS:=fun e=>match e[i]? with | some (some (.ow ds))=>some (.rf ds,e) | _=>none
theorem zu2{Nn Cn:List Str}{i:Nat}(an:Ats Nn Cn X)(hno:Nn[i]?=some x:=by rfl):DSx X G H0 (.Return (some (.Name x p')) pos) (zs7 i):=⟨(zo5 ((an.a hno).pe)).imp fun Dn σ H ⟨W,env,fl,env',ok,q,k⟩=>by
 unfold zs7 at q
 split at q
 ·rename_i ds hq
  cases q
  obtain⟨v,e1,l,vs,rfl,hW,hl,r⟩:=ok.slot i _ hq
  exact⟨_,e1,k l vs H ok.stay (ok.wl l hW).1 hl (r.mono (fun _ _ h=>h) fun a us o h=>⟨⟨o.1,fun z=>o.2 (z ▸ hW)⟩,h⟩)⟩
 ·cases q⟩
theorem zb5{aa bb:List Stmt}(hc:DTx X G H0 c p)(ha:DBx X G H0 aa u)(hb:DBx X G H0 bb v):DSx X G H0 (.If c aa bb pos) (sIf p u v):=⟨(z48 hc.out ha.out hb.out).imp fun Dn σ H ⟨W,env,fl,env',ok,q,k⟩=>by
 cases e1:p env with
 | none=>simp[sIf,e1] at q
 | some r =>
   obtain⟨t,env1⟩:=r
   refine⟨W,env,t,env1,ok,e1,fun W1 H1 s1 ok1=>?_⟩
   cases t with
   | true=>rw[if_pos rfl];exact⟨W1,env1,fl,env',ok1,by simpa[sIf,e1] using q,k.step s1⟩
   | false=>rw[if_neg Bool.false_ne_true];exact⟨W1,env1,fl,env',ok1,by simpa[sIf,e1] using q,k.step s1⟩⟩
theorem zn0  : DSx X G H0 s zrn:=⟨zwj.imp fun Dn σ H ⟨W,env,fl,env',ok,q,k⟩=>by cases q⟩
theorem za0(he:DEx X G H0 e f)(hs:swapsWith e none pos.line X.env=pure false:=by rfl):DSx X G H0 (.Expr e pos) (za7 f):=⟨(ztv he.out hs).imp fun Dn σ H ⟨W,env,fl,env',ok,q,k⟩=>by
 cases e1:f env with
 | none=>simp[za7,e1] at q
 | some r =>
   have q:some (Fl.nx,r.2)=some (fl,env'):=by simpa[za7,e1] using q
   cases q
   exact⟨W,env,_,_,ok,e1,fun W1 v1 H1 s1 ok1 p1=>k W1 σ H1 s1 ok1⟩⟩
theorem zcw{tg:Str}{px:Pos}{body:List Stmt}{fi:FI}(hi:DIx X G H0 (.Name tg px) a fi)(hg:PG X (.Name tg px) (zhb i))(hb:DBx X G H0 body u)(hp:PassesOwn (model X.prog X.w) X.A X.env X.xe:=by passes_own)(hc:X.calm=true:=by rfl)(hs:∀x,foldedSetIterable a X.env x=pure x:=by intro _;rfl):DSx X G H0 (.For (.Name tg px) a body [] pos) (sFor i fi u):=⟨(zt3 hp hc hi.out hg hb.out hs).imp fun Dn σ H ⟨W,env,fl,env',ok,q,k⟩=>by
 cases e1:fi env with
 | none=>simp[sFor,e1] at q
 | some z =>
   obtain⟨ds,env1⟩:=z
   have q:forL i u ds env1=some (fl,env'):=by simpa[sFor,e1] using q
   refine⟨W,env,ds,env1,ok,e1,fun W1 J H1 s1 ok1 wk=>?_⟩
   refine⟨fun n m σ' H'=>∃W' env2,m=ds.length-n/\n<=ds.length/\Step W1 H1 W' H'/\Ok X.K G H0 W' env2 σ' H'/\forL i u (ds.drop n) env2=some (fl,env'),⟨ds.length,W1,env1,rfl,Nat.zero_le _,Step.refl,ok1,q⟩,?_⟩
   rintro n m σ' H' ⟨W',env2,rfl,hn,st,ok',ef⟩
   by_cases hlt:n<ds.length
   ·have eq:ds.drop n=ds[n]::ds.drop (n+1):=List.drop_eq_getElem_cons hlt
    rw[eq] at ef
    obtain⟨hg,hy⟩:=wk.go W' H' n ds[n] st (by simp[hlt])
    unfold forL at ef
    cases e3:u (env2.set i (some (.sh ds[n]))) with
    | none=>rw[e3] at ef;cases ef
    | some r =>
      obtain⟨fl3,env3⟩:=r
      rw[e3,Option.bind_some] at ef
      refine .inr ⟨hg,fun σ2 H2=>∃W2 env4,Step W1 H1 W2 H2/\Ok X.K G H0 W2 env4 σ2 H2/\forL i u (ds.drop (n+1)) env4=some (fl,env'),fun σ2 H2 ⟨W2,env4,s2,ok2,e4⟩=>⟨ds.length-(n+1),by omega,W2,env4,rfl,hlt,s2,ok2,e4⟩,fun x H'' y=>?_⟩
      obtain⟨rfl,rx⟩:=hy x H'' y
      refine⟨W',_,fl3,env3,ok'.set rx,e3,?_⟩
      cases fl3 with
      | nx=>exact fun W2 σ2 H2 s2 ok2=>⟨W2,env3,st.trans s2,ok2,ef⟩
      | ct=>exact fun W2 σ2 H2 s2 ok2=>⟨W2,env3,st.trans s2,ok2,ef⟩
      | bk =>
        cases ef
        exact fun W2 σ2 H2 s2 ok2=>k W2 σ2 H2 ((s1.trans st).trans s2) ok2
      | rt d=>cases ef;exact k.go rfl rfl (s1.trans st)
      | rf d=>cases ef;exact k.go rfl rfl (s1.trans st)
      | r2 d=>cases ef;exact k.go rfl rfl (s1.trans st)
      | xc d=>cases ef;exact k.go rfl rfl (s1.trans st)
      | ra d d'=>cases ef;exact k.go rfl rfl (s1.trans st)
   ·have e:n=ds.length:=by omega
    subst e
    rw[List.drop_length] at ef
    cases ef
    exact .inl ⟨wk.stop W' H' st,k W' σ' H' (s1.trans st) ok'⟩⟩
theorem zn1{body:List Stmt}{n:Nat}(hc:DTx X G H0 c p)(hb:DBx X G H0 body u)(hp:PassesOwn (model X.prog X.w) X.A X.env X.xe:=by passes_own):DSx X G H0 (.While c body [] pos) (zea p u n):=⟨(zwl hp hc.out hb.out).imp fun Dn σ H ⟨W,env,fl,env',ok,q,k⟩=>by
 refine⟨fun m σ' H'=>∃W' env2,Step W H W' H'/\Ok X.K G H0 W' env2 σ' H'/\zea p u m env2=some (fl,env'),⟨n,W,env,Step.refl,ok,q⟩,?_⟩
 rintro m σ' H' ⟨W',env2,st,ok',ew⟩
 cases m with
 | zero=>cases ew
 | succ m =>
   unfold zea at ew
   cases e1:p env2 with
   | none=>rw[e1] at ew;cases ew
   | some r =>
     obtain⟨t,env3⟩:=r
     rw[e1,Option.bind_some] at ew
     refine⟨W',env2,t,env3,ok',e1,fun W2 H2 s2 ok2=>?_⟩
     cases t with
     | false =>
       rw[if_neg Bool.false_ne_true] at ew ⊢
       cases ew
       exact k W2 σ' H2 (st.trans s2) ok2
     | true =>
       rw[if_pos rfl] at ew ⊢
       cases e3:u env3 with
       | none=>simp only[e3] at ew;cases ew
       | some r =>
         obtain⟨fl3,env4⟩:=r
         simp only[e3,Option.bind_some] at ew
         refine⟨fun σ3 H3=>∃W3 env5,Step W H W3 H3/\Ok X.K G H0 W3 env5 σ3 H3/\zea p u m env5=some (fl,env'),fun σ3 H3 ⟨W3,env5,s3,ok3,e5⟩=>⟨m,Nat.lt_succ_self _,W3,env5,s3,ok3,e5⟩,W2,env3,fl3,env4,ok2,e3,?_⟩
         cases fl3 with
         | nx=>exact fun W3 σ3 H3 s3 ok3=>⟨W3,env4,(st.trans s2).trans s3,ok3,ew⟩
         | ct=>exact fun W3 σ3 H3 s3 ok3=>⟨W3,env4,(st.trans s2).trans s3,ok3,ew⟩
         | bk=>cases ew;exact fun W3 σ3 H3 s3 ok3=>k W3 σ3 H3 ((st.trans s2).trans s3) ok3
         | rt d=>cases ew;exact k.go rfl rfl (st.trans s2)
         | rf d=>cases ew;exact k.go rfl rfl (st.trans s2)
         | r2 d=>cases ew;exact k.go rfl rfl (st.trans s2)
         | xc d=>cases ew;exact k.go rfl rfl (st.trans s2)
         | ra d d'=>cases ew;exact k.go rfl rfl (st.trans s2)⟩
end
variable{n:Nat}
theorem lt20(h:n<2 ^ 20):n<sizeLine:=Nat.lt_of_lt_of_le h (by rw[sizeLine_eq];decide)
@[simp] def zj9(d:D)(e:DE0)(i:Nat):Option (D×DE0):=match e[i]? with
 | some (some (.ow ds))=>if Few (ds.length+1) then some (.non,e.set i (some (.ow (ds++[d])))) else none
 | _=>none
@[simp] def zbi(i:Nat)(f:FE):FE:=fun e=>match e[i]? with
 | some (some (.ow _))=>(f e).bind fun r=>zj9 r.1 r.2 i
 | _=>none
variable{Nn Cn:List Str}{i:Nat}{a:Expr}{f:FE}{pos p' p1:Pos}{x:Str}
theorem zcb(ha:DEx X G H0 a f)(an:Ats Nn Cn X)(hno:Nn[i]?=some x:=by rfl)(hbase:attributeBase (.Name x p') "append" X.env (eval (.Name x p') X.env)=eval (.Name x p') X.env:=by rfl)(hfew:((backTo pos (starEach [a] X.env)).all (fun x=>!x.1) && (backToKw pos (keywordEach [] X.env)).all (fun x=>x.1.isSome)
   && decide ([a].length+([]:List Keyword).length+(if ([]:List Keyword).isEmpty then 0 else 1)<30))=true:=by rfl)(hline:(p1.endLine==pos.line)=true:=by rfl)(hs:starEach [a] X.env=(false,eval a X.env)::starEach [] X.env:=by rfl) :
  DEx X G H0 (.Call (.Attribute (.Name x p') "append" p1) [a] [] pos) (zbi i f):=⟨(zui PySem.F.plainAttrs_list PySem.F.slot_list_append PySem.F.type_list_append zpg ((an.a hno).pe) (zed ha.out zje hs) hbase hfew hline hs rfl).imp fun σ H Q ⟨W,env,d,env',ok,q,k⟩=>by
 unfold zbi at q
 split at q
 case h_2=>cases q
 rename_i ds0 hq0
 obtain⟨v,hv,l,vs0,rfl,hW0,hl0,_⟩:=ok.slot i _ hq0
 cases e1:f env with
 | none=>rw[e1] at q;cases q
 | some r =>
   obtain⟨da,env1⟩:=r
   rw[e1,Option.bind_some] at q
   unfold zj9 at q
   dsimp only at q
   split at q
   case h_2=>cases q
   rename_i ds hq
   split at q
   case isFalse=>cases q
   rename_i hlen
   cases q
   refine⟨_,hv,.inl ⟨rfl,_,.inl (.inl hl0)⟩,W,env,da,env1,ok,e1,fun W1 v1 H1 s1 ok1 r1=>?_⟩
   obtain⟨v',e2,l',vs,e3,hW,hl,r⟩:=ok1.slot i _ hq
   rw[hv] at e2;cases e2;cases e3
   obtain⟨t1,t2⟩:=ok1.turn hq hv (r.append (.cons r1 .nil))
   exact⟨l,vs,v1,rfl,rfl,hl,by rw[← r.length];exact lt20 (Nat.lt_of_succ_le hlen),k W1 _ _ (s1.trans t2) t1 .non⟩⟩
@[simp] def fPop(i:Nat):FE:=fun e=>match e[i]? with
 | some (some (.ow ds))=>(ds[ds.length-1]?).map fun d=>(d,e.set i (some (.ow ds.dropLast)))
 | _=>none
theorem z31(an:Ats Nn Cn X)(hno:Nn[i]?=some x:=by rfl)(hbase:attributeBase (.Name x p') "pop" X.env (eval (.Name x p') X.env)=eval (.Name x p') X.env:=by rfl)(hline:(p1.endLine==pos.line)=true:=by rfl) :
  DEx X G H0 (.Call (.Attribute (.Name x p') "pop" p1) [] [] pos) (fPop i):=⟨(z28 PySem.F.plainAttrs_list PySem.F.slot_list_pop PySem.F.type_list_pop z29 ((an.a hno).pe) hbase hline).imp fun σ H Q ⟨W,env,d,env',ok,q,k⟩=>by
 unfold fPop at q
 split at q
 case h_2=>cases q
 rename_i ds hq
 obtain⟨v,hv,l,vs,rfl,hW,hl,r⟩:=ok.slot i _ hq
 cases e1:ds[ds.length-1]? with
 | none=>rw[e1] at q;cases q
 | some d' =>
   rw[e1] at q;cases q
   obtain⟨u,eu,ru⟩:=r.get e1
   obtain⟨t1,t2⟩:=ok.turn hq hv r.dropLast
   exact⟨_,hv,.inl ⟨rfl,_,.inl (.inl hl)⟩,l,vs,u,rfl,rfl,hl,by rw[← r.length];exact eu,k W _ _ t2 t1 (ok.rep t2 ru)⟩⟩
def z5r(k:D)(e:DE0)(i:Nat):Option (D×DE0):=match k,e[i]? with
 | .int k,some (some (.ow ds))=>if Few ds.length then(ixN ds.length k).bind fun j=>(ds[j]?).map fun d=>(d,e.set i (some (.ow (ds.eraseIdx j)))) else none
 | _,_=>none
def z32(i:Nat)(f:FE):FE:=fun e=>match e[i]? with
 | some (some (.ow _))=>(f e).bind fun r=>z5r r.1 r.2 i
 | _=>none
@[simp] def zs8(d k:D)(e:DE0)(i:Nat):Option (Fl×DE0):=match k,e[i]? with
 | .int k,some (some (.ow ds))=>(ixN ds.length k).map fun j=>(.nx,e.set i (some (.ow (ds.set j d))))
 | _,_=>none
@[simp] def zib(i:Nat)(fk fv:FE):FS:=fun e=>(fv e).bind fun r=>match r.2[i]? with
 | some (some (.ow _))=>(fk r.2).bind fun q=>zs8 r.1 q.1 q.2 i
 | _=>none
variable{b:Expr}{g:FE}
theorem zlx(hk:DEx X G H0 b g)(he:DEx X G H0 e f)(an:Ats Nn Cn X)(hno:Nn[i]?=some x:=by rfl)(hs:swapsWithSole [.Subscript (.Name x p') b p1] e pos.line X.env=pure false:=by rfl)(hw:swappedStores [.Subscript (.Name x p') b p1] e X.env=pure none:=by rfl)(h1:(assignEach [.Subscript (.Name x p') b p1] X.env).map (·.2)=[assign (.Subscript (.Name x p') b p1) X.env]:=by rfl)(hass:∀v,assign (.Subscript (.Name x p') b p1) X.env v=(do
   let ov ← holding [v] (eval (.Name x p') X.env)
   let iv ← holding [v,ov] (eval b X.env)
   standAt p1
   holding [v,ov,iv] (setItem ov iv v)
   release [v,ov,iv] []):=by intro _;rfl) :
  DSx X G H0 (.Assign [.Subscript (.Name x p') b p1] e pos) (zib i g f):=⟨(zrf he.out (zty ((an.a hno).pe) hk.out zj6 hass) hs hw h1).imp fun Dn σ H ⟨W,env,fl,env',ok,q,k⟩=>by
 cases e1:f env with
 | none=>simp[zib,e1] at q
 | some r =>
   obtain⟨dv,env1⟩:=r
   simp only[zib,e1,Option.bind_some] at q
   split at q
   case h_2=>cases q
   rename_i ds0 hq0
   cases e2:g env1 with
   | none=>rw[e2] at q;cases q
   | some r2 =>
     obtain⟨dk,env2⟩:=r2
     rw[e2,Option.bind_some] at q
     unfold zs8 at q
     dsimp only at q
     split at q
     case h_2=>cases q
     rename_i kk ds hq
     cases e3:ixN ds.length kk with
     | none=>rw[e3] at q;cases q
     | some j =>
       rw[e3] at q;cases q
       refine⟨W,env,dv,env1,ok,e1,fun W1 v1 H1 s1 ok1 r1=>?_⟩
       obtain⟨v,hv,l,vs0,rfl,hW0,hl0,_⟩:=ok1.slot i _ hq0
       refine⟨_,hv,W1,env1,_,env2,ok1,e2,fun W2 v2 H2 s2 ok2 r2=>?_⟩
       obtain⟨v',e4,l',vs,e5,hW,hl,r⟩:=ok2.slot i _ hq
       rw[hv] at e4;cases e4;cases e5
       obtain⟨t1,t2⟩:=ok2.turn hq hv (Reps.set (ok1.rep s2 r1) j r)
       exact⟨l,vs,kk,j,rfl,r2.int_,hl,by rw[← r.length];exact e3,k W2 _ _ ((s1.trans s2).trans t2) t1⟩⟩
def za8(n:Nat)(ds:List D):DE0:=ds.map (fun d=>some (Sl.sh d))++List.replicate (n-ds.length) none
def runD(n ar:Nat)(g:FS):List D->Option D:=fun ds=>if ds.length=ar then(match g (za8 n ds) with | some (.rt d,_)=>some d | some (.nx,_)=>some .non | _=>none) else none
def runF(n ar:Nat)(g:FS):List D->Option (List D):=fun ds=>if ds.length=ar then(match g (za8 n ds) with | some (.rf d,_)=>some d | _=>none) else none
theorem zi6:∀ {n:Nat} {ds:List D} {i:Nat} {s:Sl},(za8 n ds)[i]?=some (some s)->∃d,ds[i]?=some d/\s=.sh d:=fun {n ds i s} h=>by
 unfold za8 at h
 by_cases hi:i<ds.length
 ·rw[List.getElem?_append_left (by simpa using hi),List.getElem?_map] at h
  cases e:ds[i]? with
  | none=>rw[e] at h;cases h
  | some d=>rw[e] at h;cases h;exact⟨d,rfl,rfl⟩
 ·rw[List.getElem?_append_right (by simpa using hi),List.getElem?_replicate] at h
  split at h <;> cases h
variable{O:Addr->Prop}{ds:List D}{vs:List V}{N:List Str}{K:PySem.W.Frag}
theorem zi7(r:Reps K H O ds vs):Ok K (gd fun a=>O a\/H a=none) H NoW (za8 N.length ds) (start N vs) H:=by
 refine⟨Same.refl _,fun a z=>.inr z,fun l z=>z.elim,fun i s e=>?_,fun i j s1 s2 v1 v2 a e1 _ _ _ o _=>?_,?_⟩
 ·obtain⟨d,e1,rfl⟩:=zi6 e
  obtain⟨v,e2,r1⟩:=r.get e1
  refine⟨v,?_,r1.mono (fun _ _ h=>h) fun a us o h=>⟨⟨.inl o,fun z=>z⟩,h⟩⟩
  unfold start
  rw[List.getElem?_append_left (by simpa using(List.getElem?_eq_some_iff.mp e2).1),List.getElem?_map,e2]
  rfl
 ·obtain⟨d,_,z⟩:=zi6 e1
  subst z
  exact o.elim
 ·unfold za8 start
  rw[List.length_append,List.length_append,List.length_map,List.length_map,List.length_replicate,List.length_replicate,r.length]
variable{f:Addr}{CX:CXT}{qual:Str}{st:Stmt}{fd:FuncData}{ps:List Str}{k ar:Nat}{P:Program}{w:World}{mg:Str->Option Value}{base:Heap}
theorem fn_D{g:FS}(F:Fun K x qual st f fd)(S:zfu N ps (zaj st))(hn:n=N.length)(ha:ar=ps.length)(hbody:∀(cdv:Value) (A:Around) (outer:List Env) (s:Shared) (H:Hp) (E:XK) (G:Gd) (H0:Hp),Room k (A.deeper (envOfC qual (zaj st) s.heap.objs.size f cdv)) ->
   DBx (cxOf CX P w K mg base N qual (zaj st) f cdv A outer s H E).nox G H0 (zb4 st) g):FnOk P w K mg base CX (k+1) f fd ps (dSp K (runD n ar g)):=by
 subst hn ha
 refine F.okC S (fun vs H Q E h=>?_) (fun cdv A outer s H vs Q E hr h=>?_)
 ·obtain⟨O,ds,d,r,e,_⟩:=h
  rw[← r.length]
  unfold runD at e
  split at e
  ·assumption
  ·cases e
 ·obtain⟨O,ds,d,r,e,k⟩:=h
  refine⟨_,(hbody cdv A outer s H E (gd fun a=>O a\/H a=none) H hr).out,?_⟩
  unfold runD at e
  split at e
  case isFalse=>cases e
  split at e
  ·rename_i d' env' hg
   cases e
   exact⟨NoW,_,_,env',zi7 r,hg,fun W' σ' v H' st ok' rp=>k v H' ok'.stay (rp.mono (fun _ _ h=>h) fun a us o h=>⟨o.1,h⟩)⟩
  ·rename_i env' hg
   cases e
   exact⟨NoW,_,_,env',zi7 r,hg,fun W' σ' H' st ok'=>k .non H' ok'.stay .non⟩
  ·cases e
theorem fn_F{g:FS}(F:Fun K x qual st f fd)(S:zfu N ps (zaj st))(hn:n=N.length)(ha:ar=ps.length)(hbody:∀(cdv:Value) (A:Around) (outer:List Env) (s:Shared) (H:Hp) (E:XK) (G:Gd) (H0:Hp),Room k (A.deeper (envOfC qual (zaj st) s.heap.objs.size f cdv)) ->
   DBx (cxOf CX P w K mg base N qual (zaj st) f cdv A outer s H E).nox G H0 (zb4 st) g):FnOk P w K mg base CX (k+1) f fd ps (fSp K (runF n ar g)):=by
 subst hn ha
 refine F.okC S (fun vs H Q E h=>?_) (fun cdv A outer s H vs Q E hr h=>?_)
 ·obtain⟨O,ds,d,r,e,_⟩:=h
  rw[← r.length]
  unfold runF at e
  split at e
  ·assumption
  ·cases e
 ·obtain⟨O,ds,d,r,e,k⟩:=h
  refine⟨_,(hbody cdv A outer s H E (gd fun a=>O a\/H a=none) H hr).out,?_⟩
  unfold runF at e
  split at e
  case isFalse=>cases e
  split at e
  ·rename_i d' env' hg
   cases e
   exact⟨NoW,_,_,env',zi7 r,hg,fun l vs' H' sm n0 hl rp=>k l vs' H' sm n0 hl rp⟩
  ·cases e
def zro(K:PySem.W.Frag):Sp:=fun vs H Q _=>∃(a:Addr) (ns:List Int),vs=[.ref a]/\SqL K H a (ns.map V.int)/\ns.length<=63/\∀H',Q (.bl true) H'
theorem z5s{m:List D->Option D}(F:FnOk P w K mg base CX k f fd ps (dSp K m))(h:∀ns:List Int,ns.length<=63->m [.lst (ns.map D.int)]=some (.bl true)) :
  FnOk P w K mg base CX k f fd ps (zro K):=F.imp fun vs H Q E ⟨a,ns,e,hr,hl,q⟩=>by
 subst e
 exact⟨fun _=>True,[.lst (ns.map D.int)],.bl true,.cons (hr.elim (fun z=>.lst trivial z (zh9 ns)) fun z=>.klst z (zh9 ns)) .nil,h ns hl,fun v H' _ r=>by rw[r.bl_];exact q H'⟩
variable{F:FA}
theorem fr_D:∀σ H Q,tD X.K G H0 (fLst F) σ H Q->tDF X.K G H0 F σ H Q:=fun σ H Q ⟨W,env,d,env',ok,q,k⟩=>by
 cases e1:F env with
 | none=>simp[fLst,e1] at q
 | some r =>
   have q:some (D.lst r.1,r.2)=some (d,env'):=by simpa[fLst,e1] using q
   cases q
   refine⟨W,env,_,_,ok,e1,fun W1 l vs H1 s1 ok1 ok2 nW hl rp=>k W1 _ H1 ⟨s1.keep,fun a z=>s1.ws a (.inl z)⟩ ok1 (.lst ⟨ok1.good l (ok2.wl l (.inr rfl)).1,nW⟩ (.inl hl) (rp.mono (fun _ _ h=>h) fun a us o h=>⟨⟨o.1,fun z=>o.2 (.inl z)⟩,h⟩))⟩
variable{f:FE}
theorem zal(tn:Tos Nn X)(he:DEx X G H0 e f)(hto:Nn[i]?=some x:=by rfl)(hs:swapsWith e (some (.Name x p')) pos.line X.env=pure false:=by rfl):DSx X G H0 (.Assign [.Name x p'] e pos) (sSet i f):=z30 (tn.t hto).nd (tn.t hto).n he (zo6 (tn.t hto).nd (tn.t hto).n (tn.t hto).l he.out hs (tn.t hto).f)
theorem zu3(ps:PS X (.Assign [.Name x p'] e pos) (tAsg (tDF X.K G H0 F) (zhb i))):DSx X G H0 (.Assign [.Name x p'] e pos) (sSet i (fLst F)):=⟨(PS.imp ps (t':=tAsg (tD X.K G H0 (fLst F)) (zhb i)) fun Dn σ H h=>fr_D σ H _ h).imp fun Dn σ H ⟨W,env,fl,env',ok,q,k⟩=>by
 cases e1:fLst F env with
 | none=>simp only[sSet,e1,Option.map_none] at q;cases q
 | some r =>
   have q:some (Fl.nx,r.2.set i (some (Sl.sh r.1)))=some (fl,env'):=by simpa only[sSet,e1,Option.map_some] using q
   cases q
   exact⟨W,env,_,_,ok,e1,fun W1 v1 H1 s1 ok1 p1=>k W1 _ H1 s1 (ok1.set p1)⟩⟩
variable{y:Str}{ix:List Nat}{sc:Scope}{px py spos:Pos}{fi:FI}{te:FE}
theorem zka(an:Ats Nn Cn X)(tn:Tos Nn X)(hi:DIx X G H0 (.Name x px) a fi)(hel:∀cl C s₂ H₂ fp G H0,Ats (x::(subN Nn ix)) (subN Nn ix) (zaz X x (subN Nn ix) sc cl C s₂ H₂ fp)->DEx (zaz X x (subN Nn ix) sc cl C s₂ H₂ fp) G H0 e te)(hcb:zln Nn Cn ix x sc=true:=by decide +kernel)(hc:X.calm=true:=by rfl)(hto:Nn[i]?=some y:=by rfl)(hsw:swapsWith (.ListComp e [⟨.Name x px,a,[],0⟩] sc pos) (some (.Name y py)) spos.line X.env=pure true:=by rfl)(hs:∀v,foldedSetIterable a X.env v=pure v:=by intro _;rfl) :
  PS X (.Assign [.Name y py] (.ListComp e [⟨.Name x px,a,[],0⟩] sc pos) spos) (tAsg (tDF X.K G H0 (zbq fi ix fYes te)) (zhb i)) :=
 (zqj (zjm an hcb) (fun _ _ _ _ _ _ _ _ _=>hc) (tn.t hto).nd (tn.t hto).n (tn.t hto).l hi.out (fun cl C s₂ H₂ fp _=>zux (X:=X) rfl) (fun cl C s₂ H₂ fp _=>el_x (X:=X) rfl (fun G H0=>hel cl C s₂ H₂ fp G H0 (zfe hcb))) hsw (tn.t hto).f hs).imp fun D σ H h=>zrm σ H _ h
variable{tt:FT}{cd:Expr}
theorem zqm{Cm:Cx->Prop}(hc:∀cl C s₂ H₂ fp pins σ,Inv X pins σ H₂ s₂->(∀b∈fp,FpOk X pins H₂ b)->Cm (zaz X x (subN Nn ix) sc cl C s₂ H₂ fp))(an:Ats Nn Cn X)(tn:Tos Nn X)(hi:DIC Cm X G H0 (.Name x px) a fi)(hif:∀cl C s₂ H₂ fp G H0,Cm (zaz X x (subN Nn ix) sc cl C s₂ H₂ fp)->Ats (x::(subN Nn ix)) (subN Nn ix) (zaz X x (subN Nn ix) sc cl C s₂ H₂ fp)->DTx (zaz X x (subN Nn ix) sc cl C s₂ H₂ fp) G H0 cd tt)(hel:∀cl C s₂ H₂ fp G H0,Cm (zaz X x (subN Nn ix) sc cl C s₂ H₂ fp)->Ats (x::(subN Nn ix)) (subN Nn ix) (zaz X x (subN Nn ix) sc cl C s₂ H₂ fp)->DEx (zaz X x (subN Nn ix) sc cl C s₂ H₂ fp) G H0 e te)(hcb:zln Nn Cn ix x sc=true:=by decide +kernel)(hto:Nn[i]?=some y:=by rfl)(hsw:swapsWith (.ListComp e [⟨.Name x px,a,[cd],0⟩] sc pos) (some (.Name y py)) spos.line X.env=pure true:=by rfl)(hs:∀v,foldedSetIterable a X.env v=pure v:=by intro _;rfl) :
  PS X (.Assign [.Name y py] (.ListComp e [⟨.Name x px,a,[cd],0⟩] sc pos) spos) (tAsg (tDF X.K G H0 (zbq fi ix tt te)) (zhb i)) :=
 (zqj (zjm an hcb) hc (tn.t hto).nd (tn.t hto).n (tn.t hto).l hi.out (fun cl C s₂ H₂ fp cm=>if_x (X:=X) rfl (fun G H0=>hif cl C s₂ H₂ fp G H0 cm (zfe hcb))) (fun cl C s₂ H₂ fp cm=>el_x (X:=X) rfl (fun G H0=>hel cl C s₂ H₂ fp G H0 cm (zfe hcb))) hsw (tn.t hto).f hs).imp fun D σ H h=>zrm σ H _ h
theorem zs9(an:Ats Nn Cn X)(tn:Tos Nn X)(hi:DIx X G H0 (.Name x px) a fi)(hif:∀cl C s₂ H₂ fp G H0,Ats (x::(subN Nn ix)) (subN Nn ix) (zaz X x (subN Nn ix) sc cl C s₂ H₂ fp)->DTx (zaz X x (subN Nn ix) sc cl C s₂ H₂ fp) G H0 cd tt)(hel:∀cl C s₂ H₂ fp G H0,Ats (x::(subN Nn ix)) (subN Nn ix) (zaz X x (subN Nn ix) sc cl C s₂ H₂ fp)->DEx (zaz X x (subN Nn ix) sc cl C s₂ H₂ fp) G H0 e te)(hcb:zln Nn Cn ix x sc=true:=by decide +kernel)(hc:X.calm=true:=by rfl)(hto:Nn[i]?=some y:=by rfl)(hsw:swapsWith (.ListComp e [⟨.Name x px,a,[cd],0⟩] sc pos) (some (.Name y py)) spos.line X.env=pure true:=by rfl)(hs:∀v,foldedSetIterable a X.env v=pure v:=by intro _;rfl) :
  PS X (.Assign [.Name y py] (.ListComp e [⟨.Name x px,a,[cd],0⟩] sc pos) spos) (tAsg (tDF X.K G H0 (zbq fi ix tt te)) (zhb i)) :=
 zqm (fun _ _ _ _ _ _ _ _ _=>hc) an tn hi (fun cl C s₂ H₂ fp G H0 _=>hif cl C s₂ H₂ fp G H0) (fun cl C s₂ H₂ fp G H0 _=>hel cl C s₂ H₂ fp G H0) hcb hto hsw hs
abbrev FA2:=DE0->Option (List (List D)×DE0)
def tDF2(K:PySem.W.Frag)(G:Gd)(H0:Hp)(f:FA2):TE:=fun σ H Q=>∃W env dss env',Ok K G H0 W env σ H/\f env=some (dss,env') /\
 ∀W' l H',Step W H W' H'->Ok K G H0 W' env' σ H'->SlOk K G W' H' (.o2 dss) (.ref l) ->
  (∀(j:Nat) (s:Sl) (v:V) (a:Addr),env'[j]?=some (some s)->σ[j]?=some (some v)->Owns H' (.o2 dss) (.ref l) a->¬Owns H' s v a)->Q (.ref l) H'
structure DF2x (X:Cx) (G:Gd) (H0:Hp) (e:Expr) (f:FA2):Prop where
 out:PE X e (tDF2 X.K G H0 f)
@[simp] def zqn(i:Nat)(f:FA2):FS:=fun e=>(f e).map fun r=>(.nx,r.2.set i (some (.o2 r.1)))
variable{f2:FA2}
theorem zu4(ps:PS X (.Assign [.Name x p'] e pos) (tAsg (tDF2 X.K G H0 f2) (zhb i))):DSx X G H0 (.Assign [.Name x p'] e pos) (zqn i f2):=⟨ps.imp fun Dn σ H ⟨W,env,fl,env',ok,q,k⟩=>by
 cases e1:f2 env with
 | none=>simp[zqn,e1] at q
 | some r =>
   have q:some (Fl.nx,r.2.set i (some (Sl.o2 r.1)))=some (fl,env'):=by simpa[zqn,e1] using q
   cases q
   exact⟨W,env,_,_,ok,e1,fun W1 l H1 s1 ok1 h1 no=>k W1 _ H1 s1 (ok1.put h1 no)⟩⟩
def zkb(te:FA)(base:DE0):List D->Option (List (List D))
 | []=>some []
 | d::r=>(te (some (.sh d)::base)).bind fun v=>(zkb te base r).map (v.1::·)
def zkc(fi:FI)(ix:List Nat)(te:FA):FA2:=fun e=>(fi e).bind fun r=>if Few r.1.length then(zkb te (ix.map fun j=>capt (r.2.getD j none)) r.1).map fun ds=>(ds,r.2) else none
def tDxF(K:PySem.W.Frag)(f:FA):TE:=fun σ H Q=>∃G H0,tDF K G H0 f σ H Q
variable{te:FA}
theorem z5t{X':Cx}(hK:X'.K=X.K)(h:∀G H0,DFx X' G H0 e te):PE X' e (tDxF X.K te):=fun pins s σ H Q I ⟨G,H0,q⟩=>(h G H0).out pins s σ H Q I (by rw[hK];exact q)
theorem z0i:∀σ H Q,tDF2 X.K G H0 (zkc fi ix te) σ H Q->zs4 (tDI X.K G H0 fi) ix (tDxT X.K fYes) (tDxF X.K te) σ H Q:=fun σ H Q ⟨W,env,d,env',ok,q,k⟩=>by
 cases e1:fi env with
 | none=>simp[zkc,e1] at q
 | some z =>
   obtain⟨ds,env1⟩:=z
   by_cases hl:Few ds.length
   ·simp only[zkc,e1,Option.bind_some,if_pos hl] at q
    cases e2:zkb te (ix.map fun j=>capt (env1.getD j none)) ds with
    | none=>rw[e2] at q;cases q
    | some outs =>
      rw[e2] at q;cases q
      refine⟨W,env,ds,_,ok,e1,fun W1 J H1 s1 ok1 wk=>?_⟩
      refine⟨fun i m H' ys=>∃Wi rest done ls,m=ds.length-i/\i<=ds.length/\Same H1 H'/\Step W1 H1 Wi H'/\Ok X.K G H0 Wi env' σ H'/\ys=ls.map V.ref/\Inn X.K G Wi H' done ls/\ls.Nodup/\(∀a∈ls,H1 a=none)/\done.length<=i /\
       zkb te (ix.map fun j=>capt (env'.getD j none)) (ds.drop i)=some rest/\d=done++rest,
       ⟨ds.length,W1,d,[],[],rfl,Nat.zero_le _,Same.refl _,Step.refl,ok1,rfl,⟨rfl,fun j ds a e=>by simp at e⟩,List.nodup_nil,fun a h=>by simp at h,Nat.le_refl _,e2,rfl⟩,?_⟩
      rintro i m H' ys ⟨Wi,rest,done,ls,rfl,hi,sm,st,ok',rfl,inn,nd,fr,hd,ec,rfl⟩
      have lenL:ls.length=done.length:=inn.1
      have inH:∀a∈ls,∃vs,H' a=some (.lst vs):=fun a ha=>by
       obtain⟨j,hj,e⟩:=List.getElem_of_mem ha
       have hj':j<done.length:=by omega
       obtain⟨_,vs,h,_⟩:=inn.2 j done[j] a (by simp[hj']) (by simp[hj,e])
       exact⟨vs,h⟩
      by_cases hlt:i<ds.length
      ·have eq:ds.drop i=ds[i]::ds.drop (i+1):=List.drop_eq_getElem_cons hlt
       rw[eq] at ec
       obtain⟨hg,hy⟩:=wk.go Wi H' i ds[i] st (by simp[hlt])
       refine .inr ⟨hg,fun x H'' y=>?_⟩
       obtain⟨rfl,rx⟩:=hy x H'' y
       have oki:=zny (ix:=ix) ok' rx
       unfold zkb at ec
       cases e4:te (some (.sh ds[i])::ix.map fun j=>capt (env'.getD j none)) with
       | none=>rw[e4] at ec;cases ec
       | some vv =>
         obtain⟨dv,envv⟩:=vv
         rw[e4,Option.bind_some] at ec
         cases e5:zkb te (ix.map fun j=>capt (env'.getD j none)) (ds.drop (i+1)) with
         | none=>rw[e5] at ec;cases ec
         | some rest' =>
           rw[e5] at ec;cases ec
           refine⟨_,_,NoW,_,true,_,oki,rfl,fun W2 H2 s2 ok2=>?_⟩
           dsimp only
           rw[if_pos rfl]
           refine⟨_,_,W2,_,dv,envv,ok2,e4,fun W3 l vs H3 s3 ok3 ok3' nW hlv rp=>⟨?_,ds.length-(i+1),by omega,?_⟩⟩
           ·rw[List.length_map]
            have:ls.length<2 ^ 20:=by have:ds.length<=2 ^ 20:=hl;omega
            exact Nat.lt_of_lt_of_le this (by rw[sizeLine_eq];decide)
           ·have sm3:Same H'' H3:=ok3.stay
            have hn:H'' l=none:=(ok3'.wl l (.inr rfl)).1
            obtain⟨q1,q2,q3,q4,q5⟩:=ok'.fresh sm3 hn hlv (rp.mono (O':=fun a=>(Ow G Wi a\/H'' a=none)/\a≠l) (fun _ _ h=>h) fun a us o h=>⟨⟨o.1,fun z=>o.2 (.inr z)⟩,h⟩)
            have nl:l∉ls:=fun z=>by obtain⟨us,h⟩:=inH l z;rw[hn] at h;cases h
            refine⟨addW Wi l,rest',done++[dv],ls++[l],rfl,hlt,sm.trans sm3,st.trans q5,q3,by simp,⟨by simp[lenL],fun j es a ea eb=>?_⟩,?_,fun a ha=>?_,by rw[List.length_append,List.length_singleton];omega,by first | exact e5 | rfl,by simp⟩
            ·by_cases hj:j<done.length
             ·rw[List.getElem?_append_left hj] at ea
              rw[List.getElem?_append_left (by omega)] at eb
              obtain⟨w,us,h,r⟩:=inn.2 j es a ea eb
              exact⟨.inl w,us,sm3 _ _ h,ok'.reps q5 r⟩
             ·rw[List.getElem?_append_right (by omega)] at ea
              rw[List.getElem?_append_right (by omega),lenL] at eb
              have hz:j-done.length=0:=by
               have:=(List.getElem?_eq_some_iff.mp ea).1
               simp at this;omega
              rw[hz] at ea eb
              simp only[List.getElem?_cons_zero,Option.some.injEq] at ea eb
              subst ea eb
              exact⟨.inr rfl,vs,hlv,q4⟩
            ·rw[List.nodup_append]
             exact⟨nd,by simp,fun a ha b hb=>by simp only[List.mem_singleton] at hb;subst hb;intro z;subst z;exact nl ha⟩
            ·rcases List.mem_append.mp ha with z | z
             ·exact fr a z
             ·rw[List.mem_singleton.mp z];exact sm.free hn
      ·have e:i=ds.length:=by omega
       subst e
       rw[List.drop_length] at ec
       cases ec
       refine .inl ⟨wk.stop Wi H' st,by rw[List.length_map,lenL];exact Nat.le_trans hd (Nat.le_trans hl (by rw[sizeLine_eq];decide)),fun l hn=>?_⟩
       have smu:Same H' (upd H' l (.lst (ls.map V.ref))):=zb8 hn
       obtain⟨q1,q2,q3,q4⟩:=ok'.fresh0 (vs:=ls.map V.ref) smu hn za3
       have nl:l∉ls:=fun z=>by obtain⟨us,h⟩:=inH l z;rw[hn] at h;cases h
       have sm1:Same H1 (upd H' l (.lst (ls.map V.ref))):=sm.trans smu
       rw[List.append_nil] at k
       refine k (addW Wi l) l _ ((s1.trans st).trans q4) q3 ⟨l,ls,rfl,.inr rfl,za3,List.nodup_cons.mpr ⟨nl,nd⟩,inn.1,fun j es a ea eb=>?_⟩ fun j s v a ej ev o1 o2=>?_
       ·obtain⟨w,us,h,r⟩:=inn.2 j es a ea eb
        exact⟨.inl w,us,smu _ _ h,ok'.reps q4 r⟩
       ·obtain⟨v',ev',hs⟩:=ok1.slot j s ej
        rw[ev] at ev';cases ev'
        have ow1:Owns H1 s v a:=hs.back (fun l' _ _ vs q=>sm1 _ _ q) o2
        have wa:W1 a:=hs.owns ow1
        have ha1:H1 a≠none:=fun z=>by obtain⟨_,us,q⟩:=ok1.wl a wa;rw[z] at q;cases q
        rcases o1 with o1 | ⟨l',ls',z,q,hb⟩
        ·cases o1;exact ha1 (sm.free hn)
        ·cases z
         rw[za3] at q
         have:=zgb (by simpa using q)
         subst this
         exact ha1 (fr a hb)
   ·simp only[zkc,e1,Option.bind_some,if_neg hl] at q;cases q
theorem zrp(an:Ats Nn Cn X)(hi:DIx X G H0 (.Name x px) a fi)(hel:∀cl C s₂ H₂ fp G H0,Ats (x::(subN Nn ix)) (subN Nn ix) (zaz X x (subN Nn ix) sc cl C s₂ H₂ fp)->DFx (zaz X x (subN Nn ix) sc cl C s₂ H₂ fp) G H0 e te)(hcb:zln Nn Cn ix x sc=true:=by decide +kernel)(hc:X.calm=true:=by rfl)(hs:∀v,foldedSetIterable a X.env v=pure v:=by intro _;rfl) :
  DF2x X G H0 (.ListComp e [⟨.Name x px,a,[],0⟩] sc pos) (zkc fi ix te) :=
 ⟨(znv (zjm an hcb) (fun _ _ _ _ _ _ _ _ _=>hc) hi.out (fun cl C s₂ H₂ fp _=>zux (X:=X) rfl) (fun cl C s₂ H₂ fp _=>z5t (X:=X) rfl (fun G H0=>hel cl C s₂ H₂ fp G H0 (zfe hcb))) hs).imp z0i⟩
variable{env:DE0}{σ:St}
theorem z0j(ok:Ok X.K G H0 W env σ H):Ok X.K (gd fun a=>Ow G W a\/H a=none) H NoW (env.map capt) σ H:=by
 have up:∀ {d:D} {v:V},Rep X.K H (Ow G W) d v->Rep X.K H (Ow (gd fun a=>Ow G W a\/H a=none) NoW) d v:=fun r=>r.mono (fun _ _ h=>h) fun a us o h=>⟨⟨.inl o,fun z=>z⟩,h⟩
 have shs:∀(i:Nat) (s:Sl),(env.map capt)[i]?=some (some s)->∃d',s=.sh d'/\env[i]?=some (some (.sh d')):=fun i s z=>by
  rw[List.getElem?_map] at z
  cases q:env[i]? with
  | none=>rw[q] at z;cases z
  | some o =>
    rw[q] at z
    have z:capt o=some s:=Option.some.inj z
    unfold capt at z
    split at z
    ·cases z;exact⟨_,rfl,rfl⟩
    ·cases z
 refine⟨Same.refl _,fun a z=>.inr z,fun l z=>z.elim,fun i s e=>?_,fun i j s1 s2 v1 v2 a e1 _ _ _ o _=>by obtain⟨d',rfl,_⟩:=shs i s1 e1;exact o.elim,by rw[List.length_map];exact ok.len⟩
 obtain⟨d',rfl,e'⟩:=shs i s e
 obtain⟨v,e1,r⟩:=ok.slot i _ e'
 exact⟨v,e1,up r⟩
variable{α:Type}{j:Nat}
theorem z33{xs:List α}{k:Int}{y:α}(h:ixN xs.length k=some j)(h2:xs[j]?=some y):atI xs k=some y:=by
 unfold atI
 rw[h]
 exact h2
variable{dss:List (List D)}{v:V}
theorem zrq{k:Int}(ok:Ok X.K G H0 W env σ H)(hq:env[i]?=some (some (.o2 dss)))(hv:σ[i]?=some (some v))(hk:ixN dss.length k=some j)(hj:dss[j]?=some ds) :
  ∃(l:Addr) (ls:List Addr) (a:Addr) (vs:List V),v=.ref l/\H l=some (.lst (ls.map V.ref))/\ls[j]?=some a/\atI (ls.map V.ref) k=some (.ref a)/\H a=some (.lst vs)/\Reps X.K H (Ow G W) ds vs:=by
 obtain⟨v',e2,l,ls,rfl,hW,hl,nd,hi⟩:=ok.slot i _ hq
 rw[hv] at e2;cases e2
 have hlt:j<ls.length:=by rw[hi.1];exact(List.getElem?_eq_some_iff.mp hj).1
 obtain⟨_,vs,h,r⟩:=hi.2 j ds ls[j] hj (by simp[hlt])
 exact⟨l,ls,ls[j],vs,rfl,hl,by simp[hlt],z33 (j:=j) (by rw[List.length_map,hi.1];exact hk) (by simp[hlt]),h,r⟩
@[simp] def app2(k d:D)(e:DE0)(i:Nat):Option (D×DE0):=match k,e[i]? with
 | .int k,some (some (.o2 dss))=>(ixN dss.length k).bind fun j=>(dss[j]?).bind fun ds=>if Few (ds.length+1) then some (.non,e.set i (some (.o2 (dss.set j (ds++[d]))))) else none
 | _,_=>none
@[simp] def zw5(i:Nat)(g f:FE):FE:=fun e=>match e[i]? with
 | some (some (.o2 _))=>(g e).bind fun r=>(f (r.2.map capt)).bind fun q=>app2 r.1 q.1 r.2 i
 | _=>none
@[simp] def pop2(k m:D)(e:DE0)(i:Nat):Option (D×DE0):=match k,m,e[i]? with
 | .int k,.int m,some (some (.o2 dss))=>(ixN dss.length k).bind fun j=>(dss[j]?).bind fun ds=>if Few ds.length then(ixN ds.length m).bind fun n=>(ds[n]?).map fun d=>(d,e.set i (some (.o2 (dss.set j (ds.eraseIdx n))))) else none
 | _,_,_=>none
@[simp] def zjo(i:Nat)(g f:FE):FE:=fun e=>match e[i]? with
 | some (some (.o2 _))=>(g e).bind fun r=>(f (r.2.map capt)).bind fun q=>pop2 r.1 q.1 r.2 i
 | _=>none
variable{p2:Pos}
theorem zpo(hb:DEx X G H0 b g)(ha:∀G H0,DEx X G H0 a f)(an:Ats Nn Cn X)(hpi:zjk b:=by intro _ _;rfl)(hno:Nn[i]?=some x:=by rfl)(hbase:attributeBase (.Subscript (.Name x p') b p2) "pop" X.env (eval (.Subscript (.Name x p') b p2) X.env)=eval (.Subscript (.Name x p') b p2) X.env:=by rfl)(hfew:((backTo pos (starEach [a] X.env)).all (fun x=>!x.1) && (backToKw pos (keywordEach [] X.env)).all (fun x=>x.1.isSome)
   && decide ([a].length+([]:List Keyword).length+(if ([]:List Keyword).isEmpty then 0 else 1)<30))=true:=by rfl)(hline:(p1.endLine==pos.line)=true:=by rfl)(hs:starEach [a] X.env=(false,eval a X.env)::starEach [] X.env:=by rfl) :
  DEx X G H0 (.Call (.Attribute (.Subscript (.Name x p') b p2) "pop" p1) [a] [] pos) (zjo i g f) :=
 ⟨(zui PySem.F.plainAttrs_list PySem.F.slot_list_pop PySem.F.type_list_pop zwr (zug zuh ((an.a hno).pe) hb.out hpi) (zed (el_x (X:=X) rfl ha) zje hs) hbase hfew hline hs rfl).imp fun σ H Q ⟨W,env,d,env',ok,q,k⟩=>by
  unfold zjo at q
  split at q
  case h_2=>cases q
  rename_i ds0 hq0
  obtain⟨v,hv,_⟩:=ok.slot i _ hq0
  cases e1:g env with
  | none=>rw[e1] at q;cases q
  | some r =>
    obtain⟨dk,env1⟩:=r
    rw[e1,Option.bind_some] at q
    dsimp only at q
    cases e2:f (env1.map capt) with
    | none=>rw[e2] at q;cases q
    | some r2 =>
      obtain⟨da,env2⟩:=r2
      rw[e2,Option.bind_some] at q
      unfold pop2 at q
      dsimp only at q
      split at q
      case h_2=>cases q
      rename_i kk mm dss hq
      cases e3:ixN dss.length kk with
      | none=>rw[e3] at q;cases q
      | some j =>
        rw[e3,Option.bind_some] at q
        cases e4:dss[j]? with
        | none=>rw[e4] at q;cases q
        | some ds =>
          rw[e4,Option.bind_some] at q
          split at q
          case isFalse=>cases q
          rename_i hlen
          cases e5:ixN ds.length mm with
          | none=>rw[e5] at q;cases q
          | some n =>
            rw[e5,Option.bind_some] at q
            cases e6:ds[n]? with
            | none=>rw[e6] at q;cases q
            | some d' =>
              rw[e6] at q;cases q
              obtain⟨z1,z2,z3,z4⟩:=znt e5
              refine⟨v,hv,W,env,_,env1,ok,e1,fun W1 v1 H1 s1 ok1 r1=>?_⟩
              obtain⟨l,ls,a,vs,rfl,hl,hla,hat,hH,r⟩:=zrq ok1 hq hv e3 e4
              refine .inl ⟨l,_,kk,.ref a,rfl,r1.int_,.inl (.inl hl),hat,.inl ⟨rfl,vs,.inl (.inl hH)⟩,?_⟩
              refine⟨_,_,NoW,_,_,env2,z0j ok1,e2,fun W2 v2 H2 s2 ok2 r2=>?_⟩
              have ok1':=ok1.same ok2.stay
              have rr:=ok1.reps (Step.same ok2.stay) r
              obtain⟨u,eu,ru⟩:=rr.get e6
              obtain⟨t1,t2⟩:=ok1'.turn2 hq hv (ok2.stay _ _ hl) e4 hla (rr.eraseIdx n)
              have hfl:ds.length<=2 ^ 20:=hlen
              exact⟨a,vs,mm,n,u,rfl,by rw[r2.int_],ok2.stay _ _ hH,by omega,by omega,by rw[← r.length];exact z1,eu,k W1 _ _ ((s1.trans (Step.same ok2.stay)).trans t2) t1 (ok1'.rep t2 ru)⟩⟩
theorem zdn{env:Env}:∀ {names:List (Str×NameKind)} {x:Str},names.lookup x=some .globalImplicit ->
  (names.map fun(n,k)=>if (k==NameKind.free && env.scope.kind==.function && env.kindOf n==some .cell) then(n,NameKind.cell) else(n,k)).lookup x=some .globalImplicit
 | [],_,h=>by simp at h
 | (n,k)::r,x,h=>by
   have ih:=@zdn env r x
   show List.lookup x ((if (k==NameKind.free && env.scope.kind==.function && env.kindOf n==some .cell)=true then(n,NameKind.cell) else(n,k))::_)=_
   cases hx:x==n with
   | true =>
     simp only[List.lookup_cons,hx] at h
     cases h
     simp[List.lookup_cons,hx]
   | false =>
     simp only[List.lookup_cons,hx] at h
     by_cases hc:(k==NameKind.free && env.scope.kind==.function && env.kindOf n==some .cell)=true
     ·rw[if_pos hc];simp only[List.lookup_cons,hx];exact ih h
     ·rw[if_neg hc];simp only[List.lookup_cons,hx];exact ih h
variable{N':List Str}{cl:List (Str×Addr)}{C:Addr}{s:Shared}{fp:List Addr}
theorem gl_c(h:sc.names.lookup x=some .globalImplicit):Gl (zaz X y N' sc cl C s H fp) x:=zdn h
def AllK(X:Cx):List Str->Prop
 | []=>True
 | u::r=>(X.env.kindOf u=some .cell\/X.env.kindOf u=some .free)/\AllK X r
theorem AllK.mem:∀ {l:List Str},AllK X l->∀u∈l,X.env.kindOf u=some .cell\/X.env.kindOf u=some .free
 | [],_,_,h=>nomatch h
 | _::_,h,u,hu=>by
   rcases List.mem_cons.mp hu with rfl | hu
   ·exact h.1
   ·exact AllK.mem h.2 u hu
theorem z34:Ty "int" "int":=⟨by decide +kernel,by decide +kernel,by decide +kernel,by decide +kernel⟩
theorem z0k:Ty "bool" "bool":=⟨by decide +kernel,by decide +kernel,by decide +kernel,by decide +kernel⟩
theorem zu5:Ty "str" "str":=⟨by decide +kernel,by decide +kernel,by decide +kernel,by decide +kernel⟩
theorem zn2:Ty "list" "list":=⟨by decide +kernel,by decide +kernel,by decide +kernel,by decide +kernel⟩
theorem zrr:Ty "tuple" "tuple":=⟨by decide +kernel,by decide +kernel,by decide +kernel,by decide +kernel⟩
theorem z0l(l:List α)(k:Nat)(y:α):(l.toArray.extract 0 k).push y++l.toArray.extract k=(l.take k++y::l.drop k).toArray:=by
 apply Array.toList_inj.mp
 simp
 exact List.take_of_length_le (by simp)
def z0m:V->List V->Hp->VK->Prop:=fun x vs H Q=>∃(l:Addr) (xs:List V) (i:Int) (y:V),x=.ref l/\vs=[.int i,y]/\H l=some (.lst xs)/\0<=i/\i<=xs.length/\i<2 ^ 62/\xs.length<sizeLine/\Q .non (upd H l (.lst (xs.take i.toNat++y::xs.drop i.toNat)))
theorem Vals.ins{xs:List V}{its:List Value}{y:V}{u:Value}(r:Vals xs its)(ru:Vals [y] [u])(k:Nat):Vals (xs.take k++y::xs.drop k) (its.take k++u::its.drop k):=by
 have:=(r.take k).append (ru.append (r.drop k))
 simpa using this
theorem zu6:MtM X "list.insert" z0m:=by
 intro pins s σ H x vs v us Q I rx rv h
 obtain⟨l,xs,i,y,rfl,rfl,hH,h0,h1,h2,hz,q⟩:=h
 cases rx
 obtain⟨u1,u2,rfl,ru1,ru2⟩:=rv.two
 obtain⟨t,rfl⟩:=ru1
 obtain⟨z,its,n,r,hl,e⟩:=I.lstM hH
 refine call_meets F.slot_list_insert ⟨_,e,rfl⟩ F.entry_list_insert (F.args_list_insert_3 _ _ _) (PySem.AutoSeq1.list_insert_list_int_val_1 l its.toArray n i t u2 (by rw[fitsIndex_both (k:=i) (by omega) (by omega)];decide) (by rw[List.size_toArray];omega)) ⟨e,?_⟩
 refine⟨.non,_,I.lset (its':=its.take i.toNat++u2::its.drop i.toNat) hH e ?_ (Vals.ins r (.cons ru2 .nil) _) ?_,rfl,q⟩
 ·have hk:(if i<0 then(i+(its.toArray.size:Int)).toNat else min i.toNat its.toArray.size)=i.toNat:=by
   rw[if_neg (by omega),List.size_toArray]
   omega
  show(its.toArray.extract 0 (if i<0 then(i+(its.toArray.size:Int)).toNat else min i.toNat its.toArray.size)).push u2++its.toArray.extract (if i<0 then(i+(its.toArray.size:Int)).toNat else min i.toNat its.toArray.size)=_
  rw[hk,z0l]
 ·rw[List.length_append,List.length_cons,List.length_take,List.length_drop]
  omega
def z0n(k d:D)(e:DE0)(i:Nat):Option (D×DE0):=match k,e[i]? with
 | .int k,some (some (.ow ds))=>if 0<=k/\k<=ds.length/\Few (ds.length+1) then some (.non,e.set i (some (.ow (ds.take k.toNat++d::ds.drop k.toNat)))) else none
 | _,_=>none
def zn3(i:Nat)(f g:FE):FE:=fun e=>match e[i]? with
 | some (some (.ow _))=>(zac f (zac g fNil) e).bind fun r=>match r.1 with | [k,d]=>z0n k d r.2 i | _=>none
 | _=>none
theorem zu7(ha:DEx X G H0 a f)(hb:DEx X G H0 b g)(an:Ats Nn Cn X)(hno:Nn[i]?=some x:=by rfl)(hbase:attributeBase (.Name x p') "insert" X.env (eval (.Name x p') X.env)=eval (.Name x p') X.env:=by rfl)(hfew:((backTo pos (starEach [a,b] X.env)).all (fun x=>!x.1) && (backToKw pos (keywordEach [] X.env)).all (fun x=>x.1.isSome)
   && decide ([a,b].length+([]:List Keyword).length+(if ([]:List Keyword).isEmpty then 0 else 1)<30))=true:=by rfl)(hline:(p1.endLine==pos.line)=true:=by rfl)(hs:starEach [a,b] X.env=(false,eval a X.env)::starEach [b] X.env:=by rfl)(hs2:starEach [b] X.env=(false,eval b X.env)::starEach [] X.env:=by rfl)(hpl:(backTo pos (starEach [b] X.env)).any (·.1)=false:=by rfl) :
  DEx X G H0 (.Call (.Attribute (.Name x p') "insert" p1) [a,b] [] pos) (zn3 i f g):=⟨(zui PySem.F.plainAttrs_list PySem.F.slot_list_insert PySem.F.type_list_insert zu6 ((an.a hno).pe) (zaa ha (zaa hb zae hs2) hs).out hbase hfew hline hs hpl).imp fun σ H Q ⟨W,env,d,env',ok,q,k⟩=>by
 unfold zn3 at q
 split at q
 case h_2=>cases q
 rename_i ds0 hq0
 obtain⟨v,hv,l,vs0,rfl,hW0,hl0,_⟩:=ok.slot i _ hq0
 cases e1:zac f (zac g fNil) env with
 | none=>rw[e1] at q;cases q
 | some r =>
   obtain⟨das,env1⟩:=r
   rw[e1,Option.bind_some] at q
   dsimp only at q
   split at q
   case h_2=>cases q
   rename_i dk dd _
   unfold z0n at q
   split at q
   case h_2=>cases q
   rename_i kk ds hq
   split at q
   case isFalse=>cases q
   rename_i hc
   obtain⟨c0,c1,c2⟩:=hc
   cases q
   refine⟨_,hv,.inl ⟨rfl,_,.inl (.inl hl0)⟩,W,env,_,env1,ok,e1,fun W1 vs1 H1 s1 ok1 r1=>?_⟩
   obtain⟨v',e2,l',vs,e3,hW,hl,r⟩:=ok1.slot i _ hq
   rw[hv] at e2;cases e2;cases e3
   cases r1 with
   | cons q1 r2 =>
   cases r2 with
   | cons q2 r3 =>
   cases r3
   cases q1
   obtain⟨t1,t2⟩:=ok1.turn hq hv ((r.take kk.toNat).append (.cons q2 (r.drop kk.toNat)))
   have hlen:=r.length
   have c3:ds.length<sizeLine:=lt20 (Nat.lt_of_succ_le c2)
   have c4:ds.length+1<=2 ^ 20:=c2
   exact⟨l,vs,kk,_,rfl,rfl,hl,c0,by rw[← hlen];exact c1,by omega,by rw[← hlen];exact c3,k W1 _ _ (s1.trans t2) t1 .non⟩⟩
def zgd:List Nat->List D->DE0->DE0
 | i::ix,d::ds,e=>zgd ix ds (e.set i (some (.sh d)))
 | _,_,e=>e
def gIs:List Nat->TGs
 | []=>gNil
 | i::ix=>z2i (zhb i) (gIs ix)
def sUnp(ix:List Nat)(f:FE):FS:=fun e=>(f e).bind fun r=>match r.1 with
 | .tup ds=>if ds.length=ix.length then some (.nx,zgd ix ds r.2) else none
 | _=>none
def unp(ix:List Nat)(d:D)(e:DE0):Option DE0:=match d with
 | .tup ds=>if ds.length=ix.length then some (zgd ix ds e) else none
 | _=>none
def forU(ix:List Nat)(g:FS):List D->DE0->Option (Fl×DE0)
 | [],e=>some (.nx,e)
 | d::r,e=>(unp ix d e).bind fun e1=>(g e1).bind fun q=>match q.1 with | .nx=>forU ix g r q.2 | .ct=>forU ix g r q.2 | .bk=>some (.nx,q.2) | .rt d=>some (.rt d,q.2) | .rf ds=>some (.rf ds,q.2) | .r2 ds=>some (.r2 ds,q.2) | .xc c=>some (.xc c,q.2) | .ra k ps=>some (.ra k ps,q.2)
@[simp] def zf9(ix:List Nat)(fi:FI)(g:FS):FS:=fun e=>(fi e).bind fun r=>forU ix g r.1 r.2
theorem zrs{K:PySem.W.Frag}{W:Addr->Prop}{H:Hp}:∀(ix:List Nat) (ds:List D) (vs:List V) (env:DE0) (σ:St) (Q:St->Hp->Prop),Ok K G H0 W env σ H->Reps K H (Ow G W) ds vs->ds.length=ix.length ->
  (∀σ',Ok K G H0 W (zgd ix ds env) σ' H->Q σ' H)->gIs ix vs σ H Q
 | [],ds,vs,env,σ,Q,ok,r,hl,k=>by
   cases r with
   | nil=>exact⟨rfl,k σ ok⟩
   | cons _ _=>cases hl
 | i::ix,ds,vs,env,σ,Q,ok,r,hl,k=>by
   cases r with
   | nil=>cases hl
   | @cons d v ds vs r0 r =>
     refine⟨v,vs,rfl,?_⟩
     exact zrs ix ds vs _ _ Q (ok.set r0) r (Nat.succ.inj hl) k
theorem zkd  : PGs X [] (gIs []):=zzq
variable{es:List Expr}
theorem zbj(tn:Tos Nn X)(h:PGs X es (gIs ix))(hto:Nn[i]?=some x:=by rfl)(hs:(assignEach (.Name x pos::es) X.env).map (·.2)=assign (.Name x pos) X.env::(assignEach es X.env).map (·.2):=by rfl):PGs X (.Name x pos::es) (gIs (i::ix)):=zwk (ztw (tn.t hto).nd (tn.t hto).n (tn.t hto).l (tn.t hto).f) h hs
theorem z35(ha:DEx X G H0 a f)(h:PGs X es (gIs ix))(hc:X.calm=true:=by rfl)(hn:(assignEach es X.env).length=ix.length:=by rfl)(hst:(assignEach es X.env).findIdx? (·.1)=none:=by rfl)(hs:swapsWithSole [.Tuple es k p1] a pos.line X.env=pure false:=by rfl)(hw:swappedStores [.Tuple es k p1] a X.env=pure none:=by rfl)(h1:(assignEach [.Tuple es k p1] X.env).map (·.2)=[assign (.Tuple es k p1) X.env]:=by rfl) :
  DSx X G H0 (.Assign [.Tuple es k p1] a pos) (sUnp ix f):=⟨(zrf ha.out (ztx (n:=ix.length) hc h hn hst) hs hw h1).imp fun Dn σ H ⟨W,env,fl,env',ok,q,kk⟩=>by
 unfold sUnp at q
 cases e1:f env with
 | none=>rw[e1] at q;cases q
 | some r =>
   obtain⟨d,env1⟩:=r
   rw[e1,Option.bind_some] at q
   dsimp only at q
   split at q
   case h_2=>cases q
   rename_i ds
   split at q
   case isFalse=>cases q
   rename_i hl
   cases q
   refine⟨W,env,_,_,ok,e1,fun W1 v1 H1 s1 ok1 r1=>?_⟩
   cases r1 with
   | @tup a vs _ ht rr =>
     exact⟨a,vs,rfl,.inl (.inl ht),by rw[← rr.length];exact hl,zrs ix ds vs _ σ _ ok1 rr hl fun σ' ok'=>kk W1 σ' H1 s1 ok'⟩⟩
variable{body:List Stmt}{u:FS}
theorem zmc(hi:DIx X G H0 (.Tuple es k p1) a fi)(h:PGs X es (gIs ix))(hb:DBx X G H0 body u)(hp:PassesOwn (model X.prog X.w) X.A X.env X.xe:=by passes_own)(hc:X.calm=true:=by rfl)(hn:(assignEach es X.env).length=ix.length:=by rfl)(hst:(assignEach es X.env).findIdx? (·.1)=none:=by rfl)(hs:∀x,foldedSetIterable a X.env x=pure x:=by intro _;rfl):DSx X G H0 (.For (.Tuple es k p1) a body [] pos) (zf9 ix fi u):=⟨(zt3 hp hc hi.out (ztx (n:=ix.length) hc h hn hst) hb.out hs).imp fun Dn σ H ⟨W,env,fl,env',ok,q,k⟩=>by
 cases e1:fi env with
 | none=>simp[zf9,e1] at q
 | some z =>
   obtain⟨ds,env1⟩:=z
   have q:forU ix u ds env1=some (fl,env'):=by simpa[zf9,e1] using q
   refine⟨W,env,ds,env1,ok,e1,fun W1 J H1 s1 ok1 wk=>?_⟩
   refine⟨fun n m σ' H'=>∃W' env2,m=ds.length-n/\n<=ds.length/\Step W1 H1 W' H'/\Ok X.K G H0 W' env2 σ' H'/\forU ix u (ds.drop n) env2=some (fl,env'),⟨ds.length,W1,env1,rfl,Nat.zero_le _,Step.refl,ok1,q⟩,?_⟩
   rintro n m σ' H' ⟨W',env2,rfl,hn,st,ok',ef⟩
   by_cases hlt:n<ds.length
   ·have eq:ds.drop n=ds[n]::ds.drop (n+1):=List.drop_eq_getElem_cons hlt
    rw[eq] at ef
    obtain⟨hg,hy⟩:=wk.go W' H' n ds[n] st (by simp[hlt])
    unfold forU at ef
    cases e2:unp ix ds[n] env2 with
    | none=>rw[e2] at ef;cases ef
    | some env5 =>
    rw[e2,Option.bind_some] at ef
    cases e3:u env5 with
    | none=>rw[e3] at ef;cases ef
    | some r =>
      obtain⟨fl3,env3⟩:=r
      rw[e3,Option.bind_some] at ef
      refine .inr ⟨hg,fun σ2 H2=>∃W2 env4,Step W1 H1 W2 H2/\Ok X.K G H0 W2 env4 σ2 H2/\forU ix u (ds.drop (n+1)) env4=some (fl,env'),fun σ2 H2 ⟨W2,env4,s2,ok2,e4⟩=>⟨ds.length-(n+1),by omega,W2,env4,rfl,hlt,s2,ok2,e4⟩,fun x H'' y=>?_⟩
      obtain⟨rfl,rx⟩:=hy x H'' y
      generalize ds[n]=dn at rx e2
      unfold unp at e2
      split at e2
      case h_2=>cases e2
      rename_i dds
      split at e2
      case isFalse=>cases e2
      rename_i hl
      cases e2
      cases rx with
      | @tup a vs _ ht rr =>
      refine⟨a,vs,rfl,.inl (.inl ht),by rw[← rr.length];exact hl,zrs ix dds vs _ σ' _ ok' rr hl fun σ3 ok3=>?_⟩
      refine⟨W',_,fl3,env3,ok3,e3,?_⟩
      cases fl3 with
      | nx=>exact fun W2 σ2 H2 s2 ok2=>⟨W2,env3,st.trans s2,ok2,ef⟩
      | ct=>exact fun W2 σ2 H2 s2 ok2=>⟨W2,env3,st.trans s2,ok2,ef⟩
      | bk =>
        cases ef
        exact fun W2 σ2 H2 s2 ok2=>k W2 σ2 H2 ((s1.trans st).trans s2) ok2
      | rt d=>cases ef;exact k.go rfl rfl (s1.trans st)
      | rf d=>cases ef;exact k.go rfl rfl (s1.trans st)
      | r2 d=>cases ef;exact k.go rfl rfl (s1.trans st)
      | xc d=>cases ef;exact k.go rfl rfl (s1.trans st)
      | ra d d'=>cases ef;exact k.go rfl rfl (s1.trans st)
   ·have e:n=ds.length:=by omega
    subst e
    rw[List.drop_length] at ef
    cases ef
    exact .inl ⟨wk.stop W' H' st,k W' σ' H' (s1.trans st) ok'⟩⟩
def fRep(F:FA)(g:FE):FA:=fun e=>(F e).bind fun r=>(g r.2).bind fun q=>match q.1 with
 | .int k=>if Few (r.1.length*k.toNat)/\Bnd (-(2 ^ 62)) (2 ^ 62) k then some ((List.replicate k.toNat r.1).flatten,q.2) else none
 | _=>none
theorem Reps.rep{K:PySem.W.Frag}{H:Hp}{O:Addr->Prop}{ds:List D}{vs:List V}(r:Reps K H O ds vs):∀k:Nat,Reps K H O (List.replicate k ds).flatten (List.replicate k vs).flatten
 | 0=>.nil
 | k+1=>by
   rw[List.replicate_succ,List.flatten_cons,List.replicate_succ,List.flatten_cons]
   exact r.append (Reps.rep r k)
theorem zu8(ha:DFx X G H0 a F)(hb:DEx X G H0 b g):DFx X G H0 (.BinOp a .Mult b pos) (fRep F g):=⟨(zzs z3b ha.out hb.out).imp fun σ H Q ⟨W,env,d,env',ok,q,k⟩=>by
 unfold fRep at q
 cases e1:F env with
 | none=>rw[e1] at q;cases q
 | some r =>
   obtain⟨ds,env1⟩:=r
   rw[e1,Option.bind_some] at q
   dsimp only at q
   cases e2:g env1 with
   | none=>rw[e2] at q;cases q
   | some r2 =>
     obtain⟨d2,env2⟩:=r2
     rw[e2,Option.bind_some] at q
     dsimp only at q
     split at q
     case h_2=>cases q
     rename_i kk
     split at q
     case isFalse=>cases q
     rename_i hc
     obtain⟨hf,hk1,hk2⟩:=hc
     cases q
     refine⟨W,env,_,_,ok,e1,fun W1 l vs H1 s1 ok1 ok1' nW hl rr=>⟨W1,env1,_,_,ok1,e2,fun W2 v2 H2 s2 ok2 p2=>?_⟩⟩
     have s1':Step W H W1 H1:=⟨s1.keep,fun a h=>s1.ws a (.inl h)⟩
     have rr1:Reps X.K H1 (Ow G W1) ds vs:=rr.mono (fun _ _ h=>h) fun a us o h=>⟨⟨o.1,fun z=>o.2 (.inl z)⟩,h⟩
     have rr2:=ok1.reps s2 rr1
     have hl2:H2 l=some (.lst vs):=s2.keep l _ hl nW
     cases p2
     refine⟨l,kk,vs,rfl,rfl,hl2,by omega,by omega,?_,fun n hn=>?_⟩
     ·rw[← rr.length];exact Nat.le_trans hf (by rw[sizeLine_eq];decide)
     ·obtain⟨h1,h2,h3,h4,h5,h6⟩:=zle ok2 (Reps.rep rr2 kk.toNat) hn
      exact k W2 n _ _ ((s1'.trans s2).trans h1) h2 h3 h4 h5 h6⟩
def fSp2(K:PySem.W.Frag)(m:List D->Option (List (List D))):Sp:=fun vs H Q _=>∃O ds rss,Reps K H O ds vs/\m ds=some rss/\∀l ls H',Same H H'->N2 K (gd fun a=>O a\/H a=none) H H' l ls rss->Q (.ref l) H'
def zmd(m:List D->Option (List (List D)))(F:FA):FA2:=fun e=>(F e).bind fun r=>(m r.1).map fun d=>(d,r.2)
def zrt(f:FA2):FS:=fun e=>(f e).map fun r=>(.r2 r.1,r.2)
def z6f(i:Nat):FS:=fun e=>match e[i]? with | some (some (.o2 dss))=>some (.r2 dss,e) | _=>none
def zta(n ar:Nat)(g:FS):List D->Option (List (List D)):=fun ds=>if ds.length=ar then(match g (za8 n ds) with | some (.r2 d,_)=>some d | _=>none) else none
theorem SlOk.n2(ok:Ok K G H0 W env σ H)(h:SlOk K G W H (.o2 dss) v):∃l ls,v=.ref l/\N2 K G H0 H l ls dss:=by
 obtain⟨l,ls,rfl,hW,hl,nd,hi⟩:=h
 have inW:∀a∈l::ls,W a:=fun a ha=>by
  rcases List.mem_cons.mp ha with rfl | ha
  ·exact hW
  ·obtain⟨j,hj,e2⟩:=List.getElem_of_mem ha
   have hj':j<dss.length:=by rw[← hi.1];exact hj
   exact(hi.2 j dss[j] a (by simp[hj']) (by simp[hj,e2])).1
 refine⟨l,ls,rfl,nd,fun a ha=>(ok.wl a (inW a ha)).1,hl,hi.1,fun j ds a e1 e2=>?_⟩
 obtain⟨_,vs,h1,r⟩:=hi.2 j ds a e1 e2
 exact⟨vs,h1,r.mono (fun _ _ h=>h) fun b us o h=>⟨⟨o.1,fun z=>o.2 (inW b z)⟩,h⟩⟩
theorem zw6(he:DF2x X G H0 e f2):DSx X G H0 (.Return (some e) pos) (zrt f2):=⟨(zo5 he.out).imp fun Dn σ H ⟨W,env,fl,env',ok,q,k⟩=>by
 unfold zrt at q
 cases e1:f2 env with
 | none=>rw[e1] at q;cases q
 | some r =>
   rw[e1] at q
   cases q
   refine⟨W,env,_,_,ok,e1,fun W1 l H1 s1 ok1 h1 _=>?_⟩
   obtain⟨l',ls,z,n2⟩:=h1.n2 ok1
   cases z
   exact k l ls H1 ok1.stay n2⟩
variable{H':Hp}{l:Addr}
theorem Ok.fresh2{ls:List Addr}(ok:Ok K G H0 W env σ H)(s:Same H H')(n:N2 K (gd fun a=>Ow G W a\/H a=none) H H' l ls dss) :
  ∃W',Ok K G H0 W' env σ H'/\Step W H W' H'/\SlOk K G W' H' (.o2 dss) (.ref l) /\
   ∀(j:Nat) (s:Sl) (v:V) (a:Addr),env[j]?=some (some s)->σ[j]?=some (some v)->Owns H' (.o2 dss) (.ref l) a->¬Owns H' s v a:=by
 have isl:∀a∈l::ls,∃vs,H' a=some (.lst vs):=fun a ha=>by
  rcases List.mem_cons.mp ha with rfl | ha
  ·exact⟨_,n.top⟩
  ·obtain⟨j,hj,e2⟩:=List.getElem_of_mem ha
   have hj':j<dss.length:=by rw[← n.len];exact hj
   obtain⟨vs,h,_⟩:=n.inn j dss[j] a (by simp[hj']) (by simp[hj,e2])
   exact⟨vs,h⟩
 have wH:∀a,W a->H a≠none:=fun a z q=>by obtain⟨_,vs,e⟩:=ok.wl a z;rw[q] at e;cases e
 have st:Step W H (fun a=>W a\/a∈l::ls) H':=⟨fun b o e _=>s b o e,fun a z=>z.elim .inl fun q=>.inr (n.new a q)⟩
 have ok':=ok.same s
 have okn:Ok K G H0 (fun a=>W a\/a∈l::ls) env σ H':=by
  refine⟨ok.stay.trans s,ok.good,fun a z=>?_,fun i sl e=>?_,ok'.uniq,ok.len⟩
  ·rcases z with z | z
   ·obtain⟨q,us,b⟩:=ok.wl a z
    exact⟨q,us,s _ _ b⟩
   ·obtain⟨vs,h⟩:=isl a z
    exact⟨ok.stay.free (n.new a z),.l vs,h⟩
  ·obtain⟨v,e1,h⟩:=ok.slot i sl e
   exact⟨v,e1,ok.slstep st h fun a vs o e2=>⟨.inl (h.owns o),s _ _ e2⟩⟩
 refine⟨_,okn,st,⟨l,ls,rfl,.inr (List.mem_cons_self),n.top,n.nd,n.len,fun j ds a e1 e2=>?_⟩,fun j sl v a ej ev o1 o2=>?_⟩
 ·obtain⟨vs,h,r⟩:=n.inn j ds a e1 e2
  refine⟨.inr (List.mem_cons_of_mem _ (List.mem_of_getElem? e2)),vs,h,r.mono (fun _ _ h=>h) fun b us o h=>⟨⟨?_,?_⟩,h⟩⟩
  ·rcases o.1 with q | q
   ·exact q.1
   ·exact ok.good b (ok.stay.free q)
  ·rintro(z | z)
   ·rcases o.1 with q | q
    ·exact q.2 z
    ·exact wH b z q
   ·exact o.2 z
 ·obtain⟨v',ev',hs⟩:=ok'.slot j sl ej
  rw[ev] at ev';cases ev'
  have wa:W a:=hs.owns o2
  have hm:a∈l::ls:=by
   rcases o1 with o1 | ⟨l',ls',z,q,hb⟩
   ·cases o1;exact List.mem_cons_self
   ·cases z
    rw[n.top] at q
    have:=zgb (by simpa using q)
    subst this
    exact List.mem_cons_of_mem _ hb
  exact wH a wa (n.new a hm)
variable{E:Value->Shared->Prop}
theorem zw7{m:List D->Option (List (List D))}{E:XK}:∀σ H Q,tDF2 X.K G H0 (zmd m F) σ H Q->zuc (fSp2 X.K m) [] E (tDA X.K G H0 F) σ H Q:=fun σ H Q ⟨W,env,d,env',ok,q,k⟩=>by
 unfold zmd at q
 cases e1:F env with
 | none=>rw[e1] at q;cases q
 | some r =>
   obtain⟨ds,env1⟩:=r
   rw[e1,Option.bind_some] at q
   dsimp only at q
   cases e2:m ds with
   | none=>rw[e2] at q;cases q
   | some d' =>
     rw[e2] at q
     cases q
     refine⟨W,env,ds,_,ok,e1,fun W1 vs H1 s1 ok1 p1=>?_⟩
     show fSp2 X.K m (vs++[]) H1 Q E
     rw[List.append_nil]
     refine⟨Ow G W1,ds,_,p1,e2,fun l ls H2 sm n2=>?_⟩
     obtain⟨W2,h1,h2,h3,h4⟩:=ok1.fresh2 sm n2
     exact k W2 l H2 (s1.trans h2) h1 h3 h4
variable{mF2:List D->Option (List (List D))}
theorem zw8{jr:Nat}(c:Cal X.prog X.w X.K X.mg X.base CX0 x k (fSp2 X.K mF2))(rm:Room jr X.A)(ha:DAx X G H0 (e::es) F)(hkj:k<=jr:=by decide)(hg:Gl X x:=by walk_at "g")(he:starEach (e::es) X.env=(false,eval e X.env)::starEach es X.env:=by rfl)(hpl:(backTo pos (starEach es X.env)).any (·.1)=false:=by rfl) :
  DF2x X G H0 (.Call (.Name x p') (e::es) [] pos) (zmd mF2 F):=let ⟨_,_,_,Fn,hm,hk,hb,hdb⟩:=c;⟨(zns Fn (rm.mono hkj) hg hm hk hb .nil zwt ha.out hdb he hpl).imp zw7⟩
theorem z5u{f:Addr}{g:FS}(F:Fun K x qual st f fd)(S:zfu N ps (zaj st))(hn:n=N.length)(ha:ar=ps.length)(hbody:∀(cdv:Value) (A:Around) (outer:List Env) (s:Shared) (H:Hp) (E:XK) (G:Gd) (H0:Hp),Room k (A.deeper (envOfC qual (zaj st) s.heap.objs.size f cdv)) ->
   DBx (cxOf CX P w K mg base N qual (zaj st) f cdv A outer s H E).nox G H0 (zb4 st) g):FnOk P w K mg base CX (k+1) f fd ps (fSp2 K (zta n ar g)):=by
 subst hn ha
 refine F.okC S (fun vs H Q E h=>?_) (fun cdv A outer s H vs Q E hr h=>?_)
 ·obtain⟨O,ds,d,r,e,_⟩:=h
  rw[← r.length]
  unfold zta at e
  split at e
  ·assumption
  ·cases e
 ·obtain⟨O,ds,d,r,e,k⟩:=h
  refine⟨_,(hbody cdv A outer s H E (gd fun a=>O a\/H a=none) H hr).out,?_⟩
  unfold zta at e
  split at e
  case isFalse=>cases e
  split at e
  ·rename_i d' env' hg
   cases e
   exact⟨NoW,_,_,env',zi7 r,hg,fun l ls H' sm n2=>k l ls H' sm n2⟩
  ·cases e
variable{wr:List Addr}{pins:List (Addr×Obj)}{h2:Heap}
theorem Inv.tupled{tk:Nat}{T:Addr}{us:Array Value}(I:Inv X pins σ H s)(hf:∀b∈wr,FpOk X pins H b)(hT:s.heap.objs.size<=T)(hw:T∉wr)(k:∀b o,b∉wr->s.heap.get? b=some o->h2.get? b=some o)(ht:h2.IsTuple T us)(hv:Vals vs us.toList)(hz:vs.length<=sizeLine) :
  Inv X pins σ (upd H T (.tup vs)) { s with heap:=h2,toks:=tk }:=by
 have hn:H T=none:=I.hok.fresh hT
 have nwr:∀b u,H b=some u->b∉wr:=fun b u e z=>by rw[(hf b z).1] at e;cases e
 have neT:∀b o,s.heap.get? b=some o->b≠T:=fun b o e=>Nat.ne_of_lt (Nat.lt_of_lt_of_le (Heap.lt_size e) hT)
 refine I.step (g':=s.gens) (d':=s.drawn) (ch:=wr) (fun b hb=>⟨(hf b hb).2.2.2.1,(hf b hb).2.1,(hf b hb).2.2.2.2.1,(hf b hb).2.2.2.2.2⟩) (fun b o _ _ hc e _=>k b o hc e) (fun b o _ _ hc e _=>⟨o.slots,k b o hc e⟩)
  (fun b o _ e n=>by rw[zaq (neT b o e)];exact n) (fun b o hc e=>⟨o,k b o hc e⟩) (fun b xs e=>by rw[zaq (zbh e hn)];exact e) (fun b o u e=>by rw[zaq (zbh e hn)];exact e)
  (fun b ps e=>⟨#[],by rw[zaq (zbh e hn),e];simp⟩) (fun m hm=>?_) (fun b u e=>?_) I.bare
 ·obtain⟨o,es,ep,ho,r⟩:=hm
  exact⟨o,es,ep,k _ o (fun z=>(hf _ z).2.1 rfl) ho,r⟩
 ·by_cases hb:b=T
  ·subst hb
   rw[za3] at e;cases e
   exact⟨hz,us.toList,hv,by rw[Array.toArray_toList];exact ht⟩
  ·rw[zaq hb] at e
   refine(I.hok b u e).stay (fun c v hc q=>k c v ?_ q) (fun c q=>by rw[zaq (zbh q hn)];exact q) fun c xs q=>by rw[zaq (zbh q hn)];exact q
   rcases hc with z | z
   ·rw[z];exact nwr b u e
   ·exact nwr c _ z
theorem Inv.turnedL{tk:Nat}(I:Inv X pins σ H s)(hf:∀b∈wr,FpOk X pins H b)(k:∀b o,b∉wr->s.heap.get? b=some o->h2.get? b=some o) :
  Inv X pins σ H { s with heap:=h2,toks:=tk }:=by
 have nwr:∀b u,H b=some u->b∉wr:=fun b u e z=>by rw[(hf b z).1] at e;cases e
 refine I.step (g':=s.gens) (d':=s.drawn) (ch:=wr) (fun b hb=>⟨(hf b hb).2.2.2.1,(hf b hb).2.1,(hf b hb).2.2.2.2.1,(hf b hb).2.2.2.2.2⟩) (fun b o _ _ hc e _=>k b o hc e) (fun b o _ _ hc e _=>⟨o.slots,k b o hc e⟩)
  (fun _ _ _ _ n=>n) (fun b o hc e=>⟨o,k b o hc e⟩) (fun _ _ e=>e) (fun _ _ _ e=>e) (fun b ps e=>⟨#[],by rw[e];simp⟩) (fun m hm=>?_) (fun b u e=>?_) I.bare
 ·obtain⟨o,es,ep,ho,r⟩:=hm
  exact⟨o,es,ep,k _ o (fun z=>(hf _ z).2.1 rfl) ho,r⟩
 ·refine(I.hok b u e).stay (fun c v hc q=>k c v ?_ q) (fun _ q=>q) fun _ _ q=>q
  rcases hc with z | z
  ·rw[z];exact nwr b u e
  ·exact nwr c _ z
def Itp(go:Nat->Hp->Prop)(pr:Nat->Hp->List V->Prop)(stop:Nat->Hp->Prop):It :=
 ⟨go,fun i H x H'=>∃t vs,H t=none/\x=.ref t/\H'=upd H t (.tup vs)/\pr i H vs,stop⟩
variable{it:Addr}
theorem zy3{tn:Nat->Heap->Prop}{go:Nat->Hp->Prop}{pr:Nat->Hp->List V->Prop}{stop:Nat->Hp->Prop}(mem:it∈fp)(obj:∀i h,tn i h->∀b∈fp,∃o,h.get? b=some o/\∀v,o.data≠.cell v)(keep:∀i h h',tn i h->(∀b∈fp,∀o,h.get? b=some o->h'.get? b=some o)->tn i h')(mk:∀(X:Cx),X.prog=P->X.w=w->X.K=K->X.A.handled=none->∀(i:Nat) (pins:List (Addr×Obj)) (s:Shared) (σ:St) (H:Hp),Inv X pins σ H s->(∀b∈fp,FpOk X pins H b)->tn i s.heap->(go i H\/stop i H) ->
   ∃fp2 wr n Pt St Mid j,WalksT P w X.A it fp2 wr n Pt St Mid/\St j s.heap/\(∀b∈wr,b∈fp)/\(∀h,St (j+1) h->tn (i+1) h)/\(go i H->j<n)/\(stop i H->j=n) /\
    (go i H->∀vals,Pt j vals->∃vs,Vals vs vals.toList/\vs.length<=sizeLine/\pr i H vs))(self:∀(A:Around) (i:Nat) (s:Shared) (Q:Value->Shared->Prop) (E:Value->Shared->Prop),tn i s.heap->Q (.ref it) s->wpAny (model P w) A (pyIter (.ref it)) Q E s) :
  Turn P w K (.Tuple es k pos) (Itp go pr stop) fp it tn where
 mem:=mem
 obj:=obj
 keep:=keep
 item:=by
  intro X hP hw hK hc i pins s σ H E I hf st hg
  obtain⟨fp2,wr,n,Pt,St,Mid,j,W,s0,hwr,nxt,lt,_,rel⟩:=mk X hP hw hK (I.ok.hd hc) i pins s σ H I hf st (.inl hg)
  refine W.item j s _ _ (lt hg) s0 fun T vals h1 tk hp hT ht mid kk=>⟨_,rfl,?_⟩
  obtain⟨vs,rv,rz,rp⟩:=rel hg vals hp
  have hTw:T∉wr:=W.apart j T h1 mid
  refine W.go es k pos j T _ _ _ mid fun h2 s2 kk2=>?_
  refine⟨.ref T,upd H T (.tup vs),?_,rfl,⟨T,vs,I.hok.fresh hT,rfl,rfl,rp⟩,nxt h2 s2,fun b hb=>?_⟩
  ·exact I.tupled (fun b hb=>hf b (hwr b hb)) hT hTw (fun b o hb e=>kk2 b o hb (kk b o hb e)) (ht.at fun o e=>kk2 T o hTw e) rv rz
  ·obtain⟨o,ho,_⟩:=obj i _ st b hb
   rw[zaq (Nat.ne_of_lt (Nat.lt_of_lt_of_le (Heap.lt_size ho) hT))]
   exact(hf b hb).1
 done:=by
  intro X hP hw hK hc i pins s σ H E I hf st hg
  obtain⟨fp2,wr,n,Pt,St,Mid,j,W,s0,hwr,nxt,_,eq,_⟩:=mk X hP hw hK (I.ok.hd hc) i pins s σ H I hf st (.inr hg)
  cases eq hg
  exact W.done s _ _ s0 fun h1 tk kk=>⟨rfl,I.turnedL (fun b hb=>hf b (hwr b hb)) kk⟩
 self:=self
variable{A:Around}
theorem ztb(hh:A.handled=none)(ne:l≠it)(c:Nat)(its:Array Value) :
  Draws P w A.in1 it [it,l] (c+its.size) (fun j x=>∃i,j=c+i/\its[i]?=some x) (fun j h=>∃i,j=c+i/\i<=its.size/\h.IsListIter it l i/\h.IsList l its) where
 live:=fun j h ⟨i,_,_,⟨o,e,_⟩,_⟩=>⟨o,e⟩
 frame:=fun j h h' ⟨i,e,hi,a,b⟩ k=>⟨i,e,hi,a.at fun o e=>k it (by simp) o e,b.at fun o e=>k l (by simp) o e⟩
 item:=fun j s Q E hj ⟨i,e,hi,a,b⟩ hQ=>by
  subst e
  have hi:i<its.size:=by omega
  refine wpAny_nextOf_list_item a b (x:=its[i]) (by simp[hi]) fun h' a' sb=>?_
  exact hQ _ h' s.toks ⟨i,rfl,by simp[hi]⟩ ⟨i+1,by omega,hi,a',b.extBut sb.extBut ne⟩ sb
 done:=fun s Q E ⟨i,e,hi,a,b⟩ hE=>by
  have hi:i=its.size:=by omega
  subst hi
  exact wpAny_nextOf_list_end hh a b (by simp) hE
def Ite(K:PySem.W.Frag)(a:Addr)(c:Nat):It :=
 Itp (fun i H=>∃xs x,SqL K H a xs/\xs[i]?=some x) (fun i H vs=>∃y,vs=[.int (c+i:Nat),y]/\∀xs,SqL K H a xs->xs[i]?=some y) (fun i H=>∃xs,SqL K H a xs/\xs.length=i)
theorem zpp(a it e:Addr)(c:Nat)(ne:e≠it) :
  Turn P w K (.Tuple es k pos) (Ite K a c) [e,it] e (fun i h=>(∃old,IsEnum h e it (c+i:Nat) old)/\h.IsListIter it a i):=by
 refine zy3 (by simp) (fun i h st b hb=>?_) (fun i h h' st kk=>?_) ?_ fun A i s Q E st hQ=>?_
 ·obtain⟨⟨old,he⟩,o,ho,_,hd⟩:=st
  rcases List.mem_cons.mp hb with z | z
  ·subst z
   exact⟨_,he,fun v z=>by cases (show Data.fields _=Data.cell v from z)⟩
  ·cases List.mem_singleton.mp z
   exact⟨o,ho,fun v z=>by rw[hd] at z;cases z⟩
 ·exact⟨st.1.imp fun old he=>kk e (by simp) _ he,st.2.at fun o x=>kk it (by simp) o x⟩
 ·intro X hP hw hK hh i pins s σ H I hf st hg
  subst hP hw hK
  obtain⟨⟨old,he⟩,hit⟩:=st
  have hq:∃xs,SqL X.K H a xs/\i<=xs.length:=by
   rcases hg with⟨xs,x,q,hx⟩ | ⟨xs,q,hx⟩
   ·exact⟨xs,q,Nat.le_of_lt (List.getElem?_eq_some_iff.mp hx).1⟩
   ·exact⟨xs,q,Nat.le_of_eq hx.symm⟩
  obtain⟨xs,q,hle⟩:=hq
  obtain⟨its,rv,p,hz⟩:=I.list q
  have hl:=rv.length
  obtain⟨ol,hol,hcl,_⟩:=id p.isList
  obtain⟨oi,hoi,hci,_⟩:=id hit
  have ne1:a≠it:=fun z=>by
   subst z
   rw[hol] at hoi;cases hoi
   rw[hcl] at hci;exact absurd hci (by decide)
  have ne2:e≠a:=fun z=>by
   subst z
   rw[he] at hol;cases hol
   exact absurd (show Value.type "enumerate" = Value.type "list" from hcl) (by decide)
  have D:=ztb (P:=X.prog) (w:=X.w) hh ne1 c its.toArray
  refine⟨_,_,_,_,_,_,c+i,WalksT.enumerateD D e ne (by simp[ne,ne2]) (by simp),⟨⟨old,he⟩,i,rfl,by simpa[← hl] using hle,hit,p.isList⟩,fun b hb=>hb,fun h st=>?_,fun hg=>?_,fun hs=>?_,fun hg vals hv=>?_⟩
  ·obtain⟨⟨old',he'⟩,i',e',_,hit',_⟩:=st
   have:i'=i+1:=by omega
   subst this
   exact⟨⟨old',he'⟩,hit'⟩
  ·obtain⟨ys,y,q',hy⟩:=hg
   rw[I.list_inj q' q] at hy
   have:=(List.getElem?_eq_some_iff.mp hy).1
   simp
   omega
  ·obtain⟨ys,q',hy⟩:=hs
   rw[I.list_inj q' q] at hy
   simp
   omega
  ·obtain⟨t,x,⟨i',e',hx⟩,rfl⟩:=hv
   have:i'=i:=by omega
   subst this
   obtain⟨ys,y,q',hy⟩:=hg
   rw[I.list_inj q' q] at hy
   obtain⟨u,hu,ru⟩:=rv.get hy
   have:u=x:=by
    have hx':its[i']?=some x:=by simpa using hx
    rw[hu] at hx';cases hx';rfl
   subst this
   exact⟨[.int (c+i':Nat),y],.cons ⟨t,rfl⟩ (.cons ru .nil),by show 2<=sizeLine;rw[sizeLine_eq];decide,y,rfl,fun zs hq=>by rw[I.list_inj hq q];exact hy⟩
 ·obtain⟨⟨old,he⟩,_⟩:=st
  exact wpAny_pyIter_enum he hQ
def Itz(K:PySem.W.Frag)(a b:Addr):It :=
 Itp (fun i H=>∃xs ys x y,SqL K H a xs/\SqL K H b ys/\xs[i]?=some x/\ys[i]?=some y) (fun i H vs=>∃x y,vs=[x,y]/\(∀xs,SqL K H a xs->xs[i]?=some x)/\∀ys,SqL K H b ys->ys[i]?=some y)
  (fun i H=>∃xs ys,SqL K H a xs/\SqL K H b ys/\min xs.length ys.length=i)
structure ZNe (z ti to i1 i2:Addr):Prop where
 a1:ti≠z
 a2:to≠z
 a3:i1≠z
 a4:i2≠z
 a5:ti≠to
 a6:ti≠i1
 a7:ti≠i2
 a8:to≠i1
 a9:to≠i2
 aA:i1≠i2
variable{o:Int->Int->Int}
theorem z36{h:Heap}{a b:Addr}{o o':Obj}(e:h.get? a=some o)(e':h.get? b=some o')(n:o.cls≠o'.cls):a≠b:=fun z=>by
 subst z;rw[e] at e';cases e';exact n rfl
theorem zw9(a b z ti to i1 i2:Addr)(ne:ZNe z ti to i1 i2) :
  Turn P w K (.Tuple es k pos) (Itz K a b) [z,ti,to,i1,i2] z (fun i h=>IsZip h z ti to .none/\IsPair h ti (.ref i1) (.ref i2)/\(∃u v,IsPair h to u v)/\h.IsListIter i1 a i/\h.IsListIter i2 b i):=by
 refine zy3 (by simp) (fun i h st c hc=>?_) (fun i h h' st kk=>?_) ?_ fun A i s Q E st hQ=>?_
 ·obtain⟨hz,h1,⟨u,v,h2⟩,⟨o3,h3,_,d3⟩,o4,h4,_,d4⟩:=st
  simp only[List.mem_cons,List.not_mem_nil,or_false] at hc
  rcases hc with rfl | rfl | rfl | rfl | rfl
  ·exact⟨_,hz,fun v q=>by cases (show Data.fields _=Data.cell v from q)⟩
  ·exact⟨_,h1,fun v q=>by cases (show Data.seq _ _=Data.cell v from q)⟩
  ·exact⟨_,h2,fun v q=>by cases (show Data.seq _ _=Data.cell v from q)⟩
  ·exact⟨_,h3,fun v q=>by rw[d3] at q;cases q⟩
  ·exact⟨_,h4,fun v q=>by rw[d4] at q;cases q⟩
 ·obtain⟨hz,h1,⟨u,v,h2⟩,h3,h4⟩:=st
  exact⟨kk z (by simp) _ hz,kk ti (by simp) _ h1,⟨u,v,kk to (by simp) _ h2⟩,h3.at fun o e=>kk i1 (by simp) o e,h4.at fun o e=>kk i2 (by simp) o e⟩
 ·intro X hP hw hK hh i pins s σ H I hf st hg
  subst hP hw hK
  obtain⟨hz,h1,⟨u,v,h2⟩,h3,h4⟩:=st
  have hq:∃xs ys,SqL X.K H a xs/\SqL X.K H b ys/\i<=xs.length/\i<=ys.length:=by
   rcases hg with⟨xs,ys,x,y,q,q',hx,hy⟩ | ⟨xs,ys,q,q',hx⟩
   ·exact⟨xs,ys,q,q',Nat.le_of_lt (List.getElem?_eq_some_iff.mp hx).1,Nat.le_of_lt (List.getElem?_eq_some_iff.mp hy).1⟩
   ·exact⟨xs,ys,q,q',by omega,by omega⟩
  obtain⟨xs,ys,q,q',hle,hle'⟩:=hq
  obtain⟨its,rv,p,_⟩:=I.list q
  obtain⟨its',rv',p',_⟩:=I.list q'
  have hl:=rv.length
  have hl':=rv'.length
  obtain⟨ol,hol,hcl,_⟩:=id p.isList
  obtain⟨ol',hol',hcl',_⟩:=id p'.isList
  obtain⟨o3,ho3,hc3,_⟩:=id h3
  obtain⟨o4,ho4,hc4,_⟩:=id h4
  have nl:∀ {l o T c o'},s.heap.get? l=some o->o.cls=.type "list"->s.heap.get? c=some o'->o'.cls=.type T->T ≠ "list"->l≠c:=fun e1 e2 e3 e4 n=>z36 e1 e3 (by rw[e2,e4];intro z;cases z;exact n rfl)
  have D:ZipApart z ti to i1 i2 a b:=⟨ne.a1,ne.a2,ne.a3,ne.a4,ne.a5,ne.a6,ne.a7,ne.a8,ne.a9,ne.aA,nl (T:="zip") hol hcl hz rfl (by decide),nl (T:="tuple") hol hcl h2 rfl (by decide),nl hol hcl ho3 hc3 (by decide),nl hol hcl ho4 hc4 (by decide),nl (T:="zip") hol' hcl' hz rfl (by decide),nl (T:="tuple") hol' hcl' h2 rfl (by decide),nl hol' hcl' ho3 hc3 (by decide),nl hol' hcl' ho4 hc4 (by decide)⟩
  refine⟨_,_,_,_,_,_,i,WalksT.zip2 hh z ti to i1 i2 a b D its.toArray its'.toArray,⟨hz,h1,⟨u,v,h2⟩,h3,h4,p.isList,p'.isList⟩,fun c hc=>?_,fun h st=>?_,fun hg=>?_,fun hs=>?_,fun hg vals hv=>?_⟩
  ·simp only[List.mem_cons,List.not_mem_nil,or_false] at hc ⊢
   rcases hc with rfl | rfl | rfl | rfl <;> simp
  ·obtain⟨hz,h1,h2,h3,h4,_,_⟩:=st
   exact⟨hz,h1,h2,h3,h4⟩
  ·obtain⟨xs',ys',x,y,q1,q2,hx,hy⟩:=hg
   rw[I.list_inj q1 q] at hx
   rw[I.list_inj q2 q'] at hy
   have:=(List.getElem?_eq_some_iff.mp hx).1
   have:=(List.getElem?_eq_some_iff.mp hy).1
   simp
   omega
  ·obtain⟨xs',ys',q1,q2,hx⟩:=hs
   rw[I.list_inj q1 q,I.list_inj q2 q'] at hx
   simp
   omega
  ·obtain⟨xs',ys',x,y,q1,q2,hx,hy⟩:=hg
   rw[I.list_inj q1 q] at hx
   rw[I.list_inj q2 q'] at hy
   obtain⟨ux,uy,eu,ew,rfl⟩:=hv
   obtain⟨u1,e1,r1⟩:=rv.get hx
   obtain⟨u2,e2,r2⟩:=rv'.get hy
   have t1:u1=ux:=by
    have z:its[i]?=some ux:=by simpa using eu
    rw[e1] at z;cases z;rfl
   have t2:u2=uy:=by
    have z:its'[i]?=some uy:=by simpa using ew
    rw[e2] at z;cases z;rfl
   subst t1
   subst t2
   exact⟨[x,y],.cons r1 (.cons r2 .nil),by show 2<=sizeLine;rw[sizeLine_eq];decide,x,y,rfl,fun zs hq=>by rw[I.list_inj hq q];exact hx,fun zs hq=>by rw[I.list_inj hq q'];exact hy⟩
 ·exact wpAny_pyIter_zip st.1 hQ
abbrev enH(h:Heap)(l:Addr):Heap:=h.push { cls:=.type "list_iterator",data:=.fields #[.ref l,.int 0 0] }
abbrev enHs(h:Heap)(l:Addr):Heap:=(enH h l).push { cls:=.type "enumerate",data:=.fields #[.none,.bool false,.ref h.objs.size,rawInt 1,.none,.none] }
theorem ztc(v:Value)(t:Tok):checkTypeCall "enumerate" ⟨[v],[("start",.int 1 t)]⟩=pure ():=by kernel_rfl
theorem zu9(v:Value)(t:Tok):checkBuiltinCall "enumerate.__new__" ⟨[.type "enumerate",v],[("start",.int 1 t)]⟩=pure ():=by kernel_rfl
theorem zva(l:Addr)(items:Array Value)(n:Nat)(dct:Option Addr)(sl:Array (Option Value))(t:Tok) :
  Meets (Builtin.«enumerate.__new__» ⟨[.type "enumerate",.ref l],[("start",.int 1 t)]⟩) (fun _ R s=>s.heap.get? l=some ⟨.type "list",dct,.seq items n,sl⟩/\R (.ok (.ret (.ref (enH s.heap l).objs.size))) { s with heap:=enHs s.heap l }) :=
 .of_wp fun prog w A R s h=>by
  obtain⟨hp,g,d,tk,os⟩:=s;obtain⟨hl,h⟩:=h
  have hsub:=sub_enumerate
  have hL:Heap.IsList (Shared.heap ⟨hp,g,d,tk,os⟩) l items:=⟨_,hl,rfl,n,rfl⟩
  wp_walk using AutoSeq1.wpAny_loadPart' hl
  refine wpAny_stack_any fun st=>wpAny_pure ?_
  split
  ·rename_i c _ _ _ _ _
   cases (c==Value.type "enumerate") <;> (refine wpAny_bind (wpAny_of_eq (a:=(Value.ref l,some (Value.int 1 t))) (by rfl) ?_);wp_walk using AutoSeq1.wpAny_loadPart' hl,wpAny_pyIter_list hL;exact⟨_,rfl,h⟩)
  ·refine wpAny_bind (wpAny_of_eq (a:=(Value.ref l,some (Value.int 1 t))) (by rfl) ?_);wp_walk using AutoSeq1.wpAny_loadPart' hl,wpAny_pyIter_list hL;exact⟨_,rfl,h⟩
variable{t:Tok}
theorem zxa{v x:Value}:Meets (Builtin.«object.__init__» ⟨[v,x],[("start",.int 1 t)]⟩) (fun _ R s=>s.TypeIs v "enumerate"/\R (.ok (.ret .none)) s) :=
 .of_wp fun prog w A R s ⟨hT,h⟩=>by
  have hm:=F.called_enumerate.made;have hl:=F.called_enumerate.init.lookup
  repeat (any_goals (first | assumption | wp_step))
  exact⟨_,rfl,h⟩
theorem zxb(a b:Value)(t:Tok):argsOk "object.__init__" ⟨[a,b],[("start",.int 1 t)]⟩:=by
 unfold argsOk;rw[signature?_of (id:="object.__init__") (n:=['_','_','t','i','n','i','_','_']) (o:=['t','c','e','j','b','o']) (by kernel_rfl) F.owner_object];kernel_rfl
variable{prog:Program}
theorem zxc{items:Array Value}{Q:Value->Shared->Prop}(hL:s.heap.IsList l items)(h:Q (.ref (enH s.heap l).objs.size) { s with heap:=enHs s.heap l }):wpAny (model prog w) A (call (.type "enumerate") [.ref l] [("start",.int 1 t)]) Q E s:=by
 obtain⟨⟨c,dct,dt,sl⟩,hl,hc,n,hd⟩:=hL
 replace hc:c=.type "list":=hc;replace hd:dt=.seq items n:=hd;subst hc hd
 obtain⟨c,tl,hmro⟩:=F.called_enumerate.mro
 have hmade:=F.called_enumerate.made;have hsub:=F.called_enumerate.sub;have hct:=ztc (.ref l) t
 have h1:=F.called_enumerate.notType;have h2:=F.called_enumerate.canCreate
 refine wpAny_call (codeAny_of_tree (show wpAny _ _ (callAny (.type "enumerate") _) _ _ _ from wpAny_pure ⟨Code.quiet_builtin _ (by decide +kernel),codeAny_builtin F.entry_type_call ?_⟩))
 rw[Around.under_plain (weight_type_call_type "enumerate" [.ref l] [("start",.int 1 t)]) (units_type_call_type "enumerate" [.ref l] [("start",.int 1 t)])]
 repeat (any_goals (first | assumption | wp_step))
 refine codeAny_mono (codeAny_call_builtin (R:=fun r s1=>r=.ok (.ret (.ref (enH s.heap l).objs.size))/\s1={ s with heap:=enHs s.heap l }) F.called_enumerate.plain F.entry_enumerate_new (wpAny_of_eq (zu9 _ t) (zva l items n dct sl t prog w A.in1 (fun r s1=>r=.ok (.ret (.ref (enH s.heap l).objs.size))/\s1={ s with heap:=enHs s.heap l }) s ⟨hl,rfl,rfl⟩))) fun r s1 hr=>?_
 obtain⟨rfl,rfl⟩:=hr
 have hT:Shared.TypeIs { s with heap:=enHs s.heap l } (.ref (enH s.heap l).objs.size) "enumerate":=⟨_,Heap.get?_push_size _ rfl,rfl⟩
 have hli:=F.called_enumerate.init.lookup;have hbi:=F.called_enumerate.init.bind (.ref (enH s.heap l).objs.size)
 repeat (any_goals (first | assumption | wp_step))
 refine codeAny_mono (codeAny_call_builtin (R:=fun r s2=>r=.ok (.ret .none)/\s2={ s with heap:=enHs s.heap l }) F.called_enumerate.init.plain F.entry_object_init (F.called_enumerate.init.check _ _ _ _ _ _ _ _ hT (zxb _ _ t) (zxa prog w A.in1 (fun r s2=>r=.ok (.ret .none)/\s2={ s with heap:=enHs s.heap l }) _ ⟨hT,rfl,rfl⟩))) fun r2 s2 hr2=>?_
 obtain⟨rfl,rfl⟩:=hr2
 repeat (any_goals (first | assumption | wp_step))
theorem zne(n:Nat):ZNe (n+4) (n+2) (n+3) n (n+1):=by
 have h:∀i j:Nat,i≠j->n+i≠n+j:=fun i j z=>by omega
 exact⟨h 2 4 (by decide),h 3 4 (by decide),h 0 4 (by decide),h 1 4 (by decide),h 2 3 (by decide),h 2 0 (by decide),h 2 1 (by decide),h 3 0 (by decide),h 3 1 (by decide),h 0 1 (by decide)⟩
variable{c:Nat}
theorem mem2(h:c∈[n+1,n]):n<=c:=by simp at h;omega
theorem mem5(h:c∈[n+4,n+2,n+3,n,n+1]):n<=c:=by simp at h;omega
theorem zpq:bootBuiltins "enumerate" = some (.type "enumerate"):=by decide +kernel
theorem zxd:bootBuiltins "zip" = some (.type "zip"):=by decide +kernel
def z0o(K:PySem.W.Frag)(c:Nat)(ta:TA):TI:=fun σ H R=>ta σ H fun vs H1=>∃l xs,vs=[.ref l]/\SqL K H1 l xs/\R (Ite K l c) H1
def iZip(K:PySem.W.Frag)(ta:TA):TI:=fun σ H R=>ta σ H fun vs H1=>∃l l' xs ys,vs=[.ref l,.ref l']/\SqL K H1 l xs/\SqL K H1 l' ys/\R (Itz K l l') H1
variable{p:Pos}{ta:TA}
theorem z0p(bt:Bn X "enumerate")(ha:PA X [a] ta)(hs:starEach [a] X.env=[(false,eval a X.env)]:=by rfl) :
  PI X (.Tuple es k p1) (.Call (.Name "enumerate" p) [a] [] pos) (z0o X.K 0 ta):=by
 intro pins s σ H R I h
 refine Call_ (zl2 I bt.g bt.m zpq (PyProof.Rows.callWith_type1 (thn (ha pos pins s σ H _ I h) fun us s1 ⟨vs,H1,I1,r1,q1⟩=>?_) hs rfl))
 obtain⟨l,xs,e,hq,q⟩:=q1
 subst e
 cases r1 with
 | cons r rr =>
   cases rr
   cases r
   obtain⟨its,rv,pl,hz⟩:=I1.list hq
   refine call_enumerate_list pl.isList fun h' he hit hsz hk=>wpAny_pyIter_enum he ?_
   refine⟨s1.heap.objs.size+1,[s1.heap.objs.size+1,s1.heap.objs.size],_,_,H1,rfl,I1.kept (t':=s1.toks) hk,zpp l _ _ 0 (Nat.succ_ne_self _),⟨⟨.none,he⟩,hit⟩,fun c hc=>?_,q⟩
   have hc:s1.heap.objs.size<=c:=mem2 hc
   exact I1.fpOk hc (I1.hok.fresh hc)
variable{kp:Pos}
theorem zxe(bt:Bn X "enumerate")(ha:PA X [a] ta)(hs:starEach [a] X.env=(false,eval a X.env)::starEach [] X.env:=by rfl)(hpl:(backTo pos (starEach [a] X.env)).any (·.1)=false:=by rfl) :
  PI X (.Tuple es k p1) (.Call (.Name "enumerate" p) [a] [⟨some "start",.Constant (.int 1) j p2,kp⟩] pos) (z0o X.K 1 ta):=by
 intro pins s σ H R I h
 refine wpAny_Call_Name_kw (zl2 I bt.g bt.m zpq ?_)
 refine PySem.W.callWith_of (P:=fun _=>True) (by rw[hpl];rfl) (fun _ _=>⟨Keeper.machine,.inr (.inl rfl),PySem.W.Looks.of_pure rfl⟩) (evalArgs_kw2 rfl (thn (ha pos pins s σ H _ I h) fun us s1 ⟨vs,H1,I1,r1,q1⟩=>?_) hs)
 refine thn (zz1 (nm:=some "start") (kpos:=kp) (ztu (i:=1) (j:=j) (pos:=p2)) z20 pos pins s1 σ H1 (fun ws H2=>H2=H1/\ws=[.int 1]) I1 ⟨rfl,rfl⟩) fun ws s2 ⟨zs,H2,I2,rz,ez,e2⟩=>⟨trivial,?_⟩
 subst ez e2
 obtain⟨l,xs,e,hq,q⟩:=q1
 subst e
 cases r1 with
 | cons r rr =>
   cases rr
   cases r
   cases rz with
   | cons r' rr' =>
   cases rr'
   obtain⟨t,rfl⟩:=r'
   obtain⟨its,rv,pl,hz⟩:=I2.list hq
   refine zxc (t:=t) pl.isList ?_
   have he:IsEnum (enHs s2.heap l) (enH s2.heap l).objs.size s2.heap.objs.size 1 .none:=Heap.get?_push_size _ rfl
   have hz1:(enH s2.heap l).objs.size=s2.heap.objs.size+1:=Heap.size_push ..
   refine wpAny_pyIter_enum he ?_
   refine⟨(enH s2.heap l).objs.size,[(enH s2.heap l).objs.size,s2.heap.objs.size],_,_,H2,rfl,I2.kept (t':=s2.toks) (fun c o e=>Heap.get?_push_of_some _ (Heap.get?_push_of_some _ e)),zpp l _ _ 1 (by rw[hz1];exact Nat.succ_ne_self _),⟨⟨.none,he⟩,⟨_,Heap.get?_push_of_some _ (Heap.get?_push_size _ rfl),rfl,rfl⟩⟩,fun c hc=>?_,q⟩
   have hc:s2.heap.objs.size<=c:=by rw[hz1] at hc;exact mem2 hc
   exact I2.fpOk hc (I2.hok.fresh hc)
theorem z37(bt:Bn X "zip")(ha:PA X [a,b] ta)(hs:starEach [a,b] X.env=[(false,eval a X.env),(false,eval b X.env)]:=by rfl)(hs2:starEach [b] X.env=[(false,eval b X.env)]:=by rfl) :
  PI X (.Tuple es k p1) (.Call (.Name "zip" p) [a,b] [] pos) (iZip X.K ta):=by
 intro pins s σ H R I h
 refine Call_ (zl2 I bt.g bt.m zxd (PyProof.Rows.callWith_type1 (thn (ha pos pins s σ H _ I h) fun us s1 ⟨vs,H1,I1,r1,q1⟩=>?_) (by rw[hs,hs2]) (by rw[hs2];rfl)))
 obtain⟨l,l',xs,ys,e,hq,hq',q⟩:=q1
 subst e
 cases r1 with
 | cons r rr =>
   cases rr with
   | cons r' rr =>
   cases rr
   cases r
   cases r'
   obtain⟨its,rv,pl,hz⟩:=I1.list hq
   obtain⟨its',rv',pl',hz'⟩:=I1.list hq'
   refine call_zip_2 pl.isList pl'.isList fun h' e1 e2 e3 e4 e5 hsz hk=>wpAny_pyIter_zip e1 ?_
   refine⟨_,[s1.heap.objs.size+4,s1.heap.objs.size+2,s1.heap.objs.size+3,s1.heap.objs.size,s1.heap.objs.size+1],_,_,H1,rfl,I1.kept (t':=s1.toks) hk,zw9 l l' _ _ _ _ _ (zne _),⟨e1,e2,⟨_,_,e3⟩,e4,e5⟩,fun c hc=>?_,q⟩
   have hc:s1.heap.objs.size<=c:=mem5 hc
   exact I1.fpOk hc (I1.hok.fresh hc)
structure z0q (K:PySem.W.Frag) (G:Gd) (J:It) (W:Addr->Prop) (H:Hp) (ds:List D):Prop where
 go:∀W' H' (i:Nat) d,Step W H W' H'->ds[i]?=some d->J.go i H'/\∀x H'',J.yld i H' x H''->Same H' H''/\Rep K H'' (Ow G W') d x
 stop:∀W' H',Step W H W' H'->J.stop ds.length H'
def tDJ(K:PySem.W.Frag)(G:Gd)(H0:Hp)(f:FI):TI:=fun σ H R=>∃W env ds env',Ok K G H0 W env σ H/\f env=some (ds,env') /\
 ∀W' J H',Step W H W' H'->Ok K G H0 W' env' σ H'->z0q K G J W' H' ds->R J H'
structure DJx (X:Cx) (G:Gd) (H0:Hp) (tg:Expr) (e:Expr) (f:FI):Prop where
 out:PI X tg e (tDJ X.K G H0 f)
def zkw:Nat->List D->List D
 | _,[]=>[]
 | c,d::r=>.tup [.int c,d]::zkw (c+1) r
def zipD:List D->List D->List D
 | d::r,d'::r'=>.tup [d,d']::zipD r r'
 | _,_=>[]
theorem zpr:∀(ds:List D) (c i:Nat),(zkw c ds)[i]?=ds[i]?.map fun d=>.tup [.int (c+i:Nat),d]
 | [],c,i=>by simp[zkw]
 | d::r,c,0=>by simp[zkw]
 | d::r,c,i+1=>by
   simp only[zkw,List.getElem?_cons_succ]
   rw[zpr r (c+1) i]
   congr 1
   funext d
   rw[show c+1+i=c+(i+1) by omega]
theorem zps:∀(ds:List D) (c:Nat),(zkw c ds).length=ds.length
 | [],_=>rfl
 | d::r,c=>by simp[zkw,zps r]
theorem zru:∀(ds es:List D) (i:Nat) (p:D),(zipD ds es)[i]?=some p->∃d e,ds[i]?=some d/\es[i]?=some e/\p=.tup [d,e]
 | [],es,i,p,h=>by simp[zipD] at h
 | d::r,[],i,p,h=>by simp[zipD] at h
 | d::r,e::r',0,p,h=>by simp[zipD] at h;exact⟨d,e,by simp,by simp,h.symm⟩
 | d::r,e::r',i+1,p,h=>by
   simp only[zipD,List.getElem?_cons_succ] at h ⊢
   exact zru r r' i p h
theorem zrv:∀(ds es:List D),(zipD ds es).length=min ds.length es.length
 | [],es=>by simp[zipD]
 | d::r,[]=>by simp[zipD]
 | d::r,e::r'=>by simp[zipD,zrv r r']
@[simp] def iEn(c:Nat)(ds:List D):Option (List D):=match ds with | [.lst ds]=>some (zkw c ds) | _=>none
@[simp] def iZp(ds:List D):Option (List D):=match ds with | [.lst ds,.lst es]=>some (zipD ds es) | _=>none
theorem zvb{W':Addr->Prop}{t:Addr}(r:Reps K H' (Ow G W') ds vs)(hn:H' t=none):Rep K (upd H' t (.tup vs)) (Ow G W') (.tup ds) (.ref t):=by
 refine .tup (za3 ..) (r.mono (fun a us e=>by rw[zaq (zbh e hn)];exact e) fun a us o h=>⟨o,?_⟩)
 exact h.keep fun o e=>by rw[zaq (zbh e hn)];exact e
theorem zvc(c:Nat)(ok:Ok X.K G H0 W env σ H)(h:LsOk X.K H (Ow G W) l vs)(r:Reps X.K H (Ow G W) ds vs):z0q X.K G (Ite X.K l c) W H (zkw c ds) where
 go:=fun W' H' i d st e=>by
  rw[zpr] at e
  cases e0:ds[i]? with
  | none=>rw[e0] at e;cases e
  | some d0 =>
    rw[e0] at e
    cases e
    obtain⟨v,e1,r1⟩:=(ok.reps st r).get e0
    have h':=(ok.lsstep st h).sq
    refine⟨⟨vs,v,h',e1⟩,fun x H'' ⟨t,us,hn,ex,eH,y,eu,hy⟩=>?_⟩
    subst ex eH eu
    have:=hy vs h'
    rw[e1] at this
    cases this
    exact⟨zb8 hn,zvb (.cons (.int _) (.cons r1 .nil)) hn⟩
 stop:=fun W' H' st=>⟨vs,(ok.lsstep st h).sq,by rw[zps,r.length]⟩
theorem zxf{l':Addr}{vs':List V}{es:List D}(ok:Ok X.K G H0 W env σ H)(h:LsOk X.K H (Ow G W) l vs)(h':LsOk X.K H (Ow G W) l' vs')(r:Reps X.K H (Ow G W) ds vs)(r':Reps X.K H (Ow G W) es vs'):z0q X.K G (Itz X.K l l') W H (zipD ds es) where
 go:=fun W' H' i d st e=>by
  obtain⟨d1,d2,e1,e2,rfl⟩:=zru _ _ _ _ e
  obtain⟨v1,g1,r1⟩:=(ok.reps st r).get e1
  obtain⟨v2,g2,r2⟩:=(ok.reps st r').get e2
  have q1:=(ok.lsstep st h).sq
  have q2:=(ok.lsstep st h').sq
  refine⟨⟨vs,vs',v1,v2,q1,q2,g1,g2⟩,fun x H'' ⟨t,us,hn,ex,eH,y1,y2,eu,hy1,hy2⟩=>?_⟩
  subst ex eH eu
  have t1:=hy1 vs q1
  have t2:=hy2 vs' q2
  rw[g1] at t1;cases t1
  rw[g2] at t2;cases t2
  exact⟨zb8 hn,zvb (.cons r1 (.cons r2 .nil)) hn⟩
 stop:=fun W' H' st=>⟨vs,vs',(ok.lsstep st h).sq,(ok.lsstep st h').sq,by rw[zrv,r.length,r'.length]⟩
variable{tg:Expr}
theorem zrw(hp:PI X tg e (z0o X.K c (tDA X.K G H0 F))):DJx X G H0 tg e (zao (iEn c) F):=⟨hp.imp fun σ H R ⟨W,env,ds,env',ok,q,k⟩=>by
 cases e1:F env with
 | none=>simp[zao,e1] at q
 | some z =>
   obtain⟨as,env1⟩:=z
   cases e2:iEn c as with
   | none=>rw[zao,e1] at q;simp only[Option.bind_some,e2] at q;cases q
   | some d' =>
     have q:some (d',env1)=some (ds,env'):=by rw[zao,e1] at q;simp only[Option.bind_some,e2] at q;exact q
     cases q
     refine⟨W,env,as,_,ok,e1,fun W1 vs H1 s1 ok1 p1=>?_⟩
     unfold iEn at e2
     split at e2
     ·rename_i xs
      cases e2
      obtain⟨v,rfl,r1⟩:=zql p1
      obtain⟨l,us,rfl,h,r⟩:=r1.lst_
      exact⟨l,us,rfl,h.sq,k W1 _ H1 s1 ok1 (zvc c ok1 h r)⟩
     ·cases e2⟩
theorem z0r(ha:DAx X G H0 [a] F)(bt:Bn X "enumerate":=by walk_at "b")(hs:starEach [a] X.env=[(false,eval a X.env)]:=by rfl) :
  DJx X G H0 (.Tuple es k p1) (.Call (.Name "enumerate" p) [a] [] pos) (zao (iEn 0) F):=zrw (z0p bt ha.out hs)
theorem zxg(ha:DAx X G H0 [a] F)(bt:Bn X "enumerate":=by walk_at "b")(hs:starEach [a] X.env=(false,eval a X.env)::starEach [] X.env:=by rfl)(hpl:(backTo pos (starEach [a] X.env)).any (·.1)=false:=by rfl) :
  DJx X G H0 (.Tuple es k p1) (.Call (.Name "enumerate" p) [a] [⟨some "start",.Constant (.int 1) j p2,kp⟩] pos) (zao (iEn 1) F):=zrw (zxe bt ha.out hs hpl)
theorem z38(ha:DAx X G H0 [a,b] F)(bt:Bn X "zip":=by walk_at "b")(hs:starEach [a,b] X.env=[(false,eval a X.env),(false,eval b X.env)]:=by rfl)(hs2:starEach [b] X.env=[(false,eval b X.env)]:=by rfl) :
  DJx X G H0 (.Tuple es k p1) (.Call (.Name "zip" p) [a,b] [] pos) (zao iZp F):=⟨(z37 bt ha.out hs hs2).imp fun σ H R ⟨W,env,ds,env',ok,q,k⟩=>by
 cases e1:F env with
 | none=>simp[zao,e1] at q
 | some z =>
   obtain⟨as,env1⟩:=z
   cases e2:iZp as with
   | none=>rw[zao,e1] at q;simp only[Option.bind_some,e2] at q;cases q
   | some d' =>
     have q:some (d',env1)=some (ds,env'):=by rw[zao,e1] at q;simp only[Option.bind_some,e2] at q;exact q
     cases q
     refine⟨W,env,as,_,ok,e1,fun W1 vs H1 s1 ok1 p1=>?_⟩
     unfold iZp at e2
     split at e2
     ·rename_i xs ys
      cases e2
      obtain⟨v,v',rfl,r1,r2⟩:=z0e p1
      obtain⟨l,us,rfl,h,r⟩:=r1.lst_
      obtain⟨l',us',rfl,h',r'⟩:=r2.lst_
      exact⟨l,l',us,us',rfl,h.sq,h'.sq,k W1 _ H1 s1 ok1 (zxf ok1 h h' r r')⟩
     ·cases e2⟩
theorem zqo(hi:DJx X G H0 (.Tuple es k p1) a fi)(h:PGs X es (gIs ix))(hb:DBx X G H0 body u)(hp:PassesOwn (model X.prog X.w) X.A X.env X.xe:=by passes_own)(hc:X.calm=true:=by rfl)(hn:(assignEach es X.env).length=ix.length:=by rfl)(hst:(assignEach es X.env).findIdx? (·.1)=none:=by rfl)(hs:∀x,foldedSetIterable a X.env x=pure x:=by intro _;rfl):DSx X G H0 (.For (.Tuple es k p1) a body [] pos) (zf9 ix fi u):=⟨(zt3 hp hc hi.out (ztx (n:=ix.length) hc h hn hst) hb.out hs).imp fun Dn σ H ⟨W,env,fl,env',ok,q,k⟩=>by
 cases e1:fi env with
 | none=>simp[zf9,e1] at q
 | some z =>
   obtain⟨ds,env1⟩:=z
   have q:forU ix u ds env1=some (fl,env'):=by simpa[zf9,e1] using q
   refine⟨W,env,ds,env1,ok,e1,fun W1 J H1 s1 ok1 wk=>?_⟩
   refine⟨fun n m σ' H'=>∃W' env2,m=ds.length-n/\n<=ds.length/\Step W1 H1 W' H'/\Ok X.K G H0 W' env2 σ' H'/\forU ix u (ds.drop n) env2=some (fl,env'),⟨ds.length,W1,env1,rfl,Nat.zero_le _,Step.refl,ok1,q⟩,?_⟩
   rintro n m σ' H' ⟨W',env2,rfl,hn,st,ok',ef⟩
   by_cases hlt:n<ds.length
   ·have eq:ds.drop n=ds[n]::ds.drop (n+1):=List.drop_eq_getElem_cons hlt
    rw[eq] at ef
    obtain⟨hg,hy⟩:=wk.go W' H' n ds[n] st (by simp[hlt])
    unfold forU at ef
    cases e2:unp ix ds[n] env2 with
    | none=>rw[e2] at ef;cases ef
    | some env5 =>
    rw[e2,Option.bind_some] at ef
    cases e3:u env5 with
    | none=>rw[e3] at ef;cases ef
    | some r =>
      obtain⟨fl3,env3⟩:=r
      rw[e3,Option.bind_some] at ef
      refine .inr ⟨hg,fun σ2 H2=>∃W2 env4,Step W1 H1 W2 H2/\Ok X.K G H0 W2 env4 σ2 H2/\forU ix u (ds.drop (n+1)) env4=some (fl,env'),fun σ2 H2 ⟨W2,env4,s2,ok2,e4⟩=>⟨ds.length-(n+1),by omega,W2,env4,rfl,hlt,s2,ok2,e4⟩,fun x H'' y=>?_⟩
      obtain⟨sm,rx⟩:=hy x H'' y
      have okn:=ok'.same sm
      have stn:Step W1 H1 W' H'':=st.trans (Step.same sm)
      generalize ds[n]=dn at rx e2
      unfold unp at e2
      split at e2
      case h_2=>cases e2
      rename_i dds
      split at e2
      case isFalse=>cases e2
      rename_i hl
      cases e2
      cases rx with
      | @tup a vs _ ht rr =>
      refine⟨a,vs,rfl,.inl (.inl ht),by rw[← rr.length];exact hl,zrs ix dds vs _ σ' _ okn rr hl fun σ3 ok3=>?_⟩
      refine⟨W',_,fl3,env3,ok3,e3,?_⟩
      cases fl3 with
      | nx=>exact fun W2 σ2 H2 s2 ok2=>⟨W2,env3,stn.trans s2,ok2,ef⟩
      | ct=>exact fun W2 σ2 H2 s2 ok2=>⟨W2,env3,stn.trans s2,ok2,ef⟩
      | bk =>
        cases ef
        exact fun W2 σ2 H2 s2 ok2=>k W2 σ2 H2 ((s1.trans stn).trans s2) ok2
      | rt d=>cases ef;exact k.go rfl rfl (s1.trans stn)
      | rf d=>cases ef;exact k.go rfl rfl (s1.trans stn)
      | r2 d=>cases ef;exact k.go rfl rfl (s1.trans stn)
      | xc d=>cases ef;exact k.go rfl rfl (s1.trans stn)
      | ra d d'=>cases ef;exact k.go rfl rfl (s1.trans stn)
   ·have e:n=ds.length:=by omega
    subst e
    rw[List.drop_length] at ef
    cases ef
    exact .inl ⟨wk.stop W' H' st,k W' σ' H' (s1.trans st) ok'⟩⟩
theorem zxh{env0:DE0}{z:Int}(h:fVar i env=some (.int z,env0)):env[i]?=some (some (.sh (.int z)))/\env0=env:=by
 unfold fVar at h
 split at h
 ·rename_i d hd
  cases h
  exact⟨hd,rfl⟩
 all_goals cases h
variable{op:D->D->Option D}
theorem z5v(ho:∀d1 d2 d,op d1 d2=some d->∃u v,d1=.int u/\d2=.int v/\d=.int (o u v)):∀Dn σ H,tDS X G H0 (sSet i (fBin op (fVar i) f)) Dn σ H->tAug i (tD X.K G H0 f) (ipI o) Dn σ H :=
 fun Dn σ H ⟨W,env,fl,env',ok,q,k⟩=>by
 unfold sSet fBin at q
 cases e0:fVar i env with
 | none=>rw[e0] at q;cases q
 | some r0 =>
   obtain⟨d0,env0⟩:=r0
   rw[e0,Option.bind_some] at q
   dsimp only at q
   cases e1:f env0 with
   | none=>rw[e1] at q;cases q
   | some r1 =>
     obtain⟨d1,env1⟩:=r1
     rw[e1,Option.bind_some] at q
     dsimp only at q
     cases e2:op d0 d1 with
     | none=>rw[e2] at q;cases q
     | some d2 =>
       rw[e2] at q
       cases q
       obtain⟨u,v,rfl,rfl,rfl⟩:=ho _ _ _ e2
       obtain⟨h0,rfl⟩:=zxh e0
       obtain⟨y,hy,ry⟩:=ok.slot i _ h0
       refine⟨y,hy,W,env0,_,_,ok,e1,fun W1 v1 H1 s1 ok1 r1=>⟨u,v,Rep.int_ ry,r1.int_,k W1 _ H1 s1 (ok1.set (.int _))⟩⟩
theorem zjp(tn:Tos Nn X)(he:DEx X G H0 e f)(hto:Nn[i]?=some x:=by rfl) :
  DSx X G H0 (.AugAssign (.Name x p') .Add e pos) (sSet i (fBin zav (fVar i) f)):=⟨(z2j (tn.t hto).nd (tn.t hto).n (tn.t hto).l he.out zyv (tn.t hto).f).imp (z5v fun d1 d2 d h=>by
 cases d1 <;> cases d2 <;> simp[zav] at h
 exact⟨_,_,rfl,rfl,h.symm⟩)⟩
def z39:V->V->Hp->VK->Prop:=fun o i H Q=>∃l xs k v,o=.ref l/\i=.int k/\H l=some (.lst xs)/\0<=k/\xs[k.toNat]?=some v/\Q v H
theorem zrx:PGet X z39:=by
 intro pins s σ H o i ov iv Q I ro ri h
 obtain⟨l,xs,k,v,rfl,rfl,hl,h0,hv,q⟩:=h
 cases ro
 obtain⟨t,rfl⟩:=ri
 obtain⟨its,r,pl,hz⟩:=I.list (.inl (.inl hl))
 obtain⟨w,ew,rw'⟩:=r.get hv
 have hk:=(List.getElem?_eq_some_iff.mp hv).1
 have hn:=znb
 exact wpAny_getItem_list pl.isList h0 (by omega) (by simpa using ew) ⟨v,H,I,rw',q⟩
def zxi(i:Nat)(op:D->D->Option D)(k:Int)(d v:D)(e:DE0):Option (Fl×DE0):=match e[i]? with
 | some (some (.ow ds))=>if k.toNat<ds.length then(op d v).map fun r=>(.nx,e.set i (some (.ow (ds.set k.toNat r)))) else none
 | _=>none
def zlf(i:Nat)(op:D->D->Option D)(fk fe:FE):FS:=fun e=>match e[i]? with
 | some (some (.ow _))=>(fk e).bind fun rk=>match rk.1,rk.2[i]? with
   | .int k,some (some (.ow ds))=>if 0<=k then(ds[k.toNat]?).bind fun d=>(fe rk.2).bind fun rv=>zxi i op k d rv.1 rv.2 else none
   | _,_=>none
 | _=>none
theorem zy4(ho:∀d1 d2 d,op d1 d2=some d->∃u v,d1=.int u/\d2=.int v/\d=.int (o u v)) :
  ∀Dn σ H,tDS X G H0 (zlf i op g f) Dn σ H->z2k (tVar i) (tD X.K G H0 g) (tD X.K G H0 f) z39 (ipI o) z27 Dn σ H:=fun Dn σ H ⟨W,env,fl,env',ok,q,k⟩=>by
 unfold zlf at q
 split at q
 case h_2=>cases q
 rename_i ds0 hq0
 obtain⟨v,hv,l,vs0,rfl,hW0,hl0,_⟩:=ok.slot i _ hq0
 cases e1:g env with
 | none=>rw[e1] at q;cases q
 | some r1 =>
 obtain⟨dk,env1⟩:=r1
 rw[e1,Option.bind_some] at q
 dsimp only at q
 split at q
 case h_2=>cases q
 rename_i kk ds hq
 split at q
 case isFalse=>cases q
 rename_i hk0
 cases e2:ds[kk.toNat]? with
 | none=>rw[e2] at q;cases q
 | some dd =>
 rw[e2,Option.bind_some] at q
 cases e3:f env1 with
 | none=>rw[e3] at q;cases q
 | some r3 =>
 obtain⟨dv,env2⟩:=r3
 rw[e3,Option.bind_some] at q
 unfold zxi at q
 dsimp only at q
 split at q
 case h_2=>cases q
 rename_i ds2 hq2
 split at q
 case isFalse=>cases q
 rename_i hlt
 cases e4:op dd dv with
 | none=>rw[e4] at q;cases q
 | some dr =>
 rw[e4] at q
 cases q
 obtain⟨u,w,rfl,rfl,rfl⟩:=ho _ _ _ e4
 refine⟨_,hv,W,env,_,_,ok,e1,fun W1 v1 H1 s1 ok1 r1=>?_⟩
 obtain⟨v',hv',l',vs1,e5,hW1,hl1,rr1⟩:=ok1.slot i _ hq
 rw[hv] at hv';cases hv';cases e5
 obtain⟨x1,ex1,rx1⟩:=rr1.get e2
 refine⟨l,vs1,kk,x1,rfl,r1.int_,hl1,hk0,ex1,W1,env1,_,_,ok1,e3,fun W2 v2 H2 s2 ok2 r2=>?_⟩
 refine⟨u,w,rx1.int_,r2.int_,?_⟩
 obtain⟨v',hv',l',vs2,e6,hW2,hl2,rr2⟩:=ok2.slot i _ hq2
 rw[hv] at hv';cases hv';cases e6
 obtain⟨t1,t2⟩:=ok2.turn hq2 hv (Reps.set (.int (o u w)) kk.toNat rr2)
 have hl2':=rr2.length
 refine⟨l,vs2,kk,kk.toNat,rfl,r1.int_,hl2,?_,k W2 _ _ ((s1.trans s2).trans t2) t1⟩
 rw[← hl2']
 unfold ixN
 rw[if_pos hk0,if_pos (by omega)]
theorem zxj(hk:DEx X G H0 b g)(he:DEx X G H0 e f)(an:Ats Nn Cn X)(hno:Nn[i]?=some x:=by rfl)(ha:∀ov iv new,augStore b ov iv new=(do holding [new,ov,iv] (setItem ov iv new);release [new,ov,iv] [];pure .next):=by intros;rfl) :
  DSx X G H0 (.AugAssign (.Subscript (.Name x p') b p1) .Add e pos) (zlf i zav g f):=⟨(ztz ((an.a hno).pe) hk.out zrx he.out zyv zj6 ha).imp (zy4 fun d1 d2 d h=>by
 cases d1 <;> cases d2 <;> simp[zav] at h
 exact⟨_,_,rfl,rfl,h.symm⟩)⟩
theorem zxk(hk:DEx X G H0 b g)(he:DEx X G H0 e f)(an:Ats Nn Cn X)(hno:Nn[i]?=some x:=by rfl)(ha:∀ov iv new,augStore b ov iv new=(do holding [new,ov,iv] (setItem ov iv new);release [new,ov,iv] [];pure .next):=by intros;rfl) :
  DSx X G H0 (.AugAssign (.Subscript (.Name x p') b p1) .Sub e pos) (zlf i dSub g f):=⟨(ztz ((an.a hno).pe) hk.out zrx he.out z2l zj6 ha).imp (zy4 fun d1 d2 d h=>by
 cases d1 <;> cases d2 <;> simp[dSub] at h
 exact⟨_,_,rfl,rfl,h.symm⟩)⟩
def z0s(zs:List D)(e:DE0)(i:Nat):Option (D×DE0):=match e[i]? with
 | some (some (.ow ds))=>if Few (ds.length+zs.length) then some (.non,e.set i (some (.ow (ds++zs)))) else none
 | _=>none
def zn4(i:Nat)(F:FA):FE:=fun e=>match e[i]? with
 | some (some (.ow _))=>(F e).bind fun r=>z0s r.1 r.2 i
 | _=>none
theorem zvd(ha:DFx X G H0 a F)(an:Ats Nn Cn X)(hno:Nn[i]?=some x:=by rfl)(hbase:attributeBase (.Name x p') "extend" X.env (eval (.Name x p') X.env)=eval (.Name x p') X.env:=by rfl)(hfew:((backTo pos (starEach [a] X.env)).all (fun x=>!x.1) && (backToKw pos (keywordEach [] X.env)).all (fun x=>x.1.isSome)
   && decide ([a].length+([]:List Keyword).length+(if ([]:List Keyword).isEmpty then 0 else 1)<30))=true:=by rfl)(hline:(p1.endLine==pos.line)=true:=by rfl)(hs:starEach [a] X.env=(false,eval a X.env)::starEach [] X.env:=by rfl) :
  DEx X G H0 (.Call (.Attribute (.Name x p') "extend" p1) [a] [] pos) (zn4 i F):=⟨(zui PySem.F.plainAttrs_list PySem.F.slot_list_extend PySem.F.type_list_extend zuj ((an.a hno).pe) (zed ha.out zje hs) hbase hfew hline hs rfl).imp fun σ H Q ⟨W,env,d,env',ok,q,k⟩=>by
 unfold zn4 at q
 split at q
 case h_2=>cases q
 rename_i ds0 hq0
 obtain⟨v,hv,l,vs0,rfl,hW0,hl0,_⟩:=ok.slot i _ hq0
 cases e1:F env with
 | none=>rw[e1] at q;cases q
 | some r =>
   obtain⟨da,env1⟩:=r
   rw[e1,Option.bind_some] at q
   unfold z0s at q
   dsimp only at q
   split at q
   case h_2=>cases q
   rename_i ds hq
   split at q
   case isFalse=>cases q
   rename_i hlen
   cases q
   refine⟨_,hv,.inl ⟨rfl,_,.inl (.inl hl0)⟩,W,env,da,env1,ok,e1,fun W1 n us H1 s1 ok1 ok2 nW hn r1=>?_⟩
   obtain⟨v',e2,l',vs,e3,hW,hl,r⟩:=ok2.slot i _ hq
   rw[hv] at e2;cases e2;cases e3
   obtain⟨t1,t2⟩:=ok2.turn hq hv (r.append r1)
   refine⟨l,n,vs,us,rfl,rfl,hl,hn,?_,k _ _ _ (s1.trans t2) t1 .non⟩
   rw[← r.length,← r1.length]
   exact Nat.le_trans hlen (by rw[sizeLine_eq];decide)⟩
def ztd:D->D->Option D
 | .tup ds,.tup es=>if ds≠[]/\es≠[]/\ds.length+es.length<=64 then some (.tup (ds++es)) else none
 | _,_=>none
theorem z0t:OpD X G H0 (z24 X.K) ztd:=fun W env σ H x y d1 d2 d Q ok r1 r2 e k=>by
 cases d1 with
 | tup ds =>
   cases d2 with
   | tup es =>
     unfold ztd at e
     dsimp only at e
     split at e
     case isFalse=>cases e
     rename_i hc
     cases e
     obtain⟨t,vs,rfl,ht,rr1⟩:=r1.tup_
     obtain⟨b,ws,rfl,hb,rr2⟩:=r2.tup_
     have l1:=rr1.length
     have l2:=rr2.length
     refine⟨t,b,vs,ws,rfl,rfl,SqT.of ht,SqT.of hb,fun z=>hc.1 (by subst z;exact List.length_eq_zero_iff.mp l1),?_,fun z=>absurd (by subst z;exact List.length_eq_zero_iff.mp l2) hc.2.1,fun _ l hn=>?_⟩
     ·rw[← l1,← l2];exact le64 hc.2.2
     ·exact k _ _ (Step.same (zb8 hn)) (ok.same (zb8 hn)) (.tup za3 ((ok.reps (Step.same (zb8 hn)) rr1).append (ok.reps (Step.same (zb8 hn)) rr2)))
   | _=>cases e
 | _=>cases e
theorem z0u(ha:DEx X G H0 a f)(hb:DEx X G H0 b g):DEx X G H0 (.BinOp a .Add b pos) (fBin ztd f g):=zng zz5 z0t ha hb
def z0v:D->Bool | .tup _=>false | .lst _=>false | .dct _ _=>false | _=>true
theorem Rep.atom{K':PySem.W.Frag}{O':Addr->Prop}{d:D}(r:Rep K H O d v)(h:z0v d=true):Rep K' H' O' d v:=by
 cases r with
 | non=>exact .non
 | bl b=>exact .bl b
 | int i=>exact .int i
 | str s=>exact .str s
 | tup _ _=>cases h
 | lst _ _ _=>cases h
 | klst _ _=>cases h
 | dct _ _=>cases h
 | exc a=>exact .exc a
structure z5w (K:PySem.W.Frag) (G:Gd) (J:It) (W:Addr->Prop) (H:Hp) (ds:List D):Prop where
 go:∀H' (i:Nat) d,Same H H'->ds[i]?=some d->J.go i H'/\∀x H'',J.yld i H' x H''->H''=H'/\Rep K H' (Ow G W) d x
 stop:∀H',Same H H'->J.stop ds.length H'
def tDC(K:PySem.W.Frag)(G:Gd)(H0:Hp)(f:FI):TI:=fun σ H R=>∃W env ds env',Ok K G H0 W env σ H/\f env=some (ds,env') /\
 ∀W' J H',Step W H W' H'->Ok K G H0 W' env' σ H'->z5w K G J W' H' ds->R J H'
structure DCx (X:Cx) (G:Gd) (H0:Hp) (tg:Expr) (e:Expr) (f:FI):Prop where
 out:PI X tg e (tDC X.K G H0 f)
def fiV(i:Nat):FI:=fun e=>match e[i]? with
 | some (some (.ow ds))=>some (ds,e)
 | some (some (.sh (.lst ds)))=>some (ds,e)
 | _=>none
theorem zy5(an:Ats Nn Cn X)(hno:Nn[i]?=some x:=by rfl):DCx X G H0 tg (.Name x p1) (fiV i):=⟨(zt1 ((an.a hno).pe)).imp fun σ H R ⟨W,env,ds,env',ok,q,k⟩=>by
 unfold fiV at q
 split at q
 ·rename_i ds' hq
  cases q
  obtain⟨v,e1,l,vs,rfl,hW,hl,r⟩:=ok.slot i _ hq
  refine⟨_,e1,l,rfl,⟨vs,.inl (.inl hl)⟩,k W _ H Step.refl ok ⟨fun H' j d sm e=>?_,fun H' sm=>⟨vs,.inl (.inl (sm _ _ hl)),by rw[r.length];exact Nat.le_refl _⟩⟩⟩
  obtain⟨w,e2,r2⟩:=(ok.reps (Step.same sm) r).get e
  have hl':SqL X.K H' l vs:=.inl (.inl (sm _ _ hl))
  exact⟨⟨vs,w,hl',e2⟩,fun y H'' ⟨e3,z⟩=>⟨e3,by have:=z vs hl';rw[e2] at this;cases this;exact r2⟩⟩
 ·rename_i ds' hq
  cases q
  obtain⟨v,e1,r⟩:=ok.slot i _ hq
  obtain⟨l,vs,rfl,h,r⟩:=Rep.lst_ r
  have wk:=zpn ok h r
  exact⟨_,e1,l,rfl,⟨vs,h.sq⟩,k W _ H Step.refl ok ⟨fun H' j d sm e=>wk.go W H' j d (Step.same sm) e,fun H' sm=>wk.stop W H' (Step.same sm)⟩⟩
 ·cases q⟩
theorem zy6{te:FE}:∀σ H Q,tDF X.K G H0 (zbq fi ix tt te) σ H Q->zs4 (tDC X.K G H0 fi) ix (tDxT X.K tt) (tDx X.K te) σ H Q:=fun σ H Q ⟨W,env,d,env',ok,q,k⟩=>by
 cases e1:fi env with
 | none=>simp[zbq,e1] at q
 | some z =>
   obtain⟨ds,env1⟩:=z
   by_cases hl:Few ds.length
   ·simp only[zbq,e1,Option.bind_some,if_pos hl] at q
    cases e2:zg8 tt te (ix.map fun j=>capt (env1.getD j none)) ds with
    | none=>rw[e2] at q;cases q
    | some outs =>
      rw[e2] at q;cases q
      refine⟨W,env,ds,_,ok,e1,fun W1 J H1 s1 ok1 wk=>?_⟩
      refine⟨fun i m H' ys=>∃rest done,m=ds.length-i/\i<=ds.length/\Same H1 H'/\Reps X.K H' (Ow G W1) done ys/\done.length<=i/\zg8 tt te (ix.map fun j=>capt (env'.getD j none)) (ds.drop i)=some rest/\d=done++rest,⟨ds.length,d,[],rfl,Nat.zero_le _,Same.refl _,.nil,Nat.le_refl _,e2,rfl⟩,?_⟩
      rintro i m H' ys ⟨rest,done,rfl,hi,sm,rp,hd,ec,rfl⟩
      have st:Step W1 H1 W1 H':=Step.same sm
      have ok':Ok X.K G H0 W1 env' σ H':=ok1.same sm
      by_cases hlt:i<ds.length
      ·have eq:ds.drop i=ds[i]::ds.drop (i+1):=List.drop_eq_getElem_cons hlt
       rw[eq] at ec
       obtain⟨hg,hy⟩:=wk.go H' i ds[i] sm (by simp[hlt])
       refine .inr ⟨hg,fun x H'' y=>?_⟩
       obtain⟨rfl,rx⟩:=hy x H'' y
       have oki:=zny (ix:=ix) ok' rx
       unfold zg8 at ec
       cases e3:tt (some (.sh ds[i])::ix.map fun j=>capt (env'.getD j none)) with
       | none=>rw[e3] at ec;cases ec
       | some bb =>
         obtain⟨b,envb⟩:=bb
         rw[e3,Option.bind_some] at ec
         refine⟨_,_,NoW,_,b,envb,oki,e3,fun W2 H2 s2 ok2=>?_⟩
         have sm2:Same H1 H2:=sm.trans ok2.stay
         have rp2:Reps X.K H2 (Ow G W1) done ys:=ok'.reps (Step.same ok2.stay) rp
         cases b with
         | false =>
           dsimp only
           rw[if_neg Bool.false_ne_true] at ec ⊢
           exact⟨ds.length-(i+1),by omega,rest,done,rfl,hlt,sm2,rp2,by omega,ec,rfl⟩
         | true =>
           dsimp only
           rw[if_pos rfl] at ec ⊢
           cases e4:te envb with
           | none=>simp only[e4] at ec;cases ec
           | some vv =>
             obtain⟨dv,envv⟩:=vv
             simp only[e4,Option.bind_some] at ec
             cases e5:zg8 tt te (ix.map fun j=>capt (env'.getD j none)) (ds.drop (i+1)) with
             | none=>rw[e5] at ec;cases ec
             | some rest' =>
               rw[e5] at ec;cases ec
               refine⟨_,_,W2,envb,dv,envv,ok2,e4,fun W3 v H3 s3 ok3 r3=>⟨?_,ds.length-(i+1),by omega,rest',done++[dv],rfl,hlt,sm.trans ok3.stay,?_,by rw[List.length_append,List.length_singleton];omega,by first | exact e5 | rfl,by simp⟩⟩
               ·have:ys.length<2 ^ 20:=by rw[← rp.length];have:ds.length<=2 ^ 20:=hl;omega
                exact Nat.lt_of_lt_of_le this (by rw[sizeLine_eq];decide)
               ·refine(ok'.reps (Step.same ok3.stay) rp).append (.cons (r3.mono (fun _ _ h=>h) fun a us o h=>⟨?_,h⟩) .nil)
                rcases o.1 with z | z
                ·exact z
                ·exact⟨ok'.good a (ok'.stay.free z),fun w=>by obtain⟨_,us,q⟩:=ok'.wl a w;rw[z] at q;cases q⟩
      ·have e:i=ds.length:=by omega
       subst e
       rw[List.drop_length] at ec
       cases ec
       refine .inl ⟨wk.stop H' sm,by rw[← rp.length];exact Nat.le_trans hd (Nat.le_trans hl (by rw[sizeLine_eq];decide)),fun l hn=>?_⟩
       obtain⟨h1,h2,h3,h4,h5,h6⟩:=zle ok' rp hn
       rw[List.append_nil] at k
       exact k W1 l _ _ ((s1.trans st).trans h1) h2 h3 h4 h5 h6
   ·simp only[zbq,e1,Option.bind_some,if_neg hl] at q;cases q
section
variable {X:Cx} {G:Gd} {H0:Hp} {a b c e:Expr} {es rest:List Expr} {f g:FE} {F:FA} {u:FS} {pos p' p1 pos1:Pos} {x:Str} {i:Nat}
theorem zxl{Nn Cn:List Str}{ix:List Nat}{sc:Scope}{px:Pos}{fi:FI}{te:FE}(an:Ats Nn Cn X)(hi:DCx X G H0 (.Name x px) a fi)(hel:∀cl C s₂ H₂ fp G H0,Ats (x::(subN Nn ix)) (subN Nn ix) (zaz X x (subN Nn ix) sc cl C s₂ H₂ fp)->DEx (zaz X x (subN Nn ix) sc cl C s₂ H₂ fp) G H0 e te)(hcb:zln Nn Cn ix x sc=true:=by decide +kernel)(hc:X.calm=true:=by rfl)(hs:∀v,foldedSetIterable a X.env v=pure v:=by intro _;rfl) :
  DFx X G H0 (.ListComp e [⟨.Name x px,a,[],0⟩] sc pos) (zbq fi ix fYes te) :=
 ⟨(znv (zjm an hcb) (fun _ _ _ _ _ _ _ _ _=>hc) hi.out (fun cl C s₂ H₂ fp _=>zux (X:=X) rfl) (fun cl C s₂ H₂ fp _=>el_x (X:=X) rfl (fun G H0=>hel cl C s₂ H₂ fp G H0 (zfe hcb))) hs).imp zy6⟩
theorem zxm{Nn Cn:List Str}{y:Str}{ix:List Nat}{sc:Scope}{px py spos:Pos}{fi:FI}{te:FE}(an:Ats Nn Cn X)(tn:Tos Nn X)(hi:DCx X G H0 (.Name x px) a fi)(hel:∀cl C s₂ H₂ fp G H0,Ats (x::(subN Nn ix)) (subN Nn ix) (zaz X x (subN Nn ix) sc cl C s₂ H₂ fp)->DEx (zaz X x (subN Nn ix) sc cl C s₂ H₂ fp) G H0 e te)(hcb:zln Nn Cn ix x sc=true:=by decide +kernel)(hc:X.calm=true:=by rfl)(hto:Nn[i]?=some y:=by rfl)(hsw:swapsWith (.ListComp e [⟨.Name x px,a,[],0⟩] sc pos) (some (.Name y py)) spos.line X.env=pure true:=by rfl)(hs:∀v,foldedSetIterable a X.env v=pure v:=by intro _;rfl) :
  PS X (.Assign [.Name y py] (.ListComp e [⟨.Name x px,a,[],0⟩] sc pos) spos) (tAsg (tDF X.K G H0 (zbq fi ix fYes te)) (zhb i)) :=
 (zqj (zjm an hcb) (fun _ _ _ _ _ _ _ _ _=>hc) (tn.t hto).nd (tn.t hto).n (tn.t hto).l hi.out (fun cl C s₂ H₂ fp _=>zux (X:=X) rfl) (fun cl C s₂ H₂ fp _=>el_x (X:=X) rfl (fun G H0=>hel cl C s₂ H₂ fp G H0 (zfe hcb))) hsw (tn.t hto).f hs).imp fun D σ H h=>zy6 σ H _ h
def zxn(i:Nat):FE:=fun e=>match e[i]? with
 | some (some (.ow ds))=>(ints? ds).map fun ns=>(.int ns.sum,e)
 | some (some (.sh (.lst ds)))=>(ints? ds).map fun ns=>(.int ns.sum,e)
 | _=>none
theorem z0w{Nn Cn:List Str}{i:Nat}(an:Ats Nn Cn X)(hc:X.calm=true:=by rfl)(bt:Bn X "sum":=by walk_at "b")(hno:Nn[i]?=some x:=by rfl)(he:starEach [.Name x p1] X.env=(false,eval (.Name x p1) X.env)::starEach [] X.env:=by rfl):DEx X G H0 (.Call (.Name "sum" p') [.Name x p1] [] pos) (zxn i) :=
 ⟨(zlt (zpm hc) bt.g bt.m boot_sum (zed ((an.a hno).pe) zje he) (by decide) (by decide) he rfl).imp fun σ H Q ⟨W,env,d,env',ok,q,k⟩=>by
  unfold zxn at q
  split at q
  ·rename_i ds hq
   cases e2:ints? ds with
   | none=>rw[e2] at q;cases q
   | some ns =>
   rw[e2] at q
   cases q
   cases zlw e2
   obtain⟨v,e1,l,vs,rfl,hW,hl,r⟩:=ok.slot i _ hq
   cases zj8 r
   exact⟨_,e1,l,ns,rfl,.inl (.inl hl),k W _ H Step.refl ok (.int _)⟩
  ·rename_i ds hq
   cases e2:ints? ds with
   | none=>rw[e2] at q;cases q
   | some ns =>
   rw[e2] at q
   cases q
   cases zlw e2
   obtain⟨v,e1,r⟩:=ok.slot i _ hq
   obtain⟨l,us,rfl,h,r⟩:=Rep.lst_ r
   cases zj8 r
   exact⟨_,e1,l,ns,rfl,h.sq,k W _ H Step.refl ok (.int _)⟩
  ·cases q⟩
def tDL(K:PySem.W.Frag)(G:Gd)(H0:Hp)(f:FA):TA:=fun σ H Q=>∃W env ds env',Ok K G H0 W env σ H/\f env=some (ds,env') /\
 ∀W' vs H',Step W H W' H'->Ok K G H0 W' env' σ H'->Reps K H' G ds vs->Q vs H'
structure DLx (X:Cx) (G:Gd) (H0:Hp) (es:List Expr) (f:FA):Prop where
 out:PA X es (tDL X.K G H0 f)
theorem z5x(h:DAx X G H0 es F):DLx X G H0 es F:=⟨h.out.imp fun σ H Q ⟨W,env,ds,env',ok,q,k⟩ =>
 ⟨W,env,ds,env',ok,q,fun W' vs H' st ok' r=>k W' vs H' st ok' (r.mono (fun _ _ h=>h) fun a us o h=>⟨o.1,h⟩)⟩⟩
def zxo(i:Nat)(F:FA):FA:=fun e=>match e[i]? with
 | some (some (.ow _))=>(F e).bind fun q=>match q.2[i]? with | some (some (.ow ds))=>some (.lst ds::q.1,q.2) | _=>none
 | _=>none
theorem z0x{Nn Cn:List Str}{i:Nat}(hr:DLx X G H0 es F)(an:Ats Nn Cn X)(hno:Nn[i]?=some x:=by rfl)(hs:starEach (.Name x p1::es) X.env=(false,eval (.Name x p1) X.env)::starEach es X.env:=by rfl):DLx X G H0 (.Name x p1::es) (zxo i F) :=
 ⟨(zed ((an.a hno).pe) hr.out hs).imp fun σ H Q ⟨W,env,ds,env',ok,q,k⟩=>by
  unfold zxo at q
  split at q
  case h_2=>cases q
  rename_i ds0 hq0
  obtain⟨v,hv,l,vs0,rfl,hW0,hl0,_⟩:=ok.slot i _ hq0
  cases e1:F env with
  | none=>rw[e1] at q;cases q
  | some r =>
    obtain⟨das,env1⟩:=r
    rw[e1,Option.bind_some] at q
    dsimp only at q
    split at q
    case h_2=>cases q
    rename_i ds1 hq1
    cases q
    refine⟨_,hv,W,env,das,_,ok,e1,fun W1 vs H1 s1 ok1 r1=>?_⟩
    obtain⟨v',e2,l',vs1,e3,hW,hl,rr⟩:=ok1.slot i _ hq1
    rw[hv] at e2;cases e2;cases e3
    exact k W1 _ H1 s1 ok1 (.cons (.lst (ok1.good l (ok1.wl l hW).1) (.inl hl) (rr.mono (fun _ _ h=>h) fun a us o h=>⟨o.1,h⟩)) r1)⟩
def zpt(m:List D->Option D)(F:FA):FE:=fun e=>(F e).bind fun r=>(m r.1).bind fun d=>if z0v d=true then some (d,r.2) else none
variable {CX:CXT} {k:Nat} {fa:Addr} {fd:FuncData} {ps:List Str} {m:List D->Option D} {E:XK}
theorem z4a:∀σ H Q,tD X.K G H0 (zpt m F) σ H Q->zuc (dSp X.K m) [] E (tDL X.K G H0 F) σ H Q:=fun σ H Q ⟨W,env,d,env',ok,q,k⟩=>by
 unfold zpt at q
 cases e1:F env with
 | none=>rw[e1] at q;cases q
 | some r =>
   obtain⟨ds,env1⟩:=r
   rw[e1,Option.bind_some] at q
   dsimp only at q
   cases e2:m ds with
   | none=>rw[e2] at q;cases q
   | some d' =>
     rw[e2,Option.bind_some] at q
     split at q
     case isFalse=>cases q
     rename_i hat
     cases q
     refine⟨W,env,ds,_,ok,e1,fun W1 vs H1 s1 ok1 p1=>?_⟩
     show dSp X.K m (vs++[]) H1 Q E
     rw[List.append_nil]
     exact⟨G,ds,_,p1,e2,fun v H2 sm r2=>k W1 v H2 (s1.trans (Step.same sm)) (ok1.same sm) (r2.atom hat)⟩
theorem zxp{jr:Nat}(c:Cal X.prog X.w X.K X.mg X.base CX0 x k (dSp X.K m))(rm:Room jr X.A)(ha:DLx X G H0 (e::es) F)(hkj:k<=jr:=by decide)(hg:Gl X x:=by walk_at "g")(he:starEach (e::es) X.env=(false,eval e X.env)::starEach es X.env:=by rfl)(hpl:(backTo pos (starEach es X.env)).any (·.1)=false:=by rfl) :
  DEx X G H0 (.Call (.Name x p') (e::es) [] pos) (zpt m F):=let ⟨_,_,_,Fn,hm,hk,hb,hdb⟩:=c;⟨(zns Fn (rm.mono hkj) hg hm hk hb .nil zwt ha.out hdb he hpl).imp z4a⟩
end
section
variable {X:Cx} {G:Gd} {H0:Hp} {a b c e:Expr} {es rest:List Expr} {f g:FE} {F:FA} {pos p' p1 pos1:Pos} {x:Str} {i:Nat}
def fSlT(f:FE)(l h:FO):FE:=fun e=>(f e).bind fun r=>(l r.2).bind fun r1=>(h r1.2).bind fun r2=>match r.1 with
 | .tup ds=>if HT.sIx ds.length 0 r1.1=0/\HT.sIx ds.length ds.length r2.1=ds.length then none else some (.tup (cutD ds r1.1 r2.1),r2.2)
 | _=>none
theorem z4b{lo hi:Option Expr}{fl fh:FO}{sp:Pos}(he:DEx X G H0 a f)(hl:DOx X G H0 lo fl)(hu:DOx X G H0 hi fh) :
  DEx X G H0 (.Subscript a (.Slice lo hi none sp) pos) (fSlT f fl fh):=⟨(zrh z23 he.out hl.out hu.out).imp fun σ H Q ⟨W,env,d,env',ok,q,k⟩=>by
 unfold fSlT at q
 cases e1:f env with
 | none=>rw[e1] at q;cases q
 | some r =>
   obtain⟨d1,env1⟩:=r
   rw[e1,Option.bind_some] at q
   dsimp only at q
   cases e2:fl env1 with
   | none=>rw[e2] at q;cases q
   | some r2 =>
     obtain⟨o1,env2⟩:=r2
     rw[e2,Option.bind_some] at q
     dsimp only at q
     cases e3:fh env2 with
     | none=>rw[e3] at q;cases q
     | some r3 =>
       obtain⟨o2,env3⟩:=r3
       rw[e3,Option.bind_some] at q
       dsimp only at q
       split at q
       case h_2=>cases q
       rename_i ds
       split at q
       case isTrue=>cases q
       rename_i hw
       cases q
       refine⟨W,env,_,_,ok,e1,fun W1 v1 H1 s1 ok1 p1=>⟨W1,env1,_,_,ok1,e2,fun W2 H2 s2 ok2=>⟨W2,env2,_,_,ok2,e3,fun W3 H3 s3 ok3=>?_⟩⟩⟩
       obtain⟨l,us,rfl,h,r⟩:=(ok1.rep (s2.trans s3) p1).tup_
       have hlen:=r.length
       refine⟨l,us,rfl,SqT.of h,by rw[← hlen];exact hw,fun p hn=>?_⟩
       exact k W3 _ _ (((s1.trans s2).trans s3).trans (Step.same (zb8 hn))) (ok3.same (zb8 hn)) (.tup za3 (ok3.reps (Step.same (zb8 hn)) (r.cut o1 o2)))⟩
end
variable{xs:List Str}
theorem gl_p(h:sc.names.lookup x=some .globalImplicit):Gl (z0b X xs N' sc cl C s H fp) x:=zdn h
section
variable (P:Program) (w:World)
end
section
variable {X:Cx}
variable {a b:Expr} {ta tb:TE} {pos:Pos}
variable {tA tB':TT} {rest:List Expr}
end
section
variable {X:Cx} {st:Stmt} {rest:List Stmt} {t u:TS} {e:Expr} {te:TE} {pos:Pos}
end
section
variable {X:Cx} {CX:CXT} {k:Nat} {f C:Addr} {fd:FuncData} {ps ks:List Str} {sp:Sp} {E:XK} {x m:Str} {p pos apos kpos:Pos} {e o:Expr} {es:List Expr} {kws:List Keyword} {te ta:TE} {t tk:TA} {nm:Option Str}
variable {g:List Value->List Value->List Value} {gV:List V->List V->List V}
end
section
variable {κ:Type} [DecidableEq κ]
def valV(kvs:List (κ×V))(k:κ):Option V:=(kvs.find? fun kv=>decide (kv.1=k)).map (·.2)
def putK(kvs:List (κ×V))(k:κ)(v:V):List (κ×V) :=
 if (kvs.any fun kv=>decide (kv.1=k))=true then kvs.map (fun kv=>if kv.1=k then(kv.1,v) else kv) else kvs++[(k,v)]
def z4c(kvs:List (κ×V))(k:κ):List (κ×V):=kvs.filter fun kv=>decide (kv.1≠k)
theorem zn5{p:κ×V}{r:List (κ×V)}{k:κ}(e:p.1=k):valV (p::r) k=some p.2:=by simp[valV,List.find?_cons,e]
theorem zn6{p:κ×V}{r:List (κ×V)}{k:κ}(e:¬p.1=k):valV (p::r) k=valV r k:=by simp[valV,List.find?_cons,e]
theorem zry(k:κ):∀kvs:List (κ×V),(kvs.any fun kv=>decide (kv.1=k))=(valV kvs k).isSome
 | []=>rfl
 | p::r=>by
   rw[List.any_cons]
   by_cases e:p.1=k
   ·simp only[zn5 e,decide_eq_true e,Bool.true_or,Option.isSome_some]
   ·rw[zn6 e,decide_eq_false e,Bool.false_or];exact zry k r
theorem RelO.isSome_eq{o:Option V}{u:Option Value}(r:RelO o u):o.isSome=u.isSome:=by
 cases o with
 | none=>cases u with
   | none=>rfl
   | some _=>exact(show False from r).elim
 | some _=>cases u with
   | none=>exact(show False from r).elim
   | some _=>rfl
theorem RelO.getD{o:Option V}{u:Option Value}{d:V}{d':Value}(r:RelO o u)(rd:RelV d d'):RelV (o.getD d) (u.getD d'):=by
 cases o with
 | none=>cases u with
   | none=>exact rd
   | some _=>exact(show False from r).elim
 | some _=>cases u with
   | none=>exact(show False from r).elim
   | some _=>exact r
theorem KV.val{kvs:List (κ×V)}{vs:List (κ×Value)}(r:KV kvs vs)(k:κ):RelO (valV kvs k) (valueAt vs k):=by
 unfold KV at r
 induction r with
 | nil=>exact True.intro
 | @cons p q ps qs h t ih =>
   obtain⟨h1,h2⟩:=h
   by_cases e:p.1=k
   ·have e':q.1=k:=h1.symm.trans e
    have b:valueAt (q::qs) k=some q.2:=by simp[valueAt,List.find?_cons,e']
    rw[zn5 e,b];exact h2
   ·have e':¬q.1=k:=fun z=>e (h1.trans z)
    have b:valueAt (q::qs) k=valueAt qs k:=by simp[valueAt,List.find?_cons,e']
    rw[zn6 e,b];exact ih
theorem KV.any{kvs:List (κ×V)}{vs:List (κ×Value)}(r:KV kvs vs)(k:κ):(kvs.any fun kv=>decide (kv.1=k))=vs.any fun kv=>decide (kv.1=k):=by
 unfold KV at r
 induction r with
 | nil=>rfl
 | cons h t ih=>rw[List.any_cons,List.any_cons,ih,h.1]
theorem KV.repl{kvs:List (κ×V)}{vs:List (κ×Value)}(r:KV kvs vs)(k:κ){y:V}{u:Value}(ry:RelV y u) :
  KV (kvs.map fun kv=>if kv.1=k then(kv.1,y) else kv) (vs.map fun kv=>if kv.1=k then(kv.1,u) else kv):=by
 unfold KV at r ⊢
 induction r with
 | nil=>exact .nil
 | @cons p q ps qs h t ih =>
   rw[List.map_cons,List.map_cons]
   refine .cons ?_ ih
   obtain⟨h1,h2⟩:=h
   by_cases e:p.1=k
   ·rw[if_pos e,if_pos (h1.symm.trans e)];exact⟨h1,ry⟩
   ·rw[if_neg e,if_neg (fun z=>e (h1.trans z))];exact⟨h1,h2⟩
theorem KV.put{kvs:List (κ×V)}{vs:List (κ×Value)}(r:KV kvs vs)(k:κ){y:V}{u:Value}(ry:RelV y u):KV (putK kvs k y) (stored vs k u):=by
 unfold putK stored
 rw[r.any k]
 by_cases e:(vs.any fun kv=>decide (kv.1=k))=true
 ·rw[if_pos e,if_pos e];exact r.repl k ry
 ·rw[if_neg e,if_neg e];exact Paired.snoc r ⟨rfl,ry⟩
theorem KV.drop{kvs:List (κ×V)}{vs:List (κ×Value)}(r:KV kvs vs)(k:κ):KV (z4c kvs k) (without vs k):=by
 unfold KV at r ⊢
 unfold z4c without
 induction r with
 | nil=>exact .nil
 | @cons p q ps qs h t ih =>
   obtain⟨h1,h2⟩:=h
   rw[List.filter_cons,List.filter_cons]
   by_cases e:p.1=k
   ·have a:¬decide (p.1≠k)=true:=by simp[e]
    have b:¬decide (q.1≠k)=true:=by simp[h1.symm.trans e]
    rw[if_neg a,if_neg b];exact ih
   ·have e':¬q.1=k:=fun z=>e (h1.trans z)
    have a:decide (p.1≠k)=true:=by simp[e]
    have b:decide (q.1≠k)=true:=by simp[e']
    rw[if_pos a,if_pos b];exact .cons ⟨h1,h2⟩ ih
theorem KV.length{kvs:List (κ×V)}{vs:List (κ×Value)}(r:KV kvs vs):kvs.length=vs.length:=Paired.length r
end
abbrev KT(H:Hp):List (List Key×V)->List (List Key×Addr×Value)->Prop:=Paired fun p q=>p.1=q.1/\H q.2.1=some (.tup (p.1.map kV))/\RelV p.2 q.2.2
variable{xs:List (List Key×Addr×Value)}{kvs:List (List Key×V)}
theorem KT.val(r:KT H kvs xs)(k:List Key):RelO (valV kvs k) ((atKey xs k).map (·.2)):=by
 induction r with
 | nil=>exact True.intro
 | @cons p q ps qs h t ih =>
   obtain⟨h1,_,h2⟩:=h
   by_cases e:p.1=k
   ·have e':q.1=k:=h1.symm.trans e
    have b:atKey (q::qs) k=some q.2:=by simp[atKey,List.find?_cons,e']
    rw[zn5 e,b];exact h2
   ·have e':¬q.1=k:=fun z=>e (h1.trans z)
    have b:atKey (q::qs) k=atKey qs k:=by simp[atKey,List.find?_cons,e']
    rw[zn6 e,b];exact ih
variable{y:V}{u:Value}
theorem KT.repl(r:KT H kvs xs)(k:List Key)(ry:RelV y u) :
  KT H (kvs.map fun kv=>if kv.1=k then(kv.1,y) else kv) (xs.map (putAt k u)):=by
 induction r with
 | nil=>exact .nil
 | @cons p q ps qs h t ih =>
   rw[List.map_cons,List.map_cons]
   refine .cons ?_ ih
   obtain⟨h1,h2,h3⟩:=h
   unfold putAt
   by_cases e:p.1=k
   ·rw[if_pos e,if_pos (h1.symm.trans e)];exact⟨h1,h2,ry⟩
   ·rw[if_neg e,if_neg (fun z=>e (h1.trans z))];exact⟨h1,h2,h3⟩
variable{b:Addr}
theorem KT.put(r:KT H kvs xs)(k:List Key)(hb:H b=some (.tup (k.map kV)))(ry:RelV y u) :
  KT H (putK kvs k y) (storedH xs k b u):=by
 have e:(kvs.any fun kv=>decide (kv.1=k))=(atKey xs k).isSome:=by
  rw[zry,(r.val k).isSome_eq,Option.isSome_map]
 unfold putK storedH
 rw[e]
 by_cases q:(atKey xs k).isSome=true
 ·rw[if_pos q,if_pos q];exact r.repl k ry
 ·rw[if_neg q,if_neg q];exact Paired.snoc r ⟨rfl,hb,ry⟩
theorem KT.keeps(r:KT H kvs xs)(ht:∀b ys,H b=some (.tup ys)->H' b=some (.tup ys)):KT H' kvs xs :=
 Paired.mapP r fun _ _ z=>⟨z.1,ht _ _ z.2.1,z.2.2⟩
def DGet(H:Hp)(a:Addr)(y:V)(r:Option V):Prop :=
 (∃kvs k,Rd H a (.dK kvs)/\y=kV k/\r=valV kvs k)\/∃kvs k b,Rd H a (.dT kvs)/\y=.ref b/\H b=some (.tup (k.map kV))/\r=valV kvs k
def DPut(H:Hp)(a:Addr)(y v:V)(H':Hp):Prop :=
 (∃kvs k,H a=some (.dK kvs)/\y=kV k/\kvs.length<sizeLine/\H'=upd H a (.dK (putK kvs k v))) \/
 ∃kvs k b,H a=some (.dT kvs)/\y=.ref b/\H b=some (.tup (k.map kV))/\kvs.length<sizeLine/\H'=upd H a (.dT (putK kvs k v))
protected theorem DGet.k{H:Hp}{a:Addr}{kvs:List (Key×V)}{k:Key}(e:H a=some (.dK kvs)):DGet H a (kV k) (valV kvs k):=.inl ⟨kvs,k,.inl e,rfl,rfl⟩
variable{a:Addr}{k:List Key}
protected theorem DGet.t(e:H a=some (.dT kvs))(eb:H b=some (.tup (k.map kV))):DGet H a (.ref b) (valV kvs k):=.inr ⟨kvs,k,b,.inl e,rfl,eb,rfl⟩
protected theorem DPut.k{H:Hp}{a:Addr}{kvs:List (Key×V)}{k:Key}{v:V}(e:H a=some (.dK kvs))(hl:kvs.length<sizeLine):DPut H a (kV k) v (upd H a (.dK (putK kvs k v))):=.inl ⟨kvs,k,e,rfl,hl,rfl⟩
protected theorem DPut.t(e:H a=some (.dT kvs))(eb:H b=some (.tup (k.map kV)))(hl:kvs.length<sizeLine) :
  DPut H a (.ref b) v (upd H a (.dT (putK kvs k v))):=.inr ⟨kvs,k,b,e,rfl,eb,hl,rfl⟩
structure M1 (X:Cx) (o:Expr) (m:Str) (apos:Pos) (e:Expr) (cpos:Pos):Prop where
 base:attributeBase o m X.env (eval o X.env)=eval o X.env
 few:((backTo cpos (starEach [e] X.env)).all (fun x=>!x.1) && (backToKw cpos (keywordEach [] X.env)).all (fun x=>x.1.isSome)
  && decide (([e]:List Expr).length+([]:List Keyword).length+(if ([]:List Keyword).isEmpty then 0 else 1)<30))=true
 line:(apos.endLine==cpos.line)=true
 trees:backTo cpos (starEach [e] X.env)=[(false,eval e X.env)]
structure M2 (X:Cx) (o:Expr) (m:Str) (apos:Pos) (e f:Expr) (cpos:Pos):Prop where
 base:attributeBase o m X.env (eval o X.env)=eval o X.env
 few:((backTo cpos (starEach [e,f] X.env)).all (fun x=>!x.1) && (backToKw cpos (keywordEach [] X.env)).all (fun x=>x.1.isSome)
  && decide (([e,f]:List Expr).length+([]:List Keyword).length+(if ([]:List Keyword).isEmpty then 0 else 1)<30))=true
 line:(apos.endLine==cpos.line)=true
 trees:backTo cpos (starEach [e,f] X.env)=[(false,eval e X.env),(false,eval f X.env)]
end L2
namespace Att
open PySem PySem.W PySem.Calls PyProof.Rows
end Att
namespace L2
open PySem PySem.Spec PyProof.Rows
section
variable {κ:Type} [DecidableEq κ]
end
section
variable {X:Cx} {G:Gd} {H0:Hp} {a b c e:Expr} {es rest:List Expr} {f g:FE} {F:FA} {pos p' p1 pos1:Pos} {x:Str} {i:Nat}
end
section
variable {X:Cx} {G:Gd} {H0:Hp} {a b c e:Expr} {es rest:List Expr} {f g:FE} {F:FA} {pos p' p1 pos1:Pos} {x:Str} {i:Nat}
end
section
variable {X:Cx} {G:Gd} {H0:Hp} {a b c e:Expr} {es rest:List Expr} {f g:FE} {F:FA} {pos p' p1 pos1:Pos} {x:Str} {i:Nat}
end
end L2
namespace L2
open PySem
theorem zrz{i:Nat}{g:FS}(P:Nat->DE0->Prop):∀(ds:List D) (e:DE0) (n:Nat),P n e->(∀(k:Nat) (d:D) (e:DE0),ds[k]?=some d->P (n+k) e->∃e',g (e.set i (some (.sh d)))=some (.nx,e')/\P (n+k+1) e') ->
  ∃e',forL i g ds e=some (.nx,e')/\P (n+ds.length) e'
 | [],e,n,h,_=>⟨e,rfl,h⟩
 | d::r,e,n,h,hs=>by
   obtain⟨e1,h1,p1⟩:=hs 0 d e rfl h
   obtain⟨e2,h2,p2⟩:=zrz P r e1 (n+1) p1 fun k d' e' hk hp=>by
    have:=hs (k+1) d' e' (by simpa using hk) (by rw[← Nat.add_assoc,Nat.add_right_comm];exact hp)
    rw[show n+(k+1)+1=n+1+k+1 by omega] at this
    exact this
   refine⟨e2,?_,by rw[List.length_cons,show n+(r.length+1)=n+1+r.length by omega];exact p2⟩
   simp only[forL,h1,Option.bind_some,h2]
variable{i:Int}{g:FS}
theorem zcm{i:Nat}(P:Nat->DE0->Prop)(ds:List D)(e:DE0)(h:P 0 e)(hs:∀(k:Nat) (d:D) (e:DE0),ds[k]?=some d->P k e->∃e',g (e.set i (some (.sh d)))=some (.nx,e')/\P (k+1) e') :
  ∃e',forL i g ds e=some (.nx,e')/\P ds.length e':=by
 obtain⟨e',h1,h2⟩:=zrz P ds e 0 h fun k d e hk hp=>by
  obtain⟨e',q1,q2⟩:=hs k d e hk (by simpa using hp)
  exact⟨e',q1,by simpa using q2⟩
 exact⟨e',h1,by simpa using h2⟩
variable{lo:Int}{n:Nat}{d:D}
theorem zdj{k:Nat}(h:(rngD lo n)[k]?=some d):d=.int (lo+k)/\k<n:=by
 unfold rngD at h
 rw[List.getElem?_map] at h
 by_cases hk:k<n
 ·rw[List.getElem?_range hk] at h
  exact⟨(Option.some.inj h).symm,hk⟩
 ·rw[List.getElem?_eq_none (by simpa using hk)] at h;cases h
theorem zb0:(rngD lo n).length=n:=by simp[rngD]
theorem zek(h:-1000000000000<i/\i<1000000000000):zfb i:=⟨by omega,by omega⟩
variable{α:Type}
theorem z4d{xs:List α}(h0:0<=i)(h1:i<xs.length):∃x,atI xs i=some x/\xs[i.toNat]?=some x:=by
 have hl:i.toNat<xs.length:=by omega
 exact⟨xs[i.toNat],by unfold atI ixN;rw[if_pos h0,if_pos h1];simp[hl],by simp[hl]⟩
theorem za4{ar:Nat}{ds:List D}{e':DE0}(h:ds.length=ar)(hg:g (za8 n ds)=some (.rt d,e')):runD n ar g ds=some d:=by
 unfold runD
 rw[if_pos h,hg]
theorem few(h:n<=1000000):Few n:=Nat.le_trans h (by decide)
theorem ze4(n:Nat)(hn:n<=1000000):iR1 [.int n]=some (rngD 0 n):=by
 unfold iR1
 dsimp only
 rw[if_pos (show Bnd _ _ _ from⟨by omega,by omega⟩),Int.toNat_natCast]
variable{j:Int}
theorem zy7(h:zfb j):dMul (.int i) (.int j)=some (.int (i*j)):=by
 unfold dMul;dsimp only;rw[if_pos (.inr h)]
theorem zh7(h:zfb i):dMul (.int i) (.int j)=some (.int (i*j)):=by
 unfold dMul;dsimp only;rw[if_pos (.inl h)]
theorem zkx(h:0<j):dMod (.int i) (.int j)=some (.int (i % j)):=by
 unfold dMod;dsimp only;rw[if_pos h]
theorem zn7(h:0<j)(h2:j<1073741824):dDiv (.int i) (.int j)=some (.int (i / j)):=by
 unfold dDiv;dsimp only;rw[if_pos (show Bnd _ _ _ from⟨by omega,h2⟩)]
theorem zcc{α:Type}{te:FE}{base:DE0}(φ ψ:α->D):∀(xs:List α),(∀x∈xs,∃e',te (some (.sh (φ x))::base)=some (ψ x,e'))->zg8 fYes te base (xs.map φ)=some (xs.map ψ)
 | [],_=>rfl
 | x::xs,h=>by
   obtain⟨e',he⟩:=h x List.mem_cons_self
   have ih:=zcc φ ψ xs fun y hy=>h y (List.mem_cons_of_mem _ hy)
   simp only[List.map_cons,zg8,fYes,Option.bind_some,if_true,he,ih,Option.map_some]
theorem zn8{α:Type}{tt:FT}{te:FE}{base:DE0}(φ ψ:α->D)(p:α->Bool):∀(xs:List α),(∀x∈xs,∃e1,tt (some (.sh (φ x))::base)=some (p x,e1)/\(p x=true->∃e',te e1=some (ψ x,e')))->zg8 tt te base (xs.map φ)=some ((xs.filter p).map ψ)
 | [],_=>rfl
 | x::xs,h=>by
   obtain⟨e1,h1,h2⟩:=h x List.mem_cons_self
   have ih:=zn8 φ ψ p xs fun y hy=>h y (List.mem_cons_of_mem _ hy)
   cases hp:p x with
   | false =>
     rw[hp] at h1
     simp only[List.map_cons,zg8,h1,Option.bind_some,Bool.false_eq_true,if_false,ih,List.filter_cons,hp]
   | true =>
     rw[hp] at h1
     obtain⟨e',he⟩:=h2 hp
     simp only[List.map_cons,zg8,h1,Option.bind_some,if_true,he,ih,Option.map_some,List.filter_cons,hp]
theorem zky{α:Type}{te:FA}{base:DE0}(φ:α->D)(ψ:α->List D):∀(xs:List α),(∀x∈xs,∃e',te (some (.sh (φ x))::base)=some (ψ x,e'))->zkb te base (xs.map φ)=some (xs.map ψ)
 | [],_=>rfl
 | x::xs,h=>by
   obtain⟨e',he⟩:=h x List.mem_cons_self
   have ih:=zky φ ψ xs fun y hy=>h y (List.mem_cons_of_mem _ hy)
   simp only[List.map_cons,zkb,he,Option.bind_some,ih,Option.map_some]
theorem znk{α:Type}:∀ {l:List α} {n:Nat} {z:α},l[n]?=some z->l.Perm (z::l.eraseIdx n)
 | [],_,_,h=>by simp at h
 | a::l,0,z,h=>by simp at h;subst h;exact .refl _
 | a::l,n+1,z,h=>by
   have ih:=znk (l:=l) (n:=n) (z:=z) (by simpa using h)
   rw[List.eraseIdx_cons_succ]
   exact(ih.cons a).trans (List.Perm.swap z a _)
theorem zr0{α:Type}:∀ {l:List (List α)} {j:Nat} {s:List α} {x:α},l[j]?=some s->(l.set j (s++[x])).flatten.Perm (x::l.flatten)
 | [],_,_,_,h=>by simp at h
 | a::l,0,s,x,h=>by
   simp at h;subst h
   simp only[List.set_cons_zero,List.flatten_cons,List.append_assoc,List.singleton_append]
   exact List.perm_middle
 | a::l,j+1,s,x,h=>by
   have ih:=zr0 (l:=l) (j:=j) (s:=s) (x:=x) (by simpa using h)
   simp only[List.set_cons_succ,List.flatten_cons]
   exact(ih.append_left a).trans List.perm_middle
theorem zve(i j:Int):(rngL i j)=(List.range (j-i).toNat).map fun(k:Nat)=>i+(k:Int):=rfl
theorem z0y(a b c:D):atI [a,b,c] 0=some a:=rfl
theorem zn9(a b c:D):atI [a,b,c] 1=some b:=rfl
theorem zoa(a b c:D):atI [a,b,c] 2=some c:=rfl
theorem z5y(a b c d:D):atI [a,b,c,d] 0=some a:=rfl
theorem z5z(a b c d:D):atI [a,b,c,d] 1=some b:=rfl
theorem z50(a b c d:D):atI [a,b,c,d] 2=some c:=rfl
theorem z51(a b c d:D):atI [a,b,c,d] 3=some d:=rfl
theorem zpu{α:Type}{i:Nat}{g:FS}(φ:α->D)(P:List α->DE0->Prop)(all:List α)(hs:∀(p:List α) (x:α) (q:List α) (e:DE0),all=p++x::q->P p e->∃e',g (e.set i (some (.sh (φ x))))=some (.nx,e')/\P (p++[x]) e') :
  ∀(xs pre:List α) (e:DE0),all=pre++xs->P pre e->∃e',forL i g (xs.map φ) e=some (.nx,e')/\P all e'
 | [],pre,e,h,hp=>⟨e,rfl,by rw[h,List.append_nil];exact hp⟩
 | x::xs,pre,e,h,hp=>by
   obtain⟨e1,h1,p1⟩:=hs pre x xs e h hp
   obtain⟨e2,h2,p2⟩:=zpu φ P all hs xs (pre++[x]) e1 (by rw[h];simp) p1
   exact⟨e2,by simp only[List.map_cons,forL,h1,Option.bind_some,h2],p2⟩
theorem zc1{i:Nat}(φ:α->D)(P:List α->DE0->Prop)(all:List α)(e:DE0)(h0:P [] e)(hs:∀(p:List α) (x:α) (q:List α) (e:DE0),all=p++x::q->P p e->∃e',g (e.set i (some (.sh (φ x))))=some (.nx,e')/\P (p++[x]) e') :
  ∃e',forL i g (all.map φ) e=some (.nx,e')/\P all e':=zpu φ P all hs all [] e rfl h0
end L2
namespace L2
open PySem PySem.Spec PyProof.Rows PySem.W
abbrev Ag:=AK×List Pt
def slA(x:Ag)(j:Nat):Sl:=.ag x.1 (some j) x.2
def getA(env:DE0):List Nat->Option (List Ag)
 | []=>some []
 | i::r=>match env[i]? with | some (some (.ag k _ ps))=>(getA env r).map fun t=>(k,ps)::t | _=>none
def putA(env:DE0):List Nat->List Ag->DE0
 | i::r,x::t=>match env[i]? with | some (some (.ag _ l _))=>putA (env.set i (some (.ag x.1 l x.2))) r t | _=>putA env r t
 | _,_=>env
def zke(ags:List Ag):DE0:=ags.zipIdx.map fun p=>some (slA p.1 p.2)
variable{env:DE0}
theorem zjq:∀ {is:List Nat} {ags:List Ag} {j i:Nat},getA env is=some ags->is[j]?=some i->∃x l,ags[j]?=some x/\env[i]?=some (some (.ag x.1 l x.2))
 | [],_,_,_,_,e=>by simp at e
 | a::r,ags,j,i,h,e=>by
   unfold getA at h
   split at h
   ·rename_i k l ps q
    cases h2:getA env r with
    | none=>rw[h2] at h;cases h
    | some t =>
      rw[h2] at h;cases h
      cases j with
      | zero=>simp at e;subst e;exact⟨(k,ps),l,rfl,q⟩
      | succ j=>obtain⟨x,l',h3,h4⟩:=zjq h2 (by simpa using e);exact⟨x,l',by simpa using h3,h4⟩
   ·cases h
theorem zkf:∀ {is:List Nat} {ags:List Ag},getA env is=some ags->ags.length=is.length
 | [],_,h=>by cases h;rfl
 | a::r,ags,h=>by
   unfold getA at h
   split at h
   ·cases h2:getA env r with
    | none=>rw[h2] at h;cases h
    | some t=>rw[h2] at h;cases h;rw[List.length_cons,List.length_cons,zkf h2]
   ·cases h
theorem zob:∀ {is:List Nat} {ags:List Ag} {env:DE0},(putA env is ags).length=env.length
 | [],_,_=>by simp[putA]
 | a::r,[],_=>by simp[putA]
 | a::r,x::t,env=>by
   unfold putA
   split
   ·rw[zob,List.length_set]
   ·rw[zob]
theorem zoc:∀ {is:List Nat} {ags:List Ag} {env:DE0} {i:Nat},i∉is->(putA env is ags)[i]?=env[i]?
 | [],_,_,_,_=>by simp[putA]
 | a::r,[],_,_,_=>by simp[putA]
 | a::r,x::t,env,i,h=>by
   have h1:a≠i:=fun z=>h (by simp[z])
   have h2:i∉r:=fun z=>h (by simp[z])
   unfold putA
   split
   ·rw[zoc h2,List.getElem?_set_ne h1]
   ·rw[zoc h2]
theorem zqp:∀ {is:List Nat} {ags:List Ag} {env:DE0} {j i:Nat} {x:Ag} {k:AK} {l:Option Nat} {ps:List Pt},is.Nodup->is[j]?=some i->ags[j]?=some x->env[i]?=some (some (.ag k l ps))->(putA env is ags)[i]?=some (some (.ag x.1 l x.2))
 | [],_,_,_,_,_,_,_,_,_,e,_,_=>by simp at e
 | a::r,[],_,_,_,_,_,_,_,_,_,e,_=>by simp at e
 | a::r,y::t,env,j,i,x,k,l,ps,nd,e1,e2,e3=>by
   cases j with
   | zero =>
     simp at e1 e2;subst e1;subst e2
     unfold putA
     rw[e3]
     dsimp only
     rw[zoc (List.nodup_cons.mp nd).1,List.getElem?_set_self (List.getElem?_eq_some_iff.mp e3).1]
   | succ j =>
     have hi:a≠i:=fun z=>by subst z;exact(List.nodup_cons.mp nd).1 (List.mem_of_getElem? (by simpa using e1))
     unfold putA
     split
     ·exact zqp (List.nodup_cons.mp nd).2 (by simpa using e1) (by simpa using e2) (by rw[List.getElem?_set_ne hi];exact e3)
     ·exact zqp (List.nodup_cons.mp nd).2 (by simpa using e1) (by simpa using e2) e3
variable{ags:List Ag}{j:Nat}{s:Stmt}
theorem zly{s:Sl}(h:(zke ags)[j]?=some (some s)):∃x,ags[j]?=some x/\s=slA x j:=by
 unfold zke at h
 rw[List.getElem?_map,List.getElem?_zipIdx] at h
 cases e:ags[j]? with
 | none=>rw[e] at h;cases h
 | some x=>rw[e] at h;cases h;exact⟨x,rfl,by simp⟩
theorem zpv:(zke ags).length=ags.length:=by simp[zke]
def mask(H:Hp)(W:Addr->Prop):Hp:=fun a=>open Classical in if W a then none else H a
variable{a:Addr}{W:Addr->Prop}{H:Hp}
theorem zod(h:W a):mask H W a=none:=if_pos h
theorem zr1(h:¬W a):mask H W a=H a:=if_neg h
variable{o:Expr}
theorem zpw{o:HO}(h:mask H W a=some o):¬W a/\H a=some o:=by
 by_cases z:W a
 ·rw[zod z] at h;cases h
 ·rw[zr1 z] at h;exact⟨z,h⟩
theorem zpx(h:mask H W a=none):W a\/H a=none:=by
 by_cases z:W a
 ·exact .inl z
 ·rw[zr1 z] at h;exact .inr h
def Lent(H:Hp)(env:DE0)(σ:St)(is:List Nat):Addr->Prop:=fun a=>∃i s v,i∈is/\env[i]?=some (some s)/\σ[i]?=some (some v)/\Owns H s v a
variable{is:List Nat}{K:PySem.W.Frag}{G:Gd}{H0:Hp}{σ:St}
theorem Ok.lentW(ok:Ok K G H0 W env σ H)(h:Lent H env σ is a):W a:=by
 obtain⟨i,s,v,_,e,e1,o⟩:=h
 obtain⟨v',e2,q⟩:=ok.slot i s e
 rw[e1] at e2;cases e2
 exact q.owns o
def zoe(G:Gd)(W L:Addr->Prop)(r:Nat->List Addr):Gd:=⟨fun a=>G a/\(W a->L a),r⟩
theorem Ok.lend(ok:Ok K G H0 W env σ H)(nd:is.Nodup)(hg:getA env is=some ags) :
  ∃(r:Nat->List Addr) (us:List V),us.length=is.length/\(∀(j i:Nat),is[j]?=some i->∃u,us[j]?=some u/\σ[i]?=some (some u)) /\
   (∀(j i:Nat) (k:AK) (l:Option Nat) (ps:List Pt),is[j]?=some i->env[i]?=some (some (.ag k l ps))->∃p as,us[j]?=some (.ref p)/\Lab k (r j) p as/\∀n,l=some n->Lab k (G.r n) p as) /\
   Ok K (zoe G W (Lent H env σ is) r) (mask H (Lent H env σ is)) (Lent H env σ is) (zke ags) (us.map some) H:=by
 have lW:∀a,Lent H env σ is a->W a:=fun a=>ok.lentW
 have ex:∀j:Nat,∃t:List Addr×V,∀(i:Nat) (x:Ag) (l:Option Nat),is[j]?=some i->ags[j]?=some x->env[i]?=some (some (.ag x.1 l x.2)) ->
   σ[i]?=some (some t.2)/\∃p as us,t.2=.ref p/\Lab x.1 t.1 p as/\W p/\(p::as).Nodup/\(∀n,l=some n->Lab x.1 (G.r n) p as)/\AkOk K H x.1 p us/\PtsOk K G W H x.2 as us:=fun j=>by
  cases hj:is[j]? with
  | none=>exact⟨([],.non),fun i x l e=>by cases e⟩
  | some i =>
    obtain⟨x,l,h1,h2⟩:=zjq hg hj
    obtain⟨v,e1,p,as,us,e2,hW,n1,hl,hk,hp⟩:=ok.slot i _ h2
    refine⟨(match x.1 with | .ins true _ _=>[p] | _=>p::as,v),fun i' x' l' z1 z2 z3=>?_⟩
    cases z1
    rw[h1] at z2;cases z2
    rw[h2] at z3;cases z3
    refine⟨e1,p,as,us,e2,?_,hW,n1,hl,hk,hp⟩
    obtain⟨k,ps⟩:=x
    cases k with
    | ls=>rfl
    | ins b c fs=>cases b <;> rfl
 obtain⟨t,ht⟩:=Classical.axiomOfChoice ex
 have hal:=zkf hg
 refine⟨fun j=>(t j).1,(List.range is.length).map fun j=>(t j).2,by simp,fun j i e=>?_,fun j i k l ps e1 e2=>?_,?_⟩
 ·have hj:=(List.getElem?_eq_some_iff.mp e).1
  obtain⟨x,l,h1,h2⟩:=zjq hg e
  exact⟨_,by simp[hj],(ht j i x l e h1 h2).1⟩
 ·have hj:=(List.getElem?_eq_some_iff.mp e1).1
  obtain⟨x,l',h1,h2⟩:=zjq hg e1
  rw[e2] at h2;cases h2
  obtain⟨q1,p,as,us,q2,q3,_,_,q4,_⟩:=ht j i x l e1 h1 e2
  exact⟨p,as,by simp[hj,q2],q3,q4⟩
 ·have own:∀ {j i:Nat} {x:Ag} {l:Option Nat},is[j]?=some i->ags[j]?=some x->env[i]?=some (some (.ag x.1 l x.2))->∀a,Owns H (slA x j) (t j).2 a->Lent H env σ is a:=fun {j i x l} e1 e2 e3 a o =>
   ⟨i,_,_,List.mem_of_getElem? e1,e3,(ht j i x l e1 e2 e3).1,o⟩
  have cv:∀ {d:D} {v:V},Rep K H (Ow G W) d v->Rep K H (Ow (zoe G W (Lent H env σ is) fun j=>(t j).1) (Lent H env σ is)) d v:=fun r =>
   r.mono (fun _ _ h=>h) fun a us o h=>⟨⟨⟨o.1,fun z=>absurd z o.2⟩,fun z=>o.2 (lW a z)⟩,h⟩
  have cvs:∀ {d:List D} {v:List V},Reps K H (Ow G W) d v->Reps K H (Ow (zoe G W (Lent H env σ is) fun j=>(t j).1) (Lent H env σ is)) d v:=fun r =>
   r.mono (fun _ _ h=>h) fun a us o h=>⟨⟨⟨o.1,fun z=>absurd z o.2⟩,fun z=>o.2 (lW a z)⟩,h⟩
  have pos:∀ {j:Nat} {s:Sl},(zke ags)[j]?=some (some s)->∃i x l,is[j]?=some i/\ags[j]?=some x/\env[i]?=some (some (.ag x.1 l x.2))/\s=slA x j/\(((List.range is.length).map fun j=>(t j).2).map some)[j]?=some (some (t j).2):=fun {j s} e=>by
   obtain⟨x,h1,rfl⟩:=zly e
   have hj:j<is.length:=by rw[← hal];exact(List.getElem?_eq_some_iff.mp h1).1
   obtain⟨x',l,h2,h3⟩:=zjq hg (show is[j]?=some is[j] by simp[hj])
   rw[h1] at h2;cases h2
   exact⟨is[j],x,l,by simp[hj],h1,h3,rfl,by simp[hj]⟩
  refine⟨fun a o e=>(zpw e).2,fun a e=>?_,fun a e=>⟨zod e,(ok.wl a (lW a e)).2⟩,fun j s e=>?_,fun j j' s s' v v' a e1 e2 e3 e4 o1 o2=>?_,by rw[zpv,List.length_map,List.length_map,List.length_range,hal]⟩
  ·rcases zpx e with z | z
   ·exact⟨ok.good a (ok.wl a (lW a z)).1,fun _=>z⟩
   ·exact⟨ok.good a (ok.stay.free z),fun w=>by obtain⟨_,m,q⟩:=ok.wl a w;rw[z] at q;cases q⟩
  ·obtain⟨i,x,l,h1,h2,h3,rfl,h4⟩:=pos e
   obtain⟨q1,p,as,us,q2,q3,hW,n1,q4,hk,hp⟩:=ht j i x l h1 h2 h3
   refine⟨_,h4,p,as,us,q2,own h1 h2 h3 p (.inl q2),n1,fun n z=>by cases z;exact q3,hk,hp.step (fun a vs ha z=>⟨own h1 h2 h3 a (.inr ⟨p,us,q2,hk.o,hp.parts_iff.mpr ha⟩),z⟩) (fun _ _ r=>cv r) fun _ _ r=>cvs r⟩
  ·obtain⟨i,x,l,h1,h2,h3,rfl,h4⟩:=pos e1
   obtain⟨i',x',l',h1',h2',h3',rfl,h4'⟩:=pos e2
   rw[h4] at e3;cases e3
   rw[h4'] at e4;cases e4
   have:=ok.uniq i i' _ _ _ _ a h3 h3' (ht j i x l h1 h2 h3).1 (ht j' i' x' l' h1' h2' h3').1 o1 o2
   subst this
   exact zlu nd h1 h1'
variable{us:List V}{W':Addr->Prop}{H':Hp}
theorem Ok.unlend(ok:Ok K G H0 W env σ H){ags':List Ag}{r:Nat->List Addr}{env':DE0}{σ':St}(nd:is.Nodup)(hg:getA env is=some ags)(hu:∀(j i:Nat),is[j]?=some i->∃u,us[j]?=some u/\σ[i]?=some (some u))(hlab:∀(j i:Nat) (k:AK) (l:Option Nat) (ps:List Pt),is[j]?=some i->env[i]?=some (some (.ag k l ps))->∃p as,us[j]?=some (.ref p)/\Lab k (r j) p as/\∀n,l=some n->Lab k (G.r n) p as)(hl:ags'.length=is.length)(hkk:∀(j:Nat) (x y:Ag),ags[j]?=some x->ags'[j]?=some y->y.1=x.1)(st:Step (Lent H env σ is) H W' H')(ok':Ok K (zoe G W (Lent H env σ is) r) (mask H (Lent H env σ is)) W' env' σ' H')(hout:∀(j:Nat) (x:Ag),ags'[j]?=some x->env'[j]?=some (some (slA x j))) :
  Ok K G H0 (fun a=>W' a\/(W a/\¬Lent H env σ is a)) (putA env is ags') σ H'/\Step W H (fun a=>W' a\/(W a/\¬Lent H env σ is a)) H' /\
   (∀ {d:D} {v:V},Rep K H' (Ow (zoe G W (Lent H env σ is) r) W') d v->Rep K H' (Ow G (fun a=>W' a\/(W a/\¬Lent H env σ is a))) d v):=by
 have lW:∀a,Lent H env σ is a->W a:=fun a=>ok.lentW
 have W'H:∀a,W' a->Lent H env σ is a\/H a=none:=st.ws
 have n':∀a,W' a->W a->Lent H env σ is a:=fun a h w=>(W'H a h).elim id fun z=>by obtain⟨_,m,q⟩:=ok.wl a w;rw[z] at q;cases q
 have stW:Step W H (fun a=>W' a\/(W a/\¬Lent H env σ is a)) H':=⟨fun b o e n=>st.keep b o e fun z=>n (lW b z),fun a z=>by
  rcases z with z | z
  ·exact(W'H a z).imp (lW a) id
  ·exact .inl z.1⟩
 have hal:=zkf hg
 have ndat:∀ {j j' i:Nat},is[j]?=some i->is[j']?=some i->j=j':=fun a b=>zlu nd a b
 have back:∀ {j i:Nat} {y:Ag} {k:AK} {l:Option Nat} {ps:List Pt},is[j]?=some i->ags'[j]?=some y->env[i]?=some (some (.ag k l ps)) ->
   ∃u p as vs,σ[i]?=some (some u)/\σ'[j]?=some (some u)/\u=.ref p/\W' p/\(p::as).Nodup/\(∀n,l=some n->Lab y.1 (G.r n) p as)/\AkOk K H' y.1 p vs/\PtsOk K (zoe G W (Lent H env σ is) r) W' H' y.2 as vs:=fun {j i y k l ps} e1 e2 e3=>by
  obtain⟨x,l',h1,h2⟩:=zjq hg e1
  rw[e3] at h2;cases h2
  obtain⟨v,e4,p,as,vs,rfl,hW,n1,hr,hk,hp⟩:=ok'.slot j _ (hout j y e2)
  obtain⟨u,z1,z2⟩:=hu j i e1
  obtain⟨p0,as0,z3,z4,z5⟩:=hlab j i _ _ _ e1 e3
  rw[z1] at z3;cases z3
  have hy:=hkk j x y h1 e2
  have hr1:Lab y.1 (r j) p as:=hr j rfl
  have same:p=p0/\(as=as0\/∃c fs,y.1=.ins true c fs):=by
   rw[← hy] at z4
   generalize y.1=kk at hr1 z4
   cases kk with
   | ls=>have hr1:r j=p::as:=hr1;have z4:r j=p0::as0:=z4;rw[hr1] at z4;cases z4;exact⟨rfl,.inl rfl⟩
   | ins b c fs =>
     cases b with
     | true=>have hr1:r j=[p]:=hr1;have z4:r j=[p0]:=z4;rw[hr1] at z4;cases z4;exact⟨rfl,.inr ⟨c,fs,rfl⟩⟩
     | false=>have hr1:r j=p::as:=hr1;have z4:r j=p0::as0:=z4;rw[hr1] at z4;cases z4;exact⟨rfl,.inl rfl⟩
  obtain⟨rfl,hs⟩:=same
  refine⟨_,p,as,vs,z2,e4,rfl,hW,n1,fun n hn=>?_,hk,hp⟩
  have z6:=z5 n hn
  rw[← hy] at z6
  rcases hs with rfl | ⟨c,fs,q⟩
  ·exact z6
  ·rw[q] at z6 ⊢;exact z6
 have up:∀(a:Addr) (us:List V),Ow (zoe G W (Lent H env σ is) r) W' a->Rd H' a (.lst us)->Ow G (fun a=>W' a\/(W a/\¬Lent H env σ is a)) a/\Rd H' a (.lst us):=fun a us o h=>⟨⟨o.1.1,fun z=>z.elim o.2 fun y=>y.2 (o.1.2 y.1)⟩,h⟩
 have cv:∀ {d:D} {v:V},Rep K H' (Ow (zoe G W (Lent H env σ is) r) W') d v->Rep K H' (Ow G (fun a=>W' a\/(W a/\¬Lent H env σ is a))) d v:=fun rp=>rp.mono (fun _ _ h=>h) up
 have cvs:∀ {d:List D} {v:List V},Reps K H' (Ow (zoe G W (Lent H env σ is) r) W') d v->Reps K H' (Ow G (fun a=>W' a\/(W a/\¬Lent H env σ is a))) d v:=fun rp=>rp.mono (fun _ _ h=>h) up
 have keepN:∀ {i:Nat} {s:Sl} {v:V},i∉is->env[i]?=some (some s)->σ[i]?=some (some v)->∀a,Owns H s v a->W a/\¬Lent H env σ is a:=fun {i s v} hi e e1 a o=>by
  obtain⟨v',e2,q⟩:=ok.slot i s e
  rw[e1] at e2;cases e2
  refine⟨q.owns o,fun z=>?_⟩
  obtain⟨i',s',v',hi',z1,z2,z3⟩:=z
  exact hi ((ok.uniq i i' s s' _ _ a e z1 e1 z2 o z3) ▸ hi')
 have keepH:∀ {i:Nat} {s:Sl} {v:V},i∉is->env[i]?=some (some s)->σ[i]?=some (some v)->∀a (m:Mo),Owns H s v a->H a=some m.out->(W' a\/(W a/\¬Lent H env σ is a))/\H' a=some m.out:=fun {i s v} hi e e1 a m o q=>by
  have z:=keepN hi e e1 a o
  exact⟨.inr z,st.keep a _ q z.2⟩
 have ownN:∀ {i:Nat} {s:Sl} {v:V} {a:Addr},i∉is->env[i]?=some (some s)->σ[i]?=some (some v)->Owns H' s v a->Owns H s v a:=fun {i s v a} hi e e1 o=>by
  obtain⟨v',e2,q⟩:=ok.slot i s e
  rw[e1] at e2;cases e2
  refine q.back (fun l z w m z2=>?_) o
  refine st.keep l _ z2 fun y=>?_
  obtain⟨i',s',v',hi',z1,z3,z4⟩:=y
  have ol:Owns H s v l:=by
   cases s with
   | sh d=>exact o.elim
   | ow ds=>exact z
   | o2 dss=>exact .inl z
   | ag k r ps=>exact .inl z
   | al _ _=>exact o.elim
   | ro _ _=>exact o.elim
  exact hi ((ok.uniq i i' s s' _ _ l e z1 e1 z3 ol z4) ▸ hi')
 have nowhere:∀ {i:Nat} {s:Sl},(putA env is ags')[i]?=some (some s)->(i∉is/\env[i]?=some (some s))\/∃(j:Nat) (y:Ag) (k:AK) (l:Option Nat) (ps:List Pt),is[j]?=some i/\ags'[j]?=some y/\env[i]?=some (some (.ag k l ps))/\s=.ag y.1 l y.2:=fun {i s} e=>by
  by_cases hi:i∈is
  ·obtain⟨j,hj,ej⟩:=List.getElem_of_mem hi
   have e1:is[j]?=some i:=by simp[hj,ej]
   obtain⟨x,l,h1,h2⟩:=zjq hg e1
   have h3:ags'[j]?=some (ags'[j]'(by omega)):=by simp[hl,hj]
   rw[zqp nd e1 h3 h2] at e
   cases e
   exact .inr ⟨j,_,_,l,_,e1,h3,h2,rfl⟩
  ·rw[zoc hi] at e;exact .inl ⟨hi,e⟩
 refine⟨⟨fun b o e=>?_,ok.good,fun a z=>?_,fun i s e=>?_,fun i i' s s' v v' a e1 e2 e3 e4 o1 o2=>?_,by rw[zob];exact ok.len⟩,stW,cv⟩
 ·exact st.keep b o (ok.stay b o e) fun z=>by rw[(ok.wl b (lW b z)).1] at e;cases e
 ·rcases z with z | z
  ·refine⟨?_,(ok'.wl a z).2⟩
   rcases W'H a z with y | y
   ·exact(ok.wl a (lW a y)).1
   ·exact ok.stay.free y
  ·obtain⟨q,m,hm⟩:=ok.wl a z.1
   exact⟨q,m,st.keep a _ hm z.2⟩
 ·rcases nowhere e with⟨hi,e⟩ | ⟨j,y,k,l,ps,e1,e2,e3,rfl⟩
  ·obtain⟨v,e1,q⟩:=ok.slot i s e
   exact⟨v,e1,ok.slstep stW q (keepH hi e e1)⟩
  ·obtain⟨u,p,as,vs,q1,_,rfl,hW,n1,hl',hk,hp⟩:=back e1 e2 e3
   exact⟨_,q1,p,as,vs,rfl,.inl hW,n1,hl',hk,hp.step (fun a ws ha z=>⟨.inl (hp.own ha).1,z⟩) (fun _ _ r=>cv r) fun _ _ r=>cvs r⟩
 ·rcases nowhere e1 with⟨hi,f1⟩ | ⟨j,y,k,l,ps,f1,f2,f3,rfl⟩ <;> rcases nowhere e2 with⟨hi',f1'⟩ | ⟨j',y',k',l',ps',f1',f2',f3',rfl⟩
  ·exact ok.uniq i i' s s' v v' a f1 f1' e3 e4 (ownN hi f1 e3 o1) (ownN hi' f1' e4 o2)
  ·exfalso
   obtain⟨z1,z2⟩:=keepN hi f1 e3 a (ownN hi f1 e3 o1)
   obtain⟨u,p,as,vs,q1,q2,_⟩:=back f1' f2' f3'
   rw[e4] at q1;cases q1
   obtain⟨v0,w1,w2⟩:=ok'.slot j' _ (hout j' y' f2')
   rw[q2] at w1;cases w1
   exact z2 (n' a (w2.owns o2) z1)
  ·exfalso
   obtain⟨z1,z2⟩:=keepN hi' f1' e4 a (ownN hi' f1' e4 o2)
   obtain⟨u,p,as,vs,q1,q2,_⟩:=back f1 f2 f3
   rw[e3] at q1;cases q1
   obtain⟨v0,w1,w2⟩:=ok'.slot j _ (hout j y f2)
   rw[q2] at w1;cases w1
   exact z2 (n' a (w2.owns o1) z1)
  ·obtain⟨u,p,as,vs,q1,q2,_⟩:=back f1 f2 f3
   obtain⟨u',p',as',vs',q1',q2',_⟩:=back f1' f2' f3'
   rw[e3] at q1;cases q1
   rw[e4] at q1';cases q1'
   have:=ok'.uniq j j' _ _ _ _ a (hout j y f2) (hout j' y' f2') q2 q2' o1 o2
   subst this
   rw[f1] at f1';cases f1';rfl
def MCal(P:Program)(w:World)(K:PySem.W.Frag)(mg:Str->Option Value)(base:Heap)(cn m:Str)(k:Nat)(sp:Sp):Prop :=
 ∃C fa fd ps,Cls K C/\Meth K C m fa/\FnOk P w K mg base (CXr P w) k fa fd ps sp/\Binds K fd ps []/\Cl K cn C
def Atr(K:PySem.W.Frag)(cn m:Str):Prop:=∃C,Cls K C/\NoAttr K C m/\Cl K cn C
def KCal(P:Program)(w:World)(K:PySem.W.Frag)(mg:Str->Option Value)(base:Heap)(x:Str)(k:Nat)(sp:Sp):Prop :=
 ∃C fa fd ps,Mk K C fa/\FnOk P w K mg base (CXr P w) k fa fd ps sp/\mg x=some (.ref C)/\Binds K fd ps []/\Cl K x C/\(x==("__debug__" : Str))=false
def EXs(X:Cx)(σ:St):XK:=fun cls _ H'=>∀pins H s C ea s',cls=.ref C->Inv X pins σ H s->Fly X.prog X.w X.stack H s C ea H' s'->X.xe (.ref ea) s'
variable{vs:List V}{X:Cx}{k:Nat}{f:Addr}{fd:FuncData}{ps:List Str}{sp:Sp}
theorem zqq{pins:List (Addr×Obj)}{s:Shared}{Q:VK}{us:List Value}(F:FnOk X.prog X.w X.K X.mg X.base (CXr X.prog X.w) k f fd ps sp)(hr:Room k X.A)(hb:Binds X.K fd ps [])(I:Inv X pins σ H s)(r:Vals vs us)(h:sp vs H Q (EXs X σ)):wpAny (model X.prog X.w) X.A (call (.ref f) us) (EP X pins σ Q) X.xe s:=by
 have hl:(us++[]).length=ps.length:=by rw[List.append_nil,← r.length];exact F.len _ _ _ _ h
 have hz:=hb s us I.kIn hl
 rw[List.append_nil] at hz
 refine wpAny_call (codeAny_mono (F.run X.A X.stack s H ⟨us,[]⟩ us vs Q (EXs X σ) hr I.env0 hz r h) fun r s' hq=>?_)
 cases r with
 | error e =>
   obtain⟨ea,C,H',rfl,fl,z⟩:=hq
   exact z pins H s C ea s' rfl I fl
 | ok fl =>
   cases fl with
   | ret u=>exact I.after hq
   | next=>exact False.elim hq
   | brk=>exact False.elim hq
   | cont=>exact False.elim hq
def z4e(X:Cx)(sp:Sp)(t:TA):TE:=fun σ H Q=>t σ H fun vs H1=>sp vs H1 Q (EXs X σ)
variable{x:Str}{p pos:Pos}{e:Expr}{es:List Expr}{t:TA}
theorem zr2(F:FnOk X.prog X.w X.K X.mg X.base (CXr X.prog X.w) k f fd ps sp)(hr:Room k X.A)(hg:Gl X x)(hm:X.mg x=some (.ref f))(hk:PySem.W.keepIn X.K (.ref f)=true)(hb:Binds X.K fd ps [])(ha:PA X (e::es) t)(hdb:(x==("__debug__" : Str))=false:=by decide)(he:starEach (e::es) X.env=(false,eval e X.env)::starEach es X.env:=by rfl)(hpl:(backTo pos (starEach es X.env)).any (·.1)=false:=by rfl) :
  PE X (.Call (.Name x p) (e::es) [] pos) (z4e X sp t):=by
 intro pins s σ H Q I h
 refine wpAny_Call_Name_kw (zl1 I hg hm ?_ hdb)
 refine PySem.W.callWith_K (h₀:=X.base) I.ok.mod.kin hk (thn (ha pos pins s σ H _ I h) fun us s1 ⟨vs,H1,I1,r,q⟩=>⟨I1.kIn,?_⟩) he hpl
 exact zqq F hr hb I1 r q
def zr3(X:Cx)(C:Addr)(m:Str)(sp:Sp)(ta:TE)(t:TA):TE:=fun σ H Q=>ta σ H fun x H1=>∃a dx fs,x=.ref a/\H1 a=some (.ins C dx fs)/\fs.lookup m=none/\t σ H1 fun vs H2=>sp (x::vs) H2 Q (EXs X σ)
variable{C:Addr}{m:Str}{apos:Pos}{ta:TE}
theorem zof{pl:Sem Bool}(he:PE X o ta)(c:Cls X.K C)(hm:Meth X.K C m f)(F:FnOk X.prog X.w X.K X.mg X.base (CXr X.prog X.w) k f fd ps sp)(hr:Room k X.A)(hb:Binds X.K fd ps [])(ha:PA X (e::es) t)(hst:starEach (e::es) X.env=(false,eval e X.env)::starEach es X.env:=by rfl)(hpl:(backTo pos (starEach es X.env)).any (·.1)=false:=by rfl)(ht:eval (.Call (.Attribute o m apos) (e::es) [] pos) X.env=(do
   let ov ← eval o X.env
   standAt apos.atName
   let (f,first) ← holding [ov] (getMethod ov m pl)
   callWith pos f first (backTo pos (starEach (e::es) X.env)) (backToKw pos (keywordEach [] X.env))):=by rfl) :
  PE X (.Call (.Attribute o m apos) (e::es) [] pos) (zr3 X C m sp ta t):=by
 intro pins s σ H Q I h
 refine PySem.W.methodCall_KW (pl:=pl) (thn (he pins s σ H _ I h) fun u s1 ⟨x,H1,I1,rx,a,dx,fs,ex,ea,l,q⟩=>?_) ht
 subst ex
 obtain rfl:u=Value.ref a:=rx
 refine znc I1 ea c hm l ?_
 refine PySem.W.callWith_K (first:=[.ref a]) (h₀:=X.base) I.ok.mod.kin hm.kp (thn (ha pos pins s1 σ H1 _ I1 q) fun us s2 ⟨vs,H2,I2,r,q2⟩=>⟨I2.kIn,?_⟩) hst hpl
 exact zqq (us:=.ref a::us) (vs:=.ref a::vs) F hr hb I2 (.cons rfl r) q2
theorem zpy{pl:Sem Bool}(he:PE X o ta)(c:Cls X.K C)(hm:Meth X.K C m f)(F:FnOk X.prog X.w X.K X.mg X.base (CXr X.prog X.w) k f fd ps sp)(hr:Room k X.A)(hb:Binds X.K fd ps [])(ht:eval (.Call (.Attribute o m apos) [] [] pos) X.env=(do
   let ov ← eval o X.env
   standAt apos.atName
   let (f,first) ← holding [ov] (getMethod ov m pl)
   callWith pos f first (backTo pos (starEach [] X.env)) (backToKw pos (keywordEach [] X.env))):=by rfl) :
  PE X (.Call (.Attribute o m apos) [] [] pos) (zr3 X C m sp ta tNil):=by
 intro pins s σ H Q I h
 refine PySem.W.methodCall_KW (pl:=pl) (thn (he pins s σ H _ I h) fun u s1 ⟨x,H1,I1,rx,a,dx,fs,ex,ea,l,q⟩=>?_) ht
 subst ex
 obtain rfl:u=Value.ref a:=rx
 refine znc I1 ea c hm l ?_
 exact PySem.W.callWith_K0 (first:=[.ref a]) I1.kIn hm.kp (zqq (us:=[.ref a]) (vs:=[.ref a]) F hr hb I1 (.cons rfl .nil) q)
def z4f(X:Cx)(C:Addr)(sp:Sp)(t:TA):TE:=fun σ H Q=>t σ H fun vs H1=>∀x dx,H1 x=none->H1 dx=none->dx≠x ->
 sp (.ref x::vs) (upd (upd H1 dx (.own x)) x (.ins C dx [])) (fun v H2=>v=.non/\Q (.ref x) H2) (EXs X σ)
theorem zxq(M:Mk X.K C f)(F:FnOk X.prog X.w X.K X.mg X.base (CXr X.prog X.w) k f fd ps sp)(hr:Room (k+1) X.A)(hg:Gl X x)(hm:X.mg x=some (.ref C))(hb:Binds X.K fd ps [])(ha:PA X (e::es) t)(hdb:(x==("__debug__" : Str))=false:=by decide)(he:starEach (e::es) X.env=(false,eval e X.env)::starEach es X.env:=by rfl)(hpl:(backTo pos (starEach es X.env)).any (·.1)=false:=by rfl) :
  PE X (.Call (.Name x p) (e::es) [] pos) (z4f X C sp t):=by
 intro pins s0 σ H0 Q I0 h0
 refine wpAny_Call_Name_kw (zl1 I0 hg hm ?_ hdb)
 refine PySem.W.callWith_K (h₀:=X.base) I0.ok.mod.kin M.kp (thn (ha pos pins s0 σ H0 _ I0 h0) fun us s ⟨vs,H,I,r,h⟩=>⟨I.kIn,?_⟩) he hpl
 have hq:=h (s.heap.objs.size+1) s.heap.objs.size (I.hok.fresh (Nat.le_succ _)) (I.hok.fresh (Nat.le_refl _)) (Nat.ne_of_lt (Nat.lt_succ_self _))
 have I2:=Inv.made (C:=C) I
 have r2:Vals (V.ref (s.heap.objs.size+1)::vs) (Value.ref (s.heap.objs.size+1)::us):=.cons rfl r
 have hl:((Value.ref (s.heap.objs.size+1)::us)++[]).length=ps.length:=by rw[List.append_nil,← r2.length];exact F.len _ _ _ _ hq
 have hz:=hb ⟨_,s.gens,s.drawn,s.toks,s.os⟩ (Value.ref (s.heap.objs.size+1)::us) I2.kIn hl
 rw[List.append_nil] at hz
 refine wpAny_call (zwo (f:=f) I.kIn M.makes M.init (beq_iff_eq.mp M.fn) (codeAny_mono (F.run _ X.stack _ _ ⟨Value.ref (s.heap.objs.size+1)::us,[]⟩ (Value.ref (s.heap.objs.size+1)::us) _ _ (EXs X σ) (hr.make C us [])
  (I2.env0.make C us []) hz r2 hq) fun r s' hq'=>?_))
 cases r with
 | error e =>
   obtain⟨ea,C',H',rfl,fl,z⟩:=hq'
   exact z pins _ _ C' ea s' rfl I2 fl
 | ok fl =>
   cases fl with
   | ret u =>
     obtain⟨v,H',I3,rv,ev,q3⟩:=I2.after hq'
     subst ev
     exact⟨rv,⟨V.ref (s.heap.objs.size+1),H',I3,rfl,q3⟩⟩
   | next=>exact False.elim hq'
   | brk=>exact False.elim hq'
   | cont=>exact False.elim hq'
abbrev XF:=DE0->Option (Str×DE0)
def XEnd(X:Cx)(G:Gd)(H0:Hp)(W:Addr->Prop)(H:Hp)(σ:St)(c:Str)(env':DE0):Prop:=∀W' H' C,Cl X.K c C->Step W H W' H'->Ok X.K G H0 W' env' σ H'->∀pins e s',XS X pins σ H' C e s'->X.xe (.ref e) s'
def tDX(X:Cx)(G:Gd)(H0:Hp)(x:XF)(σ:St)(H:Hp):Prop:=∃W env c env',Ok X.K G H0 W env σ H/\x env=some (c,env')/\XEnd X G H0 W H σ c env'
structure JX (X:Cx) (G:Gd) (H0:Hp) (e:Expr) (x:XF):Prop where
 out:PE X e (fun σ H _=>tDX X G H0 x σ H)
structure JXA (X:Cx) (G:Gd) (H0:Hp) (es:List Expr) (x:XF):Prop where
 out:PA X es (fun σ H _=>tDX X G H0 x σ H)
structure JXS (X:Cx) (G:Gd) (H0:Hp) (s:Stmt) (x:XF):Prop where
 out:PS X s (fun _ σ H=>tDX X G H0 x σ H)
@[simp] def sXp(x:XF)(g:FS):FS:=fun e=>match x e with | some r=>some (.xc r.1,r.2) | none=>g e
variable{x:XF}{g:FS}
theorem zfx(hn:DSx X G H0 s g)(hx:JXS X G H0 s x):DSx X G H0 s (sXp x g):=⟨fun pins s' σ H D I ⟨W,env,fl,env',ok,q,k⟩=>by
 unfold sXp at q
 cases e1:x env with
 | none=>rw[e1] at q;exact hn.out pins s' σ H D I ⟨W,env,fl,env',ok,q,k⟩
 | some r =>
   rw[e1] at q;cases q
   exact hx.out pins s' σ H D I ⟨W,env,r.1,r.2,ok,e1,fun W' H' C hc st ok'=>k W' σ H' C hc st ok'⟩⟩
theorem zc2(h:JX X G H0 e x)(hs:swapsWith e none pos.line X.env=pure false:=by rfl):JXS X G H0 (.Expr e pos) x:=⟨(ztv h.out hs).imp fun _ _ _ z=>z⟩
theorem z0z(h:JX X G H0 e x):JXS X G H0 (.Return (some e) pos) x:=⟨(zo5 h.out).imp fun _ _ _ z=>z⟩
variable{Nn:List Str}{y:Str}{p':Pos}{i:Nat}
theorem z00(tn:Tos Nn X)(h:JX X G H0 e x)(hto:Nn[i]?=some y:=by rfl)(hs:swapsWith e (some (.Name y p')) pos.line X.env=pure false:=by rfl) :
  JXS X G H0 (.Assign [.Name y p'] e pos) x:=⟨(zo6 (tn.t hto).nd (tn.t hto).n (tn.t hto).l h.out hs (tn.t hto).f).imp fun _ _ _ z=>z⟩
variable{c:Str}
theorem Cl.inj{C':Addr}(h:Cl K c C)(h':Cl K c C'):C=C':=by
 unfold Cl at h h'
 rw[h] at h'
 cases h';rfl
def zxr(K:PySem.W.Frag)(O:Addr->Prop)(H:Hp)(ags:List Ag)(us:List V):Prop :=
 us.length=ags.length/\∀(j:Nat) (x:Ag) (u:V),ags[j]?=some x->us[j]?=some u->∃p vs,u=.ref p/\AkOk K H x.1 p vs/\PtsRo K (gd O) NoW H x.2 vs
def qSp(K:PySem.W.Frag)(m:List Ag->List D->Option D)(x:List Ag->List D->Option Str):Sp:=fun vs H Q E =>
 ∃(O:Addr->Prop) (ags:List Ag) (us:List V) (ds:List D) (ws:List V),vs=us++ws/\zxr K O H ags us/\Reps K H O ds ws /\
  ((∃d,m ags ds=some d/\∀v H',Same H H'->Rep K H' (fun a=>O a\/H a=none) d v->Q v H')\/∃c,x ags ds=some c/\∀C H',Cl K c C->Same H H'->E (.ref C) none H')
def zbb(n:Nat)(ags:List Ag)(ds:List D):DE0:=ags.map (fun x=>some (Sl.ro x.1 x.2))++za8 (n-ags.length) ds
def runQ(n p ar:Nat)(g:FS):List Ag->List D->Option D:=fun ags ds=>if ags.length=p/\ds.length=ar then(match g (zbb n ags ds) with | some (.rt d,_)=>some d | some (.nx,_)=>some .non | _=>none) else none
def xQ(n p ar:Nat)(g:FS):List Ag->List D->Option Str:=fun ags ds=>if ags.length=p/\ds.length=ar then(match g (zbb n ags ds) with | some (.xc c,_)=>some c | _=>none) else none
variable{O:Addr->Prop}
theorem zdb{O':Addr->Prop}(h:∀a,O a->O' a):(∀(d:D) (v:V),Rep K H O d v->Rep K H O' d v)/\∀(d:List D) (v:List V),Reps K H O d v->Reps K H O' d v :=
 ⟨fun d v r=>r.mono (fun _ _ h=>h) fun a us o q=>⟨h a o,q⟩,fun d v r=>r.mono (fun _ _ h=>h) fun a us o q=>⟨h a o,q⟩⟩
variable{ws:List V}{ds:List D}{N:List Str}
theorem zy8(ra:zxr K O H ags us)(r:Reps K H O ds ws)(hn:us.length<=N.length) :
  Ok K (gd fun a=>O a\/H a=none) H NoW (zbb N.length ags ds) (start N (us++ws)) H:=by
 have s0:=zi7 (N:=N.drop us.length) r
 have len0:=s0.len
 have es:start N (us++ws)=us.map some++start (N.drop us.length) ws:=by
  unfold start
  rw[List.map_append,List.append_assoc,List.length_append,List.length_drop,Nat.sub_sub]
 have ee:zbb N.length ags ds=ags.map (fun x=>some (Sl.ro x.1 x.2))++za8 (N.drop us.length).length ds:=by unfold zbb;rw[List.length_drop,ra.1]
 rw[es,ee]
 refine⟨Same.refl _,s0.good,s0.wl,fun i s e=>?_,fun i j s1 s2 v1 v2 a e1 _ e3 _ o _=>?_,?_⟩
 ·by_cases hi:i<ags.length
  ·rw[List.getElem?_append_left (by simpa using hi),List.getElem?_map] at e
   cases e1:ags[i]? with
   | none=>rw[e1] at e;cases e
   | some x =>
     rw[e1] at e;cases e
     have hu:us[i]?=some (us[i]'(by rw[ra.1];exact hi)):=by simp[ra.1,hi]
     obtain⟨p,vs,h1,h2,h3⟩:=ra.2 i x _ e1 hu
     refine⟨_,by rw[List.getElem?_append_left (by rw[List.length_map,ra.1];exact hi),List.getElem?_map,hu];rfl,p,vs,h1,fun z=>z,h2,h3.step (fun a vs n z=>⟨n,z⟩) (fun d v q=>(zdb fun a z=>⟨.inl z.1,fun z=>z⟩).1 d v q) fun d v q=>(zdb fun a z=>⟨.inl z.1,fun z=>z⟩).2 d v q⟩
  ·rw[List.getElem?_append_right (by simpa using hi),List.length_map] at e
   obtain⟨v,q1,q2⟩:=s0.slot _ s e
   rw[← ra.1] at q1
   exact⟨v,by rw[List.getElem?_append_right (by rw[List.length_map,ra.1];omega),List.length_map];exact q1,q2⟩
 ·by_cases hi:i<ags.length
  ·rw[List.getElem?_append_left (by simpa using hi),List.getElem?_map] at e1
   cases q:ags[i]? with
   | none=>rw[q] at e1;cases e1
   | some x=>rw[q] at e1;cases e1;exact o.elim
  ·rw[List.getElem?_append_right (by simpa using hi)] at e1
   obtain⟨d,_,rfl⟩:=zi6 e1
   exact o.elim
 ·rw[List.length_append,List.length_append,List.length_map,List.length_map,len0,ra.1]
variable{x qual:Str}{st:Stmt}{P:Program}{w:World}{mg:Str->Option Value}{base:Heap}
theorem z4g{n p ar:Nat}(F:Fun K x qual st f fd)(S:zfu N ps (zaj st))(hn:n=N.length)(ha:p+ar=ps.length)(hbody:∀(cdv:Value) (A:Around) (outer:List Env) (s:Shared) (H:Hp) (E:XK) (G:Gd) (H0:Hp),Room k (A.deeper (envOfC qual (zaj st) s.heap.objs.size f cdv)) ->
   DBx (cxOf (CXr P w) P w K mg base N qual (zaj st) f cdv A outer s H E) G H0 (zb4 st) g):FnOk P w K mg base (CXr P w) (k+1) f fd ps (qSp K (runQ n p ar g) (xQ n p ar g)):=by
 subst hn
 have hpl:ps.length<=N.length:=by have:=congrArg List.length S.pre;rw[List.length_take] at this;omega
 have lens:∀ {O:Addr->Prop} {H:Hp} {ags:List Ag} {us:List V} {ds:List D} {ws:List V},zxr K O H ags us->Reps K H O ds ws->(ags.length=p/\ds.length=ar)->(us++ws).length=ps.length:=fun ra r h=>by rw[List.length_append,ra.1,h.1,← r.length,h.2,ha]
 refine F.okX S (fun vs H Q E h=>?_) (fun cdv A outer s H vs Q E hr h=>?_)
 ·obtain⟨O,ags,us,ds,ws,rfl,ra,r,h⟩:=h
  refine lens ra r ?_
  rcases h with⟨d,e,_⟩ | ⟨c,e,_⟩
  ·unfold runQ at e;split at e
   ·assumption
   ·cases e
  ·unfold xQ at e;split at e
   ·assumption
   ·cases e
 ·obtain⟨O,ags,us,ds,ws,rfl,ra,r,h⟩:=h
  refine⟨_,(hbody cdv A outer s H E (gd fun a=>O a\/H a=none) H hr).out,?_⟩
  rcases h with⟨d,e,k⟩ | ⟨c,e,k⟩
  ·unfold runQ at e
   split at e
   case isFalse=>cases e
   rename_i hl
   have s0:=zy8 (N:=N) ra r (by rw[ra.1,hl.1];omega)
   split at e
   ·rename_i d' env' hg
    cases e
    exact⟨NoW,_,_,env',s0,hg,fun W' σ' v H' st ok' rp=>k v H' ok'.stay (rp.mono (fun _ _ h=>h) fun a us o h=>⟨o.1,h⟩)⟩
   ·rename_i env' hg
    cases e
    exact⟨NoW,_,_,env',s0,hg,fun W' σ' H' st ok'=>k .non H' ok'.stay .non⟩
   ·cases e
  ·unfold xQ at e
   split at e
   case isFalse=>cases e
   rename_i hl
   have s0:=zy8 (N:=N) ra r (by rw[ra.1,hl.1];omega)
   split at e
   ·rename_i c' env' hg
    cases e
    exact⟨NoW,_,_,env',s0,hg,fun W' σ' H' C' hc st ok' pins e s' xs=>znj xs (k C' H' hc ok'.stay)⟩
   ·cases e
def lSp(K:PySem.W.Frag)(m:List Ag->List D->Option (D×List Ag))(x:List Ag->List D->Option (Str×List Ag)):Sp:=fun vs H Q E =>
 ∃(G:Gd) (W:Addr->Prop) (Hm:Hp) (ags:List Ag) (us:List V) (ds:List D) (ws:List V),vs=us++ws/\us.length=ags.length/\Ok K G Hm W (zke ags) (us.map some) H/\Reps K H (Ow G W) ds ws /\
  ((∃d ags', m ags ds = some (d, ags') /\ ∀W' env' σ' v H', Step W H W' H' -> Ok K G Hm W' env' σ' H' -> (∀(j : Nat) (x : Ag), ags'[j]? = some x -> env'[j]? = some (some (slA x j))) -> Rep K H' (Ow G W') d v -> Q v H') \/
   ∃c ags',x ags ds=some (c,ags')/\∀C W' env' σ' H',Cl K c C->Step W H W' H'->Ok K G Hm W' env' σ' H'->(∀(j:Nat) (x:Ag),ags'[j]?=some x->env'[j]?=some (some (slA x j)))->E (.ref C) none H')
def zge(n:Nat)(ags:List Ag)(ds:List D):DE0:=zke ags++za8 (n-ags.length) ds
def outA(e:DE0):Nat->List Nat->Option (List Ag)
 | _,[]=>some []
 | j,_::r=>match e[j]? with | some (some (.ag k (some j') ps))=>if j'=j then(outA e (j+1) r).map fun t=>(k,ps)::t else none | _=>none
def runL(n p ar:Nat)(g:FS):List Ag->List D->Option (D×List Ag):=fun ags ds=>if ags.length=p/\ds.length=ar then(match g (zge n ags ds) with | some (.rt d,e)=>(outA e 0 (List.range p)).map fun t=>(d,t) | some (.nx,e)=>(outA e 0 (List.range p)).map fun t=>(.non,t) | _=>none) else none
def xL(n p ar:Nat)(g:FS):List Ag->List D->Option (Str×List Ag):=fun ags ds=>if ags.length=p/\ds.length=ar then(match g (zge n ags ds) with | some (.xc c,e)=>(outA e 0 (List.range p)).map fun t=>(c,t) | _=>none) else none
theorem zog{e:DE0}:∀ {l:List Nat} {i:Nat} {ags:List Ag},outA e i l=some ags->ags.length=l.length/\∀(j:Nat) (x:Ag),ags[j]?=some x->e[i+j]?=some (some (slA x (i+j)))
 | [],_,_,h=>by cases h;exact⟨rfl,fun j x z=>by simp at z⟩
 | _::r,i,ags,h=>by
   unfold outA at h
   split at h
   ·rename_i k j' ps q
    split at h
    ·rename_i hj
     subst hj
     cases e2:outA e (j'+1) r with
     | none=>rw[e2] at h;cases h
     | some t =>
       rw[e2] at h;cases h
       obtain⟨h1,h2⟩:=zog e2
       refine⟨by rw[List.length_cons,List.length_cons,h1],fun j x z=>?_⟩
       cases j with
       | zero=>simp at z;subst z;exact q
       | succ j =>
         have:=h2 j x (by simpa using z)
         rwa [show j'+1+j=j'+(j+1) by omega] at this
    ·cases h
   ·cases h
theorem z4h{Hm:Hp}(ok:Ok K G Hm W (zke ags) (us.map some) H)(hl:us.length=ags.length)(r:Reps K H (Ow G W) ds ws) :
  Ok K G Hm W (zge N.length ags ds) (start N (us++ws)) H:=by
 have el:(zke ags).length=us.length:=by rw[zpv,hl]
 have es:start N (us++ws)=us.map some++start (N.drop us.length) ws:=by
  unfold start
  rw[List.map_append,List.append_assoc,List.length_append,List.length_drop,Nat.sub_sub]
 have ee:zge N.length ags ds=zke ags++za8 (N.drop us.length).length ds:=by unfold zge;rw[List.length_drop,hl]
 have s0:=zi7 (N:=N.drop us.length) (O:=Ow G W) r
 rw[es,ee]
 have at1:∀ {i:Nat} {s:Sl},(zke ags++za8 (N.drop us.length).length ds)[i]?=some (some s)->(i<us.length/\(zke ags)[i]?=some (some s))\/(us.length<=i/\∃d,ds[i-us.length]?=some d/\s=.sh d):=fun {i s} e=>by
  by_cases hi:i<us.length
  ·rw[List.getElem?_append_left (by omega)] at e;exact .inl ⟨hi,e⟩
  ·rw[List.getElem?_append_right (by omega),el] at e
   obtain⟨d,q,z⟩:=zi6 e
   exact .inr ⟨by omega,d,q,z⟩
 refine⟨ok.stay,ok.good,ok.wl,fun i s e=>?_,fun i j s1 s2 v1 v2 a e1 e2 e3 e4 o1 o2=>?_,?_⟩
 ·rcases at1 e with⟨hi,e⟩ | ⟨hi,d,q,rfl⟩
  ·obtain⟨v,h1,h2⟩:=ok.slot i s e
   exact⟨v,by rw[List.getElem?_append_left (by simpa using hi)];exact h1,h2⟩
  ·obtain⟨v,h1,h2⟩:=r.get q
   refine⟨v,?_,h2⟩
   rw[List.getElem?_append_right (by simpa using hi),List.length_map]
   unfold start
   rw[List.getElem?_append_left (by simpa using(List.getElem?_eq_some_iff.mp h1).1),List.getElem?_map,h1]
   rfl
 ·rcases at1 e1 with⟨hi,f1⟩ | ⟨hi,d,q,rfl⟩
  ·rcases at1 e2 with⟨hj,f2⟩ | ⟨hj,d,q,rfl⟩
   ·rw[List.getElem?_append_left (by simpa using hi)] at e3
    rw[List.getElem?_append_left (by simpa using hj)] at e4
    exact ok.uniq i j s1 s2 v1 v2 a f1 f2 e3 e4 o1 o2
   ·exact o2.elim
  ·exact o1.elim
 ·rw[List.length_append,List.length_append,el,List.length_map,s0.len]
theorem z4i{n p ar:Nat}(F:Fun K x qual st f fd)(S:zfu N ps (zaj st))(hn:n=N.length)(ha:p+ar=ps.length)(hbody:∀(cdv:Value) (A:Around) (outer:List Env) (s:Shared) (H:Hp) (E:XK) (G:Gd) (H0:Hp),Room k (A.deeper (envOfC qual (zaj st) s.heap.objs.size f cdv)) ->
   DBx (cxOf (CXr P w) P w K mg base N qual (zaj st) f cdv A outer s H E) G H0 (zb4 st) g):FnOk P w K mg base (CXr P w) (k+1) f fd ps (lSp K (runL n p ar g) (xL n p ar g)):=by
 subst hn
 refine F.okX S (fun vs H Q E h=>?_) (fun cdv A outer s H vs Q E hr h=>?_)
 ·obtain⟨G,W,Hm,ags,us,ds,ws,rfl,hl,ok,r,h⟩:=h
  have:ags.length=p/\ds.length=ar:=by
   rcases h with⟨d,t,e,_⟩ | ⟨c,t,e,_⟩
   ·unfold runL at e;split at e
    ·assumption
    ·cases e
   ·unfold xL at e;split at e
    ·assumption
    ·cases e
  rw[List.length_append,hl,this.1,← r.length,this.2,ha]
 ·obtain⟨G,W,Hm,ags,us,ds,ws,rfl,hl,ok,r,h⟩:=h
  refine⟨_,(hbody cdv A outer s H E G Hm hr).out,?_⟩
  have s0:=z4h (N:=N) ok hl r
  rcases h with⟨d,t,e,k⟩ | ⟨c,t,e,k⟩
  ·unfold runL at e
   split at e
   case isFalse=>cases e
   split at e
   ·rename_i d' env' hg
    cases e2:outA env' 0 (List.range p) with
    | none=>rw[e2] at e;cases e
    | some t' =>
      rw[e2] at e;cases e
      exact⟨W,_,_,env',s0,hg,fun W' σ' v H' st ok' rp=>k W' env' σ' v H' st ok' (fun j x z=>by have:=(zog e2).2 j x z;rwa [Nat.zero_add] at this) rp⟩
   ·rename_i env' hg
    cases e2:outA env' 0 (List.range p) with
    | none=>rw[e2] at e;cases e
    | some t' =>
      rw[e2] at e;cases e
      exact⟨W,_,_,env',s0,hg,fun W' σ' H' st ok'=>k W' env' σ' .non H' st ok' (fun j x z=>by have:=(zog e2).2 j x z;rwa [Nat.zero_add] at this) .non⟩
   ·cases e
  ·unfold xL at e
   split at e
   case isFalse=>cases e
   split at e
   ·rename_i c' env' hg
    cases e2:outA env' 0 (List.range p) with
    | none=>rw[e2] at e;cases e
    | some t' =>
      rw[e2] at e;cases e
      exact⟨W,_,_,env',s0,hg,fun W' σ' H' C' hc st ok' pins e s' xs=>znj xs (k C' W' env' σ' H' hc st ok' fun j x z=>by have:=(zog e2).2 j x z;rwa [Nat.zero_add] at this)⟩
   ·cases e
def getR(env:DE0):List Nat->Option (List Ag)
 | []=>some []
 | i::r=>match env[i]? with
   | some (some (.ag k _ ps))=>(getR env r).map fun t=>(k,ps)::t
   | some (some (.ro k ps))=>(getR env r).map fun t=>(k,ps)::t
   | _=>none
def aggs(env:DE0)(is:List Nat):Prop:=∀i∈is,∃s,env[i]?=some (some s)
instance (env:DE0) (is:List Nat):Decidable (aggs env is):=Classical.propDecidable _
variable{ps:List Pt}{as:List Addr}
theorem PtsOk.ro(h:PtsOk K G W H ps as us):PtsRo K (gd (Ow G W)) NoW H ps us:=by
 induction h with
 | nil=>exact .nil
 | d q _ ih=>exact .d ((zdb fun a z=>⟨z,fun z=>z⟩).1 _ _ q) ih
 | o hW hl q _ ih=>exact .o (fun z=>z) hl ((zdb fun a z=>⟨z,fun z=>z⟩).2 _ _ q) ih
theorem PtsRo.ro(h:PtsRo K G W H ps us):PtsRo K (gd (Ow G W)) NoW H ps us :=
 h.step (fun a vs _ z=>⟨fun z=>z,z⟩) (fun d v q=>(zdb fun a z=>⟨z,fun z=>z⟩).1 d v q) fun d v q=>(zdb fun a z=>⟨z,fun z=>z⟩).2 d v q
theorem Ok.roAll(ok:Ok K G H0 W env σ H):∀ {is:List Nat} {ags:List Ag} {us:List V},getR env is=some ags->us.length=is.length->(∀(j i:Nat),is[j]?=some i->∃u,us[j]?=some u/\σ[i]?=some (some u))->zxr K (Ow G W) H ags us
 | [],_,us,h,hl,_=>by cases h;exact⟨hl,fun j x u e=>by simp at e⟩
 | i::r,ags,us,h,hl,hu=>by
   cases us with
   | nil=>simp at hl
   | cons u us =>
     obtain⟨u',e1,e2⟩:=hu 0 i rfl
     simp at e1;subst e1
     have key:∃k ps t,ags=(k,ps)::t/\getR env r=some t/\∃p vs,u=.ref p/\AkOk K H k p vs/\PtsRo K (gd (Ow G W)) NoW H ps vs:=by
      unfold getR at h
      split at h
      ·rename_i k l ps q
       cases h2:getR env r with
       | none=>rw[h2] at h;cases h
       | some t =>
         rw[h2] at h;cases h
         obtain⟨v,q1,p,as,vs,rfl,_,_,_,hk,hp⟩:=ok.slot i _ q
         rw[e2] at q1;cases q1
         exact⟨k,ps,t,rfl,rfl,p,vs,rfl,hk,hp.ro⟩
      ·rename_i k ps q
       cases h2:getR env r with
       | none=>rw[h2] at h;cases h
       | some t =>
         rw[h2] at h;cases h
         obtain⟨v,q1,p,vs,rfl,_,hk,hp⟩:=ok.slot i _ q
         rw[e2] at q1;cases q1
         exact⟨k,ps,t,rfl,rfl,p,vs,rfl,hk,hp.ro⟩
      ·cases h
     obtain⟨k,ps,t,rfl,h2,p,vs,rfl,hk,hp⟩:=key
     obtain⟨l1,l2⟩:=ok.roAll (us:=us) h2 (by simpa using hl) fun j i' e=>by
      obtain⟨u,z1,z2⟩:=hu (j+1) i' (by simpa using e)
      exact⟨u,by simpa using z1,z2⟩
     refine⟨by rw[List.length_cons,List.length_cons,l1],fun j x v e3 e4=>?_⟩
     cases j with
     | zero=>simp at e3 e4;subst e3;subst e4;exact⟨p,vs,rfl,hk,hp⟩
     | succ j=>exact l2 j x v (by simpa using e3) (by simpa using e4)
variable{v:V}
theorem Ok.newRep(ok:Ok K G H0 W env σ H){d:D}(r:Rep K H' (fun a=>Ow G W a\/H a=none) d v):Rep K H' (Ow G W) d v :=
 r.mono (fun _ _ h=>h) fun a us o h=>⟨o.elim id fun z=>⟨ok.good a (ok.stay.free z),fun w=>by obtain⟨_,m,q⟩:=ok.wl a w;rw[z] at q;cases q⟩,h⟩
def tLA(X:Cx)(G:Gd)(H0:Hp)(is:List Nat)(F:FA):TA:=fun σ H Q=>∃W env ds env',Ok X.K G H0 W env σ H/\aggs env is/\F env=some (ds,env') /\
 ∀W' us ws H',Step W H W' H'->Ok X.K G H0 W' env' σ H'->us.length=is.length->(∀(j i:Nat),is[j]?=some i->∃u,us[j]?=some u/\σ[i]?=some (some u))->Reps X.K H' (Ow G W') ds ws->Q (us++ws) H'
structure JLA (X:Cx) (G:Gd) (H0:Hp) (is:List Nat) (es:List Expr) (F:FA):Prop where
 out:PA X es (tLA X G H0 is F)
variable{F:FA}
theorem za6(h:DAx X G H0 es F):JLA X G H0 [] es F:=⟨h.out.imp fun σ H Q ⟨W,env,ds,env',ok,_,q,k⟩=>⟨W,env,ds,env',ok,q,fun W' vs H' st ok' r=>k W' [] vs H' st ok' rfl (fun j i e=>by simp at e) r⟩⟩
variable{Cn:List Str}
theorem zoh(h:JLA X G H0 is es F)(an:Ats Nn Cn X)(hno:Nn[i]?=some x:=by rfl)(hs:starEach (.Name x pos::es) X.env=(false,eval (.Name x pos) X.env)::starEach es X.env:=by rfl):JLA X G H0 (i::is) (.Name x pos::es) F :=
 ⟨(zed ((an.a hno).pe) h.out hs).imp fun σ H Q ⟨W,env,ds,env',ok,ha,q,k⟩=>by
  obtain⟨s,hs⟩:=ha i (by simp)
  obtain⟨v,e1,_⟩:=ok.slot i s hs
  refine⟨v,e1,W,env,ds,env',ok,fun i' hi=>ha i' (by simp[hi]),q,fun W' us ws H' st ok' hl hu r=>?_⟩
  refine k W' (v::us) ws H' st ok' (by rw[List.length_cons,List.length_cons,hl]) (fun j i' e=>?_) r
  cases j with
  | zero=>simp at e;subst e;exact⟨v,rfl,e1⟩
  | succ j=>obtain⟨u,z1,z2⟩:=hu j i' (by simpa using e);exact⟨u,by simpa using z1,z2⟩⟩
def zar(m:List Ag->List D->Option D)(is:List Nat)(F:FA):FE:=fun e=>if aggs e is then(F e).bind fun r=>(getR r.2 is).bind fun ags=>(m ags r.1).map fun d=>(d,r.2) else none
def zda(x:List Ag->List D->Option Str)(is:List Nat)(F:FA):XF:=fun e=>if aggs e is then(F e).bind fun r=>(getR r.2 is).bind fun ags=>(x ags r.1).map fun c=>(c,r.2) else none
variable{m:List Ag->List D->Option D}{xx:List Ag->List D->Option Str}
theorem zqr:∀σ H Q,tD X.K G H0 (zar m is F) σ H Q->tLA X G H0 is F σ H fun vs H1=>qSp X.K m xx vs H1 Q (EXs X σ):=fun σ H Q ⟨W,env,d,env',ok,q,k⟩=>by
 unfold zar at q
 split at q
 case isFalse=>cases q
 rename_i hag
 cases e1:F env with
 | none=>rw[e1] at q;cases q
 | some r =>
   rw[e1,Option.bind_some] at q
   cases e2:getR r.2 is with
   | none=>rw[e2] at q;cases q
   | some ags =>
     rw[e2,Option.bind_some] at q
     cases e3:m ags r.1 with
     | none=>rw[e3] at q;cases q
     | some d' =>
       rw[e3] at q;cases q
       exact⟨W,env,r.1,r.2,ok,hag,e1,fun W1 us ws H1 s1 ok1 hl hu r1=>⟨Ow G W1,ags,us,r.1,ws,rfl,ok1.roAll e2 hl hu,r1,.inl ⟨_,e3,fun v H' sm rp=>k W1 v H' (s1.trans (Step.same sm)) (ok1.same sm) (ok1.newRep rp)⟩⟩⟩
theorem zr4:∀σ H (Q:VK),tDX X G H0 (zda xx is F) σ H->tLA X G H0 is F σ H fun vs H1=>qSp X.K m xx vs H1 Q (EXs X σ):=fun σ H Q ⟨W,env,c,env',ok,q,k⟩=>by
 unfold zda at q
 split at q
 case isFalse=>cases q
 rename_i hag
 cases e1:F env with
 | none=>rw[e1] at q;cases q
 | some r =>
   rw[e1,Option.bind_some] at q
   cases e2:getR r.2 is with
   | none=>rw[e2] at q;cases q
   | some ags =>
     rw[e2,Option.bind_some] at q
     cases e3:xx ags r.1 with
     | none=>rw[e3] at q;cases q
     | some c' =>
       rw[e3] at q;cases q
       refine⟨W,env,r.1,r.2,ok,hag,e1,fun W1 us ws H1 s1 ok1 hl hu r1=>⟨Ow G W1,ags,us,r.1,ws,rfl,ok1.roAll e2 hl hu,r1,.inr ⟨_,e3,fun C H' hc sm pins H2 s2 C' ea s' ec I fl=>?_⟩⟩⟩
       cases ec
       exact k W1 H' C hc (s1.trans (Step.same sm)) (ok1.same sm) pins ea s' (.inl ⟨s2,H2,I,fl⟩)
variable{jr:Nat}
theorem zbn(c:Cal X.prog X.w X.K X.mg X.base (CXr X.prog X.w) x k (qSp X.K m xx))(rm:Room jr X.A)(ha:JLA X G H0 is (e::es) F)(hkj:k<=jr:=by decide)(hg:Gl X x:=by walk_at "g")(he:starEach (e::es) X.env=(false,eval e X.env)::starEach es X.env:=by rfl)(hpl:(backTo pos (starEach es X.env)).any (·.1)=false:=by rfl) :
  DEx X G H0 (.Call (.Name x p') (e::es) [] pos) (zar m is F):=let ⟨_,_,_,Fn,hm,hk,hb,hdb⟩:=c;⟨(zr2 Fn (rm.mono hkj) hg hm hk hb ha.out hdb he hpl).imp zqr⟩
theorem zct(c:Cal X.prog X.w X.K X.mg X.base (CXr X.prog X.w) x k (qSp X.K m xx))(rm:Room jr X.A)(ha:JLA X G H0 is (e::es) F)(hkj:k<=jr:=by decide)(hg:Gl X x:=by walk_at "g")(he:starEach (e::es) X.env=(false,eval e X.env)::starEach es X.env:=by rfl)(hpl:(backTo pos (starEach es X.env)).any (·.1)=false:=by rfl) :
  JX X G H0 (.Call (.Name x p') (e::es) [] pos) (zda xx is F):=let ⟨_,_,_,Fn,hm,hk,hb,hdb⟩:=c;⟨(zr2 Fn (rm.mono hkj) hg hm hk hb ha.out hdb he hpl).imp zr4⟩
instance (a b:List AK):Decidable (a=b):=Classical.propDecidable _
def ze5(m:List Ag->List D->Option (D×List Ag))(is:List Nat)(F:FA):FE:=fun e=>if aggs e is then(F e).bind fun r=>(getA r.2 is).bind fun ags=>(m ags r.1).bind fun q=>if q.2.map (·.1)=ags.map (·.1) then some (q.1,putA r.2 is q.2) else none else none
variable{b:Expr}
theorem z52{a b:List Ag}(h:b.map (·.1)=a.map (·.1)):b.length=a.length/\∀(j:Nat) (x y:Ag),a[j]?=some x->b[j]?=some y->y.1=x.1:=by
 refine⟨by simpa using congrArg List.length h,fun j x y e1 e2=>?_⟩
 have:=congrArg (fun l:List AK=>l[j]?) h
 simp only[List.getElem?_map,e1,e2,Option.map_some,Option.some.injEq] at this
 exact this
variable{m:Str}{xx:List Ag->List D->Option (Str×List Ag)}
theorem zvf{m:List Ag->List D->Option (D×List Ag)}(nd:is.Nodup):∀σ H Q,tD X.K G H0 (ze5 m is F) σ H Q->tLA X G H0 is F σ H fun vs H1=>lSp X.K m xx vs H1 Q (EXs X σ):=fun σ H Q ⟨W,env,d,env',ok,q,k⟩=>by
 unfold ze5 at q
 split at q
 case isFalse=>cases q
 rename_i hag
 cases e1:F env with
 | none=>rw[e1] at q;cases q
 | some r =>
   rw[e1,Option.bind_some] at q
   cases e2:getA r.2 is with
   | none=>rw[e2] at q;cases q
   | some ags =>
     rw[e2,Option.bind_some] at q
     cases e3:m ags r.1 with
     | none=>rw[e3] at q;cases q
     | some z =>
       rw[e3,Option.bind_some] at q
       split at q
       case isFalse=>cases q
       rename_i hkk
       cases q
       obtain⟨l1,l2⟩:=z52 hkk
       refine⟨W,env,r.1,r.2,ok,hag,e1,fun W1 us ws H1 s1 ok1 hl hu r1=>?_⟩
       obtain⟨rr,us',q1,q2,q3,okL⟩:=ok1.lend nd e2
       have eu:us'=us:=by
        apply List.ext_getElem?
        intro j
        by_cases hj:j<is.length
        ·obtain⟨u,z1,z2⟩:=hu j is[j] (by simp[hj])
         obtain⟨u',z3,z4⟩:=q2 j is[j] (by simp[hj])
         rw[z2] at z4;cases z4
         rw[z1,z3]
        ·rw[List.getElem?_eq_none (by omega),List.getElem?_eq_none (by omega)]
       subst eu
       refine⟨_,_,_,ags,us',r.1,ws,rfl,by rw[q1,zkf e2],okL,?_,.inl ⟨_,_,e3,fun W' env' σ' v H' st ok' ho rp=>?_⟩⟩
       ·exact r1.mono (fun _ _ h=>h) fun a us o h=>⟨⟨⟨o.1,fun z=>absurd z o.2⟩,fun z=>o.2 (ok1.lentW z)⟩,h⟩
       ·obtain⟨u1,u2,u3⟩:=ok1.unlend nd e2 q2 q3 (by rw[l1,zkf e2]) l2 st ok' ho
        exact k _ v H' (s1.trans u2) u1 (u3 rp)
def isK(κ:AK)(e:DE0)(i:Nat):Prop:=(∃l ps,e[i]?=some (some (.ag κ l ps)))\/∃ps,e[i]?=some (some (.ro κ ps))
instance (κ:AK) (e:DE0) (i:Nat):Decidable (isK κ e i):=Classical.propDecidable _
def fK(κ:AK)(i:Nat)(f:FE):FE:=fun e=>if isK κ e i then f e else none
def xK(κ:AK)(i:Nat)(f:XF):XF:=fun e=>if isK κ e i then f e else none
theorem isK.at{K:PySem.W.Frag}{W:Addr->Prop}{H:Hp}{env:DE0}{σ:St}{c:Str}{fs:List Str}{C:Addr}(ok:Ok K G H0 W env σ H)(h:isK (.ins false c fs) env i)(hC:Cl K c C):∃p dx us,σ[i]?=some (some (.ref p))/\H p=some (.ins C dx (fs.zip us))/\fs.length=us.length:=by
 rcases h with⟨l,ps,e⟩ | ⟨ps,e⟩
 ·obtain⟨v,e1,p,as,us,rfl,_,_,_,⟨C',dx,z1,z2,z3⟩,_⟩:=ok.slot i _ e
  rw[Cl.inj z1 hC] at z2
  exact⟨p,dx,us,e1,z2,z3⟩
 ·obtain⟨v,e1,p,us,rfl,_,⟨C',dx,z1,z2,z3⟩,_⟩:=ok.slot i _ e
  rw[Cl.inj z1 hC] at z2
  exact⟨p,dx,us,e1,z2,z3⟩
variable{fs:List Str}
theorem zr5(h:m∉fs):(fs.zip us).lookup m=none:=by
 induction fs generalizing us with
 | nil=>rfl
 | cons f r ih =>
   cases us with
   | nil=>rfl
   | cons u us =>
     rw[List.zip_cons_cons,List.lookup_cons]
     have:(m==f)=false:=by simp;exact fun z=>h (by simp[z])
     rw[this]
     exact ih fun z=>h (by simp[z])
variable{f:FE}
theorem zr6(hC:Cl X.K c C)(hm:m∉fs)(h:∀σ H Q,tD X.K G H0 f σ H Q->tLA X G H0 [i] F σ H fun vs H1=>sp vs H1 Q (EXs X σ)):∀σ H Q,tD X.K G H0 (fK (.ins false c fs) i f) σ H Q->zr3 X C m sp (tVar i) (tDA X.K G H0 F) σ H Q:=fun σ H Q ⟨W,env,d,env',ok,q,k⟩=>by
 unfold fK at q
 split at q
 case isFalse=>cases q
 rename_i hk
 obtain⟨p,dx,us,e1,hp,_⟩:=hk.at ok hC
 obtain⟨W0,env0,ds,env1,ok0,_,z2,z3⟩:=h σ H Q ⟨W,env,d,env',ok,q,k⟩
 refine⟨_,e1,p,dx,_,rfl,hp,zr5 hm,W0,env0,ds,env1,ok0,z2,fun W' ws H' st ok' r=>?_⟩
 exact z3 W' [.ref p] ws H' st ok' rfl (fun j i' e=>by cases j with | zero=>simp at e;subst e;exact⟨_,rfl,e1⟩ | succ j=>simp at e) r
theorem z01(hC:Cl X.K c C)(hm:m∉fs){f:XF}(h:∀σ H (Q:VK),tDX X G H0 f σ H->tLA X G H0 [i] F σ H fun vs H1=>sp vs H1 Q (EXs X σ)):∀σ H (Q:VK),tDX X G H0 (xK (.ins false c fs) i f) σ H->zr3 X C m sp (tVar i) (tDA X.K G H0 F) σ H Q:=fun σ H Q ⟨W,env,d,env',ok,q,k⟩=>by
 unfold xK at q
 split at q
 case isFalse=>cases q
 rename_i hk
 obtain⟨p,dx,us,e1,hp,_⟩:=hk.at ok hC
 obtain⟨W0,env0,ds,env1,ok0,_,z2,z3⟩:=h σ H Q ⟨W,env,d,env',ok,q,k⟩
 refine⟨_,e1,p,dx,_,rfl,hp,zr5 hm,W0,env0,ds,env1,ok0,z2,fun W' ws H' st ok' r=>?_⟩
 exact z3 W' [.ref p] ws H' st ok' rfl (fun j i' e=>by cases j with | zero=>simp at e;subst e;exact⟨_,rfl,e1⟩ | succ j=>simp at e) r
section
variable {X:Cx} {G:Gd} {H0:Hp} {a b e:Expr} {es:List Expr} {f:FE} {F:FA} {x m cn:Str} {fs:List Str} {is:List Nat} {pos p' p1 p2 apos:Pos} {i:Nat} {k:Nat} {fa C:Addr} {fd:FuncData} {ps:List Str} {pl:Sem Bool}
variable {mm:List Ag->List D->Option D} {xx:List Ag->List D->Option Str}
theorem zvg{Nn Cn:List Str}{jr:Nat}{i:Nat}(c:MCal X.prog X.w X.K X.mg X.base cn m k (qSp X.K mm xx))(rm:Room jr X.A)(ha:DAx X G H0 (e::es) F)(an:Ats Nn Cn X)(hkj:k<=jr:=by decide)(hno:Nn[i]?=some x:=by rfl)(hm:m∉fs:=by decide +kernel)(hst:starEach (e::es) X.env=(false,eval e X.env)::starEach es X.env:=by rfl)(hpl:(backTo pos (starEach es X.env)).any (·.1)=false:=by rfl)(ht:eval (.Call (.Attribute (.Name x p') m apos) (e::es) [] pos) X.env=(do
   let ov ← eval (.Name x p') X.env
   standAt apos.atName
   let (f,first) ← holding [ov] (getMethod ov m pl)
   callWith pos f first (backTo pos (starEach (e::es) X.env)) (backToKw pos (keywordEach [] X.env))):=by rfl) :
  DEx X G H0 (.Call (.Attribute (.Name x p') m apos) (e::es) [] pos) (fK (.ins false cn fs) i (zar mm [i] F)):=let ⟨_,_,_,_,c,hmt,Fn,hb,hC⟩:=c;⟨(zof ((an.a hno).pe) c hmt Fn (rm.mono hkj) hb ha.out hst hpl ht).imp (zr6 hC hm zqr)⟩
theorem zxs{Nn Cn:List Str}{jr:Nat}{i:Nat}(c:MCal X.prog X.w X.K X.mg X.base cn m k (qSp X.K mm xx))(rm:Room jr X.A)(ha:DAx X G H0 (e::es) F)(an:Ats Nn Cn X)(hkj:k<=jr:=by decide)(hno:Nn[i]?=some x:=by rfl)(hm:m∉fs:=by decide +kernel)(hst:starEach (e::es) X.env=(false,eval e X.env)::starEach es X.env:=by rfl)(hpl:(backTo pos (starEach es X.env)).any (·.1)=false:=by rfl)(ht:eval (.Call (.Attribute (.Name x p') m apos) (e::es) [] pos) X.env=(do
   let ov ← eval (.Name x p') X.env
   standAt apos.atName
   let (f,first) ← holding [ov] (getMethod ov m pl)
   callWith pos f first (backTo pos (starEach (e::es) X.env)) (backToKw pos (keywordEach [] X.env))):=by rfl) :
  JX X G H0 (.Call (.Attribute (.Name x p') m apos) (e::es) [] pos) (xK (.ins false cn fs) i (zda xx [i] F)):=let ⟨_,_,_,_,c,hmt,Fn,hb,hC⟩:=c;⟨(zof ((an.a hno).pe) c hmt Fn (rm.mono hkj) hb ha.out hst hpl ht).imp (z01 hC hm zr4)⟩
theorem zas{Nn Cn:List Str}{jr:Nat}{i:Nat}(c:MCal X.prog X.w X.K X.mg X.base cn m k (qSp X.K mm xx))(rm:Room jr X.A)(an:Ats Nn Cn X)(hkj:k<=jr:=by decide)(hno:Nn[i]?=some x:=by rfl)(hm:m∉fs:=by decide +kernel)(ht:eval (.Call (.Attribute (.Name x p') m apos) [] [] pos) X.env=(do
   let ov ← eval (.Name x p') X.env
   standAt apos.atName
   let (f,first) ← holding [ov] (getMethod ov m pl)
   callWith pos f first (backTo pos (starEach [] X.env)) (backToKw pos (keywordEach [] X.env))):=by rfl) :
  DEx X G H0 (.Call (.Attribute (.Name x p') m apos) [] [] pos) (fK (.ins false cn fs) i (zar mm [i] fNil)):=let ⟨_,_,_,_,c,hmt,Fn,hb,hC⟩:=c;⟨(zpy ((an.a hno).pe) c hmt Fn (rm.mono hkj) hb ht).imp fun σ H Q h=>by
   obtain⟨x1,h1,h2⟩:=zr6 (F:=fNil) hC hm (zqr (xx:=xx)) σ H Q h
   obtain⟨a,dx,fs',z1,z2,z3,W,env,ds,env',ok,q,kk⟩:=h2
   cases q
   exact⟨x1,h1,a,dx,fs',z1,z2,z3,kk W [] H Step.refl ok .nil⟩⟩
variable {mm:List Ag->List D->Option (D×List Ag)} {xx:List Ag->List D->Option (Str×List Ag)}
theorem zic{Nn Cn:List Str}{jr:Nat}{i:Nat}(c:MCal X.prog X.w X.K X.mg X.base cn m k (lSp X.K mm xx))(rm:Room jr X.A)(ha:DAx X G H0 (e::es) F)(an:Ats Nn Cn X)(hkj:k<=jr:=by decide)(hno:Nn[i]?=some x:=by rfl)(hm:m∉fs:=by decide +kernel)(hst:starEach (e::es) X.env=(false,eval e X.env)::starEach es X.env:=by rfl)(hpl:(backTo pos (starEach es X.env)).any (·.1)=false:=by rfl)(ht:eval (.Call (.Attribute (.Name x p') m apos) (e::es) [] pos) X.env=(do
   let ov ← eval (.Name x p') X.env
   standAt apos.atName
   let (f,first) ← holding [ov] (getMethod ov m pl)
   callWith pos f first (backTo pos (starEach (e::es) X.env)) (backToKw pos (keywordEach [] X.env))):=by rfl) :
  DEx X G H0 (.Call (.Attribute (.Name x p') m apos) (e::es) [] pos) (fK (.ins false cn fs) i (ze5 mm [i] F)):=let ⟨_,_,_,_,c,hmt,Fn,hb,hC⟩:=c;⟨(zof ((an.a hno).pe) c hmt Fn (rm.mono hkj) hb ha.out hst hpl ht).imp (zr6 hC hm (zvf (by simp)))⟩
theorem zte{Nn Cn:List Str}{jr:Nat}{i:Nat}(c:MCal X.prog X.w X.K X.mg X.base cn m k (lSp X.K mm xx))(rm:Room jr X.A)(an:Ats Nn Cn X)(hkj:k<=jr:=by decide)(hno:Nn[i]?=some x:=by rfl)(hm:m∉fs:=by decide +kernel)(ht:eval (.Call (.Attribute (.Name x p') m apos) [] [] pos) X.env=(do
   let ov ← eval (.Name x p') X.env
   standAt apos.atName
   let (f,first) ← holding [ov] (getMethod ov m pl)
   callWith pos f first (backTo pos (starEach [] X.env)) (backToKw pos (keywordEach [] X.env))):=by rfl) :
  DEx X G H0 (.Call (.Attribute (.Name x p') m apos) [] [] pos) (fK (.ins false cn fs) i (ze5 mm [i] fNil)):=let ⟨_,_,_,_,c,hmt,Fn,hb,hC⟩:=c;⟨(zpy ((an.a hno).pe) c hmt Fn (rm.mono hkj) hb ht).imp fun σ H Q h=>by
   obtain⟨x1,h1,h2⟩:=zr6 (F:=fNil) hC hm (zvf (xx:=xx) (by simp)) σ H Q h
   obtain⟨a,dx,fs',z1,z2,z3,W,env,ds,env',ok,q,kk⟩:=h2
   cases q
   exact⟨x1,h1,a,dx,fs',z1,z2,z3,kk W [] H Step.refl ok .nil⟩⟩
theorem zel{z:Int}(hm:∃t,X.mg x=some (.int z t))(hg:Gl X x:=by walk_at "g")(hd:(x==("__debug__" : Str))=false:=by decide +kernel):DEx X G H0 (.Name x pos) (fC (.int z)):=by
 obtain⟨t,hm⟩:=hm
 exact de_c (zzl hg hm (v:=.int z) ⟨t,rfl⟩ hd) fun _ _=>.int _
abbrev FV:=DE0->Option DE0
def tV(X:Cx)(G:Gd)(H0:Hp)(v:FV):TE:=fun σ H Q=>∃W env env',Ok X.K G H0 W env σ H/\v env=some env'/\∀W' z H',Step W H W' H'->Ok X.K G H0 W' env' σ H'->Q (.str z) H'
structure JV (X:Cx) (G:Gd) (H0:Hp) (e:Expr) (v:FV):Prop where
 out:PE X e (tV X G H0 v)
theorem zr7{z:Str}{j:Nat}:JV X G H0 (.Constant (.str z) j pos) some:=⟨zyu.imp fun σ H Q ⟨W,env,env',ok,q,k⟩=>by cases q;exact k W z H Step.refl ok⟩
structure JVP (X:Cx) (G:Gd) (H0:Hp) (e:Expr) (v:FV):Prop where
 out:∀(pins:List (Addr×Obj)) (s:Shared) (σ:St) (H:Hp) (Q:Nat->Hp->Prop),Inv X pins σ H s->(∃W env env',Ok X.K G H0 W env σ H/\v env=some env'/\∀n W' H',n<=1000->Step W H W' H'->Ok X.K G H0 W' env' σ H'->Q n H') ->
  wpAny (model X.prog X.w) X.A (eval e X.env) (fun u s'=>∃z t H',u=.str z t/\Inv X pins σ H' s'/\Q z.length H') X.xe s
theorem zid{z:Str}{j:Nat}(hz:z.length<=1000:=by decide):JVP X G H0 (.Constant (.str z) j pos) some:=⟨fun pins s σ H Q I ⟨W,env,env',ok,q,k⟩=>by
 cases q
 exact Calls.Constant_str ⟨z,_,H,rfl,I.tok _,k _ W H hz Step.refl ok⟩⟩
def vInt(f:FE):FV:=fun e=>(f e).bind fun r=>match r.1 with | .int z=>if z.natAbs<1000000 then some r.2 else none | _=>none
theorem zkz(h:DEx X G H0 a f):JVP X G H0 (.FormattedValue a (-1) none pos) (vInt f):=⟨fun pins s σ H Q I ⟨W,env,env',ok,q,k⟩=>by
 unfold vInt at q
 cases e1:f env with
 | none=>rw[e1] at q;cases q
 | some r =>
   rw[e1,Option.bind_some] at q
   split at q
   case h_2=>cases q
   rename_i z hz
   split at q
   case isFalse=>cases q
   rename_i hb
   cases q
   refine FormattedValue_plain (thn (h.out pins s σ H (fun v H1=>v=.int z/\∀n,n<=1000->Q n H1) I ⟨W,env,r.1,r.2,ok,e1,fun W1 v H1 s1 ok1 rp=>⟨by rw[hz] at rp;exact rp.int_,fun n hn=>k n W1 H1 hn s1 ok1⟩⟩) fun u s1 ⟨v,H1,I1,rv,ev,qq⟩=>?_)
   subst ev
   obtain⟨t,rfl⟩:=rv
   have hlog:z.natAbs.log2<1920:=by
    by_cases h0:z.natAbs=0
    ·rw[h0];decide
    ·exact(Nat.log2_lt h0).mpr (Nat.lt_of_lt_of_le hb (Nat.le_trans (by decide:(1000000:Nat)<=2 ^ 20) (Nat.pow_le_pow_right (by decide) (by decide))))
   refine formatField_int_small hlog ⟨_,_,H1,rfl,(I1.tok _).tok _,qq _ ?_⟩
   have:(toString z).length<=6+1:=int_text_length_le10 (by decide) hb
   rw[PySem.ofString_length]
   omega⟩
structure JVs (X:Cx) (G:Gd) (H0:Hp) (es:List Expr) (v:FV):Prop where
 out:∀(acc:Str) (pins:List (Addr×Obj)) (s:Shared) (σ:St) (H:Hp) (Q:VK),acc.length+1000*es.length<=100000->Inv X pins σ H s->tV X G H0 v σ H Q ->
  wpAny (model X.prog X.w) X.A (joinParts acc (evalEach es X.env)) (EP X pins σ Q) X.xe s
theorem zk0  : JVs X G H0 [] some:=⟨fun acc pins s σ H Q ha I ⟨W,env,env',ok,q,k⟩=>by
 cases q
 exact joinParts_nil ⟨.str acc,H,I.tok _,⟨_,rfl⟩,k W acc H Step.refl ok⟩ (by rw[sizeLine_eq];omega)⟩
theorem zcu{v w:FV}(h:JVP X G H0 e v)(t:JVs X G H0 es w)(hs:evalEach (e::es) X.env=eval e X.env::evalEach es X.env:=by rfl):JVs X G H0 (e::es) (fun z=>(v z).bind w):=⟨fun acc pins s σ H Q ha I ⟨W,env,env',ok,q,k⟩=>by
 rw[hs]
 cases e1:v env with
 | none=>simp only[e1] at q;cases q
 | some env1 =>
   have q:w env1=some env':=by simpa only[e1,Option.bind_some] using q
   rw[List.length_cons] at ha
   refine joinParts_cons (thn (h.out pins s σ H (fun n H1=>n<=1000/\tV X G H0 w σ H1 Q) I ⟨W,env,env1,ok,e1,fun n W1 H1 hn s1 ok1=>⟨hn,W1,env1,env',ok1,q,fun W' z H' s2 ok2=>k W' z H' (s1.trans s2) ok2⟩⟩) fun u s1 ⟨z,tk,H1,eu,I1,hn,tv⟩=>?_)
   subst eu
   exact⟨by rw[strLen_append,sizeLine_eq];omega,t.out _ pins s1 σ H1 Q (by rw[strLen_append];omega) I1 tv⟩⟩
theorem zk1{e':Expr}{v:FV}(h:JVs X G H0 (e::e'::es) v)(hl:1000*(e::e'::es).length<=100000:=by decide):JV X G H0 (.JoinedStr (e::e'::es) pos) v :=
 ⟨fun pins s σ H Q I t=>JoinedStr_many (h.out Str.empty pins s σ H Q (by show 0+_<=_;omega) I t)⟩
abbrev VEs:List Value:=[.type "ValueError",.type "Exception",.type "BaseException",.type "object"]
def XC(K:PySem.W.Frag)(C:Addr):Prop:=PySem.W.excIn K C VEs "ValueError.__new__" = true
def Exc(K:PySem.W.Frag)(mg:Str->Option Value)(c:Str):Prop:=∃C,Cl K c C/\XC K C/\mg c=some (.ref C)/\(c==("__debug__" : Str))=false
theorem XC.obj{K:PySem.W.Frag}{C:Addr}{h:Heap}(hx:XC K C)(kin:K.In h):∃bm N nm q bs hdct sn sub ab col dd k0 k1 k2 k3 k5 mN,h.get? C=some (excClassObj nm q C N bs bm hdct sn sub ab col dd k0 k1 k2 k3 k5 "ValueError.__new__")/\h.Ns N mN/\mN "__init__" = none/\OwnTail h VEs bm:=by
 unfold XC PySem.W.excIn at hx
 split at hx
 case h_2=>cases hx
 rename_i dd cd sl ho
 split at hx
 case h_2=>cases hx
 rename_i C' bm k0 k1 k2 k3 n k5 hm hs
 simp only[Bool.and_eq_true,beq_iff_eq,Bool.not_eq_true'] at hx
 obtain⟨⟨⟨⟨⟨y1,y2⟩,y3⟩,y4⟩,y5⟩,y6⟩:=hx
 subst y1;subst y2
 have o2:=kin _ _ ho
 obtain⟨nm,bs,mro,ns,qn,hd,sn,sub,ab,col,del⟩:=cd
 obtain⟨l⟩:=sl
 dsimp only at hm y3 y5 y6 hs
 subst hm;subst y3;subst hs
 exact⟨bm,ns,nm,qn,bs,hd,sn,sub,ab,col,dd,k0,k1,k2,k3,k5,_,o2,.of_isNs (isNs_of_in kin y5),nsMap_none_of_in kin y5 y6,tail_of_in kin y4⟩
def zeb(c:Str)(v:FV):FS:=fun e=>(v e).map fun e'=>(.xc c,e')
theorem zdd{v:FV}{c:Str}{np cpos:Pos}(ec:Exc X.K X.mg c)(ha:JV X G H0 a v)(hh:X.calm=true:=by rfl)(hg:Gl X c:=by walk_at "g")(he:starEach [a] X.env=(false,eval a X.env)::starEach [] X.env:=by rfl)(hpl:(backTo cpos (starEach [a] X.env)).any (·.1)=false:=by rfl) :
  DSx X G H0 (.Raise (some (.Call (.Name c np) [a] [] cpos)) none pos) (zeb c v):=let ⟨C,hc,hx,hm,hdb⟩:=ec;⟨fun pins s σ H D I ⟨W,env,fl,env',ok,q,k⟩=>by
 unfold zeb at q
 cases e1:v env with
 | none=>rw[e1] at q;cases q
 | some env1 =>
   rw[e1] at q;cases q
   obtain⟨tl,N,nm,q,bs,hdct,sn,sub,ab,col,dd,k0,k1,k2,k3,k5,mN,z1,z2,z3,z4⟩:=hx.obj I.ok.mod.kin
   refine wpAny_Raise_call_subT (C:=C) (nm:=nm) (q:=q) (N:=N) (bs:=bs) (bm:=tl) (hdct:=hdct) (sn:=sn) (sub:=sub) (ab:=ab) (col:=col) (dd:=dd) (k0:=k0) (k1:=k1) (k2:=k2) (k3:=k3) (k5:=k5) PySem.F.excBase_ValueError (mN:=mN)
    (z4.hasType PySem.F.excBase_ValueError.hasBase) (I.ok.hd hh) hpl z3 (zl1 I hg hm ⟨rfl,?_⟩ hdb)
   rw[he]
   refine Calls.evalArgs_plain ?_
   have hp:=(zed ha.out zje he) cpos pins s σ H (fun vs H1=>vs.length=1/\∃W1,Step W H W1 H1/\Ok X.K G H0 W1 env' σ H1) I ⟨W,env,env',ok,e1,fun W1 z H1 s1 ok1=>⟨rfl,W1,s1,ok1⟩⟩
   rw[he] at hp
   refine thn hp fun us s1 ⟨vs,H1,I1,rv,hl,W1,s1',ok1⟩=>?_
   have hle:us.length<=sizeLine:=by rw[← rv.length,hl];decide
   exact⟨rfl,hle,I1.bk _ _ z1,z2.keeps I1.bk,z4.keeps I1.bk,fun h' e m=>k W1 σ H1 C hc s1' ok1 pins e _ (.inr ⟨s1,us,I1,m,rfl⟩)⟩⟩
end
def agAt(e:DE0)(i:Nat):Option Ag:=match e[i]? with | some (some (.ag k _ ps))=>some (k,ps) | some (some (.ro k ps))=>some (k,ps) | _=>none
def zoi:List Pt->Nat->Nat
 | .o _::r,j+1=>zoi r j+1
 | .d _::r,j+1=>zoi r j
 | _,_=>0
inductive Acc where
 | at (κ:AK) | al (x:Nat)
def Acc.ok:Acc->DE0->Nat->Nat->Prop
 | .at κ,e,i,_=>isK κ e i
 | .al x,e,i,j=>∃k r ps,e[i]?=some (some (.ag k (some r) ps))/\e[x]?=some (some (.al r (zoi ps j)))
instance (A:Acc) (e:DE0) (i j:Nat):Decidable (A.ok e i j):=Classical.propDecidable _
def zjc(A:Acc)(i j:Nat)(e:DE0):Option (List D):=if A.ok e i j then(agAt e i).bind fun x=>match x.2[j]? with | some (.o ds)=>some ds | _=>none else none
def PartAt(K:PySem.W.Frag)(H:Hp)(env:DE0)(σ:St)(i j:Nat)(a:Addr):Prop:=∃k ps p us,agAt env i=some (k,ps)/\σ[i]?=some (some (.ref p))/\AkOk K H k p us/\us[j]?=some (.ref a)
def tPt(X:Cx)(G:Gd)(H0:Hp)(A:Acc)(i j:Nat):TE:=fun σ H Q=>∃W env ds,Ok X.K G H0 W env σ H/\zjc A i j env=some ds /\
 ∀a vs,PartAt X.K H env σ i j a->H a=some (.lst vs)->Reps X.K H (Ow G W) ds vs->Q (.ref a) H
structure JPt (X:Cx) (G:Gd) (H0:Hp) (e:Expr) (A:Acc) (i j:Nat):Prop where
 out:PE X e (tPt X G H0 A i j)
protected theorem PtsOk.ix(h:PtsOk K G W H ps as us)(e:ps[j]?=some (.o ds)):∃a,us[j]?=some (.ref a)/\as[zoi ps j]?=some a:=by
 induction h generalizing j with
 | nil=>simp at e
 | d _ _ ih =>
   cases j with
   | zero=>simp at e
   | succ j=>obtain⟨a,h1,h2⟩:=ih (j:=j) (by simpa using e);exact⟨a,by simpa using h1,h2⟩
 | @o _ a _ _ _ _ _ _ _ _ ih =>
   cases j with
   | zero=>exact⟨a,rfl,rfl⟩
   | succ j=>obtain⟨b,h1,h2⟩:=ih (j:=j) (by simpa using e);exact⟨b,by simpa using h1,by simpa[zoi] using h2⟩
variable{k:AK}
theorem Ok.part(ok:Ok K G H0 W env σ H)(e:agAt env i=some (k,ps))(hj:ps[j]?=some (.o ds)):∃p us a vs,σ[i]?=some (some (.ref p))/\AkOk K H k p us/\us[j]?=some (.ref a)/\H a=some (.lst vs)/\Reps K H (Ow G W) ds vs:=by
 unfold agAt at e
 split at e
 ·rename_i k' l ps' q
  cases e
  obtain⟨v,e1,p,as,us,rfl,_,_,_,hk,hp⟩:=ok.slot i _ q
  obtain⟨a,vs,h1,_,_,h2,h3⟩:=hp.get hj
  exact⟨p,us,a,vs,e1,hk,h1,h2,h3⟩
 ·rename_i k' ps' q
  cases e
  obtain⟨v,e1,p,us,rfl,_,hk,hp⟩:=ok.slot i _ q
  obtain⟨a,vs,h1,_,h2,h3⟩:=hp.get hj
  exact⟨p,us,a,vs,e1,hk,h1,h2,h3⟩
 ·cases e
variable{A:Acc}
theorem zr8(h:zjc A i j env=some ds):A.ok env i j/\∃k ps,agAt env i=some (k,ps)/\ps[j]?=some (.o ds):=by
 unfold zjc at h
 split at h
 case isFalse=>cases h
 rename_i ho
 cases e:agAt env i with
 | none=>rw[e] at h;cases h
 | some x =>
   rw[e,Option.bind_some] at h
   split at h
   ·rename_i ds' q;cases h;exact⟨ho,x.1,x.2,rfl,q⟩
   ·cases h
theorem PartAt.inj{b:Addr}(h:PartAt K H env σ i j a)(h':PartAt K H env σ i j b):a=b:=by
 obtain⟨k,ps,p,us,h1,h2,h3,h4⟩:=h
 obtain⟨k',ps',p',us',h1',h2',h3',h4'⟩:=h'
 rw[h1] at h1';cases h1'
 rw[h2] at h2';cases h2'
 rw[zl8 h3 h3'.o] at h4'
 rw[h4] at h4';cases h4';rfl
theorem zoj{f:Str}{u:V}(nd:fs.Nodup)(h1:fs[j]?=some f)(h2:us[j]?=some u):(fs.zip us).lookup f=some u:=by
 induction fs generalizing us j with
 | nil=>simp at h1
 | cons g r ih =>
   cases us with
   | nil=>simp at h2
   | cons w us =>
     rw[List.zip_cons_cons,List.lookup_cons]
     cases j with
     | zero=>simp at h1 h2;subst h1;subst h2;simp
     | succ j =>
       have h1:r[j]?=some f:=by simpa using h1
       have ne:(f==g)=false:=by simp;exact fun z=>(List.nodup_cons.mp nd).1 (z ▸ List.mem_of_getElem? h1)
       rw[ne]
       exact ih (List.nodup_cons.mp nd).2 h1 (by simpa using h2)
variable{cn:Str}
theorem zkg(c:Atr X.K cn m)(an:Ats Nn Cn X)(hno:Nn[i]?=some x:=by rfl)(hf:fs[j]?=some m:=by rfl)(nd:fs.Nodup:=by decide +kernel)(hb:attributeBase (.Name x p') m X.env (eval (.Name x p') X.env)=eval (.Name x p') X.env:=by rfl):JPt X G H0 (.Attribute (.Name x p') m pos) (.at (.ins false cn fs)) i j:=let ⟨C,c,hn,hC⟩:=c;⟨(zyy ((an.a hno).pe) hb).imp fun σ H Q ⟨W,env,ds,ok,q,k⟩=>by
  obtain⟨ho,κ,ps,e1,e2⟩:=zr8 q
  obtain⟨p,us,a,vs,h1,h2,h3,h4,h5⟩:=ok.part e1 e2
  have hk:κ=.ins false cn fs:=by
   rcases ho with⟨l,ps',z⟩ | ⟨ps',z⟩ <;> (unfold agAt at e1;rw[z] at e1;cases e1;rfl)
  subst hk
  obtain⟨C',dx,z1,z2,z3⟩:=id h2
  rw[Cl.inj z1 hC] at z2
  exact⟨_,h1,p,C,dx,_,_,rfl,z2,c,hn,zoj nd hf h3,k a vs ⟨_,ps,p,us,e1,h1,h2,h3⟩ h4 h5⟩⟩
def zxt(A:Acc)(i j:Nat):FA:=fun e=>(zjc A i j e).map fun ds=>(ds,e)
theorem zvh(h:JPt X G H0 e A i j)(bt:Bn X "list":=by walk_at "b")(he:starEach [e] X.env=(false,eval e X.env)::starEach [] X.env:=by rfl):DFx X G H0 (.Call (.Name "list" p') [e] [] pos) (zxt A i j) :=
 ⟨(zpc zld bt.g bt.m zni (zed h.out zje he) (by decide) (by decide) he rfl).imp fun σ H Q ⟨W,env,ds',env',ok,q,k⟩=>by
  unfold zxt at q
  cases e1:zjc A i j env with
  | none=>rw[e1] at q;cases q
  | some ds =>
    rw[e1] at q;cases q
    refine⟨W,env,_,ok,e1,fun a vs _ hl r=>⟨a,vs,rfl,.inl (.inl (.inl hl)),fun l nl=>?_⟩⟩
    obtain⟨z1,z2,z3,z4,z5⟩:=ok.fresh (H':=upd H l (.lst vs)) (ds:=ds') (zb8 nl) nl za3 ((r.mono (fun _ _ h=>h) fun b us o h=>⟨⟨.inl o,fun z=>by subst z;rcases h with h | ⟨_,h⟩ <;> rw[nl] at h <;> cases h⟩,h⟩).mono (fun b u h=>zb8 nl b _ h) fun b us o h=>⟨o,h.keep fun o q=>zb8 nl b _ q⟩)
    exact k W l vs _ z5 (ok.same (zb8 nl)) z3 z1 za3 z4⟩
structure JK (X:Cx) (e:Expr) (z:Int):Prop where
 out:PE X e (tC (.int z))
variable{z:Int}
theorem zy9{jj:Nat}:JK X (.Constant (.int z) jj pos) z:=⟨ztu⟩
theorem zza(h:JK X e z):JK X (.UnaryOp .USub e pos) (-z):=⟨(z2o zyw h.out).imp fun σ H Q q=>⟨z,rfl,q⟩⟩
def pIx(A:Acc)(i j:Nat)(z:Int):FE:=fun e=>(zjc A i j e).bind fun ds=>(atI ds z).map fun d=>(d,e)
theorem zvi(h:JPt X G H0 e A i j)(hk:JK X b z)(hs:zjk b:=by intro _ _;rfl):DEx X G H0 (.Subscript e b pos) (pIx A i j z) :=
 ⟨(zug zqi h.out hk.out hs).imp fun σ H Q ⟨W,env,d,env',ok,q,k⟩=>by
  unfold pIx at q
  cases e1:zjc A i j env with
  | none=>rw[e1] at q;cases q
  | some ds =>
    rw[e1,Option.bind_some] at q
    cases e2:atI ds z with
    | none=>rw[e2] at q;cases q
    | some d' =>
      rw[e2] at q;cases q
      refine⟨W,env,ds,ok,e1,fun a vs _ hl r=>?_⟩
      obtain⟨v,e3,rv⟩:=zkr r e2
      exact⟨a,vs,z,v,rfl,rfl,.inl (.inl hl),e3,k W v H Step.refl ok rv⟩⟩
def setP(e:DE0)(i j:Nat)(ds:List D):DE0:=match e[i]? with | some (some (.ag k l ps))=>e.set i (some (.ag k l (ps.set j (.o ds)))) | _=>e
theorem Ok.setP{K:PySem.W.Frag}{W:Addr->Prop}{H:Hp}{env:DE0}{σ:St}{k:AK}{l:Option Nat}{ps:List Pt}{ds ds':List D}{a:Addr}{vs':List V}(ok:Ok K G H0 W env σ H)(e:env[i]?=some (some (.ag k l ps)))(hj:ps[j]?=some (.o ds))(ha:PartAt K H env σ i j a)(r:Reps K H (Ow G W) ds' vs') :
  Ok K G H0 W (L2.setP env i j ds') σ (upd H a (.lst vs'))/\Step W H W (upd H a (.lst vs')):=by
 obtain⟨k',ps',p,us,h1,h2,h3,h4⟩:=ha
 have:agAt env i=some (k,ps):=by unfold agAt;rw[e]
 rw[this] at h1;cases h1
 unfold L2.setP
 rw[e]
 exact ok.turnP e h2 h3 hj h4 r
def labO(k:AK)(l:Option Nat):Prop:=l.isSome=true/\∀c fs,k≠.ins true c fs
instance (k:AK) (l:Option Nat):Decidable (labO k l):=Classical.propDecidable _
variable{l:Option Nat}
theorem zxu{W1:Addr->Prop}{H1:Hp}{env1:DE0}{ps1:List Pt}{ds1:List D}(hl:labO k l)(ok:Ok K G H0 W env σ H)(ok1:Ok K G H0 W1 env1 σ H1)(e:env[i]?=some (some (.ag k l ps)))(e1:env1[i]?=some (some (.ag k l ps1)))(hj:ps[j]?=some (.o ds))(hj1:ps1[j]?=some (.o ds1))(ho:zoi ps1 j=zoi ps j)(pa:PartAt K H env σ i j a):PartAt K H1 env1 σ i j a:=by
 obtain⟨r,rfl⟩:=Option.isSome_iff_exists.mp hl.1
 obtain⟨v,z1,p,as,us,rfl,_,_,h1,hk,hp⟩:=ok.slot i _ e
 obtain⟨v',z1',p',as',us',rfl,_,_,h1',hk',hp'⟩:=ok1.slot i _ e1
 rw[z1] at z1';cases z1'
 have la:=h1 r rfl
 have la':=h1' r rfl
 obtain⟨b,w1,w2⟩:=hp.ix hj
 obtain⟨b',w1',w2'⟩:=hp'.ix hj1
 have hb:PartAt K H env σ i j b:=⟨k,ps,p,us,by unfold agAt;rw[e],z1,hk,w1⟩
 have ab:=pa.inj hb
 subst ab
 have has:as'=as:=by
  cases k with
  | ls=>have la:G.r r=p::as:=la;have la':G.r r=p::as':=la';rw[la] at la';cases la';rfl
  | ins bb c fs =>
    cases bb with
    | true=>exact absurd rfl (hl.2 c fs)
    | false=>have la:G.r r=p::as:=la;have la':G.r r=p::as':=la';rw[la] at la';cases la';rfl
 subst has
 rw[ho,w2] at w2';cases w2'
 exact⟨k,ps1,p,us',by unfold agAt;rw[e1],z1,hk',w1'⟩
instance (k k':AK):Decidable (k=k'):=Classical.propDecidable _
def appP(i j:Nat)(k0:AK)(l0:Option Nat)(n:Nat)(d:D)(e:DE0):Option (D×DE0):=match e[i]? with
 | some (some (.ag k l ps))=>(match ps[j]? with | some (.o ds)=>if k=k0/\l=l0/\zoi ps j=n/\Few (ds.length+1) then some (.non,setP e i j (ds++[d])) else none | _=>none)
 | _=>none
def zk2(A:Acc)(i j:Nat)(f:FE):FE:=fun e=>match e[i]? with
 | some (some (.ag k l ps))=>if labO k l then(zjc A i j e).bind fun _=>(f e).bind fun r=>appP i j k l (zoi ps j) r.1 r.2 else none
 | _=>none
variable{a:Expr}{p1:Pos}
theorem zme(h:JPt X G H0 e A i j)(ha:DEx X G H0 a f)(hbase:attributeBase e "append" X.env (eval e X.env)=eval e X.env:=by rfl)(hfew:((backTo pos (starEach [a] X.env)).all (fun x=>!x.1) && (backToKw pos (keywordEach [] X.env)).all (fun x=>x.1.isSome)
   && decide ([a].length+([]:List Keyword).length+(if ([]:List Keyword).isEmpty then 0 else 1)<30))=true:=by rfl)(hline:(p1.endLine==pos.line)=true:=by rfl)(hs:starEach [a] X.env=(false,eval a X.env)::starEach [] X.env:=by rfl) :
  DEx X G H0 (.Call (.Attribute e "append" p1) [a] [] pos) (zk2 A i j f):=⟨(zui PySem.F.plainAttrs_list PySem.F.slot_list_append PySem.F.type_list_append zpg h.out (zed ha.out zje hs) hbase hfew hline hs rfl).imp fun σ H Q ⟨W,env,d,env',ok,q,k⟩=>by
 unfold zk2 at q
 split at q
 case h_2=>cases q
 rename_i kk ll pp hq
 split at q
 case isFalse=>cases q
 rename_i hlab
 cases e1:zjc A i j env with
 | none=>rw[e1] at q;cases q
 | some ds =>
   rw[e1,Option.bind_some] at q
   cases e2:f env with
   | none=>rw[e2] at q;cases q
   | some r =>
     rw[e2,Option.bind_some] at q
     unfold appP at q
     split at q
     case h_2=>cases q
     rename_i k1 l1 ps1 hq1
     split at q
     case h_2=>cases q
     rename_i ds1 hj1
     split at q
     case isFalse=>cases q
     rename_i hc
     obtain⟨rfl,rfl,ho,hfw⟩:=hc
     cases q
     obtain⟨_,κ,ps,e3,e4⟩:=zr8 e1
     have:agAt env i=some (k1,pp):=by unfold agAt;rw[hq]
     rw[this] at e3;cases e3
     refine⟨W,env,ds,ok,e1,fun ad vs pa hl rr=>⟨.inl ⟨rfl,_,.inl (.inl hl)⟩,W,env,r.1,r.2,ok,e2,fun W1 v1 H1 s1 ok1 r1=>?_⟩⟩
     have pa1:=zxu hlab ok ok1 hq hq1 e4 hj1 ho pa
     obtain⟨p,us,a1,vs1,z1,z2,z3,z4,z5⟩:=ok1.part (i:=i) (by unfold agAt;rw[hq1]) hj1
     have:=pa1.inj ⟨_,_,p,us,by unfold agAt;rw[hq1],z1,z2,z3⟩
     subst this
     obtain⟨t1,t2⟩:=ok1.setP hq1 hj1 pa1 (z5.append (.cons r1 .nil))
     exact⟨ad,vs1,v1,rfl,rfl,z4,by rw[← z5.length];exact lt20 (Nat.lt_of_succ_le hfw),k W1 _ _ (s1.trans t2) t1 .non⟩⟩
abbrev FG:=DE0->Option (Ag×DE0)
def z4j(env:DE0)(σ:St)(H:Hp)(s:Sl)(v:V):Prop:=∀(j:Nat) (s':Sl) (v':V) (a:Addr),env[j]?=some (some s')->σ[j]?=some (some v')->Owns H s v a->¬Owns H s' v' a
def tAG(X:Cx)(G:Gd)(H0:Hp)(f:FG):TE:=fun σ H Q=>∃W env x env',Ok X.K G H0 W env σ H/\f env=some (x,env') /\
 ∀W' p H',Step W H W' H'->Ok X.K G H0 W' env' σ H'->SlOk X.K G W' H' (.ag x.1 none x.2) (.ref p)->z4j env' σ H' (.ag x.1 none x.2) (.ref p)->Q (.ref p) H'
structure JAg (X:Cx) (G:Gd) (H0:Hp) (e:Expr) (f:FG):Prop where
 out:PE X e (tAG X G H0 f)
def zxv(i:Nat)(f:FG):FS:=fun e=>(f e).map fun r=>(.nx,r.2.set i (some (.ag r.1.1 none r.1.2)))
variable{G':Gd}
theorem Ok.newA(ok:Ok K G H0 W env σ H)(sm:Same H H')(hn:∀a,W' a->H a=none)(hw:∀a,W' a->∃m:Mo,H' a=some m.out)(hG:∀a,G' a->Ow G W a\/H a=none){k':AK}{p:Addr}(hk:∀us,AkOk K H' k p us->AkOk K H' k' p us)(h:SlOk K G' W' H' (.ag k l ps) (.ref p)) :
  Ok K G H0 (fun a=>W a\/W' a) env σ H'/\Step W H (fun a=>W a\/W' a) H'/\SlOk K G (fun a=>W a\/W' a) H' (.ag k' none ps) (.ref p)/\z4j env σ H' (.ag k' none ps) (.ref p):=by
 have st:Step W H (fun a=>W a\/W' a) H':=⟨fun b o e _=>sm b o e,fun a z=>z.imp id (hn a)⟩
 have ok1:=ok.same sm
 have oks:Ok K G H0 (fun a=>W a\/W' a) env σ H':=by
  refine⟨ok1.stay,ok.good,fun a z=>?_,fun i s e=>?_,ok1.uniq,ok.len⟩
  ·rcases z with z | z
   ·exact ok1.wl a z
   ·exact⟨ok.stay.free (hn a z),hw a z⟩
  ·obtain⟨v,e1,q⟩:=ok.slot i s e
   exact⟨v,e1,ok.slstep st q fun a m o e2=>⟨.inl (q.owns o),sm _ _ e2⟩⟩
 obtain⟨p',as,us,e,hW,nd,hr,hk',hp⟩:=h
 cases e
 have cv:∀(a:Addr) (us:List V),Ow G' W' a->Rd H' a (.lst us)->Ow G (fun a=>W a\/W' a) a/\Rd H' a (.lst us):=fun a us o q=>⟨by
  rcases hG a o.1 with z | z
  ·exact⟨z.1,fun y=>y.elim z.2 o.2⟩
  ·exact⟨ok.good a (ok.stay.free z),fun y=>y.elim (fun w=>by obtain⟨_,m,q⟩:=ok.wl a w;rw[z] at q;cases q) o.2⟩,q⟩
 refine⟨oks,st,⟨p,as,us,rfl,.inr hW,nd,(fun n z=>nomatch z),hk us hk',hp.step (fun a vs ha z=>⟨.inr (hp.own ha).1,z⟩) (fun d v r=>r.mono (fun _ _ h=>h) cv) fun d v r=>r.mono (fun _ _ h=>h) cv⟩,fun j s v a e1 e2 o1 o2=>?_⟩
 have w1:W' a:=by
  rcases o1 with o | ⟨p',us',z,q,ha⟩
  ·cases o;exact hW
  ·cases z
   rw[zl8 (hk us hk') q] at ha
   exact(hp.own (hp.parts_iff.mp ha)).1
 obtain⟨v',e3,q⟩:=ok1.slot j s e1
 rw[e2] at e3;cases e3
 obtain⟨_,m,z⟩:=ok.wl a (q.owns o2)
 rw[hn a w1] at z;cases z
variable{g:FG}
theorem zxw(tn:Tos Nn X)(h:JAg X G H0 e g)(hto:Nn[i]?=some y:=by rfl)(hs:swapsWith e (some (.Name y p')) pos.line X.env=pure false:=by rfl) :
  DSx X G H0 (.Assign [.Name y p'] e pos) (zxv i g):=⟨(zo6 (tn.t hto).nd (tn.t hto).n (tn.t hto).l h.out hs (tn.t hto).f).imp fun Dn σ H ⟨W,env,fl,env',ok,q,k⟩=>by
 unfold zxv at q
 cases e1:g env with
 | none=>rw[e1] at q;cases q
 | some r =>
   rw[e1] at q;cases q
   exact⟨W,env,r.1,r.2,ok,e1,fun W1 p H1 s1 ok1 sl ap=>k W1 _ H1 s1 (ok1.put sl ap)⟩⟩
variable{ps:List Str}
def zvj(c:Str)(m:List Ag->List D->Option (D×List Ag))(F:FA):FG:=fun e=>(F e).bind fun r=>(m [(.ins true c [],[])] r.1).bind fun q=>match q with
 | (.non,[(.ins true c' fs,ps)])=>some ((.ins false c' fs,ps),r.2)
 | _=>none
theorem zvk{xa dx:Addr}(ok:Ok K G H0 W env σ H)(hC:Cl K cn C)(h1:H xa=none)(h2:H dx=none)(h3:dx≠xa)(r:Reps K H (Ow G W) ds vs) :
  Same H (upd (upd H dx (.own xa)) xa (.ins C dx [])) /\
  Ok K ⟨Ow G W,fun _=>[xa]⟩ (mask (upd (upd H dx (.own xa)) xa (.ins C dx [])) (fun b=>b=xa)) (fun b=>b=xa) (zke [(.ins true cn [],[])]) [some (.ref xa)] (upd (upd H dx (.own xa)) xa (.ins C dx [])) /\
  Reps K (upd (upd H dx (.own xa)) xa (.ins C dx [])) (Ow ⟨Ow G W,fun _=>[xa]⟩ (fun b=>b=xa)) ds vs:=by
 have sm:Same H (upd (upd H dx (.own xa)) xa (.ins C dx [])):=fun b o e=>by rw[zaq (zbh e h1),zaq (zbh e h2)];exact e
 have fr:∀a,H a=none->Ow G W a:=fun a z=>⟨ok.good a (ok.stay.free z),fun w=>by obtain⟨_,m,q⟩:=ok.wl a w;rw[z] at q;cases q⟩
 refine⟨sm,⟨fun a o e=>(zpw e).2,fun a e=>?_,fun a e=>⟨zod e,.i C dx [],by rw[show a=xa from e,za3]⟩,fun i' s e=>?_,fun i' j' s s' v v' b e1 e2 e3 e4 o1 o2=>?_,rfl⟩,?_⟩
 ·rcases zpx e with z | z
  ·rw[show a=xa from z];exact fr xa h1
  ·refine fr a ?_
   by_cases y:a=xa
   ·rw[y];exact h1
   ·rw[zaq y] at z
    by_cases y2:a=dx
    ·rw[y2];exact h2
    ·rwa [zaq y2] at z
 ·obtain⟨x',q,rfl⟩:=zly e
  cases i' with
  | zero =>
    simp at q;subst q
    exact⟨.ref xa,rfl,xa,[],[],rfl,rfl,by simp,fun n _=>rfl,⟨C,dx,hC,za3,rfl⟩,.nil⟩
  | succ n=>simp at q
 ·obtain⟨_,q1,_⟩:=zly e1
  obtain⟨_,q2,_⟩:=zly e2
  cases i' with
  | zero=>cases j' with
    | zero=>rfl
    | succ n=>simp at q2
  | succ n=>simp at q1
 ·refine r.mono (fun a u z=>sm _ _ z) fun a us o h=>⟨⟨o,fun z=>?_⟩,h.keep fun o z=>sm _ _ z⟩
  rw[show a=xa from z] at h
  rcases h with h | ⟨_,h⟩ <;> (have h2:=h1.symm.trans h;cases h2)
variable{k:Nat}
theorem zxx{m:List Ag->List D->Option (D×List Ag)}(c:KCal X.prog X.w X.K X.mg X.base x k (lSp X.K m xx))(rm:Room jr X.A)(ha:DAx X G H0 (e::es) F)(hkj:k+1<=jr:=by decide)(hg:Gl X x:=by walk_at "g")(he:starEach (e::es) X.env=(false,eval e X.env)::starEach es X.env:=by rfl)(hpl:(backTo pos (starEach es X.env)).any (·.1)=false:=by rfl) :
  JAg X G H0 (.Call (.Name x p') (e::es) [] pos) (zvj x m F):=let ⟨_,_,_,_,M,Fn,hm,hb,hC,hdb⟩:=c;⟨(zxq M Fn (rm.mono hkj) hg hm hb ha.out hdb he hpl).imp fun σ H Q ⟨W,env,y,env',ok,q,k⟩=>by
 unfold zvj at q
 cases e1:F env with
 | none=>rw[e1] at q;cases q
 | some r =>
   rw[e1,Option.bind_some] at q
   cases e2:m [(.ins true x [],[])] r.1 with
   | none=>rw[e2] at q;cases q
   | some z =>
     rw[e2,Option.bind_some] at q
     split at q
     case h_2=>cases q
     rename_i c' fs' ps'
     cases q
     refine⟨W,env,r.1,r.2,ok,e1,fun W1 vs H1 s1 ok1 r1 xa dx h1 h2 h3=>?_⟩
     obtain⟨sm,okm,rm⟩:=zvk ok1 hC h1 h2 h3 r1
     refine⟨_,_,_,_,[.ref xa],r.1,vs,rfl,rfl,okm,rm,.inl ⟨_,_,e2,fun W' en σ' v H' st ok' ho rp=>⟨rp.non_,?_⟩⟩⟩
     have hs:=ho 0 _ rfl
     obtain⟨v',z1,z2⟩:=ok'.slot 0 _ hs
     have ev:v'=.ref xa:=by
      obtain⟨p,as,us,rfl,_,_,hl,_⟩:=z2
      have hl:([xa]:List Addr)=[p]:=hl 0 rfl
      cases hl;rfl
     subst ev
     have sm2:Same H1 H':=fun b o z=>st.keep b o (sm b o z) fun y=>by rw[show b=xa from y,h1] at z;cases z
     have hn:∀a,W' a->H1 a=none:=fun a z=>by
      rcases st.ws a z with y | y
      ·rw[show a=xa from y];exact h1
      ·cases q:H1 a with
       | none=>rfl
       | some o=>rw[sm a o q] at y;cases y
     obtain⟨w1,w2,w3,w4⟩:=ok1.newA (G':=⟨Ow G W1,fun _=>[xa]⟩) (k:=.ins true c' fs') (l:=some 0) (ps:=ps') (p:=xa) (k':=.ins false c' fs') sm2 hn (fun a z=>(ok'.wl a z).2) (fun a z=>.inl z) (fun us z=>z) z2
     exact k _ xa H' (s1.trans w2) w1 w3 w4⟩
mutual
def noL:D->Bool
 | .lst _=>false
 | .dct _ _=>false
 | .tup ds=>noLs ds
 | _=>true
def noLs:List D->Bool
 | []=>true
 | d::r=>noL d && noLs r
end
mutual
theorem Rep.noL:∀ {d:D} {v:V},Rep K H O d v->L2.noL d=true->Rep K H O' d v
 | _,_,.non,_=>.non
 | _,_,.bl b,_=>.bl b
 | _,_,.int i,_=>.int i
 | _,_,.str s,_=>.str s
 | _,_,.tup h r,e=>.tup h (Reps.noLs r (by rw[L2.noL] at e;exact e))
 | _,_,.lst o h r,e=>by rw[L2.noL] at e;cases e
 | _,_,.klst h r,e=>by rw[L2.noL] at e;cases e
 | _,_,.dct h r,e=>by rw[L2.noL] at e;cases e
 | _,_,.exc a,_=>.exc a
theorem Reps.noLs:∀ {ds:List D} {vs:List V},Reps K H O ds vs->L2.noLs ds=true->Reps K H O' ds vs
 | _,_,.nil,_=>.nil
 | _,_,.cons r t,e=>by
   rw[L2.noLs,Bool.and_eq_true] at e
   exact .cons (Rep.noL r e.1) (Reps.noLs t e.2)
end
def ptD:Pt->D | .d d=>d | .o ds=>.lst ds
def zok(r:Nat):DE0->Option (List Pt)
 | []=>none
 | some (.ag .ls (some r') ps)::e=>if r'=r then some ps else zok r e
 | _::e=>zok r e
def zpz:List Pt->Nat->Option (List D)
 | .o ds::_,0=>some ds
 | .o _::r,j+1=>zpz r j
 | .d _::r,j=>zpz r j
 | [],_=>none
def zxy(b:Bool)(ps:List Pt):List Pt:=if b=true then ps.map fun p=>.d (ptD p) else ps
def frz1(b:Bool)(env:DE0):Option Sl->Option Sl
 | some (.sh d)=>some (.sh d)
 | some (.ow ds)=>some (.sh (.lst ds))
 | some (.o2 dss)=>some (.sh (.lst (dss.map D.lst)))
 | some (.ag .ls _ ps)=>some (.sh (.lst (ps.map ptD)))
 | some (.ag k _ ps)=>some (.ro k (zxy b ps))
 | some (.ro .ls ps)=>some (.sh (.lst (ps.map ptD)))
 | some (.ro k ps)=>some (.ro k (zxy b ps))
 | some (.al r j)=>(zok r env).bind fun ps=>(zpz ps j).map fun ds=>.sh (.lst ds)
 | none=>none
def frz(b:Bool)(env:DE0):DE0:=env.map (frz1 b env)
def AllG(r:Nat->List Addr):Gd:=⟨fun _=>True,r⟩
theorem zk3{r:Nat}{ps:List Pt}:∀ {env:DE0},zok r env=some ps->∃i:Nat,env[i]?=some (some (Sl.ag AK.ls (some r) ps))
 | [],h=>by cases h
 | x::e,h=>by
   unfold zok at h
   split at h
   ·rename_i e0;cases e0
   ·rename_i r' ps' e' q
    cases q
    split at h
    ·rename_i hr;cases h;subst hr;exact⟨0,rfl⟩
    ·obtain⟨i,z⟩:=zk3 h;exact⟨i+1,by simpa using z⟩
   ·rename_i q
    cases q
    obtain⟨i,z⟩:=zk3 h;exact⟨i+1,by simpa using z⟩
variable{a:Addr}{ps:List Pt}
theorem zxz(h:PtsOk K G W H ps as us)(e:zpz ps j=some ds)(ea:as[j]?=some a):∃vs,H a=some (.lst vs)/\Reps K H (Ow G W) ds vs:=by
 induction h generalizing j with
 | nil=>cases e
 | d _ _ ih=>exact ih e ea
 | o hW hl r _ ih =>
   cases j with
   | zero=>cases e;simp at ea;subst ea;exact⟨_,hl,r⟩
   | succ j=>exact ih (j:=j) e (by simpa using ea)
theorem PtsRo.all(h:PtsRo K G W H ps us)(hO:∀a,O a):Reps K H O (ps.map ptD) us:=by
 induction h with
 | nil=>exact .nil
 | d r _ ih=>exact .cons ((zdb fun a _=>hO a).1 _ _ r) ih
 | o _ hl r _ ih=>exact .cons (.lst (hO _) (.inl hl) ((zdb fun a _=>hO a).2 _ _ r)) ih
theorem PtsRo.roG(h:PtsRo K G W H ps us)(hO:∀a,Ow G W a->Ow G' NoW a):PtsRo K G' NoW H ps us :=
 h.step (fun a vs _ z=>⟨fun z=>z,z⟩) (fun d v q=>(zdb hO).1 d v q) fun d v q=>(zdb hO).2 d v q
theorem PtsOk.toRo(h:PtsOk K G W H ps as us)(hO:∀a,Ow G W a->Ow G' NoW a):PtsRo K G' NoW H ps us :=
 PtsRo.roG (W:=NoW) (G:=gd (Ow G W)) h.ro fun a z=>hO a z.1
theorem PtsRo.dat(h:PtsRo K G W H ps us)(hO:∀a,Ow G W a):PtsRo K G W H (ps.map fun p=>.d (ptD p)) us:=by
 induction h with
 | nil=>exact .nil
 | d r _ ih=>exact .d r ih
 | o _ hl r _ ih=>exact .d (.lst (hO _) (.inl hl) r) ih
theorem PtsRo.roB(b:Bool)(h:PtsRo K G W H ps us)(hO:∀a,Ow G W a):PtsRo K G W H (zxy b ps) us:=by
 unfold zxy
 split
 ·exact h.dat hO
 ·exact h
theorem Ok.freeze(b:Bool)(ok:Ok K G H0 W env σ H):Ok K (AllG G.r) H NoW (frz b env) σ H:=by
 have hO:∀a,Ow G W a->Ow (AllG G.r) NoW a:=fun a _=>⟨trivial,fun z=>z⟩
 have all:∀a,Ow (AllG G.r) NoW a:=fun a=>⟨trivial,fun z=>z⟩
 have key:∀(i:Nat) (s:Sl),(frz b env)[i]?=some (some s)->∃s0,env[i]?=some (some s0)/\frz1 b env (some s0)=some s:=fun i s e=>by
  unfold frz at e
  rw[List.getElem?_map] at e
  cases q:env[i]? with
  | none=>rw[q] at e;cases e
  | some o =>
    rw[q] at e
    cases o with
    | none=>cases e
    | some s0=>exact⟨s0,rfl,by simpa using e⟩
 refine⟨Same.refl _,fun a _=>trivial,fun l z=>z.elim,fun i s e=>?_,fun i j s s' v v' a e1 _ e3 _ o _=>?_,by unfold frz;rw[List.length_map];exact ok.len⟩
 ·obtain⟨s0,e0,e1⟩:=key i s e
  obtain⟨v,e2,h⟩:=ok.slot i s0 e0
  refine⟨v,e2,?_⟩
  cases s0 with
  | sh d=>cases e1;exact(zdb hO).1 _ _ h
  | ow ds=>cases e1;obtain⟨l,vs,rfl,hW,hl,r⟩:=h;exact .lst (all l) (.inl hl) ((zdb hO).2 _ _ r)
  | o2 dss =>
    cases e1
    obtain⟨l,ls,rfl,hW,hl,nd,hi⟩:=h
    exact .lst (all l) (.inl hl) (znw (W':=NoW) (G:=AllG G.r) (W:=W) ⟨hi.1,fun j ds a z1 z2=>let ⟨w1,vs,w2,w3⟩:=hi.2 j ds a z1 z2;⟨w1,vs,w2,(zdb fun b z=>⟨trivial,z.2⟩).2 _ _ w3⟩⟩ (fun a _ _=>all a) fun ds vs r=>(zdb fun b _=>all b).2 _ _ r)
  | ag k l ps =>
    obtain⟨p,as,us,rfl,hW,nd,hl,hk,hp⟩:=h
    cases k with
    | ls=>cases e1;exact .lst (all p) (.inl hk) ((hp.toRo hO).all all)
    | ins _ c fs=>cases e1;exact⟨p,us,rfl,fun z=>z,hk,(hp.toRo hO).roB b all⟩
  | ro k ps =>
    obtain⟨p,us,rfl,hW,hk,hp⟩:=h
    cases k with
    | ls=>cases e1;exact .lst (all p) (.inl hk) (hp.all all)
    | ins _ c fs=>cases e1;exact⟨p,us,rfl,fun z=>z,hk,(hp.roG hO).roB b all⟩
  | al r j =>
    have e1:((zok r env).bind fun ps=>(zpz ps j).map fun ds=>Sl.sh (.lst ds))=some s:=e1
    cases q1:zok r env with
    | none=>rw[q1] at e1;cases e1
    | some ps =>
      rw[q1,Option.bind_some] at e1
      cases q2:zpz ps j with
      | none=>rw[q2] at e1;cases e1
      | some ds =>
        rw[q2] at e1;cases e1
        obtain⟨p,as,a,z1,z2,rfl⟩:=h
        obtain⟨i',y⟩:=zk3 q1
        obtain⟨v',y1,p',as',us,rfl,_,_,hl,_,hp⟩:=ok.slot i' _ y
        have hl:G.r r=p'::as':=hl r rfl
        rw[hl] at z1;cases z1
        obtain⟨vs,w1,w2⟩:=zxz hp q2 z2
        exact .lst (all a) (.inl w1) ((zdb hO).2 _ _ w2)
 ·obtain⟨s0,e0,e1⟩:=key i s e1
  cases s0 with
  | sh d=>cases e1;exact o.elim
  | ow d=>cases e1;exact o.elim
  | o2 d=>cases e1;exact o.elim
  | ag k l ps=>cases k <;> (cases e1;exact o.elim)
  | ro k ps=>cases k <;> (cases e1;exact o.elim)
  | al r j =>
    have e1:((zok r env).bind fun ps=>(zpz ps j).map fun ds=>Sl.sh (.lst ds))=some s:=e1
    cases q1:zok r env with
    | none=>rw[q1] at e1;cases e1
    | some ps =>
      rw[q1,Option.bind_some] at e1
      cases q2:zpz ps j with
      | none=>rw[q2] at e1;cases e1
      | some ds=>rw[q2] at e1;cases e1;exact o.elim
theorem Step.noW(s:Step NoW H W' H'):Same H H':=fun b o e=>s.keep b o e fun z=>z
def fFrz(b:Bool)(f:FE):FE:=fun e=>(f (frz b e)).bind fun r=>if noL r.1=true then some (r.1,e) else none
def zm0(b:Bool)(f:FA):FA:=fun e=>(f (frz b e)).bind fun r=>if noLs r.1=true then some (r.1,e) else none
def xFrz(b:Bool)(x:XF):XF:=fun e=>(x (frz b e)).map fun r=>(r.1,e)
variable{b:Bool}
theorem zfy(h:∀G H0,DEx X G H0 e f):DEx X G H0 e (fFrz b f):=⟨fun pins s σ H Q I ⟨W,env,d,env',ok,q,k⟩=>by
 unfold fFrz at q
 cases e1:f (frz b env) with
 | none=>rw[e1] at q;cases q
 | some r =>
   rw[e1,Option.bind_some] at q
   split at q
   case isFalse=>cases q
   rename_i hn
   cases q
   refine(h (AllG G.r) H).out pins s σ H Q I ⟨NoW,frz b env,r.1,r.2,ok.freeze b,e1,fun W' v H' st ok' rp=>?_⟩
   exact k W v H' (Step.same st.noW) (ok.same st.noW) (rp.noL hn)⟩
theorem z02(h:∀G H0,DFx X G H0 e F):DFx X G H0 e (zm0 b F):=⟨fun pins s σ H Q I ⟨W,env,d,env',ok,q,k⟩=>by
 unfold zm0 at q
 cases e1:F (frz b env) with
 | none=>rw[e1] at q;cases q
 | some r =>
   rw[e1,Option.bind_some] at q
   split at q
   case isFalse=>cases q
   rename_i hn
   cases q
   refine(h (AllG G.r) H).out pins s σ H Q I ⟨NoW,frz b env,r.1,r.2,ok.freeze b,e1,fun W' l vs H' st ok1 ok2 nW hl rp=>?_⟩
   have hn':H l=none:=(st.ws l (.inr rfl)).elim (fun z=>z.elim) id
   obtain⟨z1,z2,z3,z4⟩:=ok.fresh0 (H':=H') st.noW hn' hl
   exact k W l vs H' z4 (ok.same st.noW) z3 z1 hl (rp.noLs hn)⟩
variable{y:XF}
theorem zvl(h:∀G H0,JX X G H0 e y):JX X G H0 e (xFrz b y):=⟨fun pins s σ H Q I ⟨W,env,c,env',ok,q,k⟩=>by
 unfold xFrz at q
 cases e1:y (frz b env) with
 | none=>rw[e1] at q;cases q
 | some r =>
   rw[e1] at q;cases q
   exact(h (AllG G.r) H).out pins s σ H Q I ⟨NoW,frz b env,r.1,r.2,ok.freeze b,e1,fun W' H' C hc st ok'=>k W H' C hc (Step.same st.noW) (ok.same st.noW)⟩⟩
def frs1:Option Sl->Option Sl
 | some (.sh d)=>some (.sh d)
 | some (.ag k _ ps)=>some (.ro k ps)
 | some (.ro k ps)=>some (.ro k ps)
 | _=>none
def frsE(env:DE0):DE0:=env.map frs1
def OwG(G:Gd)(W:Addr->Prop)(H:Hp):Gd:=⟨fun a=>Ow G W a\/H a=none,G.r⟩
theorem Ok.freezeS(ok:Ok K G H0 W env σ H):Ok K (OwG G W H) H NoW (frsE env) σ H:=by
 have hO:∀a,Ow G W a->Ow (OwG G W H) NoW a:=fun a z=>⟨.inl z,fun z=>z⟩
 have key:∀(i:Nat) (s:Sl),(frsE env)[i]?=some (some s)->∃s0,env[i]?=some (some s0)/\frs1 (some s0)=some s:=fun i s e=>by
  unfold frsE at e
  rw[List.getElem?_map] at e
  cases q:env[i]? with
  | none=>rw[q] at e;cases e
  | some o =>
    rw[q] at e
    cases o with
    | none=>cases e
    | some s0=>exact⟨s0,rfl,by simpa using e⟩
 refine⟨Same.refl _,fun a z=>.inr z,fun l z=>z.elim,fun i s e=>?_,fun i j s s' v v' a e1 _ e3 _ o _=>?_,by unfold frsE;rw[List.length_map];exact ok.len⟩
 ·obtain⟨s0,e0,e1⟩:=key i s e
  obtain⟨v,e2,h⟩:=ok.slot i s0 e0
  refine⟨v,e2,?_⟩
  cases s0 with
  | sh d=>cases e1;exact(zdb hO).1 _ _ h
  | ow ds=>cases e1
  | o2 dss=>cases e1
  | ag k l ps=>cases e1;obtain⟨p,as,us,rfl,hW,nd,hl,hk,hp⟩:=h;exact⟨p,us,rfl,fun z=>z,hk,hp.toRo hO⟩
  | ro k ps=>cases e1;obtain⟨p,us,rfl,hW,hk,hp⟩:=h;exact⟨p,us,rfl,fun z=>z,hk,hp.roG hO⟩
  | al r j=>cases e1
 ·obtain⟨s0,e0,e1⟩:=key i s e1
  cases s0 <;> cases e1 <;> exact o.elim
theorem PtsOk.length(h:PtsOk K G W H ps as us):ps.length=us.length:=by
 induction h with
 | nil=>rfl
 | d _ _ ih=>rw[List.length_cons,List.length_cons,ih]
 | o _ _ _ _ ih=>rw[List.length_cons,List.length_cons,ih]
abbrev FP:=DE0->Option (List Pt)
def tPs(X:Cx)(G:Gd)(H0:Hp)(f:FP):TA:=fun σ H Q=>∃W env ps,Ok X.K G H0 W env σ H/\f env=some ps /\
 ∀as us H',Same H H'->as.Nodup->(∀a∈as,H a=none)->PtsOk X.K (OwG G W H) (fun a=>a∈as) H' ps as us->Q us H'
structure JPs (X:Cx) (G:Gd) (H0:Hp) (es:List Expr) (f:FP):Prop where
 out:PA X es (tPs X G H0 f)
theorem Rd.some{u:HO}(h:Rd H a u):H a≠none:=fun z=>by rcases h with h | ⟨_,h⟩ <;> rw[z] at h <;> cases h
def zmf(κ:AK)(i j:Nat):FE:=fun e=>if isK κ e i then(agAt e i).bind fun x=>(match x.2[j]? with | some (.d d)=>some (d,e) | _=>none) else none
theorem zhd(c:Atr X.K cn m)(an:Ats Nn Cn X)(hno:Nn[i]?=some x:=by rfl)(hf:fs[j]?=some m:=by rfl)(nd:fs.Nodup:=by decide +kernel)(hb:attributeBase (.Name x p') m X.env (eval (.Name x p') X.env)=eval (.Name x p') X.env:=by rfl):DEx X G H0 (.Attribute (.Name x p') m pos) (zmf (.ins false cn fs) i j):=let ⟨C,c,hn,hC⟩:=c;⟨(zyy ((an.a hno).pe) hb).imp fun σ H Q ⟨W,env,d,env',ok,q,k⟩=>by
  unfold zmf at q
  split at q
  case isFalse=>cases q
  rename_i ho
  cases e1:agAt env i with
  | none=>rw[e1] at q;cases q
  | some y =>
    rw[e1,Option.bind_some] at q
    split at q
    case h_2=>cases q
    rename_i d' hd
    cases q
    rcases ho with⟨l,ps',z⟩ | ⟨ps',z⟩
    ·have e1:some (AK.ins false cn fs,ps')=some y:=by unfold agAt at e1;rw[z] at e1;exact e1
     cases e1
     obtain⟨v,e1,p,as,us,rfl,_,_,_,⟨C',dx,z1,z2,z3⟩,hp⟩:=ok.slot i _ z
     rw[Cl.inj z1 hC] at z2
     obtain⟨u,h1,h2⟩:=hp.getD hd
     exact⟨_,e1,p,C,dx,_,u,rfl,z2,c,hn,zoj nd hf h1,k W u H Step.refl ok h2⟩
    ·have e1:some (AK.ins false cn fs,ps')=some y:=by unfold agAt at e1;rw[z] at e1;exact e1
     cases e1
     obtain⟨v,e1,p,us,rfl,_,⟨C',dx,z1,z2,z3⟩,hp⟩:=ok.slot i _ z
     rw[Cl.inj z1 hC] at z2
     obtain⟨u,h1,h2⟩:=hp.getD hd
     exact⟨_,e1,p,C,dx,_,u,rfl,z2,c,hn,zoj nd hf h1,k W u H Step.refl ok h2⟩⟩
variable{l:Addr}
theorem Ok.chgN(ok:Ok K G H0 W env σ H){s s':Sl}(m':Mo)(e:env[i]?=some (some s))(e1:σ[i]?=some (some v))(ho:Owns H s v a)(hs:SlOk K G W (upd H a m'.out) s' v)(nl:∀(j:Nat) (s:Sl) (v:V),env[j]?=some (some s)->σ[j]?=some (some v)->¬Owns H s v l)(hb:∀b,Owns (upd H a m'.out) s' v b->Owns H s v b\/b=l):Ok K G H0 W (env.set i (some s')) σ (upd H a m'.out)/\Step W H W (upd H a m'.out):=by
 have hWa:W a:=by obtain⟨v',e2,h⟩:=ok.slot i s e;rw[e1] at e2;cases e2;exact h.owns ho
 have st:Step W H W (upd H a m'.out):=⟨fun b o q n=>by rw[zaq (fun z:b=a=>n (by rw[z];exact hWa))];exact q,fun b z=>.inl z⟩
 have ne:∀ {j:Nat} {sl:Sl} {u:V} {b:Addr},i≠j->env[j]?=some (some sl)->σ[j]?=some (some u)->Owns H sl u b->b≠a:=fun {j sl u b} hj q q1 o z=>by
  subst z
  exact hj (ok.uniq i j s sl v u b e q e1 q1 ho o)
 have bk:∀ {j:Nat} {sl:Sl} {u:V} {b:Addr},i≠j->env[j]?=some (some sl)->σ[j]?=some (some u)->Owns (upd H a m'.out) sl u b->Owns H sl u b:=fun {j sl u b} hj q q1 o=>by
  obtain⟨u',q2,h⟩:=ok.slot j sl q
  rw[q1] at q2;cases q2
  cases sl with
  | sh d=>exact o.elim
  | ow ds=>exact o
  | o2 dss=>exact h.back (fun l q3 _ vs q4=>by rw[zaq (ne hj q q1 (.inl q3))];exact q4) o
  | ag k p ps=>exact h.back (fun l q3 _ vs q4=>by rw[zaq (ne hj q q1 (.inl q3))];exact q4) o
  | al _ _=>exact o.elim
  | ro _ _=>exact o.elim
 refine⟨⟨fun b o q=>?_,ok.good,fun b z=>?_,fun j sl q=>?_,fun j k s1 s2 v1 v2 b q1 q2 q3 q4 o1 o2=>?_,by rw[List.length_set,ok.len]⟩,st⟩
 ·rw[zaq (fun z=>by rw[z,(ok.wl a hWa).1] at q;cases q)];exact ok.stay b o q
 ·obtain⟨q,us,hb⟩:=ok.wl b z
  by_cases h:b=a
  ·exact⟨q,m',by rw[h,za3]⟩
  ·exact⟨q,us,by rw[zaq h];exact hb⟩
 ·rcases zfv q with⟨rfl,q',_⟩ | ⟨hj,q'⟩
  ·cases q'
   exact⟨v,e1,hs⟩
  ·obtain⟨u,e2,h⟩:=ok.slot j sl q'
   exact⟨u,e2,ok.slstep st h fun b vs o q2=>⟨h.owns o,by rw[zaq (ne hj q' e2 o)];exact q2⟩⟩
 ·rcases zfv q1 with⟨a1,b1,_⟩ | ⟨a1,b1⟩ <;> rcases zfv q2 with⟨a2,b2,_⟩ | ⟨a2,b2⟩
  ·rw[← a1,← a2]
  ·subst a1;cases b1
   rw[e1] at q3;cases q3
   have o2:=bk a2 b2 q4 o2
   rcases hb b o1 with z | z
   ·exact ok.uniq i k s s2 v v2 b e b2 e1 q4 z o2
   ·subst z;exact absurd o2 (nl k s2 v2 b2 q4)
  ·subst a2;cases b2
   rw[e1] at q4;cases q4
   have o1:=bk a1 b1 q3 o1
   rcases hb b o2 with z | z
   ·exact ok.uniq j i s1 s v1 v b b1 e q3 e1 o1 z
   ·subst z;exact absurd o1 (nl j s1 v1 b1 q3)
  ·exact ok.uniq j k s1 s2 v1 v2 b b1 b2 q3 q4 (bk a1 b1 q3 o1) (bk a2 b2 q4 o2)
theorem PtsOk.snoc(h:PtsOk K G W H ps as us)(hW:W l)(hl:H l=some (.lst vs))(r:Reps K H (Ow G W) ds vs):PtsOk K G W H (ps++[.o ds]) (as++[l]) (us++[.ref l]):=by
 induction h with
 | nil=>exact .o hW hl r .nil
 | d q _ ih=>exact .d q ih
 | o a b c _ ih=>exact .o a b c ih
theorem zr9{f:Str}{v:V}:∀ {fs:List Str} {us:List V},f∉fs->fs.length=us.length->putF f v (fs.zip us)=(fs++[f]).zip (us++[v])
 | [],[],_,_=>rfl
 | [],_::_,_,h=>by cases h
 | _::_,[],_,h=>by cases h
 | g::fs,u::us,hf,hl=>by
   have:g≠f:=fun z=>hf (by simp[z])
   rw[List.zip_cons_cons,List.cons_append,List.cons_append,List.zip_cons_cons]
   show(if g=f then(g,v)::fs.zip us else(g,u)::putF f v (fs.zip us))=_
   rw[if_neg this,zr9 (fun z=>hf (by simp[z])) (by simpa using hl)]
def zvm(i:Nat)(cn f:Str)(F:FA):FS:=fun e=>(F e).bind fun r=>match r.2[i]? with
 | some (some (.ag (.ins true c fs) l ps))=>if c=cn/\f∉fs/\fs.length<900 then some (.nx,r.2.set i (some (.ag (.ins true c (fs++[f])) l (ps++[.o r.1])))) else none
 | _=>none
variable{value:Expr}
theorem zsa(ca:Atr X.K cn m)(an:Ats Nn Cn X)(he:DFx X G H0 value F)(hno:Nn[i]?=some x:=by rfl)(hs:swapsWith value (some (.Attribute (.Name x p') m p1)) pos.line X.env=pure false:=by rfl) :
  DSx X G H0 (.Assign [.Attribute (.Name x p') m p1] value pos) (zvm i cn m F):=let ⟨C,c,hn,hC⟩:=ca;⟨(z2v ((an.a hno).pe) he.out hs).imp fun Dn σ H ⟨W,env,fl,env',ok,q,k⟩=>by
 unfold zvm at q
 cases e1:F env with
 | none=>rw[e1] at q;cases q
 | some r =>
   rw[e1,Option.bind_some] at q
   split at q
   case h_2=>cases q
   rename_i cc fs l ps hq
   split at q
   case isFalse=>cases q
   rename_i hz
   obtain⟨rfl,hf,hlen⟩:=hz
   cases q
   refine⟨W,env,r.1,r.2,ok,e1,fun W1 ad vs H1 s1 ok1 ok2 nW hl rp=>?_⟩
   obtain⟨v,e2,p,as,us,rfl,hW,nd,hr,⟨C',dx,z1,z2,z3⟩,hp⟩:=ok2.slot i _ hq
   rw[Cl.inj z1 hC] at z2
   have np:p≠ad:=fun z=>by rw[z,hl] at z2;cases z2
   have na:ad∉as:=fun z=>by
    obtain⟨v',e3,h⟩:=ok1.slot i _ hq
    rw[e2] at e3;cases e3
    exact nW (h.owns (.inr ⟨p,us,rfl,⟨z3,C,dx,z2⟩,hp.parts_iff.mpr z⟩))
   refine⟨_,e2,p,C,dx,fs.zip us,rfl,z2,c,hn,?_,?_⟩
   ·rw[List.length_zip];omega
   ·have st:Step (addW W1 ad) H1 (addW W1 ad) (upd H1 p (.ins C dx ((fs++[m]).zip (us++[.ref ad])))):=⟨fun b o q n=>by rw[zaq (fun z:b=p=>n (by rw[z];exact hW))];exact q,fun b z=>.inl z⟩
    have hl2:upd H1 p (.ins C dx ((fs++[m]).zip (us++[.ref ad]))) ad=some (.lst vs):=by rw[zaq (Ne.symm np)];exact hl
    have hp2:PtsOk X.K G (addW W1 ad) (upd H1 p (.ins C dx ((fs++[m]).zip (us++[.ref ad])))) ps as us:=hp.step (fun b ws ha z=>⟨(hp.own ha).1,by rw[zaq (fun y:b=p=>by subst y;exact(List.nodup_cons.mp nd).1 ha)];exact z⟩) (fun _ _ r=>ok2.rep st r) fun _ _ r=>ok2.reps st r
    have hlz:(fs++[m]).length=(us++[V.ref ad]).length:=by rw[List.length_append,List.length_append,z3];rfl
    obtain⟨w1,w2⟩:=ok2.chgN (l:=ad) (s':=.ag (.ins true cc (fs++[m])) l (ps++[.o r.1])) (.i C dx ((fs++[m]).zip (us++[.ref ad]))) hq e2 (.inl rfl)
     ⟨p,as++[ad],us++[.ref ad],rfl,hW,by
      rw[List.nodup_cons] at nd ⊢
      refine⟨fun z=>?_,List.nodup_append.mpr ⟨nd.2,by simp,fun y hy z hz=>?_⟩⟩
      ·rcases List.mem_append.mp z with z | z
       ·exact nd.1 z
       ·exact np (List.mem_singleton.mp z)
      ·rw[List.mem_singleton.mp hz];exact fun w=>na (w ▸ hy),hr,⟨C,dx,hC,za3,hlz⟩,hp2.snoc (.inr rfl) hl2 (ok2.reps st rp)⟩
     (fun j s v e3 e4=>ok1.noOwn nW j s v e3 e4) fun b ow=>by
       rcases ow with ow | ⟨p',us',z,y,j,ds,h1,h2⟩
       ·exact .inl (.inl ow)
       ·cases z
        have ey:us'=us++[.ref ad]:=zl8 (K:=X.K) (k:=.ins true cc (fs++[m])) (us:=us++[.ref ad]) ⟨C,dx,hC,za3,hlz⟩ y
        rw[ey] at h2
        by_cases hj:j<ps.length
        ·rw[List.getElem?_append_left hj] at h1
         rw[List.getElem?_append_left (by rw[← hp.length];exact hj)] at h2
         exact .inl (.inr ⟨p,us,rfl,⟨z3,C,dx,z2⟩,j,ds,h1,h2⟩)
        ·rw[List.getElem?_append_right (by rw[← hp.length];omega),← hp.length] at h2
         cases hjj:j-ps.length with
         | zero=>rw[hjj] at h2;simp at h2;exact .inr h2.symm
         | succ n=>rw[hjj] at h2;simp at h2
    rw[zr9 hf z3]
    exact k _ σ _ (s1.trans w2) w1⟩
end L2
namespace L2
open PySem
abbrev zan:List Str:=["kept", "states"]
end L2
namespace L2
open PySem PySem.Spec PyProof.Rows
def zx0(i:Nat)(g:FE)(F:FA):FS:=fun e=>(F e).bind fun r=>match r.2[i]? with
 | some (some (.o2 dss))=>(g (frsE r.2)).bind fun q=>(match q.1 with | .int k=>(ixN dss.length k).map fun j=>(.nx,r.2.set i (some (.o2 (dss.set j r.1)))) | _=>none)
 | _=>none
def zsb(i:Nat)(g h f:FE):FS:=fun e=>(f e).bind fun r=>match r.2[i]? with
 | some (some (.o2 dss))=>(g (frsE r.2)).bind fun q=>(h (frsE r.2)).bind fun p=>(match q.1,p.1 with
   | .int k,.int m=>(ixN dss.length k).bind fun j=>(dss[j]?).bind fun ds=>(ixN ds.length m).map fun n=>(.nx,r.2.set i (some (.o2 (dss.set j (ds.set n r.1)))))
   | _,_=>none)
 | _=>none
variable{G:Gd}{H0 H:Hp}{i:Nat}{K:PySem.W.Frag}{W:Addr->Prop}{env:DE0}{σ:St}
theorem Ok.swap2(ok1:Ok K G H0 W env σ H){l:Addr}{us:List V}{ds:List D}{dss:List (List D)}{j:Nat}{v:V}(ok:Ok K G H0 (addW W l) env σ H)(nW:¬W l)(hl:H l=some (.lst us))(r:Reps K H (Ow G (addW W l)) ds us)(hq:env[i]?=some (some (.o2 dss)))(hv:σ[i]?=some (some v))(hj:j<dss.length) :
  ∃(L:Addr) (ls:List Addr),v=.ref L/\H L=some (.lst (ls.map V.ref))/\ls.length=dss.length/\Ok K G H0 (addW W l) (env.set i (some (.o2 (dss.set j ds)))) σ (upd H L (.lst ((ls.set j l).map V.ref)))/\Step (addW W l) H (addW W l) (upd H L (.lst ((ls.set j l).map V.ref))):=by
 obtain⟨v1,e1,L,ls,rfl,hW,hL,nd,hi⟩:=ok1.slot i _ hq
 rw[hv] at e1;cases e1
 have hWL:addW W l L:=.inl hW
 have st:Step (addW W l) H (addW W l) (upd H L (.lst ((ls.set j l).map V.ref))):=⟨fun b o q n=>by rw[zaq (fun z:b=L=>n (by rw[z];exact hWL))];exact q,fun b z=>.inl z⟩
 have nl:∀(k:Nat) (s:Sl) (u:V),env[k]?=some (some s)->σ[k]?=some (some u)->¬Owns H s u l:=fun k s u q1 q2 o=>by
  obtain⟨u',q3,h⟩:=ok1.slot k s q1
  rw[q2] at q3;cases q3
  exact nW (h.owns o)
 have nLl:l≠L:=fun z=>nW (z ▸ hW)
 have hlen:=hi.1
 have hm:∀(k:Nat) (c:Addr),(ls.set j l)[k]?=some c->(j=k/\c=l)\/(j≠k/\ls[k]?=some c):=fun k c q=>by
  rcases zfv q with⟨e,q,_⟩ | q
  ·exact .inl ⟨e,q⟩
  ·exact .inr q
 have ndn:(L::ls.set j l).Nodup:=by
  refine List.nodup_cons.mpr ⟨fun z=>?_,?_⟩
  ·obtain⟨k,hk⟩:=List.mem_iff_getElem?.mp z
   rcases hm k L hk with⟨_,e⟩ | ⟨_,e⟩
   ·exact nLl e.symm
   ·exact(List.nodup_cons.mp nd).1 (List.mem_of_getElem? e)
  ·refine List.pairwise_iff_getElem.mpr fun k1 k2 hk1 hk2 hlt z=>?_
   obtain⟨c2,hc2⟩:∃c,(ls.set j l)[k2]?=some c:=⟨_,List.getElem?_eq_getElem hk2⟩
   have hc1:(ls.set j l)[k1]?=some c2:=by rw[← hc2,List.getElem?_eq_getElem hk1,List.getElem?_eq_getElem hk2,z]
   have nin:∀k c,ls[k]?=some c->c≠l:=fun k c q w=>nW (w ▸ (hi.2 k (dss[k]'(by rw[← hlen];exact(List.getElem?_eq_some_iff.mp q).1)) c (List.getElem?_eq_getElem _) q).1)
   rcases hm k1 c2 hc1 with⟨a1,b1⟩ | ⟨a1,b1⟩ <;> rcases hm k2 c2 hc2 with⟨a2,b2⟩ | ⟨a2,b2⟩
   ·omega
   ·exact nin _ _ b2 b1
   ·exact nin _ _ b1 b2
   ·have:=zlu (List.nodup_cons.mp nd).2 b1 b2;omega
 refine⟨L,ls,rfl,hL,hlen,?_⟩
 refine ok.chgN (.l _) hq hv (.inl rfl) ⟨L,ls.set j l,rfl,hWL,za3,ndn,by simp[hlen],fun k es c q1 q2=>?_⟩ nl fun b o=>?_
 ·rcases zfv q1 with⟨rfl,z,_⟩ | ⟨hk,q'⟩
  ·cases z
   rcases hm j c q2 with⟨_,rfl⟩ | ⟨y,_⟩
   ·exact⟨.inr rfl,us,by rw[zaq nLl];exact hl,ok.reps st r⟩
   ·exact absurd rfl y
  ·rcases hm k c q2 with⟨y,_⟩ | ⟨_,y⟩
   ·exact absurd y hk
   ·obtain⟨hWc,vs,hc,rc⟩:=hi.2 k es c q' y
    have ne:c≠L:=fun z=>(List.nodup_cons.mp nd).1 (z ▸ List.mem_of_getElem? y)
    refine⟨.inl hWc,vs,by rw[zaq ne];exact hc,?_⟩
    obtain⟨v2,e2,L2,ls2,e3,_,hL2,_,hi2⟩:=ok.slot i _ hq
    rw[hv] at e2;cases e2;cases e3
    rw[hL] at hL2
    have:=zgb (by simpa using hL2)
    subst this
    obtain⟨_,vs',hc',rc'⟩:=hi2.2 k es c q' y
    rw[hc] at hc';cases hc'
    exact ok.reps st rc'
 ·rcases o with o | ⟨L',ls',z,q,hb⟩
  ·exact .inl (.inl o)
  ·cases z
   have q:upd H L (.lst ((ls.set j l).map V.ref)) L=some (.lst (ls'.map V.ref)):=q
   rw[za3] at q
   have:=zgb (show(ls.set j l).map V.ref=ls'.map V.ref by simpa using q)
   subst this
   obtain⟨k,hk⟩:=List.mem_iff_getElem?.mp hb
   rcases hm k b hk with⟨_,e⟩ | ⟨_,e⟩
   ·exact .inr e
   ·exact .inl (.inr ⟨L,ls,rfl,hL,List.mem_of_getElem? e⟩)
variable{Nn Cn:List Str}{X:Cx}{b e:Expr}{g:FE}{F:FA}{x:Str}{pos p' p1:Pos}
theorem zx1(hk:∀G H0,DEx X G H0 b g)(he:DFx X G H0 e F)(an:Ats Nn Cn X)(hno:Nn[i]?=some x:=by rfl)(hs:swapsWithSole [.Subscript (.Name x p') b p1] e pos.line X.env=pure false:=by rfl)(hw:swappedStores [.Subscript (.Name x p') b p1] e X.env=pure none:=by rfl)(h1:(assignEach [.Subscript (.Name x p') b p1] X.env).map (·.2)=[assign (.Subscript (.Name x p') b p1) X.env]:=by rfl)(hass:∀v,assign (.Subscript (.Name x p') b p1) X.env v=(do
   let ov ← holding [v] (eval (.Name x p') X.env)
   let iv ← holding [v,ov] (eval b X.env)
   standAt p1
   holding [v,ov,iv] (setItem ov iv v)
   release [v,ov,iv] []):=by intro _;rfl) :
  DSx X G H0 (.Assign [.Subscript (.Name x p') b p1] e pos) (zx0 i g F):=⟨fun pins s σ H Dn I ⟨W,env,fl,env',ok,q,k⟩=>by
 unfold zx0 at q
 cases e1:F env with
 | none=>rw[e1] at q;cases q
 | some r =>
   rw[e1,Option.bind_some] at q
   split at q
   case h_2=>cases q
   rename_i dss hq
   cases e2:g (frsE r.2) with
   | none=>rw[e2] at q;cases q
   | some r2 =>
     rw[e2,Option.bind_some] at q
     split at q
     case h_2=>cases q
     rename_i kk hkk
     cases e3:ixN dss.length kk with
     | none=>rw[e3] at q;cases q
     | some j =>
       rw[e3] at q;cases q
       have hj:j<dss.length:=(znt e3).2.1
       refine(zrf he.out (zty ((an.a hno).pe) (el_x (X:=X) rfl hk) zj6 hass) hs hw h1) pins s σ H Dn I ⟨W,env,r.1,r.2,ok,e1,fun W1 l us H1 s1 ok1 ok2 nW hl rp=>?_⟩
       obtain⟨v,hv,_⟩:=ok1.slot i _ hq
       refine⟨_,hv,OwG G (addW W1 l) H1,H1,NoW,frsE r.2,r2.1,r2.2,ok2.freezeS,e2,fun W2 v2 H2 s2 ok3 rp2=>?_⟩
       have sm:=s2.noW
       rw[hkk] at rp2
       obtain⟨L,ls,rfl,hL,hlen,o4,st4⟩:=Ok.swap2 (ok1.same sm) (ok2.same sm) nW (sm _ _ hl) ((ok2.reps (Step.same sm) rp)) hq hv hj
       exact⟨L,_,kk,j,rfl,rp2.int_,hL,by rw[List.length_map,hlen];exact e3,by rw[List.map_set] at o4 st4;exact k _ _ _ ((s1.trans (Step.same sm)).trans st4) o4⟩⟩
variable{a:Expr}{f h:FE}{p2:Pos}
theorem zvn(hk:∀G H0,DEx X G H0 a g)(hm:∀G H0,DEx X G H0 b h)(he:DEx X G H0 e f)(an:Ats Nn Cn X)(hno:Nn[i]?=some x:=by rfl)(hpi:zjk a:=by intro _ _;rfl)(hs:swapsWithSole [.Subscript (.Subscript (.Name x p') a p2) b p1] e pos.line X.env=pure false:=by rfl)(hw:swappedStores [.Subscript (.Subscript (.Name x p') a p2) b p1] e X.env=pure none:=by rfl)(h1:(assignEach [.Subscript (.Subscript (.Name x p') a p2) b p1] X.env).map (·.2)=[assign (.Subscript (.Subscript (.Name x p') a p2) b p1) X.env]:=by rfl)(hass:∀v,assign (.Subscript (.Subscript (.Name x p') a p2) b p1) X.env v=(do
   let ov ← holding [v] (eval (.Subscript (.Name x p') a p2) X.env)
   let iv ← holding [v,ov] (eval b X.env)
   standAt p1
   holding [v,ov,iv] (setItem ov iv v)
   release [v,ov,iv] []):=by intro _;rfl) :
  DSx X G H0 (.Assign [.Subscript (.Subscript (.Name x p') a p2) b p1] e pos) (zsb i g h f):=⟨fun pins s σ H Dn I ⟨W,env,fl,env',ok,q,k⟩=>by
 unfold zsb at q
 cases e1:f env with
 | none=>rw[e1] at q;cases q
 | some r =>
   rw[e1,Option.bind_some] at q
   split at q
   case h_2=>cases q
   rename_i dss hq
   cases e2:g (frsE r.2) with
   | none=>rw[e2] at q;cases q
   | some r2 =>
     rw[e2,Option.bind_some] at q
     cases e3:h (frsE r.2) with
     | none=>rw[e3] at q;cases q
     | some r3 =>
       rw[e3,Option.bind_some] at q
       split at q
       case h_2=>cases q
       rename_i kk mm hkk hmm
       cases e4:ixN dss.length kk with
       | none=>rw[e4] at q;cases q
       | some j =>
         rw[e4,Option.bind_some] at q
         cases e5:dss[j]? with
         | none=>rw[e5] at q;cases q
         | some ds =>
           rw[e5,Option.bind_some] at q
           cases e6:ixN ds.length mm with
           | none=>rw[e6] at q;cases q
           | some n =>
             rw[e6] at q;cases q
             refine(zrf he.out (zty (zug zqi ((an.a hno).pe) (el_x (X:=X) rfl hk) hpi) (el_x (X:=X) rfl hm) zj6 hass) hs hw h1) pins s σ H Dn I ⟨W,env,r.1,r.2,ok,e1,fun W1 v1 H1 s1 ok1 r1=>?_⟩
             obtain⟨v,hv,_⟩:=ok1.slot i _ hq
             refine⟨_,hv,OwG G W1 H1,H1,NoW,frsE r.2,r2.1,r2.2,ok1.freezeS,e2,fun W2 v2 H2 s2 ok3 rp2=>?_⟩
             have sm:=s2.noW
             rw[hkk] at rp2
             have ok2:=ok1.same sm
             obtain⟨L,ls,c,vs,rfl,hL,hla,hat,hH,rr⟩:=zrq ok2 hq hv e4 e5
             refine⟨L,_,kk,.ref c,rfl,rp2.int_,.inl (.inl hL),hat,OwG G W1 H2,H2,NoW,frsE r.2,r3.1,r3.2,ok2.freezeS,e3,fun W3 v3 H3 s3 ok4 rp3=>?_⟩
             have sm3:=s3.noW
             rw[hmm] at rp3
             have ok5:=ok2.same sm3
             have sm13:Same H1 H3:=fun b o z=>sm3 b o (sm b o z)
             obtain⟨t1,t2⟩:=ok5.turn2 hq hv (sm3 _ _ hL) e5 hla (Reps.set (ok1.rep (Step.same sm13) r1) n (ok2.reps (Step.same sm3) rr))
             exact⟨c,vs,mm,n,rfl,rp3.int_,sm3 _ _ hH,by rw[← rr.length];exact e6,k _ _ _ ((s1.trans (Step.same sm13)).trans t2) t1⟩⟩
end L2
namespace L2
open PySem PySem.Spec PyProof.Rows PySem.F
end L2
namespace L2
open PySem PySem.Spec PyProof.Rows
variable{X:Cx}{G:Gd}{H0:Hp}{F:FA}{st:Stmt}{i:Nat}
theorem z03{b:Bool}(h:∀G H0,PS X st (tAsg (tDF X.K G H0 F) (zhb i))):PS X st (tAsg (tDF X.K G H0 (zm0 b F)) (zhb i)):=fun pins s σ H D I hh=>by
 obtain⟨W,env,d,env',ok,q,k⟩:=hh
 unfold zm0 at q
 cases e1:F (frz b env) with
 | none=>rw[e1] at q;cases q
 | some r =>
   rw[e1,Option.bind_some] at q
   split at q
   case isFalse=>cases q
   rename_i hn
   cases q
   refine h (AllG G.r) H pins s σ H D I ⟨NoW,frz b env,r.1,r.2,ok.freeze b,e1,fun W' l vs H' st ok1 ok2 nW hl rp=>?_⟩
   have hn':H l=none:=(st.ws l (.inr rfl)).elim (fun z=>z.elim) id
   obtain⟨z1,z2,z3,z4⟩:=ok.fresh0 (H':=H') st.noW hn' hl
   exact k W l vs H' z4 (ok.same st.noW) z3 z1 hl (rp.noLs hn)
def celN(N:List Str)(sc:Scope):List Str:=N.filter fun u=>sc.names.lookup u==some .cell
def scB(N ps:List Str)(sc:Scope):Bool:=decide (sc.kind=.function) && !sc.isCoroutine && !sc.isGenerator && decide N.Nodup && decide (N.take ps.length=ps) && decide (∀y∈sc.names,y.2≠.free) && N.all fun x=>okN x && (sc.names.lookup x==some .local || sc.names.lookup x==some .cell)
variable{N ps:List Str}{sc:Scope}
theorem zmg(h:scB N ps sc=true):zfu N ps sc/\∀x∈N,Loc sc x/\(x==("__debug__" : Str))=false/\(x==("__classdict__" : Str))=false:=by
 unfold scB at h
 simp only[Bool.and_eq_true,decide_eq_true_eq,Bool.not_eq_true',List.all_eq_true] at h
 obtain⟨⟨⟨⟨⟨⟨h1,h2⟩,h3⟩,h4⟩,h5⟩,h6⟩,h7⟩:=h
 have hl:∀x∈N,Loc sc x/\(x==("__debug__" : Str))=false/\(x==("__classdict__" : Str))=false:=fun x hx=>by
  obtain⟨a,b⟩:=h7 x hx
  have a:=zj7 a
  rcases Bool.or_eq_true _ _ ▸ b with b | b
  ·exact⟨.inl (zpj b),a⟩
  ·exact⟨.inr (zpj b),a⟩
 exact⟨⟨h1,h2,h3,h4,h5,fun x hx=>(hl x (by rw[← h5] at hx;exact List.mem_of_mem_take hx)).1,h6⟩,hl⟩
variable{P:Program}{w:World}{K:PySem.W.Frag}{mg:Str->Option Value}{base:Heap}{CX:CXT}{qual:Str}{f:Addr}{cdv:Value}{A:Around}{outer:List Env}{s:Shared}{H:Hp}{E:XK}
theorem zlg(h:scB N ps sc=true):Ats N (celN N sc) (cxOf CX P w K mg base N qual sc f cdv A outer s H E) :=
 ⟨rfl,fun i x e=>let z:=(zmg h).2 x (List.mem_of_getElem? e);⟨e,z.1.elim .inl fun q=>.inr (.inl q),z.2.1,z.2.2⟩,fun u hu=>by
  obtain⟨_,h2⟩:=List.mem_filter.mp hu
  exact .inl (zpj h2)⟩
theorem zlh(h:scB N ps sc=true):Tos N (cxOf CX P w K mg base N qual sc f cdv A outer s H E) :=
 ⟨fun i x e=>⟨(zmg h).1.nd,e,((zmg h).2 x (List.mem_of_getElem? e)).1,.inl rfl⟩⟩
variable{x:Str}{pos:Pos}
theorem Tos.pg(t:Tos N X)(h:N[i]?=some x:=by rfl):PG X (.Name x pos) (zhb i):=ztw (t.t h).nd (t.t h).n (t.t h).l (t.t h).f
variable{e:Expr}{p':Pos}
theorem Tos.psF(t:Tos N X)(he:DFx X G H0 e F)(h:N[i]?=some x:=by rfl)(hs:swapsWith e (some (.Name x p')) pos.line X.env=pure false:=by rfl):PS X (.Assign [.Name x p'] e pos) (tAsg (tDF X.K G H0 F) (zhb i)):=zo6 (t.t h).nd (t.t h).n (t.t h).l he.out hs (t.t h).f
variable{f2:FA2}
theorem Tos.psF2(t:Tos N X)(he:DF2x X G H0 e f2)(h:N[i]?=some x:=by rfl)(hs:swapsWith e (some (.Name x p')) pos.line X.env=pure false:=by rfl):PS X (.Assign [.Name x p'] e pos) (tAsg (tDF2 X.K G H0 f2) (zhb i)):=zo6 (t.t h).nd (t.t h).n (t.t h).l he.out hs (t.t h).f
def Def(K:PySem.W.Frag)(mg:Str->Option Value)(st:Stmt)(x:Str)(ps:List Str):Prop:=∃f fd,Fun K x x st f fd/\Binds K fd ps []/\mg x=some (.ref f)
def Mef(K:PySem.W.Frag)(C:Addr)(st:Stmt)(x qual:Str)(ps:List Str):Prop:=∃f fd,Fun K x qual st f fd/\Binds K fd ps []/\Meth K C x f
variable{k n ar:Nat}{g:FS}
theorem zbx(T:Def K mg st x ps)(N:List Str)(h:scB N ps (zaj st)=true)(hx:okN x=true)(hb:∀(f:Addr) (cdv:Value) (A:Around) (outer:List Env) (s:Shared) (H:Hp) (E:XK) (G:Gd) (H0:Hp),Room k (A.deeper (envOfC x (zaj st) s.heap.objs.size f cdv)) ->
   Ats N (celN N (zaj st)) (cxOf CX0 P w K mg base N x (zaj st) f cdv A outer s H E).nox->Tos N (cxOf CX0 P w K mg base N x (zaj st) f cdv A outer s H E).nox->DBx (cxOf CX0 P w K mg base N x (zaj st) f cdv A outer s H E).nox G H0 (zb4 st) g)(hn:n=N.length:=by rfl)(ha:ar=ps.length:=by rfl):Cal P w K mg base CX0 x (k+1) (dSp K (runD n ar g)):=by
 obtain⟨f,fd,F,b,m⟩:=T
 exact⟨f,fd,ps,fn_D F (zmg h).1 hn ha fun cdv A outer s H E G H0 hr=>hb f cdv A outer s H E G H0 hr (zlg h).nox (zlh h).nox,m,F.kp,b,(zj7 hx).1⟩
theorem z04(T:Def K mg st x ps)(N:List Str)(h:scB N ps (zaj st)=true)(hx:okN x=true)(hb:∀(f:Addr) (cdv:Value) (A:Around) (outer:List Env) (s:Shared) (H:Hp) (E:XK) (G:Gd) (H0:Hp),Room k (A.deeper (envOfC x (zaj st) s.heap.objs.size f cdv)) ->
   Ats N (celN N (zaj st)) (cxOf CX0 P w K mg base N x (zaj st) f cdv A outer s H E).nox->Tos N (cxOf CX0 P w K mg base N x (zaj st) f cdv A outer s H E).nox->DBx (cxOf CX0 P w K mg base N x (zaj st) f cdv A outer s H E).nox G H0 (zb4 st) g)(hn:n=N.length:=by rfl)(ha:ar=ps.length:=by rfl):Cal P w K mg base CX0 x (k+1) (fSp K (runF n ar g)):=by
 obtain⟨f,fd,F,b,m⟩:=T
 exact⟨f,fd,ps,fn_F F (zmg h).1 hn ha fun cdv A outer s H E G H0 hr=>hb f cdv A outer s H E G H0 hr (zlg h).nox (zlh h).nox,m,F.kp,b,(zj7 hx).1⟩
theorem z4k(T:Def K mg st x ps)(N:List Str)(h:scB N ps (zaj st)=true)(hx:okN x=true)(hb:∀(f:Addr) (cdv:Value) (A:Around) (outer:List Env) (s:Shared) (H:Hp) (E:XK) (G:Gd) (H0:Hp),Room k (A.deeper (envOfC x (zaj st) s.heap.objs.size f cdv)) ->
   Ats N (celN N (zaj st)) (cxOf CX0 P w K mg base N x (zaj st) f cdv A outer s H E).nox->Tos N (cxOf CX0 P w K mg base N x (zaj st) f cdv A outer s H E).nox->DBx (cxOf CX0 P w K mg base N x (zaj st) f cdv A outer s H E).nox G H0 (zb4 st) g)(hn:n=N.length:=by rfl)(ha:ar=ps.length:=by rfl):Cal P w K mg base CX0 x (k+1) (fSp2 K (zta n ar g)):=by
 obtain⟨f,fd,F,b,m⟩:=T
 exact⟨f,fd,ps,z5u F (zmg h).1 hn ha fun cdv A outer s H E G H0 hr=>hb f cdv A outer s H E G H0 hr (zlg h).nox (zlh h).nox,m,F.kp,b,(zj7 hx).1⟩
abbrev Bd(P:Program)(w:World)(K:PySem.W.Frag)(mg:Str->Option Value)(base:Heap)(N:List Str)(qual:Str)(st:Stmt)(k:Nat)(g:FS):Prop:=∀(f:Addr) (cdv:Value) (A:Around) (outer:List Env) (s:Shared) (H:Hp) (E:XK) (G:Gd) (H0:Hp),Room k (A.deeper (envOfC qual (zaj st) s.heap.objs.size f cdv)) ->
   Ats N (celN N (zaj st)) (cxOf (CXr P w) P w K mg base N qual (zaj st) f cdv A outer s H E)->Tos N (cxOf (CXr P w) P w K mg base N qual (zaj st) f cdv A outer s H E)->DBx (cxOf (CXr P w) P w K mg base N qual (zaj st) f cdv A outer s H E) G H0 (zb4 st) g
theorem Def.cal{sp:Sp}(T:Def K mg st x ps)(hx:okN x=true)(h:∀f fd,Fun K x x st f fd->FnOk P w K mg base CX k f fd ps sp):Cal P w K mg base CX x k sp:=by
 obtain⟨f,fd,F,b,m⟩:=T
 exact⟨f,fd,ps,h f fd F,m,F.kp,b,(zj7 hx).1⟩
variable{p:Nat}
theorem zlq(T:Def K mg st x ps)(N:List Str)(h:scB N ps (zaj st)=true)(hx:okN x=true)(hb:Bd P w K mg base N x st k g)(hn:n=N.length:=by rfl)(ha:p+ar=ps.length:=by rfl):Cal P w K mg base (CXr P w) x (k+1) (qSp K (runQ n p ar g) (xQ n p ar g)) :=
 T.cal hx fun f fd F=>z4g F (zmg h).1 hn ha fun cdv A outer s H E G H0 hr=>hb f cdv A outer s H E G H0 hr (zlg h) (zlh h)
variable{C:Addr}{cn:Str}
theorem zmh(hC:Cl K cn C)(c:Cls K C)(T:Mef K C st x qual ps)(N:List Str)(h:scB N ps (zaj st)=true)(hb:Bd P w K mg base N qual st k g)(hn:n=N.length:=by rfl)(ha:p+ar=ps.length:=by rfl):MCal P w K mg base cn x (k+1) (qSp K (runQ n p ar g) (xQ n p ar g)):=by
 obtain⟨f,fd,F,b,m⟩:=T
 exact⟨C,f,fd,ps,c,m,z4g F (zmg h).1 hn ha fun cdv A outer s H E G H0 hr=>hb f cdv A outer s H E G H0 hr (zlg h) (zlh h),b,hC⟩
theorem zx2(hC:Cl K cn C)(c:Cls K C)(T:Mef K C st x qual ps)(N:List Str)(h:scB N ps (zaj st)=true)(hb:Bd P w K mg base N qual st k g)(hn:n=N.length:=by rfl)(ha:p+ar=ps.length:=by rfl):MCal P w K mg base cn x (k+1) (lSp K (runL n p ar g) (xL n p ar g)):=by
 obtain⟨f,fd,F,b,m⟩:=T
 exact⟨C,f,fd,ps,c,m,z4i F (zmg h).1 hn ha fun cdv A outer s H E G H0 hr=>hb f cdv A outer s H E G H0 hr (zlg h) (zlh h),b,hC⟩
theorem z53(hC:Cl K cn C)(hm:mg cn=some (.ref C))(mk:PySem.W.makesIn K C=true)(kp:PySem.W.keepIn K (.ref C)=true)(T:Mef K C st "__init__" qual ps)(N:List Str)(h:scB N ps (zaj st)=true)(hx:okN cn=true)(hb:Bd P w K mg base N qual st k g)(hn:n=N.length:=by rfl)(ha:p+ar=ps.length:=by rfl) :
  KCal P w K mg base cn (k+1) (lSp K (runL n p ar g) (xL n p ar g)):=by
 obtain⟨f,fd,F,b,m⟩:=T
 exact⟨C,f,fd,ps,⟨mk,m.at_,m.fn,kp⟩,z4i F (zmg h).1 hn ha fun cdv A outer s H E G H0 hr=>hb f cdv A outer s H E G H0 hr (zlg h) (zlh h),hm,b,hC,(zj7 hx).1⟩
theorem z54(N:List Str)(h:scB N ps (zaj st)=true)(hb:∀(f:Addr) (cdv:Value) (A:Around) (outer:List Env) (s:Shared) (H:Hp) (E:XK) (G:Gd) (H0:Hp),Room k (A.deeper (envOfC x (zaj st) s.heap.objs.size f cdv)) ->
   Ats N (celN N (zaj st)) (cxOf CX0 P w K mg base N x (zaj st) f cdv A outer s H E).nox->Tos N (cxOf CX0 P w K mg base N x (zaj st) f cdv A outer s H E).nox->DBx (cxOf CX0 P w K mg base N x (zaj st) f cdv A outer s H E).nox G H0 (zb4 st) g)(hn:n=N.length:=by rfl)(ha:ar=ps.length:=by rfl):∀f fd,Fun K x x st f fd->FnOk P w K mg base CX0 (k+1) f fd ps (dSp K (runD n ar g)) :=
 fun f fd F=>fn_D F (zmg h).1 hn ha fun cdv A outer s H E G H0 hr=>hb f cdv A outer s H E G H0 hr (zlg h).nox (zlh h).nox
variable{s:Str}{h:Heap}{oc:Value}{od an:Option Addr}{osl:Array (Option Value)}
theorem law_mk{fa:Addr}{m:List D->Option D}{kV doc pm cdv ct:Value}(X:K.In h)(G:h.Ns mainGlobals mg)(hfa:mg x=some (.ref fa))(a:PySem.W.nsIn K mainGlobals x=some (some (.ref f)))(l:K.lookup f=some ⟨oc,od,.func (PySem.W.fnOf x x (zhc st) (zb4 st) (zaj st) .none kV doc pm an cdv ct),osl⟩)(c:PySem.W.codeIn K cdv x=true)(k':PySem.W.keepIn K (.ref f)=true)(hb:∀v:Value,bindArgs (PySem.W.fnOf x x (zhc st) (zb4 st) (zaj st) .none kV doc pm an cdv ct) ⟨[v],[]⟩=pure [(s,v)])(F:∀base f fd,Fun K x x st f fd->FnOk P w K mg base CX0 k f fd [s] (dSp K m))(good:∀ns:List Int,ns.length<=63->m [.lst (ns.map D.int)]=some (.bl true)) :
  ∃fd:FuncData,(∀(t:Shared) (v:Value),BindsTo t fd ⟨[v],[]⟩ [(s,v)])/\∀base:Heap,K.In base->base.Ns mainGlobals mg->FnOk P w K mg base CX0 k fa fd [s] (zro K):=by
 have e:=hfa.symm.trans (PySem.W.mg_of X G a)
 cases e
 exact⟨_,fun t v=>.of_eq (hb v),fun base _ _=>z5s (F base _ _ (zum l c k')) good⟩
theorem walkD{l:PySem.W.OpenLaw}{q:Program}{loose:List Str}{XP:(Str->Option Value)->Heap->Prop}{YP:World->Heap->Prop}{d:DefRec}{K:Params->PySem.W.Frag}(hr:Room k callerA)(hn:l.most=some 63)(hdf:d.params.defaults=[])(hY:∀(w:World) (h:Heap),YP w h->(K w.params).In h)(F:∀(w:World) (mg:Str->Option Value) (fa:Addr) (h:Heap),(K w.params).In h->h.Ns mainGlobals mg->mg d.name=some (.ref fa) ->
   ∃fd:FuncData,(∀(t:Shared) (u:Value),BindsTo t fd ⟨[u],[]⟩ [(s,u)])/\∀base:Heap,(K w.params).In base->base.Ns mainGlobals mg->FnOk l.prog w (K w.params) mg base CX0 k fa fd [s] (zro (K w.params))) :
  PySem.W.WalkO q loose XP YP l.row.toRowW d [] (fun f vs=>PySem.call f vs) :=
 z0a (n:=63) (k:=k) (x:=s) (CX:=fun _=>CX0) (sp:=fun w=>zro (K w.params)) hn (by decide) hdf hr hY F (fun _ _ a ns hl _ hS=>⟨a,ns,rfl,hS,hl,fun _=>rfl⟩) fun _ _ _ _ _ z=>z
theorem def_mk{kV doc pm cdv ct:Value}(X:K.In h)(G:h.Ns mainGlobals mg)(a:PySem.W.nsIn K mainGlobals x=some (some (.ref f)))(l:K.lookup f=some ⟨oc,od,.func (PySem.W.fnOf x x (zhc st) (zb4 st) (zaj st) .none kV doc pm an cdv ct),osl⟩)(c:PySem.W.codeIn K cdv x=true)(k:PySem.W.keepIn K (.ref f)=true)(hb:∀us:List Value,us.length=ps.length->bindArgs (PySem.W.fnOf x x (zhc st) (zb4 st) (zaj st) .none kV doc pm an cdv ct) ⟨us,[]⟩=pure (ps.zip us)):Def K mg st x ps :=
 ⟨f,_,zum l c k,.all hb,PySem.W.mg_of X G a⟩
theorem exc_mk{c:Str}(X:K.In h)(G:h.Ns mainGlobals mg)(a:PySem.W.nsIn K mainGlobals c=some (some (.ref C)))(b:PySem.W.excIn K C VEs "ValueError.__new__" = true)(d:okN c=true):Exc K mg c:=⟨C,a,b,PySem.W.mg_of X G a,(zj7 d).1⟩
theorem con_mk{z:Int}{t:Tok}(X:K.In h)(G:h.Ns mainGlobals mg)(a:PySem.W.nsIn K mainGlobals x=some (some (.int z t))):∃t,mg x=some (.int z t):=⟨t,PySem.W.mg_of X G a⟩
theorem mef_mk{kV doc pm cdv ct:Value}(a:PySem.W.findIn K (.ref C) x=some (some (.ref f)))(l:K.lookup f=some ⟨oc,od,.func (PySem.W.fnOf x qual (zhc st) (zb4 st) (zaj st) .none kV doc pm an cdv ct),osl⟩)(c:PySem.W.codeIn K cdv qual=true)(k:PySem.W.keepIn K (.ref f)=true)(i:PySem.W.isFn K (.ref f)=true)(hb:∀us:List Value,us.length=ps.length->bindArgs (PySem.W.fnOf x qual (zhc st) (zb4 st) (zaj st) .none kV doc pm an cdv ct) ⟨us,[]⟩=pure (ps.zip us)):Mef K C st x qual ps :=
 ⟨f,_,zum l c k,.all hb,a,i,k⟩
end L2
namespace LB
open PySem L2
def zmi:FS:=sRet (fBin dSub (fBin dMul (fIxV 0 (fC (.int 1))) (fIxV 1 (fC (.int 0)))) (fBin dMul (fIxV 1 (fC (.int 1))) (fIxV 0 (fC (.int 0)))))
def zef:List D->Option D:=runD 2 2 zmi
def zgf:FS:=sSeq (sSet 2 (zah zef (zac (fVar 0) (zac (fVar 1) (fNil))))) (sSeq (sIf (fTst (fBin dGt (fVar 2) (fC (.int 0)))) (sRet (fC (.int 1))) (sNil)) (sSeq (sIf (fTst (fBin dLt (fVar 2) (fC (.int 0)))) (sRet (fUn dNeg (fC (.int 1)))) (sNil)) (sRet (fC (.int 0)))))
def zb6:List D->Option D:=runD 3 2 zgf
def zli:FS:=sRet (zmz (fIsi "int" (fVar 0)) (zur (fIsi "bool" (fVar 0))))
def zbs:List D->Option D:=runD 1 1 zli
def zmj:FS:=sSeq (sIf (fTst (fBin dLt (fVar 1) (za9 0))) (sRet (fIxV 0 (fVar 1))) (sNil)) (sRet (fC (.int 0)))
def zie:List D->Option D:=runD 2 2 zmj
def zem:FS:=sSeq (sSet 5 (zah zie (zac (fVar 0) (zac (fVar 4) (fNil))))) (sSeq (sIf (fTst (fBin dEq (fBin dMod (za9 0) (fC (.int 2))) (fC (.int 1)))) (sSeq (sSet 3 (fBin dMod (fBin zav (fBin zav (fBin zav (fBin dMul (fVar 3) (fC (.int 48271))) (fVar 5)) (fVar 4)) (fC (.int 1))) (fC (.int 2147483647)))) (sSet 5 (fBin dMod (fBin dMul (fBin zav (fVar 3) (fVar 4)) (fC (.int 69621))) (fC (.int 2147483647))))) (sNil)) (za7 (zbi 2 (fVar 5))))
def zlj:FS:=sSeq (sOwn 2 (zat (fNil))) (sSeq (sSet 3 (fC (.int 7))) (sSeq (sFor 4 (zao iR1 (zac (fVar 1) (fNil))) (zem)) (sRet (fVar 2))))
def ze6:List D->Option D:=runD 6 2 zlj
def zif:FS:=sRet (fIxV 0 (fC (.int 1)))
def zbf:List D->Option D:=runD 1 1 zif
def zjr:FS:=sRet (fIxV 0 (fC (.int 2)))
def zb1:List D->Option D:=runD 1 1 zjr
def zjg:FS:=sRet (fTup (zac (fC (.int 1)) (zac (zah zbf (zac (fVar 0) (fNil))) (zac (zah zb1 (zac (fVar 0) (fNil))) (fNil)))))
def zde:List D->Option D:=runD 1 1 zjg
def zjh:FS:=sRet (fTup (zac (fBin zav (fIxV 0 (fC (.int 0))) (fIxV 1 (fC (.int 0)))) (zac (fBin zav (fIxV 0 (fC (.int 1))) (fIxV 1 (fC (.int 1)))) (zac (fBin zav (fIxV 0 (fC (.int 2))) (fIxV 1 (fC (.int 2)))) (fNil)))))
def zen:List D->Option D:=runD 2 2 zjh
def zkh:FS:=sRet (fTup (zac (fIxV 0 (fC (.int 1))) (zac (fIxV 0 (fC (.int 2))) (fNil))))
def zdt:List D->Option D:=runD 1 1 zkh
def zcj:FS:=sRet (fBin dGt (zah zb6 (zac (zah zdt (zac (fVar 0) (fNil))) (zac (zah zdt (zac (fVar 1) (fNil))) (fNil)))) (fC (.int 0)))
def zax:List D->Option D:=runD 2 2 zcj
def zdk:FS:=sSet 3 (zah zen (zac (fPop 1) (zac (fVar 3) (fNil))))
def zdl:FS:=sSeq (sSet 3 (zah zde (zac (fVar 2) (fNil)))) (sSeq (zea (fAnd (fTst (fBin dGt (za9 1) (fC (.int 0)))) (fNot (fTst (zah zax (zac (fIxV 1 (fUn dNeg (fC (.int 1)))) (zac (fVar 3) (fNil))))))) (zdk) 10000) (za7 (zbi 1 (fVar 3))))
def zgs:FS:=sSeq (sOwn 1 (zat (fNil))) (sSeq (sFor 2 (fiS (fVar 0)) (zdl)) (sRet (fVar 1)))
def zgt:List D->Option D:=runD 4 1 zgs
def zbk:FS:=sSeq (sIf (fAnd (fTst (fIsi "str" (fIxV 1 (fVar 2)))) (fNot (fTst (fIsi "str" (fIxV 0 (fVar 2)))))) (sRet (fC (.bl false))) (sNil)) (sSeq (sIf (fAnd (fNot (fTst (fIsi "str" (fIxV 1 (fVar 2))))) (fNot (fTst (zah zbs (zac (fIxV 0 (fVar 2)) (fNil)))))) (sRet (fC (.bl false))) (sNil)) (sIf (fTst (fBin dNe (fIxV 0 (fVar 2)) (fIxV 1 (fVar 2)))) (sRet (fC (.bl false))) (sNil)))
def zcx:FS:=sSeq (sIf (fOr (fNot (fTst (fIsi "tuple" (fVar 0)))) (fTst (fBin dNe (za9 0) (za9 1)))) (sRet (fC (.bl false))) (sNil)) (sSeq (sFor 2 (zao iR1 (zac (za9 1) (fNil))) (zbk)) (sRet (fC (.bl true))))
def zbo:List D->Option D:=runD 3 2 zcx
def zb7:FS:=sIf (fNot (fTst (zah zbo (zac (fIxV 0 (fVar 2)) (zac (fIxV 1 (fVar 2)) (fNil)))))) (sRet (fC (.bl false))) (sNil)
def zcn:FS:=sSeq (sIf (fOr (fNot (fTst (fIsi "list" (fVar 0)))) (fTst (fBin dNe (za9 0) (za9 1)))) (sRet (fC (.bl false))) (sNil)) (sSeq (sFor 2 (zao iR1 (zac (za9 1) (fNil))) (zb7)) (sRet (fC (.bl true))))
def zay:List D->Option D:=runD 3 2 zcn
def zlk:FS:=sRet (fTup (zac (fIxV 0 (fC (.int 2))) (zac (fIxV 0 (fC (.int 3))) (fNil))))
def zbt:List D->Option D:=runD 1 1 zlk
def zcd:FS:=sSet 2 (fBin zav (fVar 2) (fC (.int 1)))
def zfz:FS:=sSeq (sSet 2 (fC (.int 0))) (sSeq (zea (fAnd (fTst (fBin dLt (fVar 2) (za9 0))) (fTst (fBin dGe (zah zb6 (zac (zah zbt (zac (fIxV 0 (fVar 2)) (fNil))) (zac (zah zbt (zac (fVar 1) (fNil))) (fNil)))) (fC (.int 0))))) (zcd) 10000) (sRet (fVar 2)))
def zf0:List D->Option D:=runD 3 2 zfz
def zcy:FS:=sSeq (sSet 7 (fTup (zac (fVar 2) (zac (fVar 4) (zac (fVar 5) (zac (fVar 6) (fNil))))))) (za7 (zn3 1 (zpt zf0 (zxo 1 (zac (fVar 7) (fNil)))) (fVar 7)))
def zdu:FS:=zf9 [4,5,6] (fiS (zah zgt (zac (fVar 3) (fNil)))) (zcy)
def zhe:FS:=sSeq (sOwn 1 (zat (fNil))) (sSeq (zf9 [2,3] (zao (iEn 1) (zac (fVar 0) (fNil))) (zdu)) (sRet (fVar 1)))
def zck:List D->Option D:=runD 8 1 zhe
def zdc:FS:=sIf (fNot (fTst (zah zay (zac (fIxV 0 (fVar 2)) (zac (fIxV 1 (fVar 2)) (fNil)))))) (sRet (fC (.bl false))) (sNil)
def zdv:FS:=sSeq (sIf (fOr (fNot (fTst (fIsi "list" (fVar 0)))) (fTst (fBin dNe (za9 0) (za9 1)))) (sRet (fC (.bl false))) (sNil)) (sSeq (sFor 2 (zao iR1 (zac (za9 1) (fNil))) (zdc)) (sRet (fC (.bl true))))
def zbc:List D->Option D:=runD 3 2 zdv
def zjs:FS:=zu1 (zbq (fiS (fVar 0)) [] fYes (fLst (zao zkv (zac (fVar 0) (fNil)))))
def zjt:List D->Option (List D):=runF 1 1 zjs
def zeo:FS:=za7 (zn4 1 (fRep (zat (zac (fVar 2) (fNil))) (fVar 3)))
def zig:FS:=sSeq (sOwn 1 (zat (fNil))) (sSeq (zf9 [2,3,4,5] (fiS (zah zck (zac (fVar 0) (fNil)))) (zeo)) (zs7 1))
def zbu:List D->Option (List D):=runF 6 1 zig
def zdw:FS:=sSeq (sSet 2 (fBin zav (fVar 2) (fBin dIx (fIxV 0 (fVar 4)) (fC (.int 1))))) (sSeq (sSet 3 (fBin zav (fVar 3) (fBin dIx (fIxV 0 (fVar 4)) (fC (.int 2))))) (sIf (fTst (fBin dGe (fBin dMul (fVar 3) (fIxV 1 (fC (.int 1)))) (fBin dMul (fIxV 1 (fC (.int 2))) (fVar 2)))) (sSet 1 (fLst (zat (zac (fBin zav (fVar 4) (fC (.int 1))) (zac (fVar 2) (zac (fVar 3) (fNil))))))) (sNil)))
def zhf:FS:=sSeq (sSet 1 (fLst (zat (zac (fC (.int 0)) (zac (fC (.int 1)) (zac (fUn dNeg (fC (.int 1))) (fNil))))))) (sSeq (sSet 2 (fC (.int 0))) (sSeq (sSet 3 (fC (.int 0))) (sSeq (sFor 4 (zao iR1 (zac (za9 0) (fNil))) (zdw)) (sRet (fVar 1)))))
def zf1:List D->Option D:=runD 5 1 zhf
def zco:FS:=sIf (fTst (fBin dGt (fBin dMul (fBin dIx (fIxV 3 (fVar 5)) (fC (.int 2))) (fBin dIx (fIxV 3 (fVar 4)) (fC (.int 1)))) (fBin dMul (fBin dIx (fIxV 3 (fVar 4)) (fC (.int 2))) (fBin dIx (fIxV 3 (fVar 5)) (fC (.int 1)))))) (sSet 4 (fVar 5)) (sNil)
def zep:FS:=sSeq (sSet 3 (fLst (zbq (fiV 1) [] fYes (zah zf1 (zac (fVar 0) (fNil)))))) (sSeq (sSet 4 (fC (.int 0))) (sSeq (sFor 5 (zao iR1 (zac (za9 3) (fNil))) (zco)) (sSeq (za7 (zbi 2 (fTup (zac (fBin zav (fVar 4) (fC (.int 1))) (zac (fBin dIx (fIxV 3 (fVar 4)) (fC (.int 0))) (zac (fBin dIx (fIxV 3 (fVar 4)) (fC (.int 1))) (zac (fBin dIx (fIxV 3 (fVar 4)) (fC (.int 2))) (fNil)))))))) (zib 1 (fVar 4) (fLst (fSl (fIxV 1 (fVar 4)) (fO1 (fBin dIx (fIxV 3 (fVar 4)) (fC (.int 0)))) (fO0)))))))
def zih:FS:=sSeq (sOwn 1 (zbq (fiS (fVar 0)) [] fYes (fLst (zao zkv (zac (fVar 0) (fNil)))))) (sSeq (sOwn 2 (zat (fNil))) (sSeq (zea (fTst (fBin dGt (zah bSum (zac (fLst (zbq (fiV 1) [] fYes (za9 0))) (fNil))) (fC (.int 0)))) (zep) 10000) (sRet (fVar 2))))
def zgg:List D->Option D:=runD 6 1 zih
def zhg:FS:=sOwn 1 (fCat (fVar 1) (fLst (fRep (zat (zac (fIxV 2 (fC (.int 0))) (fNil))) (fIxV 2 (fC (.int 1))))))
def zju:FS:=sSeq (sOwn 1 (zat (fNil))) (sSeq (sFor 2 (fiS (zah zgg (zac (fVar 0) (fNil)))) (zhg)) (zs7 1))
def zcz:List D->Option (List D):=runF 3 1 zju
def zc0:FS:=sIf (fOr (fNot (fTst (zah zbs (zac (fIxV 0 (fVar 2)) (fNil))))) (fTst (fBin dNe (fIxV 0 (fVar 2)) (fIxV 1 (fVar 2))))) (sRet (fC (.bl false))) (sNil)
def zdo:FS:=sSeq (sIf (fOr (fNot (fTst (fIsi "list" (fVar 0)))) (fTst (fBin dNe (za9 0) (za9 1)))) (sRet (fC (.bl false))) (sNil)) (sSeq (sFor 2 (zao iR1 (zac (za9 1) (fNil))) (zc0)) (sRet (fC (.bl true))))
def zb2:List D->Option D:=runD 3 2 zdo
def zki:FS:=sRet (fIxV 0 (fC (.int 0)))
def zdx:List D->Option D:=runD 1 1 zki
def zhh:FS:=sIf (fOr (fTst (fBin dLt (fVar 1) (fC (.int 1)))) (fTst (fBin dGt (fVar 1) (za9 0)))) (zrn) (sNil)
def zhi:List D->Option D:=runD 2 2 zhh
def zdy:FS:=sSeq (sIf (fTst (fBin dEq (fIxV 2 (fBin dSub (fVar 3) (fC (.int 1)))) (fC (.int 0)))) (zrn) (sNil)) (zlf 2 dSub (fBin dSub (fVar 3) (fC (.int 1))) (fC (.int 1)))
def zhj:FS:=sSeq (sOwn 2 (zbq (fiS (fVar 0)) [] fYes (za9 0))) (sSeq (sFor 3 (fiS (fVar 1)) (zdy)) (sIf (fTst (fBin dGt (zxn 2) (fC (.int 0)))) (zrn) (sNil)))
def zhk:List D->Option D:=runD 4 2 zhj
def zdz:FS:=za7 (zah zhi (zac (fVar 0) (zac (fVar 2) (fNil))))
def zhl:FS:=sSeq (sFor 2 (fiS (fVar 1)) (zdz)) (za7 (zah zhk (zac (fVar 0) (zac (fVar 1) (fNil)))))
def zhm:List D->Option D:=runD 3 2 zhl
def zd0:FS:=sSeq (za7 (zbi 3 (fBin dIx (fIxV 0 (fBin dSub (fVar 4) (fC (.int 1)))) (fIxV 2 (fBin dSub (fVar 4) (fC (.int 1))))))) (zlf 2 zav (fBin dSub (fVar 4) (fC (.int 1))) (fC (.int 1)))
def zhn:FS:=sSeq (za7 (zah zhm (zac (fVar 0) (zac (fVar 1) (fNil))))) (sSeq (sOwn 2 (zbq (fiS (fVar 0)) [] fYes (fC (.int 0)))) (sSeq (sOwn 3 (zat (fNil))) (sSeq (sFor 4 (fiS (fVar 1)) (zd0)) (sRet (fVar 3)))))
def zff:List D->Option D:=runD 5 2 zhn
def zgu:FS:=sSeq (sSet 6 (fBin zav (fVar 3) (zah zbf (zac (fVar 5) (fNil))))) (sSeq (za7 (zbi 2 (fTup (zac (zah zdx (zac (fVar 5) (fNil))) (zac (fVar 4) (zac (fVar 3) (zac (fVar 6) (fNil)))))))) (sSet 3 (fVar 6)))
def zii:FS:=sSeq (sOwn 2 (zat (fNil))) (sSeq (sSet 3 (fC (.int 0))) (sSeq (zf9 [4,5] (zao iZp (zac (fVar 1) (zac (zah zff (zac (fVar 0) (zac (fVar 1) (fNil)))) (fNil)))) (zgu)) (sRet (fVar 2))))
def zgh:List D->Option D:=runD 7 2 zii
def zgi:FS:=zrt (zkc (fiS (fVar 0)) [] (zao zkv (zac (fVar 0) (fNil))))
def zgj:List D->Option (List (List D)):=zta 1 1 zgi
def zgv:FS:=sSeq (sSet 3 (fBin zav (fVar 3) (zah zbf (zac (fVar 4) (fNil))))) (sSet 2 (fBin zav (fVar 2) (fBin dMul (zah zb1 (zac (fVar 4) (fNil))) (fVar 3))))
def zij:FS:=sSeq (sSet 2 (fC (.int 0))) (sSeq (sSet 3 (fC (.int 0))) (sSeq (sFor 4 (fiS (zah zff (zac (fVar 0) (zac (fVar 1) (fNil))))) (zgv)) (sRet (fVar 2))))
def zik:List D->Option D:=runD 5 2 zij
def zeq:FS:=sSeq (za7 (zbi 3 (fBin dIx (fIxV 0 (fBin dSub (fVar 4) (fC (.int 1)))) (fIxV 2 (fBin dSub (fVar 4) (fC (.int 1))))))) (zib 2 (fBin dSub (fVar 4) (fC (.int 1))) (fBin zav (fIxV 2 (fBin dSub (fVar 4) (fC (.int 1)))) (fC (.int 1))))
def zil:FS:=sSeq (sOwn 2 (zbq (fiS (fVar 0)) [] fYes (fC (.int 0)))) (sSeq (sOwn 3 (zat (fNil))) (sSeq (sFor 4 (fiS (fVar 1)) (zeq)) (sRet (fVar 3))))
def zim:List D->Option D:=runD 5 2 zil
def zin:FS:=sRet (zah zik (zac (fVar 0) (zac (fLst (zao zbu (zac (fVar 0) (fNil)))) (fNil))))
def zgk:List D->Option D:=runD 1 1 zin
def zho:FS:=sSeq (sSet 1 (fBin zav (fVar 1) (fIxV 3 (fC (.int 1))))) (sSet 2 (fBin zav (fVar 2) (fBin dMul (fIxV 3 (fC (.int 2))) (fVar 1))))
def zjv:FS:=sSeq (sSet 1 (fC (.int 0))) (sSeq (sSet 2 (fC (.int 0))) (sSeq (sFor 3 (fiS (fVar 0)) (zho)) (sRet (fVar 2))))
def zjw:List D->Option D:=runD 4 1 zjv
def zer:FS:=sSeq (sSet 8 (fIxV 2 (fBin dSub (fVar 4) (fC (.int 1))))) (sSeq (zib 2 (fBin dSub (fVar 4) (fC (.int 1))) (fBin zav (fVar 8) (fVar 5))) (za7 (zbi 3 (fLst (fSl (fIxV 0 (fBin dSub (fVar 4) (fC (.int 1)))) (fO1 (fVar 8)) (fO1 (fBin zav (fVar 8) (fVar 5))))))))
def zio:FS:=sSeq (sOwn 2 (zbq (fiS (fVar 0)) [] fYes (fC (.int 0)))) (sSeq (sOwn 3 (zat (fNil))) (sSeq (zf9 [4,5,6,7] (fiS (fVar 1)) (zer)) (sRet (fVar 3))))
def ziq:List D->Option D:=runD 9 2 zio
def zf2:FS:=sSeq (sSet 3 (fBin zav (fVar 3) (zah zbf (zac (fVar 5) (fNil))))) (sSeq (sSet 4 (fBin zav (fVar 4) (zah zb1 (zac (fVar 5) (fNil))))) (za7 (zbi 2 (zah zef (zac (fVar 0) (zac (fTup (zac (fVar 3) (zac (fVar 4) (fNil)))) (fNil)))))))
def zhp:FS:=sSeq (sOwn 2 (zat (fNil))) (sSeq (sSet 3 (fC (.int 0))) (sSeq (sSet 4 (fC (.int 0))) (sSeq (sFor 5 (fiS (fLst (fSl (fVar 1) (fO0) (fO1 (fUn dNeg (fC (.int 1))))))) (zf2)) (sRet (fVar 2)))))
def zhq:List D->Option D:=runD 6 2 zhp
def zf3:FS:=sSeq (sIf (fTst (fBin dEq (fBin zav (fVar 1) (fC (.int 1))) (za9 0))) (sRet (fC (.int 0))) (sNil)) (sRet (zah zef (zac (zah zbt (zac (fIxV 0 (fVar 1)) (fNil))) (zac (zah zbt (zac (fIxV 0 (fBin zav (fVar 1) (fC (.int 1)))) (fNil))) (fNil)))))
def zjx:List D->Option D:=runD 2 2 zf3
def zhr:FS:=sSeq (sSet 5 (fIxV 1 (fVar 3))) (za7 (zbi 2 (fBin ztd (fVar 5) (fTup (zac (zah zhq (zac (zah zbt (zac (fVar 5) (fNil))) (zac (fVar 4) (fNil)))) (zac (zah zjx (zac (fVar 1) (zac (fVar 3) (fNil)))) (fNil)))))))
def zjy:FS:=sSeq (sSet 1 (zah zck (zac (fVar 0) (fNil)))) (sSeq (sOwn 2 (zat (fNil))) (sSeq (zf9 [3,4] (zao (iEn 0) (zac (zah ziq (zac (fVar 0) (zac (fVar 1) (fNil)))) (fNil))) (zhr)) (sRet (fVar 2))))
def zhs:List D->Option D:=runD 6 1 zjy
def zgw:FS:=sSeq (sSet 4 (fBin zav (fVar 4) (fIxV 6 (fC (.int 1))))) (sSeq (sSet 5 (fBin zav (fVar 5) (fIxV 6 (fC (.int 2))))) (za7 (zbi 3 (fBin dSub (fBin dMul (fVar 2) (fVar 4)) (fBin dMul (fVar 1) (fVar 5))))))
def zir:FS:=sSeq (sOwn 3 (zat (fNil))) (sSeq (sSet 4 (fC (.int 0))) (sSeq (sSet 5 (fC (.int 0))) (sSeq (sFor 6 (fiS (fLst (fSl (fVar 0) (fO0) (fO1 (fBin dSub (za9 0) (fC (.int 1))))))) (zgw)) (sRet (fVar 3)))))
def zis:List D->Option D:=runD 7 3 zir
def zeg:FS:=sSeq (sUnp [5,6,7,8] (fIxV 2 (fVar 4))) (sSeq (sSet 9 (fC (.int 0))) (sSeq (sIf (fTst (fBin dLt (fBin zav (fVar 4) (fC (.int 1))) (za9 2))) (sSet 9 (fBin dSub (fBin dMul (fVar 8) (fBin dIx (fIxV 2 (fBin zav (fVar 4) (fC (.int 1)))) (fC (.int 2)))) (fBin dMul (fBin dIx (fIxV 2 (fBin zav (fVar 4) (fC (.int 1)))) (fC (.int 3))) (fVar 7)))) (sNil)) (sSeq (sSet 10 (zah zis (zac (fLst (fSl (fIxV 3 (fBin dSub (fVar 5) (fC (.int 1)))) (fO0) (fO1 (fVar 6)))) (zac (fVar 7) (zac (fVar 8) (fNil)))))) (sSeq (zib 3 (fBin dSub (fVar 5) (fC (.int 1))) (fLst (fSl (fIxV 3 (fBin dSub (fVar 5) (fC (.int 1)))) (fO1 (fVar 6)) (fO0)))) (sSeq (sSet 11 (fIxV 0 (fVar 4))) (sSeq (sIf (fOr (fNot (fTst (fIsi "tuple" (fVar 11)))) (fOr (fTst (fBin dNe (za9 11) (fC (.int 6)))) (fNot (fTst (zah zbo (zac (fSlT (fVar 11) (fO0) (fO1 (fC (.int 4)))) (zac (fIxV 2 (fVar 4)) (fNil)))))))) (sRet (fC (.bl false))) (sNil)) (sIf (fOr (fNot (fTst (zah zb2 (zac (fIxV 11 (fC (.int 4))) (zac (fVar 10) (fNil)))))) (fOr (fNot (fTst (zah zbs (zac (fIxV 11 (fC (.int 5))) (fNil))))) (fTst (fBin dNe (fIxV 11 (fC (.int 5))) (fVar 9))))) (sRet (fC (.bl false))) (sNil))))))))
def zf4:FS:=sSeq (sSet 2 (zah zgg (zac (fVar 1) (fNil)))) (sSeq (sOwn 3 (zao zjt (zac (fVar 1) (fNil)))) (sSeq (sIf (fOr (fNot (fTst (fIsi "list" (fVar 0)))) (fTst (fBin dNe (za9 0) (za9 2)))) (sRet (fC (.bl false))) (sNil)) (sSeq (sFor 4 (zao iR1 (zac (za9 2) (fNil))) (zeg)) (sRet (fC (.bl true))))))
def zf5:List D->Option D:=runD 12 2 zf4
def zgx:FS:=sRet (zah bSum (zac (fLst (zbq (fiS (fVar 0)) [] fYes (za9 0))) (fNil)))
def zes:List D->Option D:=runD 1 1 zgx
def zd1:FS:=sSet 1 (fBin zav (fVar 1) (zah bSum (zac (fLst (zbq (fiS (fVar 2)) [] fYes (zah zb1 (zac (fVar 0) (fNil))))) (fNil))))
def zht:FS:=sSeq (sSet 1 (fC (.int 0))) (sSeq (sFor 2 (fiS (fVar 0)) (zd1)) (sRet (fVar 1)))
def zhu:List D->Option D:=runD 3 1 zht
def zk4:FS:=sRet (fBin dIx (fIxV 0 (fBin dSub (fVar 1) (fC (.int 1)))) (fC (.int 0)))
def zk5:List D->Option D:=runD 2 2 zk4
def zit:FS:=sRet (fLst (fCat (fLst (fCat (fLst (fSl (fVar 0) (fO0) (fO1 (fBin dSub (fVar 1) (fC (.int 1)))))) (fLst (zat (zac (fVar 2) (fNil)))))) (fLst (fSl (fVar 0) (fO1 (fVar 1)) (fO0)))))
def zdr:List D->Option D:=runD 3 3 zit
def zhv:FS:=sRet (zah zdr (zac (fVar 0) (zac (fVar 1) (zac (fLst (fSl (fIxV 0 (fBin dSub (fVar 1) (fC (.int 1)))) (fO1 (fC (.int 1))) (fO0))) (fNil)))))
def zhw:List D->Option D:=runD 2 2 zhv
theorem z55(ns:List Int)(k:Nat):∃c,zie [.lst (ns.map D.int),.int k]=some (.int c):=by
 by_cases h:(k:Int)<ns.length
 ·obtain⟨x,h1,h2⟩:=z4d (xs:=ns.map D.int) (i:=(k:Int)) (by omega) (by simpa using h)
  rw[List.getElem?_map] at h2
  cases q:ns[(k:Int).toNat]? with
  | none=>rw[q] at h2;cases h2
  | some c =>
    rw[q] at h2;cases h2
    refine⟨c,?_⟩
    simp[zie,runD,zmj,za8,h,h1]
 ·refine⟨0,?_⟩
  simp[zie,runD,zmj,za8,h]
theorem zx3(ns:List Int)(n:Nat)(hn:n<=1000):∃cs:List Int,cs.length=n/\ze6 [.lst (ns.map D.int),.int n]=some (.lst (cs.map D.int)):=by
 have loop:=zcm (i:=4) (g:=zem)
  (fun k e=>∃(cs:List Int) (st:Int) (v4 v5:Option Sl),cs.length=k/\e=[some (.sh (.lst (ns.map D.int))),some (.sh (.int n)),some (.ow (cs.map D.int)),some (.sh (.int st)),v4,v5])
  (rngD 0 n) [some (.sh (.lst (ns.map D.int))),some (.sh (.int n)),some (.ow []),some (.sh (.int 7)),none,none] ⟨[],7,none,none,rfl,rfl⟩ ?_
 ·obtain⟨e',h1,cs,st,v4,v5,hl,rfl⟩:=loop
  refine⟨cs,by rw[hl,zb0],?_⟩
  have hb:=ze4 n (by omega)
  simp[ze6,runD,zlj,za8,hb,h1]
 ·rintro k d e hd ⟨cs,st,v4,v5,hl,rfl⟩
  obtain⟨rfl,hk⟩:=zdj hd
  obtain⟨c,hc⟩:=z55 ns k
  have hcl:Few (cs.length+1):=few (by omega)
  by_cases hp:(ns.length:Int) % 2=1
  ·refine⟨_,?_,cs++[((st*48271+c+k+1) % 2147483647+k)*69621 % 2147483647],(st*48271+c+k+1) % 2147483647,some (.sh (.int (0+k))),some (.sh (.int (((st*48271+c+k+1) % 2147483647+k)*69621 % 2147483647))),by simp[hl],rfl⟩
   have s1:zfb 48271:=zek (by decide)
   have s2:zfb 69621:=zek (by decide)
   simp[zem,hc,hp,dMod,dMul,s1,s2,hcl]
  ·refine⟨_,?_,cs++[c],st,some (.sh (.int (0+k))),some (.sh (.int c)),by simp[hl],rfl⟩
   simp[zem,hc,hp,dMod,hcl]
theorem zvo(a b c d:Int)(hb:zfb b)(hd:zfb d) :
  zef [.tup [.int a,.int b],.tup [.int c,.int d]]=some (.int (b*c-d*a)):=by
 simp[zef,runD,zmi,za8,dMul,hb,hd,atI,ixN]
theorem zsc(a b c d:Int)(hb:zfb b)(hd:zfb d) :
  zb6 [.tup [.int a,.int b],.tup [.int c,.int d]]=some (.int (if d*a<b*c then 1 else if b*c<d*a then -1 else 0)):=by
 have hg:=zvo a b c d hb hd
 by_cases h1:d*a<b*c
 ·have h3:0<b*c-d*a:=by omega
  simp[zb6,runD,zgf,za8,hg,h1,h3]
 ·have h3:¬0<b*c-d*a:=by omega
  by_cases h2:b*c<d*a
  ·have h4:b*c-d*a<0:=by omega
   simp[zb6,runD,zgf,za8,hg,h1,h2,h3,h4]
  ·have h4:¬b*c-d*a<0:=by omega
   simp[zb6,runD,zgf,za8,hg,h1,h2,h3,h4]
theorem zgl(i:Int):zbs [.int i]=some (.bl true):=by
 simp[zbs,runD,zli,za8]
abbrev Sk:=Int×Int×Int
def sD(s:Sk):D:=.tup [.int s.1,.int s.2.1,.int s.2.2]
def zbg(s:Sk):Prop:=1<=s.1/\s.1<=60/\1<=s.2.1/\s.2.1<=60/\0<=s.2.2/\s.2.2<=100
theorem b3:Bnd 1 1073741824 3:=⟨by decide,by decide⟩
variable{n i:Nat}
theorem zeh{i:Int}(h0:0<=i)(h1:i<n):ixN n i=some i.toNat:=by unfold ixN;rw[if_pos h0,if_pos h1]
noncomputable def hl:FS:=sSeq (sSet 10 (fBin zav (fC (.int 1)) (fBin dMod (fVar 9) (fC (.int 60))))) (sSeq (sSet 11 (fBin dMod (fBin dDiv (fVar 9) (fC (.int 60))) (fC (.int 101)))) (sSeq (sIf (fTst (fBin dEq (fVar 4) (fC (.int 1)))) (sSeq (sSet 10 (fBin zav (fC (.int 1)) (fBin dMod (fVar 9) (fBin dSub (fC (.int 4)) (fBin dMul (fC (.int 2)) (fVar 5)))))) (sSet 11 (fBin dMod (fBin dDiv (fVar 9) (fC (.int 60))) (fBin dSub (fC (.int 4)) (fBin dMul (fC (.int 2)) (fVar 5)))))) (sNil)) (sSeq (sIf (fTst (fBin dEq (fVar 4) (fC (.int 2)))) (sSeq (sSet 10 (fBin dIx (fLst (zat (zac (fC (.int 1)) (zac (fC (.int 60)) (zac (fC (.int 2)) (zac (fC (.int 59)) (fNil))))))) (fBin dMod (fVar 9) (fC (.int 4))))) (sSet 11 (fBin dIx (fLst (zat (zac (fC (.int 0)) (zac (fC (.int 100)) (zac (fC (.int 1)) (zac (fC (.int 99)) (fNil))))))) (fBin dMod (fBin dDiv (fVar 9) (fC (.int 60))) (fC (.int 4)))))) (sNil)) (sIf (fTst (fBin dEq (fVar 4) (fC (.int 3)))) (sSeq (sSet 10 (fBin dIx (fLst (zat (zac (fVar 10) (zac (fBin zav (fC (.int 58)) (fBin dMod (fVar 9) (fC (.int 3)))) (fNil))))) (fVar 5))) (sSet 11 (fVar 10))) (sNil)))))
noncomputable def pl:FS:=sSeq (sSet 12 (fBin dMod (fBin dIx (fLst (zat (zac (fBin dDiv (fVar 9) (fC (.int 6060))) (zac (fVar 8) (fNil))))) (fBin dMul (fBin dDiv (fVar 4) (fC (.int 3))) (fVar 5))) (fVar 2))) (sSeq (sSet 13 (z32 7 (fBin dMod (fBin dDiv (fVar 9) (fC (.int 30300))) (za9 7)))) (za7 (zw5 6 (fVar 12) (fTup (zac (fVar 13) (zac (fVar 10) (zac (fVar 11) (fNil))))))))
def z6h(s:List Sk):List Sk:=match s.getLast? with
 | none=>[]
 | some x=>s.dropLast++[(x.1,x.2.1,x.2.2+1)]
structure SInv (menu:Int) (many k:Nat) (sss:List (List Sk)) (pool:List Int):Prop where
 len:sss.length=many
 tot:sss.flatten.length=k
 good:∀x∈sss.flatten,zbg x/\(menu=3->x.2.2<=60)
 perm:(pool++sss.flatten.map (·.1)).Perm (rngL 1 61)
variable{menu:Int}{many k j:Nat}{sss:List (List Sk)}{pool:List Int}{s:List Sk}{l:Option Nat}
theorem SInv.step{z hh l:Int}(h:SInv menu many k sss pool)(hj:sss[j]?=some s)(hn:pool[n]?=some z)(hb:1<=hh/\hh<=60/\0<=l/\l<=100/\(menu=3->l<=60)) :
  SInv menu many (k+1) (sss.set j (s++[(z,hh,l)])) (pool.eraseIdx n):=by
 have p1:=zr0 (x:=((z,hh,l):Sk)) hj
 have p2:=znk hn
 have pp:((pool.eraseIdx n)++(sss.set j (s++[(z,hh,l)])).flatten.map (·.1)).Perm (rngL 1 61):=by
  refine .trans (List.Perm.append_left _ (p1.map (·.1))) ?_
  refine .trans ?_ h.perm
  refine .trans ?_ (List.Perm.append_right _ p2.symm)
  simp only[List.map_cons,List.cons_append]
  exact List.perm_middle
 refine⟨by rw[List.length_set];exact h.len,by rw[p1.length_eq,List.length_cons,h.tot],fun x hx=>?_,pp⟩
 have hx':=p1.mem_iff.mp hx
 rcases List.mem_cons.mp hx' with rfl | hx'
 ·have hz:z∈rngL 1 61:=h.perm.mem_iff.mp (List.mem_append_left _ (List.mem_of_getElem? hn))
  rw[zve] at hz
  obtain⟨m,hm,rfl⟩:=List.mem_map.mp hz
  have hm:=List.mem_range.mp hm
  refine⟨⟨?_,?_,hb.1,hb.2.1,hb.2.2.1,hb.2.2.2.1⟩,hb.2.2.2.2⟩
  ·show 1<=1+(m:Int);omega
  ·show 1+(m:Int)<=60;omega
 ·exact h.good x hx'
structure Stk (most:Nat) (ss:List (List Sk)):Prop where
 many:ss.length<=5
 tot:ss.flatten.length<=most
 good:∀x∈ss.flatten,zbg x
 nd:(ss.flatten.map (·.1)).Nodup
theorem ztf(i j:Int):(rngL i j).Nodup:=by
 rw[zve]
 exact List.Pairwise.map _ (fun a b h z=>h (by omega)) List.nodup_range
theorem SInv.stk{most:Nat}(h:SInv menu many k sss pool)(hm:many<=5)(hk:k<=most):Stk most sss :=
 ⟨by rw[h.len];exact hm,by rw[h.tot];exact hk,fun x hx=>(h.good x hx).1,(List.nodup_append.mp (h.perm.nodup_iff.mpr (ztf 1 61))).2.1⟩
theorem ztg(ds:List D):zkb (zat fNil) [] ds=some (ds.map fun _=>[]):=by
 have:=zky (te:=zat fNil) (base:=[]) (fun d:D=>d) (fun _=>([]:List D)) ds fun x _=>⟨_,rfl⟩
 simpa using this
def iT(xs:List Int):D:=.tup (xs.map D.int)
variable{α:Type}
theorem zbp(f:α->D){xs:List α}{x:α}(h:xs[k]?=some x):atI (xs.map f) (k:Int)=some (f x):=by
 have hl:=(List.getElem?_eq_some_iff.mp h).1
 unfold atI
 rw[zeh (by omega) (by rw[List.length_map];omega)]
 simp[h]
theorem zjz(xs:List Int)(hl:xs.length<=1000):zbo [iT xs,iT xs]=some (.bl true):=by
 obtain⟨e',h1,v2,rfl⟩:=zcm (i:=2) (g:=zbk) (fun k e=>∃v2,e=[some (.sh (iT xs)),some (.sh (iT xs)),v2]) (rngD 0 xs.length) [some (.sh (iT xs)),some (.sh (iT xs)),none] ⟨none,rfl⟩ (by
  rintro k d e hd ⟨v2,rfl⟩
  obtain⟨rfl,hk⟩:=zdj hd
  have ha:atI (xs.map D.int) (k:Int)=some (.int xs[k]):=zbp D.int (by simp[hk])
  exact⟨[some (.sh (iT xs)),some (.sh (iT xs)),some (.sh (.int (0+k)))],by simp[zbk,iT,ha,zgl],_,rfl⟩)
 have hi:=ze4 xs.length (by omega)
 refine za4 (e':=?w) rfl ?h
 rotate_left
 show zcx [some (.sh (iT xs)),some (.sh (iT xs)),none]=_
 have h1':forL 2 zbk (rngD 0 xs.length) [some (.sh (.tup (xs.map D.int))),some (.sh (.tup (xs.map D.int))),none]=some (.nx,[some (.sh (.tup (xs.map D.int))),some (.sh (.tup (xs.map D.int))),v2]):=h1
 simp[zcx,iT,hi,h1']
 rfl
theorem ziu(f:α->List Int)(xs:List α)(hl:xs.length<=1000)(hr:∀x∈xs,(f x).length<=1000):zay [.lst (xs.map fun x=>iT (f x)),.lst (xs.map fun x=>iT (f x))]=some (.bl true):=by
 obtain⟨e',h1,v2,rfl⟩:=zcm (i:=2) (g:=zb7) (fun k e=>∃v2,e=[some (.sh (.lst (xs.map fun x=>iT (f x)))),some (.sh (.lst (xs.map fun x=>iT (f x)))),v2]) (rngD 0 xs.length) [some (.sh (.lst (xs.map fun x=>iT (f x)))),some (.sh (.lst (xs.map fun x=>iT (f x)))),none] ⟨none,rfl⟩ (by
  rintro k d e hd ⟨v2,rfl⟩
  obtain⟨rfl,hk⟩:=zdj hd
  have ha:atI (xs.map fun x=>iT (f x)) (k:Int)=some (iT (f xs[k])):=zbp _ (by simp[hk])
  have hs:=zjz (f xs[k]) (hr _ (List.getElem_mem hk))
  exact⟨[some (.sh (.lst (xs.map fun x=>iT (f x)))),some (.sh (.lst (xs.map fun x=>iT (f x)))),some (.sh (.int (0+k)))],by simp[zb7,ha,hs],_,rfl⟩)
 have hi:=ze4 xs.length (by omega)
 refine za4 (e':=?w) rfl ?h
 rotate_left
 show zcn [some (.sh (.lst (xs.map fun x=>iT (f x)))),some (.sh (.lst (xs.map fun x=>iT (f x)))),none]=_
 simp[zcn,hi,h1]
 rfl
abbrev Bk:=Int×Int×Int
def hrs(r:List Sk):Int:=(r.map (·.2.1)).sum
def lss(r:List Sk):Int:=(r.map (·.2.2)).sum
def blk(r:List Sk):Bk:=(r.length,hrs r,lss r)
def jn(u b:Bk):Bk:=(u.1+b.1,u.2.1+b.2.1,u.2.2+b.2.2)
def gt(u b:Bk):Prop:=b.2.2*u.2.1<u.2.2*b.2.1
instance (u b:Bk):Decidable (gt u b):=inferInstanceAs (Decidable (_<_))
def SmB(b:Bk):Prop:=zfb b.2.1/\zfb b.2.2
theorem zvp(s:Sk):zde [sD s]=some (sD (1,s.2.1,s.2.2)):=by
 obtain⟨n,h,l⟩:=s
 have e1:zbf [sD (n,h,l)]=some (.int h):=by simp[zbf,runD,zif,za8,sD,zn9]
 have e2:zb1 [sD (n,h,l)]=some (.int l):=by simp[zb1,runD,zjr,za8,sD,zoa]
 simp[zde,runD,zjg,za8,e1,e2]
 rfl
theorem zvq(u b:Bk):zen [sD u,sD b]=some (sD (jn u b)):=by
 obtain⟨a1,a2,a3⟩:=u
 obtain⟨b1,b2,b3⟩:=b
 simp[zen,runD,zjh,za8,sD,z0y,zn9,zoa,jn]
theorem zth(u b:Bk)(hu:SmB u)(hb:SmB b):zax [sD u,sD b]=some (.bl (decide (gt u b))):=by
 obtain⟨a1,a2,a3⟩:=u
 obtain⟨b1,b2,b3⟩:=b
 have e1:∀x y z:Int,zdt [sD (x,y,z)]=some (.tup [.int y,.int z]):=fun x y z=>by simp[zdt,runD,zkh,za8,sD,zn9,zoa]
 have e2:=zsc a2 a3 b2 b3 hu.2 hb.2
 by_cases h1:b3*a2<a3*b2
 ·rw[if_pos h1] at e2
  simp[zax,runD,zcj,za8,e1,e2,gt,h1]
 ·rw[if_neg h1] at e2
  by_cases h2:a3*b2<b3*a2
  ·rw[if_pos h2] at e2
   simp[zax,runD,zcj,za8,e1,e2,gt,h1]
  ·rw[if_neg h2] at e2
   simp[zax,runD,zcj,za8,e1,e2,gt,h1]
theorem zvr(bs:List D)(x:D):atI (bs++[x]) (-1)=some x:=zwq bs x
theorem zdp(a b:List Sk):hrs (a++b)=hrs a+hrs b:=by simp[hrs]
theorem zfd(a b:List Sk):lss (a++b)=lss a+lss b:=by simp[lss]
theorem z4l(a b:List Sk):jn (blk a) (blk b)=blk (a++b):=by
 simp only[jn,blk,zdp,zfd,List.length_append]
 simp
theorem zmk(r:List Sk)(h:∀x∈r,zbg x):(r.length:Int)<=hrs r/\hrs r<=60*r.length/\0<=lss r/\lss r<=100*r.length:=by
 induction r with
 | nil=>simp[hrs,lss]
 | cons x r ih =>
   obtain⟨h1,h2,h3,h4⟩:=ih fun y hy=>h y (List.mem_cons_of_mem _ hy)
   obtain⟨_,_,g1,g2,g3,g4⟩:=h x List.mem_cons_self
   simp only[hrs,lss,List.map_cons,List.sum_cons,List.length_cons] at h1 h2 h3 h4 ⊢
   omega
theorem smB(r:List Sk)(h:∀x∈r,zbg x)(hl:r.length<=1000):SmB (blk r):=by
 obtain⟨h1,h2,h3,h4⟩:=zmk r h
 exact⟨zek (by show -1000000000000<hrs r/\hrs r<1000000000000;omega),zek (by show -1000000000000<lss r/\lss r<1000000000000;omega)⟩
def zga:List (List Sk)->List Sk->List (List Sk)×List Sk
 | [],b=>([],b)
 | u::r,b=>if gt (blk u) (blk b) then(u::r,b) else zga r (u++b)
def bD(r:List Sk):D:=sD (blk r)
theorem zqs(v0 v2:Option Sl)(bs:List D)(u b:List Sk):zdk [v0,some (.ow (bs++[bD u])),v2,some (.sh (bD b))]=some (.nx,[v0,some (.ow bs),v2,some (.sh (bD (u++b)))]):=by
 have e:=zvq (blk u) (blk b)
 rw[z4l] at e
 simp[zdk,bD,e]
theorem zse(v0 v2:Option Sl):∀(n:Nat) (rs:List (List Sk)) (b:List Sk),rs.length<n->(∀r∈rs,∀x∈r,zbg x)->(∀x∈b,zbg x)->(rs.flatten.length+b.length<=1000) ->
  zea (fAnd (fTst (fBin dGt (za9 1) (fC (.int 0)))) (fNot (fTst (zah zax (zac (fIxV 1 (fUn dNeg (fC (.int 1)))) (zac (fVar 3) (fNil))))))) zdk n
   [v0,some (.ow (rs.reverse.map bD)),v2,some (.sh (bD b))]=some (.nx,[v0,some (.ow ((zga rs b).1.reverse.map bD)),v2,some (.sh (bD (zga rs b).2))])
 | 0,r,b,h,_,_,_=>by omega
 | n+1,[],b,_,_,_,_=>by simp[zea,zga]
 | n+1,u::r,b,h,hs,hb,hl=>by
   rw[List.flatten_cons,List.length_append] at hl
   have hg:zax [bD u,bD b]=some (.bl (decide (gt (blk u) (blk b)))):=zth (blk u) (blk b) (smB u (hs u (by simp)) (by omega)) (smB b hb (by omega))
   have hp:(0:Int)<(r.length:Int)+1:=by omega
   have hbd:=zqs v0 v2 (r.reverse.map bD) u b
   unfold zea
   rw[List.reverse_cons,List.map_append,List.map_cons,List.map_nil]
   by_cases h1:gt (blk u) (blk b)
   ·simp[zga,h1,hg,hp,zvr]
   ·have ih:=zse v0 v2 n r (u++b) (by simpa using h) (fun t ht=>hs t (by simp[ht])) (fun x hx=>by
     rcases List.mem_append.mp hx with hx | hx
     ·exact hs u (by simp) x hx
     ·exact hb x hx) (by rw[List.length_append];omega)
    have e1:zga (u::r) b=zga r (u++b):=by simp[zga,h1]
    rw[e1]
    have hc:(fAnd (fTst (fBin dGt (za9 1) (fC (.int 0)))) (fNot (fTst (zah zax (zac (fIxV 1 (fUn dNeg (fC (.int 1)))) (zac (fVar 3) (fNil)))))))
      [v0,some (.ow (r.reverse.map bD++[bD u])),v2,some (.sh (bD b))]=some (true,[v0,some (.ow (r.reverse.map bD++[bD u])),v2,some (.sh (bD b))]):=by
     simp[h1,hg,hp,zvr]
    rw[hc,Option.bind_some]
    dsimp only
    rw[if_pos rfl,hbd,Option.bind_some]
    exact ih
structure Good (r:List Sk):Prop where
 ne:r≠[]
 beg:∀p,p <+: r->lss p*hrs r<=lss r*hrs p
theorem zzb(r:List Sk)(h:∀x∈r,zbg x):0<=hrs r:=by have:=zmk r h;omega
theorem zgy(r:List Sk)(h:∀x∈r,zbg x)(ne:r≠[]):0<hrs r:=by
 have h1:=zmk r h
 have:0<r.length:=List.length_pos_iff.mpr ne
 omega
theorem zqt{α:Type}:∀ {u b p:List α},p <+: u++b->p <+: u\/∃t,p=u++t/\t <+: b
 | [],b,p,h=>.inr ⟨p,rfl,h⟩
 | a::u,b,[],h=>.inl List.nil_prefix
 | a::u,b,c::p,h=>by
   rw[List.cons_append,List.cons_prefix_cons] at h
   obtain⟨rfl,h⟩:=h
   rcases zqt h with h | ⟨t,rfl,ht⟩
   ·exact .inl (by rw[List.cons_prefix_cons];exact⟨rfl,h⟩)
   ·exact .inr ⟨t,rfl,ht⟩
variable{b:Bk}
theorem Good.join{u b:List Sk}(gu:Good u)(gb:Good b)(hu:∀x∈u,zbg x)(hb:∀x∈b,zbg x)(h:¬gt (blk u) (blk b)):Good (u++b):=by
 have h':lss u*hrs b<=lss b*hrs u:=Int.not_lt.mp h
 have pu:=zgy u hu gu.ne
 have pb:=zgy b hb gb.ne
 refine⟨by simp[gu.ne],fun p hp=>?_⟩
 rw[zdp,zfd]
 rcases zqt hp with hp | ⟨t,rfl,ht⟩
 ·-- within u
  have h1:=gu.beg p hp
  have pp:0<=hrs p:=zzb p fun x hx=>hu x (hp.subset hx)
  have a1:lss p*hrs u*(hrs u+hrs b)<=lss u*hrs p*(hrs u+hrs b):=Int.mul_le_mul_of_nonneg_right h1 (by omega)
  have a2:hrs p*(lss u*hrs b)<=hrs p*(lss b*hrs u):=Int.mul_le_mul_of_nonneg_left h' pp
  have a3:lss p*(hrs u+hrs b)*hrs u<=(lss u+lss b)*hrs p*hrs u:=by
   have e1:lss p*(hrs u+hrs b)*hrs u=lss p*hrs u*(hrs u+hrs b):=by rw[Int.mul_assoc,Int.mul_comm (hrs u+hrs b),← Int.mul_assoc]
   have e2:lss u*hrs p*(hrs u+hrs b)=lss u*hrs p*hrs u+hrs p*(lss u*hrs b):=by rw[Int.mul_add,Int.mul_comm (lss u) (hrs p),Int.mul_assoc (hrs p) (lss u) (hrs b)]
   have e3:(lss u+lss b)*hrs p*hrs u=lss u*hrs p*hrs u+hrs p*(lss b*hrs u):=by rw[Int.add_mul,Int.add_mul,Int.mul_comm (lss b) (hrs p),Int.mul_assoc (hrs p) (lss b) (hrs u)]
   omega
  exact Int.le_of_mul_le_mul_right a3 pu
 ·-- u and a beginning of b
  rw[zdp,zfd]
  have h1:=gb.beg t ht
  obtain⟨q,rfl⟩:=ht
  rw[zdp,zfd] at h1 h' ⊢
  rw[zdp] at pb
  have nq:0<=hrs q:=zzb q fun x hx=>hb x (List.mem_append_right _ hx)
  have b1:lss t*hrs q<=lss q*hrs t:=by
   have e1:lss t*(hrs t+hrs q)=lss t*hrs t+lss t*hrs q:=Int.mul_add _ _ _
   have e2:(lss t+lss q)*hrs t=lss t*hrs t+lss q*hrs t:=Int.add_mul _ _ _
   omega
  have b2:lss u*(hrs t+hrs q)*hrs q<=(lss t+lss q)*hrs u*hrs q:=Int.mul_le_mul_of_nonneg_right h' nq
  have nu:0<=hrs u:=by omega
  have b3:hrs u*(lss t*hrs q)<=hrs u*(lss q*hrs t):=Int.mul_le_mul_of_nonneg_left b1 nu
  have b4:lss u*hrs q*(hrs t+hrs q)<=lss q*hrs u*(hrs t+hrs q):=by
   have e1:lss u*hrs q*(hrs t+hrs q)=lss u*(hrs t+hrs q)*hrs q:=by rw[Int.mul_assoc,Int.mul_comm (hrs q),← Int.mul_assoc]
   have e2:(lss t+lss q)*hrs u*hrs q=hrs u*(lss t*hrs q)+lss q*hrs u*hrs q:=by rw[Int.add_mul,Int.add_mul,Int.mul_comm (lss t) (hrs u),Int.mul_assoc (hrs u) (lss t) (hrs q)]
   have e3:lss q*hrs u*(hrs t+hrs q)=hrs u*(lss q*hrs t)+lss q*hrs u*hrs q:=by rw[Int.mul_add,Int.mul_comm (lss q) (hrs u),Int.mul_assoc (hrs u) (lss q) (hrs t)]
   omega
  have b5:lss u*hrs q<=lss q*hrs u:=Int.le_of_mul_le_mul_right b4 pb
  simp only[Int.mul_add,Int.add_mul]
  have c1:=Int.mul_comm (lss u) (hrs u)
  omega
def Desc:List (List Sk)->Prop
 | []=>True
 | [_]=>True
 | b::u::r=>gt (blk u) (blk b)/\Desc (u::r)
structure Runs (rs:List (List Sk)) (s:List Sk):Prop where
 flat:rs.reverse.flatten=s
 good:∀r∈rs,Good r
 desc:Desc rs
theorem zsf:∀(rs:List (List Sk)) (b:List Sk) (s:List Sk),Runs rs s->Good b->(∀x∈s++b,zbg x)->Runs ((zga rs b).2::(zga rs b).1) (s++b)
 | [],b,s,h,gb,_=>by
   have:s=[]:=by have:=h.flat;simpa using this.symm
   subst this
   exact⟨by simp[zga],fun r hr=>by simp[zga] at hr;rw[hr];exact gb,trivial⟩
 | u::r,b,s,h,gb,hx=>by
   have hf:s=r.reverse.flatten++u:=by rw[← h.flat];simp
   by_cases h1:gt (blk u) (blk b)
   ·have e:zga (u::r) b=(u::r,b):=by simp[zga,h1]
    rw[e]
    refine⟨by simp[hf],fun t ht=>?_,h1,h.desc⟩
    rcases List.mem_cons.mp ht with rfl | ht
    ·exact gb
    ·exact h.good t ht
   ·have e:zga (u::r) b=zga r (u++b):=by simp[zga,h1]
    rw[e]
    have hr:Runs r r.reverse.flatten:=⟨rfl,fun t ht=>h.good t (List.mem_cons_of_mem _ ht),by
     have:=h.desc
     cases r with
     | nil=>trivial
     | cons v r=>exact this.2⟩
    have gj:Good (u++b):=(h.good u (by simp)).join gb (fun x hx'=>hx x (by rw[hf];simp[hx'])) (fun x hx'=>hx x (by simp[hx'])) h1
    have:=zsf r (u++b) r.reverse.flatten hr gj (fun x hx'=>hx x (by rw[hf];simpa[or_assoc] using hx'))
    rw[hf,List.append_assoc]
    exact this
theorem zx4(x:Sk)(h:zbg x):Good [x]:=⟨by simp,fun p hp=>by
 have:p=[]\/p=[x]:=by
  obtain⟨t,ht⟩:=hp
  cases p with
  | nil=>exact .inl rfl
  | cons y q=>simp at ht;simp[ht]
 rcases this with rfl | rfl
 ·simp[lss,hrs]
 ·exact Int.le_refl _⟩
theorem zvs(x:Sk):zde [sD x]=some (bD [x]):=by
 rw[zvp]
 simp[bD,blk,hrs,lss]
theorem zqu(S:D)(rs:List (List Sk))(s:List Sk)(x:Sk)(v2 v3:Option Sl)(h:Runs rs s)(hg:∀y∈s++[x],zbg y)(hl:s.length<900) :
  ∃rs' v3',Runs rs' (s++[x])/\zdl [some (.sh S),some (.ow (rs.reverse.map bD)),some (.sh (sD x)),v3]=some (.nx,[some (.sh S),some (.ow (rs'.reverse.map bD)),some (.sh (sD x)),v3']):=by
 have hfl:rs.flatten.length=s.length:=by
  rw[← h.flat,List.length_flatten,List.length_flatten,List.map_reverse,List.sum_reverse]
 have hrl:rs.length<=s.length:=by
  rw[← hfl]
  have:∀(l:List (List Sk)),(∀r∈l,r≠[])->l.length<=l.flatten.length:=fun l=>by
   induction l with
   | nil=>intro _;simp
   | cons a l ih =>
     intro hh
     have:=ih fun r hr=>hh r (List.mem_cons_of_mem _ hr)
     have ha:0<a.length:=List.length_pos_iff.mpr (hh a List.mem_cons_self)
     rw[List.length_cons,List.flatten_cons,List.length_append]
     omega
  exact this rs fun r hr=>(h.good r hr).ne
 have hw:=zse (some (.sh S)) (some (.sh (sD x))) 10000 rs [x] (by omega) (fun r hr y hy=>hg y (by
  rw[← h.flat]
  exact List.mem_append_left _ (List.mem_flatten.mpr ⟨r,by simpa using hr,hy⟩))) (fun y hy=>hg y (by simp at hy;simp[hy])) (by rw[hfl];simp;omega)
 have hr:=zsf rs [x] s h (zx4 x (hg x (by simp))) hg
 refine⟨_,some (.sh (bD (zga rs [x]).2)),hr,?_⟩
 have hlen:(zga rs [x]).1.length<=s.length:=by
  have e:=hr.flat
  have:∀(l:List (List Sk)),(∀r∈l,r≠[])->l.length<=l.flatten.length:=fun l=>by
   induction l with
   | nil=>intro _;simp
   | cons a l ih =>
     intro hh
     have:=ih fun r hr=>hh r (List.mem_cons_of_mem _ hr)
     have ha:0<a.length:=List.length_pos_iff.mpr (hh a List.mem_cons_self)
     rw[List.length_cons,List.flatten_cons,List.length_append]
     omega
  have h2:=this _ fun r hr'=>(hr.good r hr').ne
  have h3:(((zga rs [x]).2::(zga rs [x]).1).flatten).length=(s++[x]).length:=by
   rw[← e,List.length_flatten,List.length_flatten,List.map_reverse,List.sum_reverse]
  rw[h3] at h2
  simp at h2
  exact h2
 have hf:Few ((zga rs [x]).1.length+1):=few (by omega)
 unfold zdl
 simp only[sSeq,sSet,zah,zac,fVar,fNil,List.getElem?_cons_zero,List.getElem?_cons_succ,Option.bind_some,Option.map_some,zvs,List.set_cons_zero,List.set_cons_succ,hw,za7,zbi,zj9,List.length_map,List.length_reverse,hf,if_true]
 simp
theorem ziv(s:List Sk)(hg:∀y∈s,zbg y)(hl:s.length<=14):∃rs,Runs rs s/\zgt [.lst (s.map sD)]=some (.lst (rs.reverse.map bD)):=by
 obtain⟨e',h1,rs,v2,v3,hr,rfl⟩:=zc1 (i:=2) (g:=zdl) sD (fun p e=>∃rs v2 v3,Runs rs p/\e=[some (.sh (.lst (s.map sD))),some (.ow (rs.reverse.map bD)),v2,v3]) s
  [some (.sh (.lst (s.map sD))),some (.ow []),none,none] ⟨[],none,none,⟨rfl,fun r hr=>by simp at hr,trivial⟩,rfl⟩ (by
   rintro p x q e hpq ⟨rs,v2,v3,hr,rfl⟩
   obtain⟨rs',v3',hr',he⟩:=zqu (.lst (s.map sD)) rs p x v2 v3 hr (fun y hy=>hg y (by
    rw[hpq]
    rcases List.mem_append.mp hy with hy | hy
    ·simp[hy]
    ·simp at hy;simp[hy])) (by
    have:s.length=p.length+(q.length+1):=by rw[hpq];simp
    omega)
   exact⟨_,he,rs',_,_,hr',rfl⟩)
 refine⟨rs,hr,?_⟩
 refine za4 (e':=[some (.sh (.lst (s.map sD))),some (.sh (.lst (rs.reverse.map bD))),v2,v3]) rfl ?_
 show zgs [some (.sh (.lst (s.map sD))),none,none,none]=_
 simp only[zgs,sSeq,sOwn,zat,fNil,Option.bind_some,Option.map_some,List.length_nil,Nat.zero_le,if_true,List.set_cons_zero,List.set_cons_succ,sFor,fiS,fVar,List.getElem?_cons_zero,List.getElem?_cons_succ,h1,sRet]
theorem z05(a b c:List D):cutD (a++(b++c)) (some ((a.length:Int))) (some ((a.length:Int)+(b.length:Int)))=b:=by
 unfold cutD
 rw[HT.sIx_nat,show(a.length:Int)+(b.length:Int)=((a.length+b.length:Nat):Int) by omega,HT.sIx_nat]
 have h1:min a.length (a++(b++c)).length=a.length:=by simp
 have h2:min (a.length+b.length) (a++(b++c)).length=a.length+b.length:=by simp <;> omega
 rw[h1,h2]
 simp
theorem znl(f:α->Int)(r:List α):bSum [.lst (r.map fun x=>.int (f x))]=some (.int (r.map f).sum):=by
 have:(r.map fun x=>D.int (f x))=(r.map f).map D.int:=by rw[List.map_map];rfl
 rw[this]
 show(ints? ((r.map f).map D.int)).map _=_
 rw[zuv]
 rfl
theorem zp0{α:Type}{ix:List Nat}{g:FS}(vals:α->List D)(P:List α->DE0->Prop)(all:List α)(hl:∀x∈all,(vals x).length=ix.length)(hs:∀(p:List α) (x:α) (q:List α) (e:DE0),all=p++x::q->P p e->∃e',g (zgd ix (vals x) e)=some (.nx,e')/\P (p++[x]) e') :
  ∀(xs pre:List α) (e:DE0),all=pre++xs->P pre e->∃e',forU ix g (xs.map fun x=>D.tup (vals x)) e=some (.nx,e')/\P all e'
 | [],pre,e,h,hp=>⟨e,rfl,by rw[h,List.append_nil];exact hp⟩
 | x::xs,pre,e,h,hp=>by
   obtain⟨e1,h1,p1⟩:=hs pre x xs e h hp
   obtain⟨e2,h2,p2⟩:=zp0 vals P all hl hs xs (pre++[x]) e1 (by rw[h];simp) p1
   have hx:=hl x (by rw[h];simp)
   exact⟨e2,by simp only[List.map_cons,forU,unp,hx,if_true,Option.bind_some,h1,h2],p2⟩
variable{g:FS}
theorem zgm{ix:List Nat}(vals:α->List D)(P:List α->DE0->Prop)(all:List α)(e:DE0)(h0:P [] e)(hl:∀x∈all,(vals x).length=ix.length)(hs:∀(p:List α) (x:α) (q:List α) (e:DE0),all=p++x::q->P p e->∃e',g (zgd ix (vals x) e)=some (.nx,e')/\P (p++[x]) e') :
  ∃e',forU ix g (all.map fun x=>D.tup (vals x)) e=some (.nx,e')/\P all e':=zp0 vals P all hl hs all [] e rfl h0
theorem zml{α:Type}(f:α->D):∀(xs:List α) (c:Nat),zkw c (xs.map f)=(xs.zipIdx c).map fun p=>D.tup [.int (p.2:Nat),f p.1]
 | [],c=>rfl
 | x::xs,c=>by simp[zkw,List.zipIdx_cons,zml f xs (c+1)]
theorem zsg{α β:Type}(f:α->D)(g:β->D):∀(xs:List α) (ys:List β),zipD (xs.map f) (ys.map g)=(xs.zip ys).map fun p=>D.tup [f p.1,g p.2]
 | [],ys=>by simp[zipD]
 | x::xs,[]=>by simp[zipD]
 | x::xs,y::ys=>by simp[zipD,zsg f g xs ys]
theorem ziw{u:Bk}(h:gt u b):¬gt b u:=fun z=>by
 unfold gt at h z
 omega
variable{c:Bk}
theorem zx5{n:Bk}(hn:0<n.2.1)(hc:0<c.2.1)(hb:0<b.2.1)(h1:gt n c)(h2:¬gt b c):gt n b:=by
 unfold gt at h1 h2 ⊢
 have h2:b.2.2*c.2.1<=c.2.2*b.2.1:=Int.not_lt.mp h2
 have a1:b.2.2*c.2.1*n.2.1<=c.2.2*b.2.1*n.2.1:=Int.mul_le_mul_of_nonneg_right h2 (by omega)
 have a2:c.2.2*n.2.1*b.2.1<n.2.2*c.2.1*b.2.1:=Int.mul_lt_mul_of_pos_right h1 hb
 have a3:b.2.2*n.2.1*c.2.1<n.2.2*b.2.1*c.2.1:=by
  have e1:b.2.2*n.2.1*c.2.1=b.2.2*c.2.1*n.2.1:=Int.mul_right_comm ..
  have e2:n.2.2*b.2.1*c.2.1=n.2.2*c.2.1*b.2.1:=Int.mul_right_comm ..
  have e3:c.2.2*b.2.1*n.2.1=c.2.2*n.2.1*b.2.1:=Int.mul_right_comm ..
  omega
 exact Int.lt_of_mul_lt_mul_right a3 (by omega)
theorem z56{n:Bk}(hn:0<n.2.1)(hc:0<c.2.1)(hb:0<b.2.1)(h1:¬gt c n)(h2:gt c b):gt n b:=by
 unfold gt at h1 h2 ⊢
 have h1:c.2.2*n.2.1<=n.2.2*c.2.1:=Int.not_lt.mp h1
 have a1:c.2.2*n.2.1*b.2.1<=n.2.2*c.2.1*b.2.1:=Int.mul_le_mul_of_nonneg_right h1 (by omega)
 have a2:b.2.2*c.2.1*n.2.1<c.2.2*b.2.1*n.2.1:=Int.mul_lt_mul_of_pos_right h2 hn
 have a3:b.2.2*n.2.1*c.2.1<n.2.2*b.2.1*c.2.1:=by
  have e1:b.2.2*n.2.1*c.2.1=b.2.2*c.2.1*n.2.1:=Int.mul_right_comm ..
  have e2:n.2.2*b.2.1*c.2.1=n.2.2*c.2.1*b.2.1:=Int.mul_right_comm ..
  have e3:c.2.2*b.2.1*n.2.1=c.2.2*n.2.1*b.2.1:=Int.mul_right_comm ..
  omega
 exact Int.lt_of_mul_lt_mul_right a3 (by omega)
theorem z4m{n:Bk}(hn:0<n.2.1)(hc:0<c.2.1)(hb:0<b.2.1)(h1:¬gt c n)(h2:¬gt b c):¬gt b n:=fun z=>by
 have:=zx5 (n:=b) (c:=n) (b:=c) hb hn hc z h1
 exact h2 this
abbrev Tn:=Nat×List Sk
def tnD(t:Tn):D:=.tup [.int (t.1:Int),.int (t.2.length:Int),.int (hrs t.2),.int (lss t.2)]
theorem zmm(t:Tn):zbt [tnD t]=some (.tup [.int (hrs t.2),.int (lss t.2)]):=by
 simp[zbt,runD,zlk,za8,tnD,z50,z51]
def geT(a b:Tn):Bool:=!decide (gt (blk b.2) (blk a.2))
variable{a:Nat}
theorem z06{a b:Tn}:geT a b=true↔¬gt (blk b.2) (blk a.2):=by simp[geT]
theorem z07(t n:Tn)(ht:SmB (blk t.2))(hn:SmB (blk n.2)):∃z:Int,zb6 [.tup [.int (hrs t.2),.int (lss t.2)],.tup [.int (hrs n.2),.int (lss n.2)]]=some (.int z)/\decide (0<=z)=geT t n:=by
 refine⟨_,zsc _ _ _ _ ht.2 hn.2,?_⟩
 unfold geT gt
 show decide ((0:Int)<=if lss n.2*hrs t.2<lss t.2*hrs n.2 then 1 else if lss t.2*hrs n.2<lss n.2*hrs t.2 then -1 else 0)=!decide (lss t.2*hrs n.2<lss n.2*hrs t.2)
 by_cases h1:lss n.2*hrs t.2<lss t.2*hrs n.2
 ·rw[if_pos h1]
  have h2:¬lss t.2*hrs n.2<lss n.2*hrs t.2:=by omega
  simp[h2]
 ·rw[if_neg h1]
  by_cases h2:lss t.2*hrs n.2<lss n.2*hrs t.2
  ·simp[h2]
  ·simp[h2]
def plc(ts:List Tn)(n:Tn):Nat:=(ts.takeWhile fun t=>geT t n).length
noncomputable def znm:FT:=fAnd (fTst (fBin dLt (fVar 2) (za9 0))) (fTst (fBin dGe (zah zb6 (zac (zah zbt (zac (fIxV 0 (fVar 2)) (fNil))) (zac (zah zbt (zac (fVar 1) (fNil))) (fNil)))) (fC (.int 0))))
theorem zmn(n:Tn)(hn:SmB (blk n.2)):∀(suf pre:List Tn) (fuel:Nat),suf.length<fuel->(∀t∈suf,SmB (blk t.2)) ->
  zea znm zcd fuel [some (.sh (.lst ((pre++suf).map tnD))),some (.sh (tnD n)),some (.sh (.int (pre.length:Int)))]=some (.nx,[some (.sh (.lst ((pre++suf).map tnD))),some (.sh (tnD n)),some (.sh (.int ((pre.length+plc suf n:Nat):Int)))])
 | _,_,0,h,_=>by omega
 | [],pre,f+1,h,_=>by
   unfold zea znm
   simp[plc]
 | t::r,pre,f+1,h,hs=>by
   obtain⟨z,hz,hd⟩:=z07 t n (hs t (by simp)) hn
   have hat:atI ((pre++t::r).map tnD) (pre.length:Int)=some (tnD t):=zbp tnD (by simp)
   have hlt:(pre.length:Int)<((pre++t::r).map tnD).length:=by simp;omega
   have hc:znm [some (.sh (.lst ((pre++t::r).map tnD))),some (.sh (tnD n)),some (.sh (.int (pre.length:Int)))]=some (geT t n,[some (.sh (.lst ((pre++t::r).map tnD))),some (.sh (tnD n)),some (.sh (.int (pre.length:Int)))]):=by
    unfold znm
    generalize (pre++t::r).map tnD=L at hat hlt
    simp only[fAnd,fTst,fBin,fVar,za9,List.getElem?_cons_zero,List.getElem?_cons_succ,Option.bind_some,Option.map_some,dLt,hlt,decide_true,if_true,zah,zac,fNil,fIxV,ixSl,hat,zmm,hz,fC,dGe,hd]
   unfold zea
   rw[hc,Option.bind_some]
   dsimp only
   cases hg:geT t n with
   | false =>
     rw[if_neg Bool.false_ne_true]
     simp[plc,hg]
   | true =>
     rw[if_pos rfl]
     have hb:zcd [some (.sh (.lst ((pre++t::r).map tnD))),some (.sh (tnD n)),some (.sh (.int (pre.length:Int)))]=some (.nx,[some (.sh (.lst ((pre++t::r).map tnD))),some (.sh (tnD n)),some (.sh (.int ((pre++[t]).length:Int)))]):=by
      simp[zcd]
     rw[hb,Option.bind_some]
     dsimp only
     have ih:=zmn n hn r (pre++[t]) f (by simpa using h) fun t' ht'=>hs t' (by simp[ht'])
     rw[List.append_assoc,List.singleton_append] at ih
     rw[ih]
     have:(pre++[t]).length+plc r n=pre.length+plc (t::r) n:=by simp[plc,hg];omega
     rw[this]
theorem zx6(ts:List Tn)(n:Tn)(hn:SmB (blk n.2))(hs:∀t∈ts,SmB (blk t.2))(hl:ts.length<9000):zf0 [.lst (ts.map tnD),tnD n]=some (.int (plc ts n:Int)):=by
 have h:=zmn n hn ts [] 10000 (by omega) hs
 simp only[List.nil_append,List.length_nil,Nat.zero_add] at h
 refine za4 (e':=[some (.sh (.lst (ts.map tnD))),some (.sh (tnD n)),some (.sh (.int (plc ts n:Int)))]) rfl ?_
 show zfz [some (.sh (.lst (ts.map tnD))),some (.sh (tnD n)),none]=_
 have h':zea znm zcd 10000 [some (.sh (.lst (ts.map tnD))),some (.sh (tnD n)),some (.sh (.int 0))]=_:=h
 unfold znm at h'
 simp only[zfz,sSeq,sSet,fC,Option.bind_some,Option.map_some,List.set_cons_zero,List.set_cons_succ,h',sRet,fVar,List.getElem?_cons_zero,List.getElem?_cons_succ]
def ins(ts:List Tn)(n:Tn):List Tn:=(ts.takeWhile fun t=>geT t n)++n::ts.dropWhile fun t=>geT t n
theorem z4n(ts:List Tn)(n:Tn):(ts.map tnD).take (plc ts n)++tnD n::(ts.map tnD).drop (plc ts n)=(ins ts n).map tnD:=by
 have e:=List.takeWhile_append_dropWhile (p:=fun t=>geT t n) (l:=ts)
 have hk:plc ts n=(ts.takeWhile fun t=>geT t n).length:=rfl
 have h1:ts.take (plc ts n)=ts.takeWhile fun t=>geT t n:=by
  rw[hk]
  generalize (ts.takeWhile fun t=>geT t n)=A at e
  rw[← e]
  exact List.take_left
 have h2:ts.drop (plc ts n)=ts.dropWhile fun t=>geT t n:=by
  rw[hk]
  generalize (ts.takeWhile fun t=>geT t n)=A at e
  conv=>lhs;rw[← e]
  exact List.drop_left
 rw[← List.map_take,← List.map_drop,h1,h2]
 simp[ins]
theorem z4o(ts:List Tn)(n:Tn):plc ts n<=ts.length:=(List.takeWhile_sublist _).length_le
theorem zti(v0 v3 v7:Option Sl)(ts:List Tn)(at':Nat)(r:List Sk)(hn:SmB (blk r))(hs:∀t∈ts,SmB (blk t.2))(hl:ts.length<9000) :
  zcy [v0,some (.ow (ts.map tnD)),some (.sh (.int (at':Int))),v3,some (.sh (.int (r.length:Int))),some (.sh (.int (hrs r))),some (.sh (.int (lss r))),v7] =
   some (.nx,[v0,some (.ow ((ins ts (at',r)).map tnD)),some (.sh (.int (at':Int))),v3,some (.sh (.int (r.length:Int))),some (.sh (.int (hrs r))),some (.sh (.int (lss r))),some (.sh (tnD (at',r)))]):=by
 have hp:=zx6 ts (at',r) hn hs hl
 have he:=z4n ts (at',r)
 have h1:(plc ts (at',r):Int)<=((ts.map tnD).length:Nat):=by rw[List.length_map];have:=z4o ts (at',r);omega
 have h2:Few ((ts.map tnD).length+1):=few (by rw[List.length_map];omega)
 have ht:D.tup [.int (at':Int),.int (r.length:Int),.int (hrs r),.int (lss r)]=tnD (at',r):=rfl
 have h0:(0:Int)<=(plc ts (at',r):Int):=by omega
 generalize ts.map tnD=L at hp he h1 h2
 simp only[zcy,sSeq,sSet,za7,fTup,zac,fNil,fVar,List.getElem?_cons_zero,List.getElem?_cons_succ,Option.bind_some,Option.map_some,List.length_cons,List.length_nil,show(0+1+1+1+1<=64)=True by simp,if_true,List.set_cons_zero,List.set_cons_succ,zn3,zpt,zxo,ht,hp,z0v,z0n,h0,h1,h2,and_self,Int.toNat_natCast,he]
def bef(a b:Tn):Prop:=gt (blk a.2) (blk b.2)\/(¬gt (blk b.2) (blk a.2)/\a.1<b.1)
def ofS(ts:List Tn)(j:Nat):List (List Sk):=(ts.filter fun t=>t.1==j+1).map (·.2)
structure TurnsOk (ss:List (List Sk)) (ts:List Tn):Prop where
 lo:∀t∈ts,1<=t.1/\t.1<=ss.length
 good:∀t∈ts,Good t.2
 part:∀(j:Nat) (s:List Sk),ss[j]?=some s->(ofS ts j).flatten=s
 srt:ts.Pairwise bef
 perm:(ts.map (·.2)).flatten.Perm ss.flatten
variable{ss:List (List Sk)}{ts:List Tn}
theorem TurnsOk.sk(h:TurnsOk ss ts)(hg:∀x∈ss.flatten,zbg x):∀t∈ts,∀x∈t.2,zbg x:=fun t ht x hx =>
 hg x (h.perm.mem_iff.mp (List.mem_flatten.mpr ⟨t.2,List.mem_map.mpr ⟨t,ht,rfl⟩,hx⟩))
theorem TurnsOk.len1(h:TurnsOk ss ts):∀t∈ts,t.2.length<=ss.flatten.length:=fun t ht=>by
 rw[← h.perm.length_eq]
 exact(List.sublist_flatten_of_mem (List.mem_map.mpr ⟨t,ht,rfl⟩)).length_le
theorem zvt{α:Type}:∀(l:List (List α)),(∀r∈l,r≠[])->l.length<=l.flatten.length
 | [],_=>by simp
 | a::l,h=>by
   have:=zvt l fun r hr=>h r (List.mem_cons_of_mem _ hr)
   have ha:0<a.length:=List.length_pos_iff.mpr (h a List.mem_cons_self)
   rw[List.length_cons,List.flatten_cons,List.length_append]
   omega
theorem TurnsOk.len(h:TurnsOk ss ts):ts.length<=ss.flatten.length:=by
 have:=zvt (ts.map (·.2)) fun r hr=>by
  obtain⟨t,ht,rfl⟩:=List.mem_map.mp hr
  exact(h.good t ht).ne
 rw[List.length_map,h.perm.length_eq] at this
 exact this
protected theorem TurnsOk.pos(h:TurnsOk ss ts)(hg:∀x∈ss.flatten,zbg x):∀t∈ts,0<hrs t.2:=fun t ht=>zgy t.2 (h.sk hg t ht) (h.good t ht).ne
theorem TurnsOk.sm(h:TurnsOk ss ts)(hg:∀x∈ss.flatten,zbg x)(hl:ss.flatten.length<=1000):∀t∈ts,SmB (blk t.2):=fun t ht=>smB t.2 (h.sk hg t ht) (Nat.le_trans (h.len1 t ht) hl)
theorem TurnsOk.more(h:TurnsOk ss ts):TurnsOk (ss++[[]]) ts/\ofS ts ss.length=[]:=by
 have e:ofS ts ss.length=[]:=by
  unfold ofS
  rw[List.filter_eq_nil_iff.mpr fun t ht=>by have:=(h.lo t ht).2;simp;omega]
  rfl
 refine⟨⟨fun t ht=>⟨(h.lo t ht).1,by have:=(h.lo t ht).2;simp;omega⟩,h.good,fun j s hj=>?_,h.srt,by simpa using h.perm⟩,e⟩
 by_cases hlt:j<ss.length
 ·rw[List.getElem?_append_left hlt] at hj
  exact h.part j s hj
 ·have:j=ss.length:=by
   have:=(List.getElem?_eq_some_iff.mp hj).1
   simp at this
   omega
  subst this
  simp at hj
  subst hj
  rw[e];rfl
theorem z08{ts:List Tn}{n t:Tn}:t∈ins ts n↔t∈ts\/t=n:=by
 unfold ins
 have e:=List.takeWhile_append_dropWhile (p:=fun t=>geT t n) (l:=ts)
 have hm:t∈ts↔t∈(ts.takeWhile fun t=>geT t n)\/t∈ts.dropWhile fun t=>geT t n:=by
  conv=>lhs;rw[← e]
  exact List.mem_append
 rw[hm]
 simp only[List.mem_append,List.mem_cons]
 constructor
 ·rintro(h | h | h)
  ·exact .inl (.inl h)
  ·exact .inr h
  ·exact .inl (.inr h)
 ·rintro((h | h) | h)
  ·exact .inl h
  ·exact .inr (.inr h)
  ·exact .inr (.inl h)
theorem TurnsOk.ins{ss:List (List Sk)}{ts:List Tn}{pre r:List Sk}{p:List (List Sk)}(h:TurnsOk (ss++[pre]) ts)(hp:ofS ts ss.length=p)(hr:Good r)(hgr:∀x∈r,zbg x)(hg:∀x∈(ss++[pre]).flatten,zbg x)(hd:∀u∈p,gt (blk u) (blk r)):TurnsOk (ss++[pre++r]) (LB.ins ts (ss.length+1,r))/\ofS (LB.ins ts (ss.length+1,r)) ss.length=p++[r]:=by
 have e:=List.takeWhile_append_dropWhile (p:=fun t=>geT t (ss.length+1,r)) (l:=ts)
 have hA:∀t∈(ts.takeWhile fun t=>geT t (ss.length+1,r)),geT t (ss.length+1,r)=true:=fun t ht=>by
  have:=List.all_takeWhile (p:=fun t=>geT t (ss.length+1,r)) (l:=ts)
  exact List.all_eq_true.mp this t ht
 have pr:0<hrs r:=zgy r hgr hr.ne
 have hmem:=@z08 ts (ss.length+1,r)
 have hB0:∀b0 B',ts.dropWhile (fun t=>geT t (ss.length+1,r))=b0::B'->gt (blk r) (blk b0.2):=fun b0 B' hb=>by
  have:geT b0 (ss.length+1,r)=false:=by
   have:=List.head?_dropWhile_not (p:=fun t=>geT t (ss.length+1,r)) ts
   rw[hb] at this
   simpa using this
  unfold geT at this
  simpa using this
 unfold LB.ins at hmem ⊢
 have srt:=h.srt
 have pos:=h.pos hg
 have ofp:∀t∈ts,t.1=ss.length+1->gt (blk t.2) (blk r):=fun t ht e1=>hd t.2 (by
  rw[← hp]
  exact List.mem_map.mpr ⟨t,List.mem_filter.mpr ⟨ht,by simp[e1]⟩,rfl⟩)
 have lo:=h.lo
 have part:=h.part
 have perm:=h.perm
 rw[← e] at srt pos ofp lo part perm hp
 generalize (ts.takeWhile fun t=>geT t (ss.length+1,r))=A at *
 generalize (ts.dropWhile fun t=>geT t (ss.length+1,r))=B at *
 have hB:∀b∈B,gt (blk r) (blk b.2):=fun b hb=>by
  cases B with
  | nil=>simp at hb
  | cons b0 B' =>
    have g0:=hB0 b0 B' rfl
    rcases List.mem_cons.mp hb with rfl | hb'
    ·exact g0
    ·have sb:=(List.pairwise_append.mp srt).2.1
     have:=(List.pairwise_cons.mp sb).1 b hb'
     have nb:¬gt (blk b.2) (blk b0.2):=by
      rcases this with z | z
      ·exact ziw z
      ·exact z.1
     exact zx5 pr (pos b0 (by simp)) (pos b (by simp[hb'])) g0 nb
 have fB:(B.filter fun t=>t.1==ss.length+1)=[]:=List.filter_eq_nil_iff.mpr fun t ht=>by
  intro z
  exact ziw (hB t ht) (ofp t (by simp[ht]) (by simpa using z))
 have of:ofS (A++(ss.length+1,r)::B) ss.length=p++[r]:=by
  unfold ofS at hp ⊢
  rw[List.filter_append,fB,List.append_nil] at hp
  rw[List.filter_append,List.filter_cons_of_pos (by simp),fB,List.map_append,hp]
  rfl
 have hlen:(ss++[pre]).length=ss.length+1:=by simp
 refine⟨⟨fun t ht=>?_,fun t ht=>?_,fun j s hj=>?_,?_,?_⟩,of⟩
 ·rcases(hmem.mp ht) with z | z
  ·have:=h.lo t z;simp at this ⊢;omega
  ·subst z;simp
 ·rcases(hmem.mp ht) with z | z
  ·exact h.good t z
  ·subst z;exact hr
 ·by_cases hlt:j<ss.length
  ·rw[List.getElem?_append_left hlt] at hj
   have:=part j s (by rw[List.getElem?_append_left hlt];exact hj)
   rw[← this]
   unfold ofS
   rw[List.filter_append,List.filter_append,List.filter_cons_of_neg (by simp;omega)]
  ·have:j=ss.length:=by
    have:=(List.getElem?_eq_some_iff.mp hj).1
    simp at this
    omega
   subst this
   have hs:pre++r=s:=by simpa using hj
   rw[of,← hs]
   have:=part ss.length pre (by simp)
   rw[show ofS (A++B) ss.length=p from hp] at this
   simp[this]
 ·have sa:=List.pairwise_append.mp srt
  refine List.pairwise_append.mpr ⟨sa.1,List.pairwise_cons.mpr ⟨fun b hb=>.inl (hB b hb),sa.2.1⟩,fun a ha b hb=>?_⟩
  rcases List.mem_cons.mp hb with rfl | hb
  ·have g1:=hA a ha
   by_cases e1:a.1=ss.length+1
   ·exact .inl (ofp a (by simp[ha]) e1)
   ·have:=(lo a (by simp[ha])).2
    exact .inr ⟨z06.mp g1,by simp at this ⊢;omega⟩
  ·exact sa.2.2 a ha b hb
 ·have e1:((A++(ss.length+1,r)::B).map (·.2)).flatten=(A.map (·.2)).flatten++(r++(B.map (·.2)).flatten):=by simp
  have e2:(ss++[pre++r]).flatten=(ss++[pre]).flatten++r:=by simp
  rw[e1,e2]
  have e3:((A++B).map (·.2)).flatten=(A.map (·.2)).flatten++(B.map (·.2)).flatten:=by simp
  rw[e3] at perm
  refine List.Perm.trans ?_ (perm.append_right r)
  rw[List.append_assoc]
  exact List.Perm.append_left _ List.perm_append_comm
theorem zqv:∀(rs:List (List Sk)),Desc rs->(∀r∈rs,0<hrs r)->rs.Pairwise (fun b u=>gt (blk u) (blk b))
 | [],_,_=>.nil
 | [b],_,_=>by simp
 | b::u::r,h,hp=>by
   have ih:=zqv (u::r) h.2 fun x hx=>hp x (List.mem_cons_of_mem _ hx)
   refine List.pairwise_cons.mpr ⟨fun x hx=>?_,ih⟩
   rcases List.mem_cons.mp hx with rfl | hx'
   ·exact h.1
   ·have:=(List.pairwise_cons.mp ih).1 x hx'
    exact zx5 (hp x (by simp[hx'])) (hp u (by simp)) (hp b (by simp)) this (ziw h.1)
theorem zqw(S:D)(ss:List (List Sk))(s:List Sk)(ts:List Tn)(v4 v5 v6 v7:Option Sl)(h:TurnsOk ss ts)(hg:∀x∈(ss++[s]).flatten,zbg x)(hl:(ss++[s]).flatten.length<=14) :
  ∃ts' w4 w5 w6 w7,TurnsOk (ss++[s]) ts'/\zdu [some (.sh S),some (.ow (ts.map tnD)),some (.sh (.int ((ss.length+1:Nat):Int))),some (.sh (.lst (s.map sD))),v4,v5,v6,v7] =
   some (.nx,[some (.sh S),some (.ow (ts'.map tnD)),some (.sh (.int ((ss.length+1:Nat):Int))),some (.sh (.lst (s.map sD))),w4,w5,w6,w7]):=by
 have hgs:∀x∈s,zbg x:=fun x hx=>hg x (by simp[hx])
 have hls:s.length<=14:=by simp at hl;omega
 obtain⟨rs,hr,hb⟩:=ziv s hgs hls
 have hfl:=hr.flat
 have hgood:∀r∈rs.reverse,Good r:=fun r h=>hr.good r (List.mem_reverse.mp h)
 have hgr:∀r∈rs.reverse,∀x∈r,zbg x:=fun r h x hx=>hgs x (by rw[← hfl];exact List.mem_flatten.mpr ⟨r,h,hx⟩)
 have hpw:rs.reverse.Pairwise (fun u b=>gt (blk u) (blk b)):=by
  rw[List.pairwise_reverse]
  exact zqv rs hr.desc fun r h=>zgy r (hgr r (List.mem_reverse.mpr h)) (hr.good r h).ne
 have m0:=h.more
 obtain⟨e',h1,ts',w4,w5,w6,w7,ok',of',rfl⟩:=zgm (ix:=[4,5,6]) (g:=zcy) (fun r:List Sk=>[D.int (r.length:Int),.int (hrs r),.int (lss r)])
  (fun p e=>∃ts' w4 w5 w6 w7,TurnsOk (ss++[p.flatten]) ts'/\ofS ts' ss.length=p/\e=[some (.sh S),some (.ow (ts'.map tnD)),some (.sh (.int ((ss.length+1:Nat):Int))),some (.sh (.lst (s.map sD))),w4,w5,w6,w7]) rs.reverse
  [some (.sh S),some (.ow (ts.map tnD)),some (.sh (.int ((ss.length+1:Nat):Int))),some (.sh (.lst (s.map sD))),v4,v5,v6,v7] ⟨ts,v4,v5,v6,v7,m0.1,m0.2,rfl⟩ (fun _ _=>rfl) (by
   rintro p r q e hpq ⟨ts',w4,w5,w6,w7,ok,of,rfl⟩
   have hrm:r∈rs.reverse:=by rw[hpq];simp
   have hsub:∀x∈(ss++[p.flatten]).flatten,zbg x:=fun x hx=>by
    rw[List.flatten_append,List.mem_append] at hx
    rcases hx with hx | hx
    ·exact hg x (by rw[List.flatten_append];exact List.mem_append_left _ hx)
    ·refine hgs x ?_
     rw[← hfl,hpq,List.flatten_append]
     exact List.mem_append_left _ (by simpa using hx)
   have hps:(ss++[p.flatten]).flatten.length<=14:=by
    have:p.flatten.length<=s.length:=by rw[← hfl,hpq,List.flatten_append,List.length_append];omega
    rw[List.flatten_append,List.length_append] at hl ⊢
    simp only[List.flatten_cons,List.flatten_nil,List.append_nil] at hl ⊢
    omega
   have hdd:∀u∈p,gt (blk u) (blk r):=fun u hu=>by
    rw[hpq] at hpw
    exact(List.pairwise_append.mp hpw).2.2 u hu r (by simp)
   obtain⟨i1,i2⟩:=ok.ins of (hgood r hrm) (hgr r hrm) hsub hdd
   have hrl:r.length<=14:=by
    have:r.length<=rs.reverse.flatten.length:=(List.sublist_flatten_of_mem hrm).length_le
    rw[hfl] at this;omega
   have body:=zti (some (.sh S)) (some (.sh (.lst (s.map sD)))) w7 ts' (ss.length+1) r (smB r (hgr r hrm) (by omega)) (ok.sm hsub (by omega)) (by have:=ok.len;omega)
   exact⟨_,body,_,_,_,_,_,by simpa using i1,i2,rfl⟩)
 refine⟨ts',w4,w5,w6,w7,by rw[← hfl];exact ok',?_⟩
 have h1':forU [4,5,6] zcy (rs.reverse.map bD) [some (.sh S),some (.ow (ts.map tnD)),some (.sh (.int ((ss.length+1:Nat):Int))),some (.sh (.lst (s.map sD))),v4,v5,v6,v7]=_:=h1
 simp only[zdu,zf9,fiS,zah,zac,fVar,fNil,List.getElem?_cons_zero,List.getElem?_cons_succ,Option.bind_some,Option.map_some,hb,h1']
def ssL(ss:List (List Sk)):D:=.lst (ss.map fun s=>D.lst (s.map sD))
theorem zgz(ss:List (List Sk))(hg:∀x∈ss.flatten,zbg x)(hl:ss.flatten.length<=14):∃ts,TurnsOk ss ts/\zck [ssL ss]=some (.lst (ts.map tnD)):=by
 obtain⟨e',h1,ts,v2,v3,v4,v5,v6,v7,ok,rfl⟩:=zgm (ix:=[2,3]) (g:=zdu) (fun p:List Sk×Nat=>[D.int (p.2:Int),D.lst (p.1.map sD)])
  (fun p e=>∃ts v2 v3 v4 v5 v6 v7,TurnsOk (p.map (·.1)) ts/\e=[some (.sh (ssL ss)),some (.ow (ts.map tnD)),v2,v3,v4,v5,v6,v7]) (ss.zipIdx 1)
  [some (.sh (ssL ss)),some (.ow []),none,none,none,none,none,none] ⟨[],none,none,none,none,none,none,⟨by simp,by simp,by simp,.nil,by simp⟩,rfl⟩ (fun _ _=>rfl) (by
   rintro p x q e hpq ⟨ts,v2,v3,v4,v5,v6,v7,ok,rfl⟩
   have hss:ss=p.map (·.1)++x.1::q.map (·.1):=by
    have:=congrArg (List.map (·.1)) hpq
    simpa using this
   have hx2:x.2=(p.map (·.1)).length+1:=by
    have:(ss.zipIdx 1)[p.length]?=some x:=by rw[hpq];simp
    rw[List.getElem?_zipIdx] at this
    cases hs:ss[p.length]? with
    | none=>rw[hs] at this;cases this
    | some s =>
      rw[hs] at this
      cases this
      simp;omega
   have hfl:ss.flatten=(p.map (·.1)++[x.1]).flatten++(q.map (·.1)).flatten:=by rw[hss];simp
   obtain⟨ts',w4,w5,w6,w7,ok',he⟩:=zqw (ssL ss) (p.map (·.1)) x.1 ts v4 v5 v6 v7 ok (fun y hy=>hg y (by rw[hfl];exact List.mem_append_left _ hy)) (by rw[hfl,List.length_append] at hl;omega)
   rw[← hx2] at he
   exact⟨_,he,ts',_,_,_,_,_,_,by simpa using ok',rfl⟩)
 refine⟨ts,by simpa using ok,?_⟩
 refine za4 (e':=[some (.sh (ssL ss)),some (.sh (.lst (ts.map tnD))),v2,v3,v4,v5,v6,v7]) rfl ?_
 show zhe [some (.sh (ssL ss)),none,none,none,none,none,none,none]=_
 have he:iEn 1 [ssL ss]=some ((ss.zipIdx 1).map fun p=>D.tup [D.int (p.2:Int),D.lst (p.1.map sD)]):=by
  show some (zkw 1 (ss.map fun s=>D.lst (s.map sD)))=_
  rw[zml]
 simp only[zhe,sSeq,sOwn,zat,fNil,Option.bind_some,Option.map_some,List.length_nil,Nat.zero_le,if_true,List.set_cons_zero,List.set_cons_succ,zf9,zao,zac,fVar,List.getElem?_cons_zero,List.getElem?_cons_succ,he,h1,sRet]
def zap(n:Nat)(ts:List Tn):List (List Sk):=(List.range n).map fun j=>(ofS ts j).flatten
theorem za1(n:Nat)(ts:List Tn):(zap n ts).length=n:=by simp[zap]
theorem zby(h:j<n):(zap n ts)[j]?=some ((ofS ts j).flatten):=by simp[zap,h]
theorem TurnsOk.left(h:TurnsOk ss ts):zap ss.length ts=ss:=by
 apply List.ext_getElem?
 intro j
 by_cases hj:j<ss.length
 ·rw[zby hj,h.part j ss[j] (by simp[hj])]
  simp[hj]
 ·rw[List.getElem?_eq_none (by rw[za1];omega),List.getElem?_eq_none (by omega)]
theorem zei(t:Tn)(ts:List Tn)(j:Nat)(h:t.1=j+1):ofS (t::ts) j=t.2::ofS ts j:=by
 unfold ofS
 rw[List.filter_cons_of_pos (by simp[h])]
 rfl
theorem zf6(t:Tn)(ts:List Tn)(j:Nat)(h:t.1≠j+1):ofS (t::ts) j=ofS ts j:=by
 unfold ofS
 rw[List.filter_cons_of_neg (by simp[h])]
variable{t:Tn}
theorem zk6(h1:1<=t.1)(h2:t.1<=n):(zap n (t::ts))[t.1-1]?=some (t.2++(ofS ts (t.1-1)).flatten):=by
 rw[zby (by omega),zei t ts (t.1-1) (by omega)]
 simp
theorem zmo(h1:1<=t.1)(h2:t.1<=n):zap n ts=(zap n (t::ts)).set (t.1-1) ((ofS ts (t.1-1)).flatten):=by
 apply List.ext_getElem?
 intro j
 by_cases hj:j<n
 ·rw[List.getElem?_set,zby hj,zby hj,za1]
  by_cases e:t.1-1=j
  ·subst e
   simp[hj]
  ·rw[if_neg e,zf6 t ts j (by omega)]
 ·rw[List.getElem?_eq_none (by rw[za1];omega),List.getElem?_eq_none (by rw[List.length_set,za1];omega)]
theorem zp1(h1:1<=t.1)(h2:t.1<=n):zap n (t::ts)=(zap n ts).set (t.1-1) (t.2++(ofS ts (t.1-1)).flatten):=by
 apply List.ext_getElem?
 intro j
 by_cases hj:j<n
 ·rw[List.getElem?_set,zby hj,zby hj,za1]
  by_cases e:t.1-1=j
  ·subst e
   rw[zei t ts (t.1-1) (by omega)]
   simp[hj]
  ·rw[if_neg e,zf6 t ts j (by omega)]
 ·rw[List.getElem?_eq_none (by rw[za1];omega),List.getElem?_eq_none (by rw[List.length_set,za1];omega)]
theorem zkj{α:Type}:∀ {l:List (List α)} {j:Nat} {s x:List α},l[j]?=some s->(l.set j (x++s)).flatten.Perm (x++l.flatten)
 | [],_,_,_,h=>by simp at h
 | a::l,0,s,x,h=>by
   simp at h;subst h
   simp
 | a::l,j+1,s,x,h=>by
   have ih:=zkj (l:=l) (j:=j) (s:=s) (x:=x) (by simpa using h)
   simp only[List.set_cons_succ,List.flatten_cons]
   refine(ih.append_left a).trans ?_
   rw[← List.append_assoc,← List.append_assoc]
   exact List.perm_append_comm.append_right _
theorem zj0{n:Nat}:∀ {ts:List Tn},(∀t∈ts,1<=t.1/\t.1<=n)->(ts.map (·.2)).flatten.Perm (zap n ts).flatten
 | [],_=>by
   have:(zap n []).flatten=[]:=by simp[zap,ofS]
   rw[this];exact .nil
 | t::ts,h=>by
   have ih:=zj0 (n:=n) (ts:=ts) fun t' ht=>h t' (List.mem_cons_of_mem _ ht)
   obtain⟨h1,h2⟩:=h t List.mem_cons_self
   rw[zp1 h1 h2,List.map_cons,List.flatten_cons]
   exact(ih.append_left t.2).trans (zkj (zby (by omega))).symm
theorem TurnsOk.tail(h:TurnsOk (zap n (t::ts)) (t::ts)):TurnsOk (zap n ts) ts:=by
 have lo:∀t'∈ts,1<=t'.1/\t'.1<=n:=fun t' ht=>by
  have:=h.lo t' (List.mem_cons_of_mem _ ht)
  rw[za1] at this
  exact this
 refine⟨fun t' ht=>by rw[za1];exact lo t' ht,fun t' ht=>h.good t' (List.mem_cons_of_mem _ ht),fun j s hj=>?_,(List.pairwise_cons.mp h.srt).2,zj0 lo⟩
 have hl:=(List.getElem?_eq_some_iff.mp hj).1
 rw[za1] at hl
 rw[zby hl] at hj
 exact Option.some.inj hj
theorem TurnsOk.drop{n:Nat}{ts:List Tn}(h:TurnsOk (zap n ts) ts):∀k,TurnsOk (zap n (ts.drop k)) (ts.drop k)
 | 0=>h
 | k+1=>by
   have ih:=h.drop k
   by_cases hk:k<ts.length
   ·rw[List.drop_eq_getElem_cons hk] at ih
    exact ih.tail
   ·rw[List.drop_eq_nil_of_le (by omega)] at ih ⊢
    exact ih
theorem zvu(a b:List D):cutD (a++b) none (some (a.length:Int))=a:=by
 unfold cutD
 rw[HT.sIx_none,HT.sIx_nat]
 simp
theorem zqx(a b:List D):cutD (a++b) (some (a.length:Int)) none=b:=by
 unfold cutD
 rw[HT.sIx_none,HT.sIx_nat]
 simp
variable{ar:Nat}{ds:List D}{e':DE0}
theorem zqy{rs:List D}(h:ds.length=ar)(hg:g (za8 n ds)=some (.rf rs,e')):runF n ar g ds=some rs:=by
 unfold runF
 rw[if_pos h,hg]
theorem z09(ss:List (List Sk))(hl:ss.length<=1000):zjt [ssL ss]=some (ss.map fun s=>D.lst (s.map sD)):=by
 have c:=zcc (te:=fLst (zao zkv (zac (fVar 0) (fNil)))) (base:=[]) (fun s:List Sk=>D.lst (s.map sD)) (fun s:List Sk=>D.lst (s.map sD)) ss fun s _=>⟨_,by simp;rfl⟩
 have hf:Few ss.length:=few (by omega)
 refine zqy (e':=[some (.sh (ssL ss))]) rfl ?_
 show zjs [some (.sh (.lst (ss.map fun s:List Sk=>D.lst (s.map sD))))]=_
 simp only[zjs,zu1,zbq,fiS,fVar,List.getElem?_cons_zero,Option.bind_some,List.length_map,hf,if_true,List.map_nil,c,Option.map_some]
 rfl
theorem zji(ss:List (List Sk))(hl:ss.length<=1000)(hr:∀s∈ss,s.length<=1000):zbc [ssL ss,ssL ss]=some (.bl true):=by
 obtain⟨e',h1,v2,rfl⟩:=zcm (i:=2) (g:=zdc) (fun k e=>∃v2,e=[some (.sh (ssL ss)),some (.sh (ssL ss)),v2]) (rngD 0 ss.length) [some (.sh (ssL ss)),some (.sh (ssL ss)),none] ⟨none,rfl⟩ (by
  rintro k d e hd ⟨v2,rfl⟩
  obtain⟨rfl,hk⟩:=zdj hd
  have ha:atI (ss.map fun s=>D.lst (s.map sD)) (k:Int)=some (.lst (ss[k].map sD)):=zbp (fun s:List Sk=>D.lst (s.map sD)) (by simp[hk])
  have hs:=ziu (fun s:Sk=>[s.1,s.2.1,s.2.2]) ss[k] (hr _ (List.getElem_mem hk)) (fun _ _=>by simp)
  have hs':zay [.lst (ss[k].map sD),.lst (ss[k].map sD)]=some (.bl true):=hs
  exact⟨[some (.sh (ssL ss)),some (.sh (ssL ss)),some (.sh (.int (0+k)))],by simp[zdc,ssL,ha,hs'],_,rfl⟩)
 have hi:=ze4 ss.length (by omega)
 refine za4 (e':=[some (.sh (ssL ss)),some (.sh (ssL ss)),v2]) rfl ?_
 show zdv [some (.sh (ssL ss)),some (.sh (ssL ss)),none]=_
 unfold ssL at h1 ⊢
 simp[zdv,hi,h1]
theorem zix(xs:List Int)(hl:xs.length<=1000):zb2 [.lst (xs.map D.int),.lst (xs.map D.int)]=some (.bl true):=by
 obtain⟨e',h1,v2,rfl⟩:=zcm (i:=2) (g:=zc0) (fun k e=>∃v2,e=[some (.sh (.lst (xs.map D.int))),some (.sh (.lst (xs.map D.int))),v2]) (rngD 0 xs.length) [some (.sh (.lst (xs.map D.int))),some (.sh (.lst (xs.map D.int))),none] ⟨none,rfl⟩ (by
  rintro k d e hd ⟨v2,rfl⟩
  obtain⟨rfl,hk⟩:=zdj hd
  have ha:atI (xs.map D.int) (k:Int)=some (.int xs[k]):=zbp D.int (by simp[hk])
  exact⟨[some (.sh (.lst (xs.map D.int))),some (.sh (.lst (xs.map D.int))),some (.sh (.int (0+k)))],by simp[zc0,ha,zgl],_,rfl⟩)
 have hi:=ze4 xs.length (by omega)
 refine za4 (e':=[some (.sh (.lst (xs.map D.int))),some (.sh (.lst (xs.map D.int))),v2]) rfl ?_
 show zdo [some (.sh (.lst (xs.map D.int))),some (.sh (.lst (xs.map D.int))),none]=_
 simp[zdo,hi,h1]
def hT:List (List Sk)->Bk
 | []=>(0,1,-1)
 | r::_=>blk r
def kD(b:Bk):D:=.lst [.int b.1,.int b.2.1,.int b.2.2]
variable{r:List Sk}{q:List Nat}
theorem z4p{b q:List Sk}(h1:gt (blk r) (blk b))(h2:gt (blk r) (blk q)):gt (blk r) (blk (b++q)):=by
 have h1:lss b*hrs r<lss r*hrs b:=h1
 have h2:lss q*hrs r<lss r*hrs q:=h2
 show lss (b++q)*hrs r<lss r*hrs (b++q)
 rw[zfd,zdp,Int.add_mul,Int.mul_add]
 omega
theorem zzc{r:List Sk}(pr:0<hrs r):∀(rest:List (List Sk)) (q:List Sk),(∀b∈rest,gt (blk r) (blk b))->(∀b∈rest,Good b)->(∀b∈rest,∀x∈b,zbg x)->q <+: rest.flatten->q≠[]->gt (blk r) (blk q)
 | [],q,_,_,_,hq,ne=>by simp at hq;exact absurd hq ne
 | b::rest,q,hd,hg,hs,hq,ne=>by
   have gb:=hg b (by simp)
   have sb:=hs b (by simp)
   rw[List.flatten_cons] at hq
   rcases zqt hq with hq | ⟨q',rfl,hq'⟩
   ·have sq:∀x∈q,zbg x:=fun x hx=>sb x (hq.subset hx)
    refine zx5 pr (zgy b sb gb.ne) (zgy q sq ne) (hd b (by simp)) ?_
    have:=gb.beg q hq
    show ¬(lss b*hrs q<lss q*hrs b)
    omega
   ·by_cases hn:q'=[]
    ·subst hn
     rw[List.append_nil]
     exact hd b (by simp)
    ·exact z4p (hd b (by simp)) (zzc pr rest q' (fun c hc=>hd c (by simp[hc])) (fun c hc=>hg c (by simp[hc])) (fun c hc=>hs c (by simp[hc])) hq' hn)
theorem zol(hk:k<s.length):hrs (s.take (k+1))=hrs (s.take k)+s[k].2.1/\lss (s.take (k+1))=lss (s.take k)+s[k].2.2:=by
 rw[List.take_succ_eq_append_getElem hk,zdp,zfd]
 simp[hrs,lss]
theorem z1a(hs:∀x∈s,zbg x)(hl:s.length<=14)(k:Nat):0<=hrs (s.take k)/\hrs (s.take k)<=840/\0<=lss (s.take k)/\lss (s.take k)<=1400:=by
 have:=zmk (s.take k) fun x hx=>hs x (List.mem_of_mem_take hx)
 have h2:(s.take k).length<=14:=by rw[List.length_take];omega
 omega
theorem z1b(rs:List (List Sk))(hd:rs.Pairwise fun u b=>gt (blk u) (blk b))(hg:∀r∈rs,Good r)(hs:∀x∈rs.flatten,zbg x)(hl:rs.flatten.length<=14):zf1 [.lst (rs.flatten.map sD)]=some (kD (hT rs)):=by
 cases rs with
 | nil=>simp[zf1,runD,zhf,za8,hT,kD,ze4 0 (by omega),rngD,forL,show iR1 [.int 0]=some (rngD 0 0) from ze4 0 (by omega)]
 | cons r rest =>
   have hfl:(r::rest).flatten=r++rest.flatten:=List.flatten_cons ..
   rw[hfl] at hs hl ⊢
   have gr:=hg r (by simp)
   have sr:∀x∈r,zbg x:=fun x hx=>hs x (by simp[hx])
   have pr:=zgy r sr gr.ne
   have br:=zmk r sr
   have hdr:=(List.pairwise_cons.mp hd).1
   generalize hS:r++rest.flatten=s at *
   have hrl:r.length<=s.length:=by rw[← hS];simp
   have tk:∀k,k<=r.length->s.take k <+: r:=fun k hk=>by
    rw[← hS,List.take_append_of_le_length hk]
    exact List.take_prefix _ _
   obtain⟨e',h1,bb,v4,rfl,hb1,hb2⟩:=zcm (i:=4) (g:=zdw) (fun k e=>∃(b:Bk) (v4:Option Sl),e=[some (.sh (.lst (s.map sD))),some (.sh (kD b)),some (.sh (.int (hrs (s.take k)))),some (.sh (.int (lss (s.take k)))),v4] /\
     (k<r.length->b=(0,1,-1)\/∃q,q <+: r/\b=blk q)/\(r.length<=k->b=blk r)) (rngD 0 s.length)
    [some (.sh (.lst (s.map sD))),some (.sh (kD (0,1,-1))),some (.sh (.int 0)),some (.sh (.int 0)),none] ⟨(0,1,-1),none,by simp[hrs,lss],fun _=>.inl rfl,fun h=>absurd (List.length_eq_zero_iff.mp (Nat.le_zero.mp h)) gr.ne⟩ (by
     rintro k d e hd' ⟨b,v4,rfl,hb1,hb2⟩
     obtain⟨rfl,hk⟩:=zdj hd'
     obtain⟨t1,t2⟩:=zol hk
     have bd:=z1a hs hl (k+1)
     have ha:atI (s.map sD) (0+(k:Int))=some (sD s[k]):=by rw[Int.zero_add];exact zbp sD (by simp[hk])
     have sm2:zfb (hrs (s.take (k+1))):=zek (by omega)
     have sm1:zfb (lss (s.take (k+1))):=zek (by omega)
     have i1:dIx (sD s[k]) (.int 1)=some (.int s[k].2.1):=rfl
     have i2:dIx (sD s[k]) (.int 2)=some (.int s[k].2.2):=rfl
     have bdy:zdw [some (.sh (.lst (s.map sD))),some (.sh (kD b)),some (.sh (.int (hrs (s.take k)))),some (.sh (.int (lss (s.take k)))),some (.sh (.int (0+(k:Int))))] =
       some (.nx,[some (.sh (.lst (s.map sD))),some (.sh (kD (if b.2.2*hrs (s.take (k+1))<=lss (s.take (k+1))*b.2.1 then blk (s.take (k+1)) else b))),some (.sh (.int (hrs (s.take (k+1))))),some (.sh (.int (lss (s.take (k+1))))),some (.sh (.int (0+(k:Int))))]):=by
      have hlen:((s.take (k+1)).length:Int)=0+(k:Int)+1:=by rw[List.length_take];omega
      by_cases hc:b.2.2*hrs (s.take (k+1))<=lss (s.take (k+1))*b.2.1
      ·rw[if_pos hc,show blk (s.take (k+1))=(0+(k:Int)+1,hrs (s.take (k+1)),lss (s.take (k+1))) by unfold blk;rw[hlen]]
       rw[t1] at sm2;rw[t2] at sm1;rw[t1,t2] at hc ⊢
       generalize s.map sD=S at *
       simp only[zdw,kD,sSeq,sSet,sIf,sNil,fBin,fVar,fIxV,ixSl,fC,fTst,fLst,zat,zac,fNil,List.getElem?_cons_zero,List.getElem?_cons_succ,Option.bind_some,Option.map_some,List.set_cons_zero,List.set_cons_succ,ha,i1,i2,zav,zn9,zoa,zh7 sm1,zy7 sm2,dGe,decide_eq_true hc,if_true,List.length_cons,List.length_nil,show(0+1+1+1<=64)=True by simp]
      ·rw[if_neg hc]
       rw[t1] at sm2;rw[t2] at sm1;rw[t1,t2] at hc ⊢
       generalize s.map sD=S at *
       simp only[zdw,kD,sSeq,sSet,sIf,sNil,fBin,fVar,fIxV,ixSl,fC,fTst,fLst,zat,zac,fNil,List.getElem?_cons_zero,List.getElem?_cons_succ,Option.bind_some,Option.map_some,List.set_cons_zero,List.set_cons_succ,ha,i1,i2,zav,zn9,zoa,zh7 sm1,zy7 sm2,dGe,decide_eq_false hc,Bool.false_eq_true,if_false]
     refine⟨_,bdy,_,_,rfl,fun hlt=>?_,fun hge=>?_⟩
     ·split
      ·exact .inr ⟨_,tk (k+1) (by omega),rfl⟩
      ·exact hb1 (by omega)
     ·by_cases hk2:r.length<=k
      ·have hb:=hb2 hk2
       subst hb
       rw[if_neg]
       have hp:s.take (k+1)=r++rest.flatten.take (k+1-r.length):=by
        rw[← hS,List.take_append,List.take_of_length_le (by omega)]
       have hq:(rest.flatten.take (k+1-r.length))≠[]:=by
        intro z
        have:=congrArg List.length z
        rw[List.length_take] at this
        have hsl:s.length=r.length+rest.flatten.length:=by rw[← hS,List.length_append]
        simp only[List.length_nil] at this
        omega
       have hlt:=zzc pr rest _ hdr (fun b hb=>hg b (by simp[hb])) (fun b hb x hx=>hs x (by rw[← hS];exact List.mem_append_right _ (List.mem_flatten.mpr ⟨b,hb,hx⟩))) (List.take_prefix (k+1-r.length) rest.flatten) hq
       rw[hp,zdp,zfd]
       have hlt:lss (rest.flatten.take (k+1-r.length))*hrs r<lss r*hrs (rest.flatten.take (k+1-r.length)):=hlt
       show ¬(lss r*(hrs r+hrs _)<=(lss r+lss _)*hrs r)
       rw[Int.mul_add,Int.add_mul]
       omega
      ·have hkr:k+1=r.length:=by omega
       have hp:s.take (k+1)=r:=by rw[hkr,← hS];exact List.take_left
       rw[hp,if_pos]
       rcases hb1 (by omega) with rfl | ⟨q,hq,rfl⟩
       ·show -1*hrs r<=lss r*1
        omega
       ·exact gr.beg q hq)
   rw[zb0,List.take_length] at h1
   have hb:=hb2 (by rw[zb0];exact hrl)
   subst hb
   have hi:iR1 [.int (s.length:Int)]=some (rngD 0 s.length):=ze4 s.length (by omega)
   refine za4 (e':=[some (.sh (.lst (s.map sD))),some (.sh (kD (blk r))),some (.sh (.int (hrs s))),some (.sh (.int (lss s))),v4]) rfl ?_
   show zhf [some (.sh (.lst (s.map sD))),none,none,none,none]=_
   have hk0:kD (0,1,-1)=.lst [.int 0,.int 1,.int (-1)]:=rfl
   rw[hk0] at h1
   simp only[zhf,sSeq,sSet,sFor,sRet,fLst,zat,zac,fNil,fC,fUn,dNeg,fVar,za9,zao,List.getElem?_cons_zero,List.getElem?_cons_succ,Option.bind_some,Option.map_some,List.set_cons_zero,List.set_cons_succ,List.length_cons,List.length_nil,List.length_map,show(0+1+1+1<=64)=True by simp,if_true,hi,h1]
   rfl
theorem zqz(h:r∈ofS ts j):(j+1,r)∈ts:=by
 obtain⟨t,ht,rfl⟩:=List.mem_map.mp h
 obtain⟨h1,h2⟩:=List.mem_filter.mp ht
 have:t.1=j+1:=by simpa using h2
 rw[← this]
 exact h1
theorem z4q(h:ts.Pairwise bef):(ofS ts j).Pairwise fun u b=>gt (blk u) (blk b):=by
 unfold ofS
 rw[List.pairwise_map,List.pairwise_filter]
 refine h.imp fun {a b} hab ha hb=>?_
 rcases hab with z | z
 ·exact z
 ·have h1:a.1=j+1:=by simpa using ha
  have h2:b.1=j+1:=by simpa using hb
  omega
def zd2(n:Nat)(ts:List Tn):List Bk:=(List.range n).map fun j=>hT (ofS ts j)
theorem zmp(h:j<n):(zd2 n ts)[j]?=some (hT (ofS ts j)):=by simp[zd2,h]
theorem zlz(ok:TurnsOk (zap n (t::ts)) (t::ts)):hT (ofS (t::ts) (t.1-1))=blk t.2:=by
 have h1:=(ok.lo t (by simp)).1
 rw[zei t ts (t.1-1) (by omega)]
 rfl
theorem zzd(ok:TurnsOk (zap n (t::ts)) (t::ts))(hg:∀x∈(zap n (t::ts)).flatten,zbg x)(j:Nat) :
  ¬gt (hT (ofS (t::ts) j)) (blk t.2)/\(j<t.1-1->gt (blk t.2) (hT (ofS (t::ts) j))):=by
 have pt:=ok.pos hg t (by simp)
 have st:=zmk t.2 (ok.sk hg t (by simp))
 cases h:ofS (t::ts) j with
 | nil =>
   have g:gt (blk t.2) (0,1,-1):=by
    show -1*hrs t.2<lss t.2*1
    omega
   exact⟨ziw g,fun _=>g⟩
 | cons r rest =>
   have hm:(j+1,r)∈t::ts:=zqz (by rw[h];simp)
   rcases List.mem_cons.mp hm with e | hm
   ·subst e
    exact⟨fun z=>ziw z z,fun z=>by simp at z⟩
   ·have hb:=(List.pairwise_cons.mp ok.srt).1 _ hm
    rcases hb with z | ⟨z,z'⟩
    ·exact⟨ziw z,fun _=>z⟩
    ·exact⟨z,fun w=>by simp at z';omega⟩
theorem ztj(n:Nat)(ts:List Tn):(zap n ts).map (fun s=>D.lst (s.map sD))=(List.range n).map fun j=>D.lst ((ofS ts j).flatten.map sD):=by
 unfold zap;rw[List.map_map];rfl
theorem ztk(h:j<n):∀x∈(ofS ts j).flatten,x∈(zap n ts).flatten:=fun x hx =>
 List.mem_flatten.mpr ⟨_,List.mem_of_getElem? (zby (ts:=ts) h),hx⟩
theorem zvv(h:j<n):(ofS ts j).flatten.length<=(zap n ts).flatten.length :=
 (List.sublist_flatten_of_mem (List.mem_of_getElem? (zby (ts:=ts) h))).length_le
theorem z4r(ok:TurnsOk (zap n ts) ts)(hg:∀x∈(zap n ts).flatten,zbg x)(hl:(zap n ts).flatten.length<=14)(j:Nat):SmB (hT (ofS ts j)):=by
 cases h:ofS ts j with
 | nil=>exact⟨zek (by decide),zek (by decide)⟩
 | cons r rest=>exact ok.sm hg (by omega) (j+1,r) (zqz (by rw[h];simp))
theorem zvw(H:List Bk)(v0 v1 v2:Option Sl)(k p:Nat)(bk bp:Bk)(hk:H[k]?=some bk)(hp:H[p]?=some bp)(sk:SmB bk)(sp:SmB bp) :
  zco [v0,v1,v2,some (.sh (.lst (H.map kD))),some (.sh (.int (p:Int))),some (.sh (.int (0+(k:Int))))] =
   some (.nx,[v0,v1,v2,some (.sh (.lst (H.map kD))),some (.sh (.int ((if gt bk bp then k else p:Nat):Int))),some (.sh (.int (0+(k:Int))))]):=by
 rw[Int.zero_add]
 have a1:atI (H.map kD) (k:Int)=some (kD bk):=zbp kD hk
 have a2:atI (H.map kD) (p:Int)=some (kD bp):=zbp kD hp
 have i1:∀b:Bk,dIx (kD b) (.int 1)=some (.int b.2.1):=fun _=>rfl
 have i2:∀b:Bk,dIx (kD b) (.int 2)=some (.int b.2.2):=fun _=>rfl
 generalize H.map kD=L at *
 by_cases hg:gt bk bp
 ·have hg':bp.2.2*bk.2.1<bk.2.2*bp.2.1:=hg
  rw[if_pos hg]
  simp only[zco,sIf,sSet,sNil,fTst,fBin,fIxV,ixSl,fVar,fC,List.getElem?_cons_zero,List.getElem?_cons_succ,Option.bind_some,Option.map_some,List.set_cons_zero,List.set_cons_succ,a1,a2,i1,i2,zh7 sk.2,zh7 sp.2,dGt,decide_eq_true hg',if_true]
 ·have hg':¬bp.2.2*bk.2.1<bk.2.2*bp.2.1:=hg
  rw[if_neg hg]
  simp only[zco,sIf,sSet,sNil,fTst,fBin,fIxV,ixSl,fVar,fC,List.getElem?_cons_zero,List.getElem?_cons_succ,Option.bind_some,Option.map_some,List.set_cons_zero,List.set_cons_succ,a1,a2,i1,i2,zh7 sk.2,zh7 sp.2,dGt,decide_eq_false hg',Bool.false_eq_true,if_false]
theorem z1c(ok:TurnsOk (zap n (t::ts)) (t::ts))(hg:∀x∈(zap n (t::ts)).flatten,zbg x)(hl:(zap n (t::ts)).flatten.length<=14)(v0 v1 v2 v5:Option Sl) :
  ∃v5',forL 5 zco (rngD 0 n) [v0,v1,v2,some (.sh (.lst ((zd2 n (t::ts)).map kD))),some (.sh (.int 0)),v5] =
   some (.nx,[v0,v1,v2,some (.sh (.lst ((zd2 n (t::ts)).map kD))),some (.sh (.int ((t.1-1:Nat):Int))),v5']):=by
 have lo:=ok.lo t (by simp)
 rw[za1] at lo
 have hj0:t.1-1<n:=by omega
 obtain⟨e',h1,p,v5',rfl,_,hp1,hp2⟩:=zcm (i:=5) (g:=zco) (fun k e=>∃(p:Nat) (v5:Option Sl),e=[v0,v1,v2,some (.sh (.lst ((zd2 n (t::ts)).map kD))),some (.sh (.int (p:Int))),v5]/\p<n/\(k<=t.1-1->p<=t.1-1/\(p<k\/p=0))/\(t.1-1<k->p=t.1-1))
  (rngD 0 n) [v0,v1,v2,some (.sh (.lst ((zd2 n (t::ts)).map kD))),some (.sh (.int 0)),v5] ⟨0,v5,rfl,by omega,fun _=>⟨Nat.zero_le _,.inr rfl⟩,fun h=>absurd h (Nat.not_lt_zero _)⟩ (by
    rintro k d e hd' ⟨p,v5,rfl,hpn,hp1,hp2⟩
    obtain⟨rfl,hk⟩:=zdj hd'
    have body:=zvw (zd2 n (t::ts)) v0 v1 v2 k p _ _ (zmp hk) (zmp hpn) (z4r ok hg hl k) (z4r ok hg hl p)
    refine⟨_,body,_,_,rfl,?_,fun hle=>?_,fun hlt=>?_⟩
    ·split <;> omega
    ·have:=hp1 (by omega)
     split
     ·exact⟨by omega,.inl (by omega)⟩
     ·exact⟨this.1,by omega⟩
    ·rcases Nat.lt_or_eq_of_le (Nat.le_of_lt_succ hlt) with hlt' | heq
     ·have hp:=hp2 hlt'
      subst hp
      rw[zlz ok,if_neg (zzd ok hg k).1]
     ·have:=hp1 (by omega)
      subst heq
      rw[zlz ok]
      by_cases hpe:p=t.1-1
      ·subst hpe
       rw[zlz ok,if_neg (fun z=>ziw z z)]
      ·rw[if_pos ((zzd ok hg p).2 (by omega))])
 rw[zb0] at hp2
 have hp:=hp2 hj0
 subst hp
 exact⟨v5',h1⟩
noncomputable def zsh:FT:=fTst (fBin dGt (zah bSum (zac (fLst (zbq (fiV 1) [] fYes (za9 0))) (fNil))) (fC (.int 0)))
theorem ztl(ok:TurnsOk (zap n (t::ts)) (t::ts))(hg:∀x∈(zap n (t::ts)).flatten,zbg x)(hl:(zap n (t::ts)).flatten.length<=14)(hn:n<=1000)(v0 v3 v4 v5:Option Sl)(M:List D)(hM:M.length<=1000) :
  ∃w3 w4 w5,zep [v0,some (.ow ((zap n (t::ts)).map fun s=>D.lst (s.map sD))),some (.ow M),v3,v4,v5]=some (.nx,[v0,some (.ow ((zap n ts).map fun s=>D.lst (s.map sD))),some (.ow (M++[tnD t])),w3,w4,w5]):=by
 have lo:=ok.lo t (by simp)
 rw[za1] at lo
 have c:=zcc (te:=zah zf1 (zac (fVar 0) (fNil))) (base:=[]) (fun j:Nat=>D.lst ((ofS (t::ts) j).flatten.map sD)) (fun j:Nat=>kD (hT (ofS (t::ts) j))) (List.range n) (fun j hj=>by
  have hj:j<n:=List.mem_range.mp hj
  have hb:=z1b (ofS (t::ts) j) (z4q ok.srt) (fun r hr=>ok.good _ (zqz hr)) (fun x hx=>hg x (ztk hj x hx)) (Nat.le_trans (zvv hj) hl)
  refine⟨[some (.sh (.lst ((ofS (t::ts) j).flatten.map sD)))],?_⟩
  simp only[zah,zac,fVar,fNil,List.getElem?_cons_zero,Option.bind_some,hb,Option.map_some])
 have hH:(List.range n).map (fun j:Nat=>kD (hT (ofS (t::ts) j)))=(zd2 n (t::ts)).map kD:=by unfold zd2;rw[List.map_map];rfl
 rw[hH,← ztj] at c
 obtain⟨w5,hp⟩:=z1c ok hg hl v0 (some (.ow ((zap n (t::ts)).map fun s=>D.lst (s.map sD)))) (some (.ow M)) v5
 have hat:atI ((zd2 n (t::ts)).map kD) ((t.1-1:Nat):Int)=some (kD (blk t.2)):=by
  rw[← zlz ok]
  exact zbp kD (zmp (by omega))
 have htop:=zk6 (ts:=ts) lo.1 lo.2
 have hset:=zmo (ts:=ts) lo.1 lo.2
 have ht1:atI ((zap n (t::ts)).map fun s=>D.lst (s.map sD)) ((t.1-1:Nat):Int)=some (.lst ((t.2++(ofS ts (t.1-1)).flatten).map sD)):=zbp (fun s:List Sk=>D.lst (s.map sD)) htop
 have hcut2:=zqx (t.2.map sD) ((ofS ts (t.1-1)).flatten.map sD)
 rw[← List.map_append,List.length_map] at hcut2
 have hix:ixN ((zap n (t::ts)).map fun s=>D.lst (s.map sD)).length ((t.1-1:Nat):Int)=some (t.1-1):=by
  rw[zeh (by omega) (by rw[List.length_map,za1];omega)]
  congr 1
 have hset':((zap n (t::ts)).map fun s=>D.lst (s.map sD)).set (t.1-1) (.lst ((ofS ts (t.1-1)).flatten.map sD))=(zap n ts).map fun s=>D.lst (s.map sD):=by
  rw[hset,List.map_set]
 have hf:Few ((zap n (t::ts)).map fun s=>D.lst (s.map sD)).length:=few (by rw[List.length_map,za1];omega)
 have hfM:Few (M.length+1):=few (by omega)
 have hi:iR1 [.int (((zd2 n (t::ts)).map kD).length:Int)]=some (rngD 0 n):=by
  rw[List.length_map,show(zd2 n (t::ts)).length=n by simp[zd2]]
  exact ze4 n (by omega)
 have hz:((t.1-1:Nat):Int)+1=(t.1:Int):=by omega
 generalize ((zap n (t::ts)).map fun s=>D.lst (s.map sD))=L at *
 generalize ((zd2 n (t::ts)).map kD)=HL at *
 generalize ((t.2++(ofS ts (t.1-1)).flatten).map sD)=S7 at *
 generalize hpp:((t.1-1:Nat):Int)=pp at *
 have i0:dIx (kD (blk t.2)) (.int 0)=some (.int (t.2.length:Int)):=rfl
 have i1:dIx (kD (blk t.2)) (.int 1)=some (.int (hrs t.2)):=rfl
 have i2:dIx (kD (blk t.2)) (.int 2)=some (.int (lss t.2)):=rfl
 have htt:D.tup [.int (t.1:Int),.int (t.2.length:Int),.int (hrs t.2),.int (lss t.2)]=tnD t:=rfl
 refine⟨some (.sh (.lst HL)),some (.sh (.int pp)),w5,?_⟩
 simp only[zep,sSeq,sSet,sFor,za7,zib,zs8,fLst,zbq,fiV,zao,zac,fNil,za9,fC,zbi,zj9,fTup,fBin,zav,fIxV,ixSl,fVar,fSl,fO0,fO1,List.getElem?_cons_zero,List.getElem?_cons_succ,Option.bind_some,Option.map_some,List.set_cons_zero,List.set_cons_succ,List.map_nil,hf,hfM,if_true,c,hi,hp,hat,i0,i1,i2,hz,htt,ht1,hcut2,hix,hset',List.length_cons,List.length_nil,show(0+1+1+1+1<=64)=True by simp]
theorem zmq{n:Nat}(hn:n<=1000)(v0:Option Sl):∀(ts:List Tn) (fuel:Nat) (v3 v4 v5:Option Sl) (M:List D),ts.length<fuel->M.length+ts.length<=1000->TurnsOk (zap n ts) ts->(∀x∈(zap n ts).flatten,zbg x)->(zap n ts).flatten.length<=14 ->
  ∃w1 w3 w4 w5,zea zsh zep fuel [v0,some (.ow ((zap n ts).map fun s=>D.lst (s.map sD))),some (.ow M),v3,v4,v5]=some (.nx,[v0,w1,some (.ow (M++ts.map tnD)),w3,w4,w5])
 | _,0,_,_,_,_,h,_,_,_,_=>by omega
 | ts,f+1,v3,v4,v5,M,h,hM,ok,hg,hl=>by
   have c:=zcc (te:=za9 0) (base:=[]) (fun s:List Sk=>D.lst (s.map sD)) (fun s:List Sk=>D.int (s.length:Int)) (zap n ts) fun s _=>⟨_,by simp;rfl⟩
   have hb:=znl (fun s:List Sk=>(s.length:Int)) (zap n ts)
   have hf:Few ((zap n ts).map fun s=>D.lst (s.map sD)).length:=few (by rw[List.length_map,za1];omega)
   have hsum:((zap n ts).map fun s:List Sk=>(s.length:Int)).sum=((ts.map (·.2)).flatten.length:Int):=by
    have e:∀l:List (List Sk),(l.map fun s:List Sk=>(s.length:Int)).sum=(l.flatten.length:Int):=fun l=>by
     induction l with
     | nil=>rfl
     | cons a l ih=>rw[List.map_cons,List.sum_cons,ih,List.flatten_cons,List.length_append];omega
    rw[e,ok.perm.length_eq]
   rw[hsum] at hb
   have hc:zsh [v0,some (.ow ((zap n ts).map fun s=>D.lst (s.map sD))),some (.ow M),v3,v4,v5]=some (decide (0<((ts.map (·.2)).flatten.length:Int)),[v0,some (.ow ((zap n ts).map fun s=>D.lst (s.map sD))),some (.ow M),v3,v4,v5]):=by
    unfold zsh
    generalize ((zap n ts).map fun s=>D.lst (s.map sD))=L at *
    simp only[fTst,fBin,zah,zac,fLst,zbq,fiV,fNil,fC,List.getElem?_cons_zero,List.getElem?_cons_succ,Option.bind_some,Option.map_some,hf,if_true,List.map_nil,c,hb,dGt]
   unfold zea
   rw[hc,Option.bind_some]
   dsimp only
   cases ts with
   | nil =>
     rw[if_neg (by simp)]
     exact⟨some (.ow ((zap n []).map fun s=>D.lst (s.map sD))),v3,v4,v5,by rw[List.map_nil,List.append_nil]⟩
   | cons t ts =>
     have hpos:0<t.2.length:=List.length_pos_iff.mpr (ok.good t (by simp)).ne
     rw[if_pos (by simp only[List.map_cons,List.flatten_cons,List.length_append,decide_eq_true_eq];omega)]
     obtain⟨w3,w4,w5,hstep⟩:=ztl ok hg hl hn v0 v3 v4 v5 M (by simp at hM;omega)
     rw[hstep,Option.bind_some]
     dsimp only
     have okt:=ok.tail
     have lo:=ok.lo t (by simp)
     rw[za1] at lo
     have hsub:(t.2++(zap n ts).flatten).Perm (zap n (t::ts)).flatten:=by
      rw[zp1 lo.1 lo.2]
      exact(zkj (zby (by omega))).symm
     have hll:=hsub.length_eq
     rw[List.length_append] at hll
     obtain⟨w1,w3',w4',w5',ih⟩:=zmq hn v0 ts f w3 w4 w5 (M++[tnD t]) (by simp at h;omega) (by simp at hM ⊢;omega) okt (fun x hx=>hg x (hsub.mem_iff.mp (List.mem_append_right _ hx))) (by omega)
     exact⟨w1,w3',w4',w5',by rw[ih];simp⟩
theorem zsi(ok:TurnsOk ss ts)(hg:∀x∈ss.flatten,zbg x)(hl:ss.flatten.length<=14)(hn:ss.length<=900):zgg [ssL ss]=some (.lst (ts.map tnD)):=by
 have htl:=ok.len
 have hleft:=ok.left
 have c:=zcc (te:=fLst (zao zkv (zac (fVar 0) (fNil)))) (base:=[]) (fun s:List Sk=>D.lst (s.map sD)) (fun s:List Sk=>D.lst (s.map sD)) ss fun s _=>⟨_,by simp;rfl⟩
 have hf:Few (ss.map fun s=>D.lst (s.map sD)).length:=few (by rw[List.length_map];omega)
 obtain⟨w1,w3,w4,w5,h⟩:=zmq (n:=ss.length) (by omega) (some (.sh (ssL ss))) ts 10000 none none none [] (by omega) (by simp;omega) (by rw[hleft];exact ok) (by rw[hleft];exact hg) (by rw[hleft];exact hl)
 rw[hleft,List.nil_append] at h
 refine za4 (e':=[some (.sh (ssL ss)),w1,some (.sh (.lst (ts.map tnD))),w3,w4,w5]) rfl ?_
 show zih [some (.sh (.lst (ss.map fun s=>D.lst (s.map sD)))),none,none,none,none,none]=_
 unfold zsh ssL at h
 unfold ssL
 generalize (ss.map fun s=>D.lst (s.map sD))=L at *
 simp only[zih,sSeq,sOwn,sRet,zbq,fiS,fVar,zat,fNil,List.getElem?_cons_zero,List.getElem?_cons_succ,Option.bind_some,Option.map_some,List.set_cons_zero,List.set_cons_succ,List.map_nil,hf,if_true,c,List.length_nil,Nat.zero_le,h]
def zbl(ts:List Tn):List Nat:=(ts.map fun t=>List.replicate t.2.length t.1).flatten
def iD(ns:List Nat):List D:=ns.map fun n:Nat=>D.int (n:Int)
theorem zd3(a b:List Tn):zbl (a++b)=zbl a++zbl b:=by simp[zbl]
theorem zg9(t:Tn):zbl [t]=List.replicate t.2.length t.1:=by simp[zbl]
theorem zmr(ts:List Tn):(zbl ts).length=(ts.map (·.2)).flatten.length:=by
 induction ts with
 | nil=>rfl
 | cons t ts ih =>
   rw[show t::ts=[t]++ts from rfl,zd3,zg9,List.length_append,List.length_replicate,ih]
   simp
theorem zq0(d:D)(k:Nat):(List.replicate k [d]).flatten=List.replicate k d:=List.flatten_replicate_singleton
theorem zze(a b:List Nat):iD (a++b)=iD a++iD b:=by simp[iD]
theorem zzf(k a:Nat):iD (List.replicate k a)=List.replicate k (.int (a:Int)):=by simp[iD]
theorem zzg(a:List Nat):(iD a).length=a.length:=by simp[iD]
theorem bndN(k:Nat)(h:k<=1000000):Bnd (-(2 ^ 62)) (2 ^ 62) (k:Int):=⟨by omega,by omega⟩
theorem zms(ok:TurnsOk ss ts)(hg:∀x∈ss.flatten,zbg x)(hl:ss.flatten.length<=14)(hn:ss.length<=900):zcz [ssL ss]=some (iD (zbl ts)):=by
 have ht:=zsi ok hg hl hn
 have hlen:(zbl ts).length<=14:=by rw[zmr,ok.perm.length_eq];exact hl
 obtain⟨e',h1,v2,rfl⟩:=zc1 (i:=2) (g:=zhg) tnD (fun p e=>∃v2,e=[some (.sh (ssL ss)),some (.ow (iD (zbl p))),v2]) ts
  [some (.sh (ssL ss)),some (.ow []),none] ⟨none,rfl⟩ (by
   rintro p t q e hpq ⟨v2,rfl⟩
   have hlt:(zbl p).length+t.2.length<=14:=by
    rw[hpq,zd3,show t::q=[t]++q from rfl,zd3,zg9] at hlen
    simp at hlen
    omega
   have f1:Few (1*t.2.length):=few (by omega)
   have f2:Few ((iD (zbl p)).length+(List.replicate t.2.length (D.int (t.1:Int))).length):=few (by rw[zzg,List.length_replicate];omega)
   have hb:=bndN t.2.length (by omega)
   have e1:iD (zbl p)++List.replicate t.2.length (D.int (t.1:Int))=iD (zbl (p++[t])):=by rw[zd3,zg9,zze,zzf]
   refine⟨[some (.sh (ssL ss)),some (.ow (iD (zbl (p++[t])))),some (.sh (tnD t))],?_,_,rfl⟩
   rw[← e1]
   generalize iD (zbl p)=M at *
   unfold tnD
   simp only[zhg,sOwn,fCat,fVar,fLst,fRep,zat,zac,fIxV,ixSl,fC,fNil,List.getElem?_cons_zero,List.getElem?_cons_succ,Option.bind_some,Option.map_some,List.set_cons_zero,List.set_cons_succ,z5y,z5z,List.length_cons,List.length_nil,show(0+1<=64)=True by simp,if_true,Int.toNat_natCast,Nat.zero_add,f1,hb,and_self,zq0,f2])
 refine zqy (e':=[some (.sh (ssL ss)),some (.ow (iD (zbl ts))),v2]) rfl ?_
 show zju [some (.sh (ssL ss)),none,none]=_
 simp only[zju,sSeq,sOwn,sFor,zs7,zat,fNil,fiS,zah,zac,fVar,List.getElem?_cons_zero,List.getElem?_cons_succ,Option.bind_some,Option.map_some,List.set_cons_zero,List.set_cons_succ,List.length_nil,Nat.zero_le,if_true,ht,h1]
theorem zfg(ok:TurnsOk ss ts)(hbt:zck [ssL ss]=some (.lst (ts.map tnD)))(hl:ss.flatten.length<=14):zbu [ssL ss]=some (iD (zbl ts)):=by
 have hlen:(zbl ts).length<=14:=by rw[zmr,ok.perm.length_eq];exact hl
 obtain⟨e',h1,v2,v3,v4,v5,rfl⟩:=zgm (ix:=[2,3,4,5]) (g:=zeo) (fun t:Tn=>[D.int (t.1:Int),.int (t.2.length:Int),.int (hrs t.2),.int (lss t.2)]) (fun p e=>∃v2 v3 v4 v5,e=[some (.sh (ssL ss)),some (.ow (iD (zbl p))),v2,v3,v4,v5]) ts
  [some (.sh (ssL ss)),some (.ow []),none,none,none,none] ⟨none,none,none,none,rfl⟩ (fun _ _=>rfl) (by
   rintro p t q e hpq ⟨v2,v3,v4,v5,rfl⟩
   have hlt:(zbl p).length+t.2.length<=14:=by
    rw[hpq,zd3,show t::q=[t]++q from rfl,zd3,zg9] at hlen
    simp at hlen
    omega
   have f1:Few (1*t.2.length):=few (by omega)
   have f2:Few ((iD (zbl p)).length+(List.replicate t.2.length (D.int (t.1:Int))).length):=few (by rw[zzg,List.length_replicate];omega)
   have hb:=bndN t.2.length (by omega)
   have e1:iD (zbl p)++List.replicate t.2.length (D.int (t.1:Int))=iD (zbl (p++[t])):=by rw[zd3,zg9,zze,zzf]
   refine⟨[some (.sh (ssL ss)),some (.ow (iD (zbl (p++[t])))),some (.sh (.int (t.1:Int))),some (.sh (.int (t.2.length:Int))),some (.sh (.int (hrs t.2))),some (.sh (.int (lss t.2)))],?_,_,_,_,_,rfl⟩
   rw[← e1]
   generalize iD (zbl p)=M at *
   simp only[zgd,zeo,za7,zn4,z0s,fRep,zat,zac,fVar,fNil,List.getElem?_cons_zero,List.getElem?_cons_succ,Option.bind_some,Option.map_some,List.set_cons_zero,List.set_cons_succ,List.length_cons,List.length_nil,show(0+1<=64)=True by simp,if_true,Int.toNat_natCast,Nat.zero_add,f1,hb,and_self,zq0,f2])
 refine zqy (e':=[some (.sh (ssL ss)),some (.ow (iD (zbl ts))),v2,v3,v4,v5]) rfl ?_
 show zig [some (.sh (ssL ss)),none,none,none,none,none]=_
 have h1':forU [2,3,4,5] zeo (ts.map tnD) [some (.sh (ssL ss)),some (.ow []),none,none,none,none]=_:=h1
 simp only[zig,sSeq,sOwn,zf9,zs7,zat,fNil,fiS,zah,zac,fVar,List.getElem?_cons_zero,List.getElem?_cons_succ,Option.bind_some,Option.map_some,List.set_cons_zero,List.set_cons_succ,List.length_nil,Nat.zero_le,if_true,hbt,h1']
theorem z1d(ns:List Nat):iD ns=(ns.map fun n:Nat=>(n:Int)).map D.int:=by unfold iD;rw[List.map_map];rfl
theorem zq1(ns:List Nat)(hl:ns.length<=1000):zb2 [.lst (iD ns),.lst (iD ns)]=some (.bl true):=by
 rw[z1d]
 exact zix _ (by rw[List.length_map];exact hl)
structure Whole (ss:List (List Sk)) (os:List Nat):Prop where
 lo:∀a∈os,1<=a/\a<=ss.length
 cnt:∀(j:Nat) (s:List Sk),ss[j]?=some s->os.count (j+1)=s.length
variable{os:List Nat}
theorem Whole.perm{os':List Nat}(h:Whole ss os)(p:os.Perm os'):Whole ss os' :=
 ⟨fun a ha=>h.lo a (p.mem_iff.mpr ha),fun j s hj=>by rw[← p.count_eq];exact h.cnt j s hj⟩
theorem zvx(m:Nat):∀n:Nat,((List.range n).map fun j=>if j=m then 1 else 0).sum=if m<n then 1 else 0
 | 0=>by simp
 | n+1=>by
   rw[List.range_succ,List.map_append,List.sum_append,zvx m n]
   simp only[List.map_cons,List.map_nil,List.sum_cons,List.sum_nil]
   by_cases h1:m<n
   ·rw[if_pos h1,if_neg (by omega),if_pos (by omega)];rfl
   ·rw[if_neg h1]
    by_cases h2:n=m
    ·rw[if_pos h2,if_pos (by omega)];rfl
    ·rw[if_neg h2,if_neg (by omega)];rfl
theorem zvy{α:Type}(f g:α->Nat):∀l:List α,(l.map fun x=>f x+g x).sum=(l.map f).sum+(l.map g).sum
 | []=>rfl
 | x::l=>by
   simp only[List.map_cons,List.sum_cons,zvy f g l]
   omega
theorem zvz(n:Nat):∀(p:List Nat),(∀a∈p,1<=a/\a<=n)->((List.range n).map fun j=>p.count (j+1)).sum=p.length
 | [],_=>by
   have:∀l:List Nat,(l.map fun j=>([]:List Nat).count (j+1)).sum=0:=fun l=>by
    induction l with
    | nil=>rfl
    | cons a l ih=>rw[List.map_cons,List.sum_cons,ih];rfl
   rw[this];rfl
 | a::p,h=>by
   have ih:=zvz n p fun b hb=>h b (List.mem_cons_of_mem _ hb)
   have ha:=h a List.mem_cons_self
   have e:(fun j=>(a::p).count (j+1))=fun j=>p.count (j+1)+if j=a-1 then 1 else 0:=by
    funext j
    rw[List.count_cons]
    congr 1
    by_cases hj:j=a-1
    ·rw[if_pos hj,if_pos (by simp;omega)]
    ·rw[if_neg hj,if_neg (by simp;omega)]
   rw[e,zvy,ih,zvx,if_pos (by omega),List.length_cons]
theorem zx7(ss:List (List Sk)):((List.range ss.length).map fun j=>(ss.getD j []).length).sum=ss.flatten.length:=by
 have:(List.range ss.length).map (fun j=>(ss.getD j []).length)=ss.map List.length:=by
  apply List.ext_getElem?
  intro i
  by_cases h:i<ss.length
  ·simp[h]
  ·simp[h]
 rw[this,List.length_flatten]
theorem Whole.len(h:Whole ss os):os.length=ss.flatten.length:=by
 rw[← zvz ss.length os h.lo,← zx7]
 congr 1
 apply List.map_congr_left
 intro j hj
 have hj:j<ss.length:=List.mem_range.mp hj
 rw[h.cnt j ss[j] (by simp[hj])]
 simp[hj]
theorem z1e{P:List α->Prop}(h0:P [])(hs:∀p a,P p->P (p++[a]))(p:List α):P p:=by
 have:∀l:List α,P l.reverse:=fun l=>by
  induction l with
  | nil=>exact h0
  | cons a l ih=>rw[List.reverse_cons];exact hs _ _ ih
 rw[← List.reverse_reverse p]
 exact this _
def zec(ss:List (List Sk))(a c:Nat):Sk:=(ss.getD (a-1) []).getD c (0,0,0)
def tk(ss:List (List Sk))(os:List Nat):List Sk:=(List.range os.length).map fun i=>zec ss (os.getD i 0) ((os.take i).count (os.getD i 0))
theorem zmt(ss:List (List Sk))(p:List Nat)(a:Nat):tk ss (p++[a])=tk ss p++[zec ss a (p.count a)]:=by
 unfold tk
 rw[List.length_append,List.length_singleton,List.range_succ,List.map_append]
 congr 1
 ·apply List.map_congr_left
  intro i hi
  have hi:i<p.length:=List.mem_range.mp hi
  have e1:(p++[a]).getD i 0=p.getD i 0:=by
   rw[List.getD_eq_getElem?_getD,List.getD_eq_getElem?_getD,List.getElem?_append_left hi]
  rw[e1,List.take_append_of_le_length (by omega)]
 ·have e1:(p++[a]).getD p.length 0=a:=by simp
  simp only[List.map_cons,List.map_nil]
  rw[e1,List.take_left]
theorem znn(ss:List (List Sk))(os:List Nat):(tk ss os).length=os.length:=by simp[tk]
theorem Whole.at{ss:List (List Sk)}{p q:List Nat}{a:Nat}(h:Whole ss (p++a::q)):∃s,ss[a-1]?=some s/\p.count a<s.length/\s[p.count a]?=some (zec ss a (p.count a))/\1<=a/\a<=ss.length:=by
 obtain⟨h1,h2⟩:=h.lo a (by simp)
 have hlt:a-1<ss.length:=by omega
 have hc:=h.cnt (a-1) ss[a-1] (by simp[hlt])
 rw[show a-1+1=a by omega,List.count_append,List.count_cons_self] at hc
 have hcl:p.count a<ss[a-1].length:=by omega
 refine⟨ss[a-1],by simp[hlt],hcl,?_,h1,h2⟩
 unfold zec
 simp[hlt,hcl]
theorem Whole.mem(h:Whole ss os):∀(p:List Nat),∀(q:List Nat),os=p++q->∀x∈tk ss p,x∈ss.flatten:=by
 apply z1e
 ·intro q _ x hx
  simp[tk] at hx
 ·intro p a ih q hq x hx
  rw[zmt] at hx
  rcases List.mem_append.mp hx with hx | hx
  ·exact ih (a::q) (by rw[hq];simp) x hx
  ·rw[hq,List.append_assoc,List.singleton_append] at h
   obtain⟨s,hs,hc,hx',_⟩:=h.at
   have e:x=zec ss a (p.count a):=by simpa using hx
   subst e
   exact List.mem_flatten.mpr ⟨s,List.mem_of_getElem? hs,List.mem_of_getElem? hx'⟩
theorem Whole.sk(h:Whole ss os):∀x∈tk ss os,x∈ss.flatten:=h.mem os [] (by simp)
theorem zx8(ts:List Tn)(j:Nat):(zbl ts).count (j+1)=(ofS ts j).flatten.length:=by
 induction ts with
 | nil=>simp[zbl,ofS]
 | cons t ts ih =>
   rw[show t::ts=[t]++ts from rfl,zd3,zg9,List.count_append,ih]
   by_cases e:t.1=j+1
   ·rw[List.singleton_append,zei t ts j e,List.flatten_cons,List.length_append,e,List.count_replicate_self]
   ·rw[List.singleton_append,zf6 t ts j e,List.count_replicate,if_neg (by simpa using e)]
    omega
theorem TurnsOk.whole(ok:TurnsOk ss ts):Whole ss (zbl ts):=by
 refine⟨fun a ha=>?_,fun j s hj=>?_⟩
 ·obtain⟨l,hl,hal⟩:=List.mem_flatten.mp ha
  obtain⟨t,ht,rfl⟩:=List.mem_map.mp hl
  rw[List.eq_of_mem_replicate hal]
  exact ok.lo t ht
 ·rw[zx8,ok.part j s hj]
def cntD(n:Nat)(f:Nat->Int):List D:=(List.range n).map fun j=>D.int (f j)
theorem zl0(n:Nat)(f:Nat->Int):(cntD n f).length=n:=by simp[cntD]
theorem zq2(n:Nat)(f:Nat->Int)(j:Nat)(h:j<n):atI (cntD n f) (j:Int)=some (.int (f j)):=zbp (fun j:Nat=>D.int (f j)) (by simp[h])
theorem zom(n:Nat)(f g:Nat->Int)(j:Nat)(h:∀i,i<n->i≠j->g i=f i):(cntD n f).set j (.int (g j))=cntD n g:=by
 apply List.ext_getElem?
 intro i
 unfold cntD
 rw[List.getElem?_set]
 by_cases hi:i<n
 ·by_cases e:j=i
  ·subst e;simp[hi]
  ·rw[if_neg e]
   simp[hi,h i hi (Ne.symm e)]
 ·by_cases e:j=i
  ·subst e;simp[hi]
  ·rw[if_neg e];simp[hi]
theorem zsj(n:Nat)(f:Nat->Int)(j:Nat)(h:j<n):(cntD n f)[j]?=some (.int (f j)):=by simp[cntD,h]
theorem zq3(h:ds.length=ar)(hg:g (za8 n ds)=some (.nx,e')):runD n ar g ds=some .non:=by
 unfold runD
 rw[if_pos h,hg]
theorem zm1(l1:1<=a)(l2:a<=ss.length):zhi [ssL ss,.int (a:Int)]=some .non:=by
 have n1:decide ((a:Int)<1)=false:=by simp;omega
 have n2:decide (((ss.map fun s=>D.lst (s.map sD)).length:Int)<(a:Int))=false:=by rw[List.length_map];simp;omega
 refine zq3 (e':=[some (.sh (ssL ss)),some (.sh (.int (a:Int)))]) rfl ?_
 show zhh [some (.sh (ssL ss)),some (.sh (.int (a:Int)))]=_
 unfold ssL
 generalize (ss.map fun s=>D.lst (s.map sD))=L at *
 simp only[zhh,sIf,sNil,fOr,fTst,fBin,fVar,fC,za9,dLt,dGt,List.getElem?_cons_zero,List.getElem?_cons_succ,Option.bind_some,Option.map_some,List.set_cons_zero,List.set_cons_succ,n1,n2,Bool.false_eq_true,if_false]
def lenF(ss:List (List Sk))(p:List Nat)(j:Nat):Int:=((ss.getD j []).length:Int)-(p.count (j+1):Int)
theorem zx9(ss:List (List Sk)):(ss.map fun s=>D.int (s.length:Int))=cntD ss.length (lenF ss []):=by
 apply List.ext_getElem?
 intro i
 unfold cntD lenF
 by_cases h:i<ss.length
 ·simp[h]
 ·simp[h]
theorem zv0(ss:List (List Sk)):zg8 fYes (za9 0) [] (ss.map fun s=>D.lst (s.map sD))=some (cntD ss.length (lenF ss [])):=by
 rw[← zx9]
 exact zcc (te:=za9 0) (base:=[]) (fun s:List Sk=>D.lst (s.map sD)) (fun s:List Sk=>D.int (s.length:Int)) ss fun s _=>⟨_,by simp;rfl⟩
theorem zft(p:List Nat)(a b:Nat):(p++[a]).count b=p.count b+if a=b then 1 else 0:=by
 rw[List.count_append,List.count_singleton]
 by_cases h:a=b
 ·simp[h]
 ·simp[h]
theorem zv1(ss:List (List Sk))(p:List Nat)(a:Nat)(h1:1<=a):lenF ss (p++[a]) (a-1)=lenF ss p (a-1)-1/\∀i,i≠a-1->lenF ss (p++[a]) i=lenF ss p i:=by
 unfold lenF
 refine⟨?_,fun i hi=>?_⟩
 ·rw[zft,if_pos (by omega)];omega
 ·rw[zft,if_neg (by omega)];omega
theorem ztm(h:Whole ss os)(j:Nat)(hj:j<ss.length):lenF ss os j=0:=by
 unfold lenF
 rw[h.cnt j ss[j] (by simp[hj])]
 simp[hj]
variable{p:List Nat}
theorem zya(h:Whole ss (p++a::q)):0<lenF ss p (a-1):=by
 obtain⟨s,hs,hc,_,h1,h2⟩:=h.at
 unfold lenF
 rw[show a-1+1=a by omega,List.getD_eq_getElem?_getD,hs]
 simp
 omega
theorem zv2(n:Nat)(f:Nat->Int):ints? (cntD n f)=some ((List.range n).map f):=by
 have:cntD n f=((List.range n).map f).map D.int:=by unfold cntD;rw[List.map_map];rfl
 rw[this,zuv]
theorem zsk(f:Nat->Int):∀n:Nat,(∀j,j<n->f j=0)->((List.range n).map f).sum=0
 | 0,_=>rfl
 | n+1,h=>by
   rw[List.range_succ,List.map_append,List.sum_append,zsk f n fun j hj=>h j (by omega)]
   simp[h n (by omega)]
theorem zm2(h:Whole ss os)(hn:ss.length<=1000):zhk [ssL ss,.lst (iD os)]=some .non:=by
 obtain⟨e',h1,v3,rfl⟩:=zc1 (i:=3) (g:=zdy) (fun a:Nat=>D.int (a:Int)) (fun p e=>∃v3,e=[some (.sh (ssL ss)),some (.sh (.lst (iD os))),some (.ow (cntD ss.length (lenF ss p))),v3]) os
  [some (.sh (ssL ss)),some (.sh (.lst (iD os))),some (.ow (cntD ss.length (lenF ss []))),none] ⟨none,rfl⟩ (by
   rintro p a q e hpq ⟨v3,rfl⟩
   have hw:Whole ss (p++a::q):=by rw[← hpq];exact h
   obtain⟨s,hs,hc,_,l1,l2⟩:=hw.at
   have hp:=zya hw
   obtain⟨e1,e2⟩:=zv1 ss p a l1
   have hz:(a:Int)-1=((a-1:Nat):Int):=by omega
   have hat:=zq2 ss.length (lenF ss p) (a-1) (by omega)
   have hget:=zsj ss.length (lenF ss p) (a-1) (by omega)
   have hset:=zom ss.length (lenF ss p) (lenF ss (p++[a])) (a-1) (fun i _ hi=>e2 i hi)
   rw[e1] at hset
   have n0:decide (lenF ss p (a-1)=0)=false:=by simp;omega
   have hlt:a-1<(cntD ss.length (lenF ss p)).length:=by rw[zl0];omega
   have h0:(0:Int)<=((a-1:Nat):Int):=by omega
   refine⟨[some (.sh (ssL ss)),some (.sh (.lst (iD os))),some (.ow (cntD ss.length (lenF ss (p++[a])))),some (.sh (.int (a:Int)))],?_,_,rfl⟩
   rw[← hset]
   generalize cntD ss.length (lenF ss p)=L at *
   simp only[zdy,sSeq,sIf,sNil,zlf,zxi,fTst,fBin,fIxV,ixSl,fVar,fC,dSub,dEq,List.getElem?_cons_zero,List.getElem?_cons_succ,Option.bind_some,Option.map_some,List.set_cons_zero,List.set_cons_succ,hz,hat,n0,Bool.false_eq_true,if_false,h0,if_true,Int.toNat_natCast,hget,hlt])
 have hz:((List.range ss.length).map (lenF ss os)).sum=0:=zsk _ _ fun j hj=>ztm h j hj
 have hints:=zv2 ss.length (lenF ss os)
 have hc:=zv0 ss
 have hf:Few (ss.map fun s=>D.lst (s.map sD)).length:=few (by rw[List.length_map];omega)
 refine zq3 (e':=[some (.sh (ssL ss)),some (.sh (.lst (iD os))),some (.ow (cntD ss.length (lenF ss os))),v3]) rfl ?_
 show zhj [some (.sh (ssL ss)),some (.sh (.lst (iD os))),none,none]=_
 have h1':forL 3 zdy (iD os) [some (.sh (ssL ss)),some (.sh (.lst (iD os))),some (.ow (cntD ss.length (lenF ss []))),none]=_:=h1
 unfold ssL at h1' ⊢
 generalize iD os=O at *
 generalize (ss.map fun s=>D.lst (s.map sD))=L at *
 simp only[zhj,sSeq,sOwn,sFor,sIf,sNil,zbq,fiS,fVar,fTst,fBin,zxn,fC,dGt,List.map_nil,List.getElem?_cons_zero,List.getElem?_cons_succ,Option.bind_some,Option.map_some,List.set_cons_zero,List.set_cons_succ,hf,if_true,hc,h1',hints,hz,Int.lt_irrefl,decide_false,Bool.false_eq_true,if_false]
theorem zm3(h:Whole ss os)(hn:ss.length<=1000):zhm [ssL ss,.lst (iD os)]=some .non:=by
 obtain⟨e',h1,v2,rfl⟩:=zc1 (i:=2) (g:=zdz) (fun a:Nat=>D.int (a:Int)) (fun p e=>∃v2,e=[some (.sh (ssL ss)),some (.sh (.lst (iD os))),v2]) os
  [some (.sh (ssL ss)),some (.sh (.lst (iD os))),none] ⟨none,rfl⟩ (by
   rintro p a q e hpq ⟨v2,rfl⟩
   obtain⟨l1,l2⟩:=h.lo a (by rw[hpq];simp)
   have hk:=zm1 (ss:=ss) l1 l2
   refine⟨[some (.sh (ssL ss)),some (.sh (.lst (iD os))),some (.sh (.int (a:Int)))],?_,_,rfl⟩
   simp only[zdz,za7,zah,zac,fNil,fVar,List.getElem?_cons_zero,List.getElem?_cons_succ,Option.bind_some,Option.map_some,List.set_cons_zero,List.set_cons_succ,hk])
 have h2:=zm2 h hn
 refine zq3 (e':=[some (.sh (ssL ss)),some (.sh (.lst (iD os))),v2]) rfl ?_
 show zhl [some (.sh (ssL ss)),some (.sh (.lst (iD os))),none]=_
 have h1':forL 2 zdz (iD os) [some (.sh (ssL ss)),some (.sh (.lst (iD os))),none]=_:=h1
 generalize iD os=O at *
 simp only[zhl,sSeq,za7,sFor,fiS,zah,zac,fNil,fVar,List.getElem?_cons_zero,List.getElem?_cons_succ,Option.bind_some,Option.map_some,h1',h2]
def cntF(p:List Nat)(j:Nat):Int:=(p.count (j+1):Int)
theorem zv3(p:List Nat)(a:Nat)(h1:1<=a):cntF (p++[a]) (a-1)=cntF p (a-1)+1/\∀i,i≠a-1->cntF (p++[a]) i=cntF p i:=by
 unfold cntF
 refine⟨?_,fun i hi=>?_⟩
 ·rw[zft,if_pos (by omega)];omega
 ·rw[zft,if_neg (by omega)];omega
theorem zk7(ss:List (List Sk)):zg8 fYes (fC (.int 0)) [] (ss.map fun s=>D.lst (s.map sD))=some (cntD ss.length (cntF [])):=by
 rw[zcc (te:=fC (.int 0)) (base:=[]) (fun s:List Sk=>D.lst (s.map sD)) (fun s:List Sk=>D.int 0) ss fun s _=>⟨_,by simp;rfl⟩]
 congr 1
 apply List.ext_getElem?
 intro i
 unfold cntD cntF
 by_cases h:i<ss.length
 ·simp[h]
 ·simp[h]
theorem zzh(hw:Whole ss (p++a::q)) :
  (a:Int)-1=((a-1:Nat):Int)/\atI (cntD ss.length (cntF p)) ((a-1:Nat):Int)=some (.int (p.count a:Int))/\(cntD ss.length (cntF p))[a-1]?=some (.int (p.count a:Int)) /\
    (cntD ss.length (cntF p)).set (a-1) (.int ((p.count a:Int)+1))=cntD ss.length (cntF (p++[a]))/\a-1<(cntD ss.length (cntF p)).length/\ixN (cntD ss.length (cntF p)).length ((a-1:Nat):Int)=some (a-1) /\
    ∃s:List Sk,atI (ss.map fun s=>D.lst (s.map sD)) ((a-1:Nat):Int)=some (.lst (s.map sD))/\atI (s.map sD) (p.count a:Int)=some (sD (zec ss a (p.count a))):=by
 obtain⟨s,hs,hc,hx,l1,l2⟩:=hw.at
 obtain⟨e1,e2⟩:=zv3 p a l1
 have ec:cntF p (a-1)=(p.count a:Int):=by unfold cntF;rw[show a-1+1=a by omega]
 have hset:=zom ss.length (cntF p) (cntF (p++[a])) (a-1) (fun i _ hi=>e2 i hi)
 rw[e1,ec] at hset
 refine⟨by omega,?_,?_,hset,by rw[zl0];omega,?_,s,zbp (fun s:List Sk=>D.lst (s.map sD)) hs,zbp sD hx⟩
 ·rw[zq2 _ _ _ (by omega),ec]
 ·rw[zsj _ _ _ (by omega),ec]
 ·rw[zeh (by omega) (by rw[zl0];omega)]
  congr 1
theorem zjj(h:Whole ss os)(hn:ss.length<=1000)(hl:os.length<=1000):zff [ssL ss,.lst (iD os)]=some (.lst ((tk ss os).map sD)):=by
 obtain⟨e',h1,v4,rfl⟩:=zc1 (i:=4) (g:=zd0) (fun a:Nat=>D.int (a:Int)) (fun p e=>∃v4,e=[some (.sh (ssL ss)),some (.sh (.lst (iD os))),some (.ow (cntD ss.length (cntF p))),some (.ow ((tk ss p).map sD)),v4]) os
  [some (.sh (ssL ss)),some (.sh (.lst (iD os))),some (.ow (cntD ss.length (cntF []))),some (.ow []),none] ⟨none,rfl⟩ (by
   rintro p a q e hpq ⟨v4,rfl⟩
   have hw:Whole ss (p++a::q):=by rw[← hpq];exact h
   obtain⟨hz,hat,hget,hset,hlt,hix,s,hs1,hs2⟩:=zzh hw
   have hf:Few (((tk ss p).map sD).length+1):=few (by rw[List.length_map,znn];rw[hpq] at hl;simp at hl;omega)
   have h0:(0:Int)<=((a-1:Nat):Int):=by omega
   have ei:dIx (.lst (s.map sD)) (.int (p.count a:Int))=some (sD (zec ss a (p.count a))):=hs2
   refine⟨[some (.sh (ssL ss)),some (.sh (.lst (iD os))),some (.ow (cntD ss.length (cntF (p++[a])))),some (.ow ((tk ss (p++[a])).map sD)),some (.sh (.int (a:Int)))],?_,_,rfl⟩
   rw[← hset,zmt,List.map_append,List.map_cons,List.map_nil]
   unfold ssL
   generalize cntD ss.length (cntF p)=C at *
   generalize (ss.map fun s=>D.lst (s.map sD))=L at *
   generalize (tk ss p).map sD=M at *
   generalize s.map sD=S at *
   simp only[zd0,sSeq,za7,zlf,zxi,zbi,zj9,fBin,fIxV,ixSl,fVar,fC,dSub,zav,List.getElem?_cons_zero,List.getElem?_cons_succ,Option.bind_some,Option.map_some,List.set_cons_zero,List.set_cons_succ,hz,hat,hs1,ei,hf,h0,if_true,Int.toNat_natCast,hget,hlt])
 have hck:=zm3 h hn
 have hc:=zk7 ss
 have hf:Few (ss.map fun s=>D.lst (s.map sD)).length:=few (by rw[List.length_map];omega)
 refine za4 (e':=[some (.sh (ssL ss)),some (.sh (.lst (iD os))),some (.ow (cntD ss.length (cntF os))),some (.sh (.lst ((tk ss os).map sD))),v4]) rfl ?_
 show zhn [some (.sh (ssL ss)),some (.sh (.lst (iD os))),none,none,none]=_
 have h1':forL 4 zd0 (iD os) [some (.sh (ssL ss)),some (.sh (.lst (iD os))),some (.ow (cntD ss.length (cntF []))),some (.ow []),none]=_:=h1
 unfold ssL at h1' hck ⊢
 generalize iD os=O at *
 generalize (ss.map fun s=>D.lst (s.map sD))=L at *
 simp only[zhn,sSeq,sOwn,za7,sFor,sRet,zah,zac,fNil,zat,zbq,fiS,fVar,List.map_nil,List.length_nil,Nat.zero_le,List.getElem?_cons_zero,List.getElem?_cons_succ,Option.bind_some,Option.map_some,List.set_cons_zero,List.set_cons_succ,hck,hf,if_true,hc,h1']
theorem zp2(h:Whole ss os)(hn:ss.length<=1000)(hl:os.length<=1000):zim [ssL ss,.lst (iD os)]=some (.lst ((tk ss os).map sD)):=by
 obtain⟨e',h1,v4,rfl⟩:=zc1 (i:=4) (g:=zeq) (fun a:Nat=>D.int (a:Int)) (fun p e=>∃v4,e=[some (.sh (ssL ss)),some (.sh (.lst (iD os))),some (.ow (cntD ss.length (cntF p))),some (.ow ((tk ss p).map sD)),v4]) os
  [some (.sh (ssL ss)),some (.sh (.lst (iD os))),some (.ow (cntD ss.length (cntF []))),some (.ow []),none] ⟨none,rfl⟩ (by
   rintro p a q e hpq ⟨v4,rfl⟩
   have hw:Whole ss (p++a::q):=by rw[← hpq];exact h
   obtain⟨hz,hat,hget,hset,hlt,hix,s,hs1,hs2⟩:=zzh hw
   have hf:Few (((tk ss p).map sD).length+1):=few (by rw[List.length_map,znn];rw[hpq] at hl;simp at hl;omega)
   have ei:dIx (.lst (s.map sD)) (.int (p.count a:Int))=some (sD (zec ss a (p.count a))):=hs2
   refine⟨[some (.sh (ssL ss)),some (.sh (.lst (iD os))),some (.ow (cntD ss.length (cntF (p++[a])))),some (.ow ((tk ss (p++[a])).map sD)),some (.sh (.int (a:Int)))],?_,_,rfl⟩
   rw[← hset,zmt,List.map_append,List.map_cons,List.map_nil]
   unfold ssL
   generalize cntD ss.length (cntF p)=C at *
   generalize (ss.map fun s=>D.lst (s.map sD))=L at *
   generalize (tk ss p).map sD=M at *
   generalize s.map sD=S at *
   simp only[zeq,sSeq,za7,zib,zs8,zbi,zj9,fBin,fIxV,ixSl,fVar,fC,dSub,zav,List.getElem?_cons_zero,List.getElem?_cons_succ,Option.bind_some,Option.map_some,List.set_cons_zero,List.set_cons_succ,hz,hat,hs1,ei,hf,if_true,hix])
 have hc:=zk7 ss
 have hf:Few (ss.map fun s=>D.lst (s.map sD)).length:=few (by rw[List.length_map];omega)
 refine za4 (e':=[some (.sh (ssL ss)),some (.sh (.lst (iD os))),some (.ow (cntD ss.length (cntF os))),some (.sh (.lst ((tk ss os).map sD))),v4]) rfl ?_
 show zil [some (.sh (ssL ss)),some (.sh (.lst (iD os))),none,none,none]=_
 have h1':forL 4 zeq (iD os) [some (.sh (ssL ss)),some (.sh (.lst (iD os))),some (.ow (cntD ss.length (cntF []))),some (.ow []),none]=_:=h1
 unfold ssL at h1' ⊢
 generalize iD os=O at *
 generalize (ss.map fun s=>D.lst (s.map sD))=L at *
 simp only[zil,sSeq,sOwn,sFor,sRet,fNil,zat,zbq,fiS,fVar,List.map_nil,List.length_nil,Nat.zero_le,List.getElem?_cons_zero,List.getElem?_cons_succ,Option.bind_some,Option.map_some,List.set_cons_zero,List.set_cons_succ,hf,if_true,hc,h1']
def zd4(h:Int):List (Nat×Sk)->List (List Int)
 | []=>[]
 | x::r=>[x.2.1,(x.1:Int),h,h+x.2.2.1]::zd4 (h+x.2.2.1) r
theorem zsl(x:Sk)(r:List Sk):hrs (x::r)=x.2.1+hrs r:=by simp[hrs]
theorem zk8(x:Nat×Sk):∀(p:List (Nat×Sk)) (h:Int),zd4 h (p++[x])=zd4 h p++[[x.2.1,(x.1:Int),h+hrs (p.map (·.2)),h+hrs (p.map (·.2))+x.2.2.1]]
 | [],h=>by simp[zd4,hrs]
 | y::p,h=>by
   rw[List.cons_append,zd4,zd4,zk8 x p,List.map_cons,zsl]
   rw[← Int.add_assoc]
   rfl
def zg0(h:Int):List Sk->Int
 | []=>0
 | x::r=>x.2.2*(h+x.2.1)+zg0 (h+x.2.1) r
theorem zk9(x:Sk):∀(p:List Sk) (h:Int),zg0 h (p++[x])=zg0 h p+x.2.2*(h+hrs p+x.2.1)
 | [],h=>by simp[zg0,hrs]
 | y::p,h=>by
   rw[List.cons_append,zg0,zg0,zk9 x p,zsl,← Int.add_assoc h]
   omega
theorem zkk(x:Sk):zbf [sD x]=some (.int x.2.1):=by simp[zbf,runD,zif,za8,sD,zn9]
theorem zon(x:Sk):zb1 [sD x]=some (.int x.2.2):=by simp[zb1,runD,zjr,za8,sD,zoa]
theorem zp3(x:Sk):zdx [sD x]=some (.int x.1):=by simp[zdx,runD,zki,za8,sD,z0y]
theorem zkl:∀(p:List (Nat×Sk)) (h:Int),(zd4 h p).length=p.length
 | [],_=>rfl
 | x::p,h=>by rw[zd4,List.length_cons,List.length_cons,zkl p]
theorem zoo(h:Whole ss os)(hn:ss.length<=1000)(hl:os.length<=900):zgh [ssL ss,.lst (iD os)]=some (.lst ((zd4 0 (os.zip (tk ss os))).map iT)):=by
 have ht:=zjj h hn (by omega)
 obtain⟨e',h1,v3,v4,v5,v6,rfl,rfl⟩:=zgm (ix:=[4,5]) (g:=zgu) (fun x:Nat×Sk=>[D.int (x.1:Int),sD x.2])
  (fun p e=>∃v3 v4 v5 v6,e=[some (.sh (ssL ss)),some (.sh (.lst (iD os))),some (.ow ((zd4 0 p).map iT)),v3,v4,v5,v6]/\v3=some (.sh (.int (hrs (p.map (·.2)))))) (os.zip (tk ss os))
  [some (.sh (ssL ss)),some (.sh (.lst (iD os))),some (.ow []),some (.sh (.int 0)),none,none,none] ⟨_,none,none,none,rfl,rfl⟩ (fun _ _=>rfl) (by
   rintro p x q e hpq ⟨v3,v4,v5,v6,rfl,rfl⟩
   have hf:Few (((zd4 0 p).map iT).length+1):=few (by
    rw[List.length_map,zkl]
    have:=congrArg List.length hpq
    simp only[List.length_zip,List.length_append,List.length_cons] at this
    omega)
   have e1:iT [x.2.1,(x.1:Int),0+hrs (p.map (·.2)),0+hrs (p.map (·.2))+x.2.2.1]=.tup [.int x.2.1,.int (x.1:Int),.int (hrs (p.map (·.2))),.int (hrs (p.map (·.2))+x.2.2.1)]:=by simp[iT]
   have e2:hrs ((p++[x]).map (·.2))=hrs (p.map (·.2))+x.2.2.1:=by rw[List.map_append,zdp];simp[hrs]
   refine⟨[some (.sh (ssL ss)),some (.sh (.lst (iD os))),some (.ow ((zd4 0 (p++[x])).map iT)),some (.sh (.int (hrs ((p++[x]).map (·.2))))),some (.sh (.int (x.1:Int))),some (.sh (sD x.2)),some (.sh (.int (hrs (p.map (·.2))+x.2.2.1)))],?_,_,_,_,_,rfl,rfl⟩
   rw[zk8,List.map_append,List.map_cons,List.map_nil,e1,e2]
   generalize (zd4 0 p).map iT=M at *
   simp only[zgd,zgu,sSeq,sSet,za7,zbi,zj9,fTup,zac,fNil,zah,fBin,fVar,zav,List.getElem?_cons_zero,List.getElem?_cons_succ,Option.bind_some,Option.map_some,List.set_cons_zero,List.set_cons_succ,zkk,zp3,List.length_cons,List.length_nil,show(0+1+1+1+1<=64)=True by simp,if_true,hf])
 refine za4 (e':=[some (.sh (ssL ss)),some (.sh (.lst (iD os))),some (.sh (.lst ((zd4 0 (os.zip (tk ss os))).map iT))),some (.sh (.int (hrs ((os.zip (tk ss os)).map (·.2))))),v4,v5,v6]) rfl ?_
 show zii [some (.sh (ssL ss)),some (.sh (.lst (iD os))),none,none,none,none,none]=_
 have hz:iZp [.lst (iD os),.lst ((tk ss os).map sD)]=some ((os.zip (tk ss os)).map fun x=>D.tup [D.int (x.1:Int),sD x.2]):=by
  show some (zipD (iD os) ((tk ss os).map sD))=_
  unfold iD
  rw[zsg]
 simp only[zii,sSeq,sOwn,sSet,zf9,sRet,zat,fNil,fC,zao,zah,zac,fVar,List.getElem?_cons_zero,List.getElem?_cons_succ,Option.bind_some,Option.map_some,List.set_cons_zero,List.set_cons_succ,List.length_nil,Nat.zero_le,if_true,ht,hz,h1]
theorem zop(h:Whole ss os)(hg:∀x∈ss.flatten,zbg x)(hn:ss.length<=1000)(hl:os.length<=900):zik [ssL ss,.lst (iD os)]=some (.int (zg0 0 (tk ss os))):=by
 have ht:=zjj h hn (by omega)
 obtain⟨e',h1,v4,rfl⟩:=zc1 (i:=4) (g:=zgv) sD (fun p e=>∃v4,e=[some (.sh (ssL ss)),some (.sh (.lst (iD os))),some (.sh (.int (zg0 0 p))),some (.sh (.int (hrs p))),v4]) (tk ss os)
  [some (.sh (ssL ss)),some (.sh (.lst (iD os))),some (.sh (.int 0)),some (.sh (.int 0)),none] ⟨none,rfl⟩ (by
   rintro p x q e hpq ⟨v4,rfl⟩
   obtain⟨_,_,_,_,g3,g4⟩:=hg x (h.sk x (by rw[hpq];simp))
   have sm:zfb x.2.2:=zek (by omega)
   have e2:hrs (p++[x])=hrs p+x.2.1:=by rw[zdp];simp[hrs]
   have e3:zg0 0 (p++[x])=zg0 0 p+x.2.2*(hrs p+x.2.1):=by rw[zk9,Int.zero_add]
   refine⟨[some (.sh (ssL ss)),some (.sh (.lst (iD os))),some (.sh (.int (zg0 0 (p++[x])))),some (.sh (.int (hrs (p++[x])))),some (.sh (sD x))],?_,_,rfl⟩
   rw[e2,e3]
   simp only[zgv,sSeq,sSet,fBin,fVar,zah,zac,fNil,zav,List.getElem?_cons_zero,List.getElem?_cons_succ,Option.bind_some,Option.map_some,List.set_cons_zero,List.set_cons_succ,zkk,zon,zh7 sm])
 refine za4 (e':=[some (.sh (ssL ss)),some (.sh (.lst (iD os))),some (.sh (.int (zg0 0 (tk ss os)))),some (.sh (.int (hrs (tk ss os)))),v4]) rfl ?_
 show zij [some (.sh (ssL ss)),some (.sh (.lst (iD os))),none,none,none]=_
 simp only[zij,sSeq,sSet,sFor,sRet,fC,fiS,zah,zac,fNil,fVar,List.getElem?_cons_zero,List.getElem?_cons_succ,Option.bind_some,Option.map_some,List.set_cons_zero,List.set_cons_succ,ht,h1]
theorem zq4(T:List Sk)(hg:∀x∈T,zbg x):zjw [.lst (T.map sD)]=some (.int (zg0 0 T)):=by
 obtain⟨e',h1,v3,rfl⟩:=zc1 (i:=3) (g:=zho) sD (fun p e=>∃v3,e=[some (.sh (.lst (T.map sD))),some (.sh (.int (hrs p))),some (.sh (.int (zg0 0 p))),v3]) T
  [some (.sh (.lst (T.map sD))),some (.sh (.int 0)),some (.sh (.int 0)),none] ⟨none,rfl⟩ (by
   rintro p x q e hpq ⟨v3,rfl⟩
   obtain⟨_,_,_,_,g3,g4⟩:=hg x (by rw[hpq];simp)
   have sm:zfb x.2.2:=zek (by omega)
   have e2:hrs (p++[x])=hrs p+x.2.1:=by rw[zdp];simp[hrs]
   have e3:zg0 0 (p++[x])=zg0 0 p+x.2.2*(hrs p+x.2.1):=by rw[zk9,Int.zero_add]
   refine⟨[some (.sh (.lst (T.map sD))),some (.sh (.int (hrs (p++[x])))),some (.sh (.int (zg0 0 (p++[x])))),some (.sh (sD x))],?_,_,rfl⟩
   rw[e2,e3]
   generalize T.map sD=TT at *
   unfold sD
   simp only[zho,sSeq,sSet,fBin,fVar,fIxV,ixSl,fC,zav,List.getElem?_cons_zero,List.getElem?_cons_succ,Option.bind_some,Option.map_some,List.set_cons_zero,List.set_cons_succ,zn9,zoa,zh7 sm])
 refine za4 (e':=[some (.sh (.lst (T.map sD))),some (.sh (.int (hrs T))),some (.sh (.int (zg0 0 T))),v3]) rfl ?_
 show zjv [some (.sh (.lst (T.map sD))),none,none,none]=_
 simp only[zjv,sSeq,sSet,sFor,sRet,fC,fiS,fVar,List.getElem?_cons_zero,List.getElem?_cons_succ,Option.bind_some,Option.map_some,List.set_cons_zero,List.set_cons_succ,h1]
theorem zoq(ok:TurnsOk ss ts)(hbt:zck [ssL ss]=some (.lst (ts.map tnD)))(hg:∀x∈ss.flatten,zbg x)(hn:ss.length<=1000)(hl:ss.flatten.length<=14):zgk [ssL ss]=some (.int (zg0 0 (tk ss (zbl ts)))):=by
 have hord:=zfg ok hbt hl
 have hw:=ok.whole
 have hco:=zop hw hg hn (by rw[hw.len];omega)
 refine za4 (e':=[some (.sh (ssL ss))]) rfl ?_
 show zin [some (.sh (ssL ss))]=_
 simp only[zin,sRet,zah,zao,fLst,zac,fNil,fVar,List.getElem?_cons_zero,Option.bind_some,Option.map_some,hord,hco]
theorem zor(p q:List Tn)(j:Nat):ofS (p++q) j=ofS p j++ofS q j:=by unfold ofS;rw[List.filter_append,List.map_append]
def begF(p:List Tn)(j:Nat):Int:=((ofS p j).flatten.length:Int)
theorem zv4(p:List Tn)(t:Tn)(h1:1<=t.1):begF (p++[t]) (t.1-1)=begF p (t.1-1)+(t.2.length:Int)/\∀i,i≠t.1-1->begF (p++[t]) i=begF p i:=by
 unfold begF
 refine⟨?_,fun i hi=>?_⟩
 ·rw[zor,zei t [] (t.1-1) (by omega)]
  simp[ofS]
 ·rw[zor,zf6 t [] i (by omega)]
  simp[ofS]
def slD(r:List Sk):D:=.lst (r.map sD)
theorem zos(ok:TurnsOk ss ts)(hn:ss.length<=1000)(hl:ss.flatten.length<=14):ziq [ssL ss,.lst (ts.map tnD)]=some (.lst (ts.map fun t=>slD t.2)):=by
 have htl:=ok.len
 obtain⟨e',h1,v4,v5,v6,v7,v8,rfl⟩:=zgm (ix:=[4,5,6,7]) (g:=zer) (fun t:Tn=>[D.int (t.1:Int),.int (t.2.length:Int),.int (hrs t.2),.int (lss t.2)])
  (fun p e=>∃v4 v5 v6 v7 v8,e=[some (.sh (ssL ss)),some (.sh (.lst (ts.map tnD))),some (.ow (cntD ss.length (begF p))),some (.ow (p.map fun t=>slD t.2)),v4,v5,v6,v7,v8]) ts
  [some (.sh (ssL ss)),some (.sh (.lst (ts.map tnD))),some (.ow (cntD ss.length (begF []))),some (.ow []),none,none,none,none,none] ⟨none,none,none,none,none,rfl⟩ (fun _ _=>rfl) (by
   rintro p t q e hpq ⟨v4,v5,v6,v7,v8,rfl⟩
   obtain⟨l1,l2⟩:=ok.lo t (by rw[hpq];simp)
   obtain⟨e1,e2⟩:=zv4 p t l1
   have hz:(t.1:Int)-1=((t.1-1:Nat):Int):=by omega
   have hat:=zq2 ss.length (begF p) (t.1-1) (by omega)
   have hix:ixN (cntD ss.length (begF p)).length ((t.1-1:Nat):Int)=some (t.1-1):=by
    rw[zeh (by omega) (by rw[zl0];omega)]
    congr 1
   have hset:=zom ss.length (begF p) (begF (p++[t])) (t.1-1) (fun i _ hi=>e2 i hi)
   rw[e1] at hset
   have hjl:t.1-1<ss.length:=by omega
   have hs:=ok.part (t.1-1) ss[t.1-1] (by simp[hjl])
   rw[hpq,zor,zei t q (t.1-1) (by omega),List.flatten_append,List.flatten_cons] at hs
   have hs1:atI (ss.map fun s=>D.lst (s.map sD)) ((t.1-1:Nat):Int)=some (.lst (ss[t.1-1].map sD)):=zbp (fun s:List Sk=>D.lst (s.map sD)) (by simp[hjl])
   have hcut:=z05 ((ofS p (t.1-1)).flatten.map sD) (t.2.map sD) ((ofS q (t.1-1)).flatten.map sD)
   rw[← List.map_append,← List.map_append,hs,List.length_map,List.length_map] at hcut
   have hb:begF p (t.1-1)=((ofS p (t.1-1)).flatten.length:Int):=rfl
   rw[← hb] at hcut
   have hpl:p.length<=ts.length:=by rw[hpq];simp
   have hf:Few ((p.map fun t=>slD t.2).length+1):=few (by rw[List.length_map];omega)
   refine⟨[some (.sh (ssL ss)),some (.sh (.lst (ts.map tnD))),some (.ow (cntD ss.length (begF (p++[t])))),some (.ow ((p++[t]).map fun t=>slD t.2)),some (.sh (.int (t.1:Int))),some (.sh (.int (t.2.length:Int))),some (.sh (.int (hrs t.2))),some (.sh (.int (lss t.2))),some (.sh (.int (begF p (t.1-1))))],?_,_,_,_,_,_,rfl⟩
   rw[← hset,List.map_append,List.map_cons,List.map_nil]
   unfold ssL
   generalize cntD ss.length (begF p)=C at *
   generalize (ss.map fun s=>D.lst (s.map sD))=L at *
   generalize (ss[t.1-1].map sD)=S at *
   generalize (p.map fun t=>slD t.2)=M at *
   have hsl:D.lst (t.2.map sD)=slD t.2:=rfl
   simp only[zgd,zer,sSeq,sSet,za7,zib,zs8,zbi,zj9,fLst,fSl,fO1,fIxV,ixSl,fBin,fVar,fC,dSub,zav,List.getElem?_cons_zero,List.getElem?_cons_succ,Option.bind_some,Option.map_some,List.set_cons_zero,List.set_cons_succ,hz,hat,hix,hs1,hcut,hsl,hf,if_true])
 have hc:zg8 fYes (fC (.int 0)) [] (ss.map fun s=>D.lst (s.map sD))=some (cntD ss.length (begF [])):=by
  rw[zk7]
  congr 1
 have hf:Few (ss.map fun s=>D.lst (s.map sD)).length:=few (by rw[List.length_map];omega)
 refine za4 (e':=[some (.sh (ssL ss)),some (.sh (.lst (ts.map tnD))),some (.ow (cntD ss.length (begF ts))),some (.sh (.lst (ts.map fun t=>slD t.2))),v4,v5,v6,v7,v8]) rfl ?_
 show zio [some (.sh (ssL ss)),some (.sh (.lst (ts.map tnD))),none,none,none,none,none,none,none]=_
 have h1':forU [4,5,6,7] zer (ts.map tnD) [some (.sh (ssL ss)),some (.sh (.lst (ts.map tnD))),some (.ow (cntD ss.length (begF []))),some (.ow []),none,none,none,none,none]=_:=h1
 unfold ssL at h1' ⊢
 generalize ts.map tnD=T at *
 generalize (ss.map fun s=>D.lst (s.map sD))=L at *
 simp only[zio,sSeq,sOwn,zf9,sRet,zbq,fiS,fVar,zat,fNil,List.map_nil,List.length_nil,Nat.zero_le,List.getElem?_cons_zero,List.getElem?_cons_succ,Option.bind_some,Option.map_some,List.set_cons_zero,List.set_cons_succ,hf,if_true,hc,h1']
def zkm(r p:List Sk):List Int:=(List.range p.length).map fun i=>lss r*hrs (p.take (i+1))-lss (p.take (i+1))*hrs r
theorem zno(r p:List Sk)(x:Sk):zkm r (p++[x])=zkm r p++[lss r*hrs (p++[x])-lss (p++[x])*hrs r]:=by
 unfold zkm
 rw[List.length_append,List.length_singleton,List.range_succ,List.map_append]
 congr 1
 ·apply List.map_congr_left
  intro i hi
  have hi:i<p.length:=List.mem_range.mp hi
  rw[List.take_append_of_le_length (by omega)]
 ·simp only[List.map_cons,List.map_nil]
  rw[List.take_of_length_le (by simp)]
theorem zmu(r p:List Sk):(zkm r p).length=p.length:=by simp[zkm]
def debts(r:List Sk):List Int:=zkm r r.dropLast
theorem zyb(a:List D):cutD a none (some (-1))=a.dropLast:=by
 unfold cutD
 rw[HT.sIx_none]
 have:HT.sIx a.length a.length (some (-1))=a.length-1:=by
  unfold HT.sIx
  dsimp only
  rw[if_pos (by omega)]
  omega
 rw[this,List.dropLast_eq_take]
 simp
theorem zv5(a:List D):cutD a none (some ((a.length:Int)-1))=a.dropLast:=by
 unfold cutD
 rw[HT.sIx_none,List.dropLast_eq_take]
 cases a with
 | nil=>simp
 | cons x a =>
   rw[show(((x::a).length:Nat):Int)-1=((a.length:Nat):Int) by simp,HT.sIx_nat]
   simp
theorem zm4(r:List Sk)(hs:∀x∈r,zbg x)(hl:r.length<=14):zhq [.tup [.int (hrs r),.int (lss r)],slD r]=some (.lst ((debts r).map D.int)):=by
 have hb:=smB r hs (by omega)
 obtain⟨e',h1,v5,rfl⟩:=zc1 (i:=5) (g:=zf2) sD (fun p e=>∃v5,e=[some (.sh (.tup [.int (hrs r),.int (lss r)])),some (.sh (slD r)),some (.ow ((zkm r p).map D.int)),some (.sh (.int (hrs p))),some (.sh (.int (lss p))),v5]) r.dropLast
  [some (.sh (.tup [.int (hrs r),.int (lss r)])),some (.sh (slD r)),some (.ow []),some (.sh (.int 0)),some (.sh (.int 0)),none] ⟨none,rfl⟩ (by
   rintro p x q e hpq ⟨v5,rfl⟩
   have e1:hrs (p++[x])=hrs p+x.2.1:=by rw[zdp];simp[hrs]
   have e2:lss (p++[x])=lss p+x.2.2:=by rw[zfd];simp[lss]
   have hpl:p.length+1<=r.length:=by
    have:=congrArg List.length hpq
    simp at this
    omega
   have hsp:∀y∈p++[x],zbg y:=fun y hy=>hs y (List.dropLast_subset r (by rw[hpq];rw[show p++x::q=(p++[x])++q by simp];exact List.mem_append_left _ hy))
   have hbp:=smB (p++[x]) hsp (by simp;omega)
   have hgap:=zvo (hrs r) (lss r) (hrs (p++[x])) (lss (p++[x])) hb.2 hbp.2
   have hf:Few (((zkm r p).map D.int).length+1):=few (by rw[List.length_map,zmu];omega)
   refine⟨[some (.sh (.tup [.int (hrs r),.int (lss r)])),some (.sh (slD r)),some (.ow ((zkm r (p++[x])).map D.int)),some (.sh (.int (hrs (p++[x])))),some (.sh (.int (lss (p++[x])))),some (.sh (sD x))],?_,_,rfl⟩
   rw[zno,List.map_append,List.map_cons,List.map_nil]
   rw[e1,e2] at hgap ⊢
   generalize (zkm r p).map D.int=M at *
   simp only[zf2,sSeq,sSet,za7,zbi,zj9,zah,zac,fNil,fTup,fBin,fVar,zav,List.getElem?_cons_zero,List.getElem?_cons_succ,Option.bind_some,Option.map_some,List.set_cons_zero,List.set_cons_succ,zkk,zon,List.length_cons,List.length_nil,show(0+1+1<=64)=True by simp,if_true,hgap,hf])
 refine za4 (e':=[some (.sh (.tup [.int (hrs r),.int (lss r)])),some (.sh (slD r)),some (.sh (.lst ((debts r).map D.int))),some (.sh (.int (hrs r.dropLast))),some (.sh (.int (lss r.dropLast))),v5]) rfl ?_
 show zhp [some (.sh (.tup [.int (hrs r),.int (lss r)])),some (.sh (slD r)),none,none,none,none]=_
 have hcut:=zyb (r.map sD)
 rw[← List.map_dropLast] at hcut
 unfold slD at h1 ⊢
 unfold debts
 generalize r.map sD=R at *
 simp only[zhp,sSeq,sSet,sOwn,sFor,sRet,zat,fNil,fC,fiS,fLst,fSl,fO0,fO1,fUn,dNeg,fVar,List.getElem?_cons_zero,List.getElem?_cons_succ,Option.bind_some,Option.map_some,List.set_cons_zero,List.set_cons_succ,List.length_nil,Nat.zero_le,if_true,hcut,h1]
theorem zp4(r:List Sk)(hs:∀x∈r,zbg x)(hl:r.length<=14):zis [slD r,.int (hrs r),.int (lss r)]=some (.lst ((debts r).map D.int)):=by
 have hb:=smB r hs (by omega)
 have s1:zfb (hrs r):=hb.1
 have s2:zfb (lss r):=hb.2
 obtain⟨e',h1,v6,rfl⟩:=zc1 (i:=6) (g:=zgw) sD (fun p e=>∃v6,e=[some (.sh (slD r)),some (.sh (.int (hrs r))),some (.sh (.int (lss r))),some (.ow ((zkm r p).map D.int)),some (.sh (.int (hrs p))),some (.sh (.int (lss p))),v6]) r.dropLast
  [some (.sh (slD r)),some (.sh (.int (hrs r))),some (.sh (.int (lss r))),some (.ow []),some (.sh (.int 0)),some (.sh (.int 0)),none] ⟨none,rfl⟩ (by
   rintro p x q e hpq ⟨v6,rfl⟩
   have e1:hrs (p++[x])=hrs p+x.2.1:=by rw[zdp];simp[hrs]
   have e2:lss (p++[x])=lss p+x.2.2:=by rw[zfd];simp[lss]
   have hpl:p.length+1<=r.length:=by
    have:=congrArg List.length hpq
    simp at this
    omega
   have hf:Few (((zkm r p).map D.int).length+1):=few (by rw[List.length_map,zmu];omega)
   refine⟨[some (.sh (slD r)),some (.sh (.int (hrs r))),some (.sh (.int (lss r))),some (.ow ((zkm r (p++[x])).map D.int)),some (.sh (.int (hrs (p++[x])))),some (.sh (.int (lss (p++[x])))),some (.sh (sD x))],?_,_,rfl⟩
   rw[zno,List.map_append,List.map_cons,List.map_nil,e1,e2,Int.mul_comm (lss p+x.2.2) (hrs r)]
   generalize (zkm r p).map D.int=M at *
   unfold sD
   simp only[zgw,sSeq,sSet,za7,zbi,zj9,fBin,fVar,fIxV,ixSl,fC,zav,dSub,List.getElem?_cons_zero,List.getElem?_cons_succ,Option.bind_some,Option.map_some,List.set_cons_zero,List.set_cons_succ,zn9,zoa,zh7 s1,zh7 s2,if_true,hf])
 refine za4 (e':=[some (.sh (slD r)),some (.sh (.int (hrs r))),some (.sh (.int (lss r))),some (.sh (.lst ((debts r).map D.int))),some (.sh (.int (hrs r.dropLast))),some (.sh (.int (lss r.dropLast))),v6]) rfl ?_
 show zir [some (.sh (slD r)),some (.sh (.int (hrs r))),some (.sh (.int (lss r))),none,none,none,none]=_
 have hcut:=zv5 (r.map sD)
 rw[← List.map_dropLast] at hcut
 unfold slD at h1 ⊢
 unfold debts
 generalize r.map sD=R at *
 simp only[zir,sSeq,sSet,sOwn,sFor,sRet,zat,fNil,fC,fiS,fLst,fSl,fO0,fO1,fBin,dSub,za9,fVar,List.getElem?_cons_zero,List.getElem?_cons_succ,Option.bind_some,Option.map_some,List.set_cons_zero,List.set_cons_succ,List.length_nil,Nat.zero_le,if_true,hcut,h1]
def zjd(ts:List Tn)(k:Nat):Int:=match ts[k]?,ts[k+1]? with
 | some t,some n=>lss t.2*hrs n.2-lss n.2*hrs t.2
 | _,_=>0
theorem zp5(ts:List Tn)(k:Nat)(hk:k<ts.length)(hs:∀t∈ts,SmB (blk t.2)):zjx [.lst (ts.map tnD),.int (k:Int)]=some (.int (zjd ts k)):=by
 by_cases he:k+1=ts.length
 ·have hz:zjd ts k=0:=by
   unfold zjd
   rw[List.getElem?_eq_none (i:=k+1) (by omega)]
   cases ts[k]? <;> rfl
  rw[hz]
  have hd:decide ((k:Int)+1=((ts.map tnD).length:Int))=true:=by simp;omega
  refine za4 (e':=[some (.sh (.lst (ts.map tnD))),some (.sh (.int (k:Int)))]) rfl ?_
  show zf3 [some (.sh (.lst (ts.map tnD))),some (.sh (.int (k:Int)))]=_
  generalize ts.map tnD=T at *
  simp only[zf3,sSeq,sIf,sRet,sNil,fTst,fBin,fVar,fC,za9,zav,dEq,List.getElem?_cons_zero,List.getElem?_cons_succ,Option.bind_some,Option.map_some,hd,if_true]
 ·have hk1:k+1<ts.length:=by omega
  have hz:zjd ts k=lss ts[k].2*hrs ts[k+1].2-lss ts[k+1].2*hrs ts[k].2:=by
   unfold zjd
   rw[List.getElem?_eq_getElem hk,List.getElem?_eq_getElem hk1]
  rw[hz]
  have hd:decide ((k:Int)+1=((ts.map tnD).length:Int))=false:=by simp;omega
  have a1:atI (ts.map tnD) (k:Int)=some (tnD ts[k]):=zbp tnD (by simp[hk])
  have a2:atI (ts.map tnD) ((k:Int)+1)=some (tnD ts[k+1]):=by
   rw[show(k:Int)+1=((k+1:Nat):Int) by omega]
   exact zbp tnD (by simp[hk1])
  have hgap:=zvo (hrs ts[k].2) (lss ts[k].2) (hrs ts[k+1].2) (lss ts[k+1].2) (hs _ (List.getElem_mem hk)).2 (hs _ (List.getElem_mem hk1)).2
  refine za4 (e':=[some (.sh (.lst (ts.map tnD))),some (.sh (.int (k:Int)))]) rfl ?_
  show zf3 [some (.sh (.lst (ts.map tnD))),some (.sh (.int (k:Int)))]=_
  generalize ts.map tnD=T at *
  simp only[zf3,sSeq,sIf,sRet,sNil,fTst,fBin,fVar,fC,za9,zah,zac,fNil,fIxV,ixSl,zav,dEq,List.getElem?_cons_zero,List.getElem?_cons_succ,Option.bind_some,Option.map_some,hd,Bool.false_eq_true,if_false,a1,a2,zmm,hgap]
def rowW(ts:List Tn)(x:Tn×Nat):D:=.tup [.int (x.1.1:Int),.int (x.1.2.length:Int),.int (hrs x.1.2),.int (lss x.1.2),.lst ((debts x.1.2).map D.int),.int (zjd ts x.2)]
theorem zp6(ok:TurnsOk ss ts)(hbt:zck [ssL ss]=some (.lst (ts.map tnD)))(hg:∀x∈ss.flatten,zbg x)(hn:ss.length<=1000)(hl:ss.flatten.length<=14) :
  zhs [ssL ss]=some (.lst ((ts.zipIdx).map (rowW ts))):=by
 have hts:=zos ok hn hl
 have htl:=ok.len
 have hsm:=ok.sm hg (by omega)
 obtain⟨e',h1,v3,v4,v5,rfl⟩:=zgm (ix:=[3,4]) (g:=zhr) (fun x:Tn×Nat=>[D.int (x.2:Int),slD x.1.2])
  (fun p e=>∃v3 v4 v5,e=[some (.sh (ssL ss)),some (.sh (.lst (ts.map tnD))),some (.ow (p.map (rowW ts))),v3,v4,v5]) ts.zipIdx
  [some (.sh (ssL ss)),some (.sh (.lst (ts.map tnD))),some (.ow []),none,none,none] ⟨none,none,none,rfl⟩ (fun _ _=>rfl) (by
   rintro p x q e hpq ⟨v3,v4,v5,rfl⟩
   have hx:ts.zipIdx[p.length]?=some x:=by rw[hpq];simp
   have hxk:ts[x.2]?=some x.1:=by
    rw[List.getElem?_zipIdx] at hx
    cases hs:ts[p.length]? with
    | none=>rw[hs] at hx;cases hx
    | some t=>rw[hs] at hx;cases hx;simpa using hs
   obtain⟨t,k⟩:=x
   have hk:=(List.getElem?_eq_some_iff.mp hxk).1
   have hm:t∈ts:=List.mem_of_getElem? hxk
   have hat:atI (ts.map tnD) (k:Int)=some (tnD t):=zbp tnD hxk
   have hdb:=zm4 t.2 (ok.sk hg t hm) (Nat.le_trans (ok.len1 t hm) hl)
   have hfa:=zp5 ts k hk hsm
   have hf:Few ((p.map (rowW ts)).length+1):=few (by
    rw[List.length_map]
    have:=congrArg List.length hpq
    simp at this
    omega)
   have hcat:ztd (tnD t) (.tup [.lst ((debts t.2).map D.int),.int (zjd ts k)])=some (rowW ts (t,k)):=by
    unfold ztd tnD
    dsimp only
    rw[if_pos ⟨by simp,by simp,by simp⟩]
    rfl
   refine⟨[some (.sh (ssL ss)),some (.sh (.lst (ts.map tnD))),some (.ow ((p++[(t,k)]).map (rowW ts))),some (.sh (.int (k:Int))),some (.sh (slD t.2)),some (.sh (tnD t))],?_,_,_,_,rfl⟩
   rw[List.map_append,List.map_cons,List.map_nil]
   generalize ts.map tnD=T at *
   generalize p.map (rowW ts)=M at *
   simp only[zgd,zhr,sSeq,sSet,za7,zbi,zj9,fBin,zah,zac,fNil,fTup,fIxV,ixSl,fVar,List.getElem?_cons_zero,List.getElem?_cons_succ,Option.bind_some,Option.map_some,List.set_cons_zero,List.set_cons_succ,hat,zmm,hdb,hfa,List.length_cons,List.length_nil,show(0+1+1<=64)=True by simp,if_true,hcat,hf])
 refine za4 (e':=[some (.sh (ssL ss)),some (.sh (.lst (ts.map tnD))),some (.sh (.lst ((ts.zipIdx).map (rowW ts)))),v3,v4,v5]) rfl ?_
 show zjy [some (.sh (ssL ss)),none,none,none,none,none]=_
 have he:iEn 0 [.lst (ts.map fun t=>slD t.2)]=some (ts.zipIdx.map fun x=>D.tup [D.int (x.2:Int),slD x.1.2]):=by
  show some (zkw 0 (ts.map fun t=>slD t.2))=_
  rw[zml]
 generalize ts.map tnD=T at *
 simp only[zjy,sSeq,sSet,sOwn,zf9,sRet,zat,fNil,zao,zah,zac,fVar,List.getElem?_cons_zero,List.getElem?_cons_succ,Option.bind_some,Option.map_some,List.set_cons_zero,List.set_cons_succ,List.length_nil,Nat.zero_le,if_true,hbt,hts,he,h1]
theorem zyc(ts:List Tn)(t:Tn)(k:Nat):¬(HT.sIx 6 0 none=0/\HT.sIx 6 6 (some 4)=6)/\cutD [.int (t.1:Int),.int (t.2.length:Int),.int (hrs t.2),.int (lss t.2),.lst ((debts t.2).map D.int),.int (zjd ts k)] none (some 4)=[.int (t.1:Int),.int (t.2.length:Int),.int (hrs t.2),.int (lss t.2)]:=by
 refine⟨by decide,rfl⟩
theorem zq5(ok:TurnsOk ss ts)(hg:∀x∈ss.flatten,zbg x)(hn:ss.length<=900)(hl:ss.flatten.length<=14) :
  zf5 [.lst ((ts.zipIdx).map (rowW ts)),ssL ss]=some (.bl true):=by
 have htu:=zsi ok hg hl hn
 have hcp:=z09 ss (by omega)
 have htl:=ok.len
 have hsm:=ok.sm hg (by omega)
 have hleft:=ok.left
 have okd:∀k,TurnsOk (zap ss.length (ts.drop k)) (ts.drop k):=fun k=>TurnsOk.drop (by rw[hleft];exact ok) k
 obtain⟨e',h1,v4,v5,v6,v7,v8,v9,v10,v11,rfl⟩:=zcm (i:=4) (g:=zeg) (fun k e=>∃v4 v5 v6 v7 v8 v9 v10 v11,e=[some (.sh (.lst ((ts.zipIdx).map (rowW ts)))),some (.sh (ssL ss)),some (.sh (.lst (ts.map tnD))),some (.ow ((zap ss.length (ts.drop k)).map fun s=>D.lst (s.map sD))),v4,v5,v6,v7,v8,v9,v10,v11])
  (rngD 0 ts.length) [some (.sh (.lst ((ts.zipIdx).map (rowW ts)))),some (.sh (ssL ss)),some (.sh (.lst (ts.map tnD))),some (.ow (ss.map fun s=>D.lst (s.map sD))),none,none,none,none,none,none,none,none] ⟨none,none,none,none,none,none,none,none,by rw[List.drop_zero,hleft]⟩ (by
    rintro k d e hd' ⟨v4,v5,v6,v7,v8,v9,v10,v11,rfl⟩
    obtain⟨rfl,hk⟩:=zdj hd'
    rw[Int.zero_add]
    have hm:ts[k]∈ts:=List.getElem_mem hk
    have hdk:=List.drop_eq_getElem_cons hk
    rw[hdk]
    obtain⟨l1,l2⟩:=ok.lo _ hm
    have hat:atI (ts.map tnD) (k:Int)=some (tnD ts[k]):=zbp tnD (by simp[hk])
    have hrow:atI ((ts.zipIdx).map (rowW ts)) (k:Int)=some (rowW ts (ts[k],k)):=zbp (rowW ts) (by simp[hk])
    have htop:=zk6 (ts:=ts.drop (k+1)) l1 l2
    have hset:=zmo (ts:=ts.drop (k+1)) l1 l2
    have hdb:=zp4 ts[k].2 (ok.sk hg _ hm) (Nat.le_trans (ok.len1 _ hm) hl)
    have hsn:=zix (debts ts[k].2) (by unfold debts;rw[zmu,List.length_dropLast];have:=ok.len1 _ hm;omega)
    have hwh:=zgl (zjd ts k)
    have hsr:zbo [.tup [.int (ts[k].1:Int),.int (ts[k].2.length:Int),.int (hrs ts[k].2),.int (lss ts[k].2)],.tup [.int (ts[k].1:Int),.int (ts[k].2.length:Int),.int (hrs ts[k].2),.int (lss ts[k].2)]]=some (.bl true):=zjz [(ts[k].1:Int),(ts[k].2.length:Int),hrs ts[k].2,lss ts[k].2] (by simp)
    obtain⟨rh1,rh2⟩:=zyc ts ts[k] k
    have hfall:∃(fF:FS),fF=sIf (fTst (fBin dLt (fBin zav (fVar 4) (fC (.int 1))) (za9 2))) (sSet 9 (fBin dSub (fBin dMul (fVar 8) (fBin dIx (fIxV 2 (fBin zav (fVar 4) (fC (.int 1)))) (fC (.int 2)))) (fBin dMul (fBin dIx (fIxV 2 (fBin zav (fVar 4) (fC (.int 1)))) (fC (.int 3))) (fVar 7)))) (sNil) /\
      ∀(w0 w1 w3 w5 w6 w10 w11:Option Sl),fF [w0,w1,some (.sh (.lst (ts.map tnD))),w3,some (.sh (.int (k:Int))),w5,w6,some (.sh (.int (hrs ts[k].2))),some (.sh (.int (lss ts[k].2))),some (.sh (.int 0)),w10,w11] =
       some (.nx,[w0,w1,some (.sh (.lst (ts.map tnD))),w3,some (.sh (.int (k:Int))),w5,w6,some (.sh (.int (hrs ts[k].2))),some (.sh (.int (lss ts[k].2))),some (.sh (.int (zjd ts k))),w10,w11]):=by
     refine⟨_,rfl,fun w0 w1 w3 w5 w6 w10 w11=>?_⟩
     by_cases he:k+1<ts.length
     ·have hz:zjd ts k=lss ts[k].2*hrs ts[k+1].2-lss ts[k+1].2*hrs ts[k].2:=by
       unfold zjd
       rw[List.getElem?_eq_getElem hk,List.getElem?_eq_getElem he]
      have hd:decide ((k:Int)+1<((ts.map tnD).length:Int))=true:=by simp;omega
      have a2:atI (ts.map tnD) ((k:Int)+1)=some (tnD ts[k+1]):=by
       rw[show(k:Int)+1=((k+1:Nat):Int) by omega]
       exact zbp tnD (by simp[he])
      have i2:dIx (tnD ts[k+1]) (.int 2)=some (.int (hrs ts[k+1].2)):=rfl
      have i3:dIx (tnD ts[k+1]) (.int 3)=some (.int (lss ts[k+1].2)):=rfl
      have m1:=(hsm _ hm).2
      have m2:=(hsm _ (List.getElem_mem he)).2
      have m1':zfb (lss ts[k].2):=m1
      have m2':zfb (lss ts[k+1].2):=m2
      rw[hz]
      generalize ts.map tnD=T at *
      simp only[sIf,sSet,fTst,fBin,fVar,fC,za9,fIxV,ixSl,zav,dLt,dSub,List.getElem?_cons_zero,List.getElem?_cons_succ,Option.bind_some,Option.map_some,List.set_cons_zero,List.set_cons_succ,hd,if_true,a2,i2,i3,zh7 m1',zh7 m2']
     ·have hz:zjd ts k=0:=by
       unfold zjd
       rw[List.getElem?_eq_none (i:=k+1) (by omega)]
       cases ts[k]? <;> rfl
      have hd:decide ((k:Int)+1<((ts.map tnD).length:Int))=false:=by simp;omega
      rw[hz]
      generalize ts.map tnD=T at *
      simp only[sIf,sNil,fTst,fBin,fVar,fC,za9,zav,dLt,List.getElem?_cons_zero,List.getElem?_cons_succ,Option.bind_some,Option.map_some,hd,Bool.false_eq_true,if_false]
    obtain⟨fF,hfF,hfall⟩:=hfall
    have hrow:atI ((ts.zipIdx).map (rowW ts)) (k:Int)=some (.tup [.int (ts[k].1:Int),.int (ts[k].2.length:Int),.int (hrs ts[k].2),.int (lss ts[k].2),.lst ((debts ts[k].2).map D.int),.int (zjd ts k)]):=hrow
    have hat:atI (ts.map tnD) (k:Int)=some (.tup [.int (ts[k].1:Int),.int (ts[k].2.length:Int),.int (hrs ts[k].2),.int (lss ts[k].2)]):=hat
    generalize ts.drop (k+1)=ts' at htop hset hdk ⊢
    generalize zjd ts k=fl at *
    generalize ts[k]=t at *
    have hz:(t.1:Int)-1=((t.1-1:Nat):Int):=by omega
    have ht1:atI ((zap ss.length (t::ts')).map fun s=>D.lst (s.map sD)) ((t.1-1:Nat):Int)=some (.lst ((t.2++(ofS ts' (t.1-1)).flatten).map sD)):=zbp (fun s:List Sk=>D.lst (s.map sD)) htop
    have hcut1:=zvu (t.2.map sD) ((ofS ts' (t.1-1)).flatten.map sD)
    have hcut2:=zqx (t.2.map sD) ((ofS ts' (t.1-1)).flatten.map sD)
    rw[← List.map_append,List.length_map] at hcut1 hcut2
    have hix:ixN ((zap ss.length (t::ts')).map fun s=>D.lst (s.map sD)).length ((t.1-1:Nat):Int)=some (t.1-1):=by
     rw[zeh (by omega) (by rw[List.length_map,za1];omega)]
     congr 1
    have hset':((zap ss.length (t::ts')).map fun s=>D.lst (s.map sD)).set (t.1-1) (.lst ((ofS ts' (t.1-1)).flatten.map sD))=(zap ss.length ts').map fun s=>D.lst (s.map sD):=by
     rw[hset,List.map_set]
    have hsl:D.lst (t.2.map sD)=slD t.2:=rfl
    generalize ((zap ss.length (t::ts')).map fun s=>D.lst (s.map sD))=L at *
    generalize ((t.2++(ofS ts' (t.1-1)).flatten).map sD)=S7 at *
    generalize ts.map tnD=T at *
    generalize (ts.zipIdx).map (rowW ts)=R at *
    generalize (debts t.2).map D.int=DB at *
    have z6:decide (((6:Nat):Int)=6)=true:=by decide
    refine⟨[some (.sh (.lst R)),some (.sh (ssL ss)),some (.sh (.lst T)),some (.ow ((zap ss.length ts').map fun s=>D.lst (s.map sD))),some (.sh (.int (k:Int))),some (.sh (.int (t.1:Int))),some (.sh (.int (t.2.length:Int))),some (.sh (.int (hrs t.2))),some (.sh (.int (lss t.2))),some (.sh (.int fl)),some (.sh (.lst DB)),some (.sh (.tup [.int (t.1:Int),.int (t.2.length:Int),.int (hrs t.2),.int (lss t.2),.lst DB,.int fl]))],?_,_,_,_,_,_,_,_,_,rfl⟩
    unfold zeg
    rw[← hfF]
    have at6_4:∀a b c d e f:D,atI [a,b,c,d,e,f] 4=some e:=fun _ _ _ _ _ _=>rfl
    have at6_5:∀a b c d e f:D,atI [a,b,c,d,e,f] 5=some f:=fun _ _ _ _ _ _=>rfl
    simp only[sSeq,sUnp,zgd,sSet,zib,zs8,sIf,sRet,sNil,fIxV,ixSl,fVar,fC,zah,zac,fNil,fLst,fSl,fSlT,fO0,fO1,fOr,fNot,fTst,fIsi,tyD,isiT,fBin,dSub,dNe,za9,List.getElem?_cons_zero,List.getElem?_cons_succ,Option.bind_some,Option.map_some,List.set_cons_zero,List.set_cons_succ,hat,hfall,hz,ht1,hcut1,hsl,hdb,hcut2,hix,hset',hrow,rh1,rh2,hsr,hsn,hwh,at6_4,at6_5,z6,List.length_cons,List.length_nil,Nat.reduceAdd,if_true,if_false,Bool.not_true,Bool.false_eq_true,beq_self_eq_true,Bool.true_or,decide_true])
 rw[zb0,List.drop_length] at h1
 have hi:iR1 [.int ((ts.map tnD).length:Int)]=some (rngD 0 ts.length):=by rw[List.length_map];exact ze4 _ (by omega)
 have hlen:decide ((((ts.zipIdx).map (rowW ts)).length:Int)=((ts.map tnD).length:Int))=true:=by simp
 refine za4 (e':=[some (.sh (.lst ((ts.zipIdx).map (rowW ts)))),some (.sh (ssL ss)),some (.sh (.lst (ts.map tnD))),some (.ow ((zap ss.length []).map fun s=>D.lst (s.map sD))),v4,v5,v6,v7,v8,v9,v10,v11]) rfl ?_
 show zf4 [some (.sh (.lst ((ts.zipIdx).map (rowW ts)))),some (.sh (ssL ss)),none,none,none,none,none,none,none,none,none,none]=_
 generalize ts.map tnD=T at *
 generalize (ts.zipIdx).map (rowW ts)=R at *
 simp only[zf4,sSeq,sSet,sOwn,sIf,sFor,sRet,sNil,zah,zao,zac,fNil,fVar,fC,fOr,fNot,fTst,fIsi,tyD,isiT,fBin,dNe,za9,List.getElem?_cons_zero,List.getElem?_cons_succ,Option.bind_some,Option.map_some,List.set_cons_zero,List.set_cons_succ,htu,hcp,hlen,hi,h1,beq_self_eq_true,Bool.true_or,Bool.not_true,Bool.false_eq_true,if_false]
def r3(r:List Int):Int:=r.getD 2 0
def srt(r:List Int):List Int:=[if r.getD 0 0<=r.getD 1 0 then r.getD 0 0 else r.getD 1 0,if r.getD 0 0<=r.getD 1 0 then r.getD 1 0 else r.getD 0 0]
def PS(w C:Sk->Int)(P:Int):List Sk->Int
 | x::y::r=>-(P+w x)*(C y-C x-y.2.1)+PS w C (P+w x) (y::r)
 | _=>0
theorem z1f(l:List (List Sk)):(l.map fun s:List Sk=>(s.length:Int)).sum=(l.flatten.length:Int):=by
 induction l with
 | nil=>rfl
 | cons a l ih=>rw[List.map_cons,List.sum_cons,ih,List.flatten_cons,List.length_append];omega
theorem zp7(ss:List (List Sk))(hl:ss.length<=1000):zes [ssL ss]=some (.int (ss.flatten.length:Int)):=by
 have c:=zcc (te:=za9 0) (base:=[]) (fun s:List Sk=>D.lst (s.map sD)) (fun s:List Sk=>D.int (s.length:Int)) ss fun s _=>⟨_,by simp;rfl⟩
 have hb:=znl (fun s:List Sk=>(s.length:Int)) ss
 have hf:Few (ss.map fun s=>D.lst (s.map sD)).length:=few (by rw[List.length_map];omega)
 rw[z1f] at hb
 refine za4 (e':=[some (.sh (ssL ss))]) rfl ?_
 show zgx [some (.sh (ssL ss))]=_
 unfold ssL
 generalize (ss.map fun s=>D.lst (s.map sD))=L at *
 simp only[zgx,sRet,zah,zac,fLst,zbq,fiS,fVar,fNil,List.getElem?_cons_zero,Option.bind_some,Option.map_some,hf,if_true,List.map_nil,c,hb]
theorem zq6(ss:List (List Sk))(hr:∀s∈ss,s.length<=1000):zhu [ssL ss]=some (.int (lss ss.flatten)):=by
 obtain⟨e',h1,v2,rfl⟩:=zc1 (i:=2) (g:=zd1) (fun s:List Sk=>D.lst (s.map sD)) (fun p e=>∃v2,e=[some (.sh (ssL ss)),some (.sh (.int (lss p.flatten))),v2]) ss
  [some (.sh (ssL ss)),some (.sh (.int 0)),none] ⟨none,rfl⟩ (by
   rintro p s q e hpq ⟨v2,rfl⟩
   have c:=zcc (te:=zah zb1 (zac (fVar 0) fNil)) (base:=[]) sD (fun x:Sk=>D.int x.2.2) s fun x _=>⟨_,by simp only[zah,zac,fVar,fNil,List.getElem?_cons_zero,Option.bind_some,zon,Option.map_some];rfl⟩
   have hb:=znl (fun x:Sk=>x.2.2) s
   have hf:Few (s.map sD).length:=few (by rw[List.length_map];have:=hr s (by rw[hpq];simp);omega)
   have e1:lss (p++[s]).flatten=lss p.flatten+(s.map fun x:Sk=>x.2.2).sum:=by rw[List.flatten_append,zfd];simp[lss]
   refine⟨[some (.sh (ssL ss)),some (.sh (.int (lss (p++[s]).flatten))),some (.sh (.lst (s.map sD)))],?_,_,rfl⟩
   rw[e1]
   generalize s.map sD=L at *
   simp only[zd1,sSet,fBin,zah,zac,fLst,zbq,fiS,fVar,fNil,zav,List.getElem?_cons_zero,List.getElem?_cons_succ,List.set_cons_zero,List.set_cons_succ,Option.bind_some,Option.map_some,hf,if_true,List.map_nil,c,hb])
 refine za4 (e':=[some (.sh (ssL ss)),some (.sh (.int (lss ss.flatten))),v2]) rfl ?_
 show zht [some (.sh (ssL ss)),none,none]=_
 have h1':forL 2 zd1 (ss.map fun s=>D.lst (s.map sD)) [some (.sh (ssL ss)),some (.sh (.int 0)),none]=_:=h1
 unfold ssL at *
 generalize (ss.map fun s=>D.lst (s.map sD))=L at *
 simp only[zht,sSeq,sSet,sFor,sRet,fC,fiS,fVar,List.getElem?_cons_zero,List.getElem?_cons_succ,List.set_cons_zero,List.set_cons_succ,Option.bind_some,Option.map_some,h1']
theorem zq7(h:ss[a-1]?=some s)(l1:1<=a):atI (ss.map fun s=>D.lst (s.map sD)) ((a:Int)-1)=some (.lst (s.map sD)):=by
 rw[show((a:Int)-1)=((a-1:Nat):Int) by omega]
 exact zbp _ h
variable{x:Sk}
theorem z4s(h:ss[a-1]?=some (x::r))(l1:1<=a):zk5 [ssL ss,.int (a:Int)]=some (sD x):=by
 have h1:=zq7 h l1
 have h2:atI ((x::r).map sD) (0:Int)=some (sD x):=zbp sD (k:=0) rfl
 refine za4 (e':=[some (.sh (ssL ss)),some (.sh (.int (a:Int)))]) rfl ?_
 show zk4 [some (.sh (ssL ss)),some (.sh (.int (a:Int)))]=_
 unfold ssL
 generalize (ss.map fun s=>D.lst (s.map sD))=L at *
 generalize (x::r).map sD=M at *
 simp only[zk4,sRet,fBin,fIxV,ixSl,fVar,fC,dIx,dSub,List.getElem?_cons_zero,List.getElem?_cons_succ,Option.bind_some,Option.map_some,h1,h2]
theorem zv6(l:List α)(k:Nat)(x:α)(h:k<l.length):l.take k++[x]++l.drop (k+1)=l.set k x:=by
 rw[List.set_eq_take_append_cons_drop,if_pos h]
 simp
theorem zot(l:List D)(k:Nat)(h:k<=l.length):cutD l none (some (k:Int))=l.take k:=by
 have:=zvu (l.take k) (l.drop k)
 rwa [List.take_append_drop,List.length_take,Nat.min_eq_left h] at this
theorem zou(l:List D)(k:Nat)(h:k<=l.length):cutD l (some (k:Int)) none=l.drop k:=by
 have:=zqx (l.take k) (l.drop k)
 rwa [List.take_append_drop,List.length_take,Nat.min_eq_left h] at this
theorem zhx(s:List Sk)(l1:1<=a)(l2:a<=ss.length)(hl:ss.length<=1000):zdr [ssL ss,.int (a:Int),.lst (s.map sD)]=some (ssL (ss.set (a-1) s)):=by
 have ll:(ss.map fun s=>D.lst (s.map sD)).length=ss.length:=List.length_map ..
 have c1:=zot (ss.map fun s=>D.lst (s.map sD)) (a-1) (by omega)
 have c2:=zou (ss.map fun s=>D.lst (s.map sD)) a (by omega)
 have e1:((a:Int)-1)=((a-1:Nat):Int):=by omega
 have e2:=zv6 (ss.map fun s=>D.lst (s.map sD)) (a-1) (D.lst (s.map sD)) (by omega)
 rw[show a-1+1=a by omega] at e2
 have f1:Few ((((ss.map fun s=>D.lst (s.map sD)).take (a-1)).length)+(0+1)):=few (by simp only[List.length_take];omega)
 have f2:Few (((ss.map fun s=>D.lst (s.map sD)).take (a-1)++[D.lst (s.map sD)]).length+((ss.map fun s=>D.lst (s.map sD)).drop a).length):=few (by simp only[List.length_append,List.length_take,List.length_drop,List.length_cons,List.length_nil];omega)
 have e3:ssL (ss.set (a-1) s)=.lst ((ss.map fun s=>D.lst (s.map sD)).set (a-1) (D.lst (s.map sD))):=by unfold ssL;rw[List.map_set]
 refine za4 (e':=[some (.sh (ssL ss)),some (.sh (.int (a:Int))),some (.sh (.lst (s.map sD)))]) rfl ?_
 show zit [some (.sh (ssL ss)),some (.sh (.int (a:Int))),some (.sh (.lst (s.map sD)))]=_
 rw[e3,← e2]
 unfold ssL
 generalize (ss.map fun s=>D.lst (s.map sD))=L at *
 generalize s.map sD=M at *
 simp only[zit,sRet,fLst,fCat,fSl,fO0,fO1,zat,zac,fNil,fVar,fBin,fC,dSub,e1,List.getElem?_cons_zero,List.getElem?_cons_succ,Option.bind_some,Option.map_some,c1,c2,f1,f2,if_true,List.length_cons,List.length_nil,show(0+1<=64)=True by simp]
theorem ztn(h:ss[a-1]?=some (x::r))(l1:1<=a)(hl:ss.length<=1000):zhw [ssL ss,.int (a:Int)]=some (ssL (ss.set (a-1) r)):=by
 have h1:=zq7 h l1
 have l2:=(List.getElem?_eq_some_iff.mp h).1
 have c:cutD ((x::r).map sD) (some ((1:Nat):Int)) none=((x::r).map sD).drop 1:=zou _ 1 (by simp)
 rw[show((x::r).map sD).drop 1=r.map sD from rfl] at c
 have hw:=zhx (ss:=ss) r l1 (by omega) hl
 refine za4 (e':=[some (.sh (ssL ss)),some (.sh (.int (a:Int)))]) rfl ?_
 show zhv [some (.sh (ssL ss)),some (.sh (.int (a:Int)))]=_
 have c:cutD ((x::r).map sD) (some (1:Int)) none=r.map sD:=c
 unfold ssL at *
 generalize (ss.map fun s=>D.lst (s.map sD))=L at *
 generalize (x::r).map sD=M at *
 simp only[zhv,sRet,zah,zac,fNil,fLst,fSl,fO0,fO1,fIxV,ixSl,fVar,fBin,fC,dSub,List.getElem?_cons_zero,List.getElem?_cons_succ,Option.bind_some,Option.map_some,h1,c,hw]
variable{p:List Hs}
theorem z4t{p b:List Sk}{B:List Sk}(h:B=p++b)(g:Good B):¬gt (blk B) (blk b):=by
 have h1:=g.beg p ⟨b,h.symm⟩
 have e1:hrs B=hrs p+hrs b:=by rw[h,zdp]
 have e2:lss B=lss p+lss b:=by rw[h,zfd]
 show ¬lss b*hrs B<lss B*hrs b
 rw[e1,e2] at h1 ⊢
 simp only[Int.add_mul,Int.mul_add] at h1 ⊢
 omega
theorem zyd(a:Nat)(rs:List (List Sk))(j:Nat):ofS (rs.map fun b=>(a,b)) j=if a=j+1 then rs else[]:=by
 unfold ofS
 induction rs with
 | nil=>simp
 | cons b r ih =>
   rw[List.map_cons]
   by_cases h:a=j+1
   ·rw[List.filter_cons_of_pos (by simp[h]),List.map_cons,ih,if_pos h,if_pos h]
   ·rw[List.filter_cons_of_neg (by simp[h]),ih,if_neg h,if_neg h]
theorem zto(a:Nat)(rs:List (List Sk)):zbl (rs.map fun b=>(a,b))=List.replicate rs.flatten.length a:=by
 unfold zbl
 induction rs with
 | nil=>simp
 | cons b r ih =>
   rw[List.map_cons,List.map_cons,List.flatten_cons,ih,List.flatten_cons,List.length_append,List.replicate_append_replicate]
theorem zv7(ok:TurnsOk ss ((a,x::r)::ts))(hg:∀y∈ss.flatten,zbg y)(hl:ss.flatten.length<=14) :
  ∃tl ts',ss[a-1]?=some (x::tl)/\1<=a/\a<=ss.length/\TurnsOk (ss.set (a-1) tl) ts'/\zbl ts'=List.replicate r.length a++zbl ts/\(ts'.map (·.2)).flatten=r++(ts.map (·.2)).flatten:=by
 have lo:=ok.lo (a,x::r) (by simp)
 have gB:=ok.good (a,x::r) (by simp)
 have skB:=ok.sk hg (a,x::r) (by simp)
 have l14:=ok.len1 (a,x::r) (by simp)
 simp only at lo gB skB l14
 have hss:=ok.left
 have htop:=zk6 (n:=ss.length) (t:=(a,x::r)) (ts:=ts) lo.1 lo.2
 rw[hss] at htop
 simp only[List.cons_append] at htop
 obtain⟨rs,hr,_⟩:=ziv r (fun y hy=>skB y (by simp[hy])) (by rw[List.length_cons] at l14;omega)
 have pos:∀b∈rs,0<hrs b:=fun b hb=>zgy b (fun y hy=>skB y (List.mem_cons_of_mem _ (by rw[← hr.flat];exact List.mem_flatten.mpr ⟨b,by simpa using hb,hy⟩))) (hr.good b hb).ne
 have pB:0<hrs (x::r):=zgy _ skB (by simp)
 have pw:=zqv rs hr.desc pos
 have ge:∀b∈rs,¬gt (blk (x::r)) (blk b):=by
  cases rs with
  | nil=>intro b hb;cases hb
  | cons bl rs' =>
    have hfl:x::r=(x::rs'.reverse.flatten)++bl:=by rw[← hr.flat];simp
    have h0:=z4t hfl gB
    intro b hb
    rcases List.mem_cons.mp hb with rfl | hb'
    ·exact h0
    ·exact z4m (pos b hb) (pos bl (by simp)) pB (fun z=>ziw ((List.pairwise_cons.mp pw).1 b hb') z) h0
 have hsrt:=ok.srt
 obtain⟨hs1,hs2⟩:=List.pairwise_cons.mp hsrt
 have lo':∀t∈rs.reverse.map (fun b=>(a,b))++ts,1<=t.1/\t.1<=ss.length:=fun t ht=>by
  rcases List.mem_append.mp ht with h | h
  ·obtain⟨b,_,rfl⟩:=List.mem_map.mp h;exact lo
  ·exact ok.lo t (by simp[h])
 have hleft:zap ss.length (rs.reverse.map (fun b=>(a,b))++ts)=ss.set (a-1) (r++(ofS ts (a-1)).flatten):=by
  apply List.ext_getElem?
  intro j
  by_cases hj:j<ss.length
  ·rw[zby hj,List.getElem?_set,zor,zyd]
   by_cases e:a-1=j
   ·subst e
    rw[if_pos (by omega),if_pos rfl,if_pos hj,List.flatten_append,hr.flat]
   ·rw[if_neg (by omega),if_neg e]
    have:=ok.part j ss[j] (by simp[hj])
    rw[zf6 _ _ _ (by simp;omega)] at this
    simp[this,hj]
  ·rw[List.getElem?_eq_none (by rw[za1];omega),List.getElem?_eq_none (by rw[List.length_set];omega)]
 refine⟨r++(ofS ts (a-1)).flatten,rs.reverse.map (fun b=>(a,b))++ts,htop,lo.1,lo.2,?_,?_,?_⟩
 ·rw[← hleft]
  refine⟨fun t ht=>by rw[za1];exact lo' t ht,fun t ht=>?_,fun j s hj=>?_,?_,zj0 lo'⟩
  ·rcases List.mem_append.mp ht with h | h
   ·obtain⟨b,hb,rfl⟩:=List.mem_map.mp h;exact hr.good b (by simpa using hb)
   ·exact ok.good t (by simp[h])
  ·have hl:=(List.getElem?_eq_some_iff.mp hj).1
   rw[za1] at hl
   rw[zby hl] at hj
   exact Option.some.inj hj
  ·rw[List.pairwise_append]
   refine⟨?_,hs2,fun t ht u hu=>?_⟩
   ·rw[List.pairwise_map,List.pairwise_reverse]
    exact pw.imp fun h=>.inl h
   ·obtain⟨b,hb,rfl⟩:=List.mem_map.mp ht
    have hb:b∈rs:=by simpa using hb
    have pu:0<hrs u.2:=ok.pos hg u (by simp[hu])
    rcases hs1 u hu with z | ⟨z1,z2⟩
    ·exact .inl (z56 (n:=blk b) (c:=blk (x::r)) (b:=blk u.2) (pos b hb) pB pu (ge b hb) z)
    ·exact .inr ⟨z4m (n:=blk b) (c:=blk (x::r)) (b:=blk u.2) (pos b hb) pB pu (ge b hb) z1,z2⟩
 ·rw[zd3,zto,hr.flat]
 ·rw[List.map_append,List.flatten_append,List.map_map]
  show((rs.reverse.map fun b=>b).flatten)++_=_
  rw[List.map_id',hr.flat]
def zg1:FS:=sIf (fOr (fTst (fBin dLt (fVar 1) (fC (.int 1)))) (fTst (fBin dGt (fVar 1) (za9 0)))) (zeb "UnknownStack" (some)) (sNil)
def zdf:List Ag->List D->Option D:=runQ 2 0 2 zg1
def zdg:List Ag->List D->Option Str:=xQ 2 0 2 zg1
def ziy:FS:=sSeq (sIf (fTst (fBin dEq (za9 0) (fC (.int 0)))) (sRet (fC (.int 0))) (sNil)) (sRet (fBin dIx (fIxV 0 (fUn dNeg (fC (.int 1)))) (fC (.int 1))))
def ze7:List D->Option D:=runD 1 1 ziy
def zg2:FS:=sIf (fOr (fTst (fBin dLt (fVar 0) (fC (.int 0)))) (fTst (fBin dGt (fVar 0) (fC (.int 5))))) (zeb "BadCount" ((fun z=>(some z).bind ((fun z=>((vInt (fC (.int 5))) z).bind ((fun z=>(some z).bind (some)))))))) (sNil)
def zet:List Ag->List D->Option D:=runQ 1 0 1 zg2
def zeu:List Ag->List D->Option Str:=xQ 1 0 1 zg2
def zg3:FS:=sIf (fOr (fTst (fBin dLt (fVar 0) (fC (.int 1)))) (fTst (fBin dGt (fVar 0) (fC (.int 60))))) (zeb "BadHours" ((fun z=>(some z).bind ((fun z=>((vInt (fC (.int 60))) z).bind ((fun z=>(some z).bind (some)))))))) (sNil)
def zev:List Ag->List D->Option D:=runQ 1 0 1 zg3
def zew:List Ag->List D->Option Str:=xQ 1 0 1 zg3
def zhy:FS:=sIf (fOr (fTst (fBin dLt (fVar 0) (fC (.int 0)))) (fTst (fBin dGt (fVar 0) (fC (.int 100))))) (zeb "BadLoss" ((fun z=>(some z).bind ((fun z=>((vInt (fC (.int 100))) z).bind (some)))))) (sNil)
def zd5:List Ag->List D->Option D:=runQ 1 0 1 zhy
def zd6:List Ag->List D->Option Str:=xQ 1 0 1 zhy
def zfh:FS:=sIf (fTst (fBin dGe (zah zes (zac (fVar 0) (fNil))) (fC (.int 14)))) (zeb "HouseFull" ((fun z=>((vInt (fC (.int 14))) z).bind ((fun z=>(some z).bind (some)))))) (sNil)
def zfi:List Ag->List D->Option D:=runQ 1 0 1 zfh
def zc3:List Ag->List D->Option Str:=xQ 1 0 1 zfh
def zex:FS:=sIf (fTst (fBin dGe (za9 0) (fC (.int 60)))) (zeb "DeedsFull" ((fun z=>((vInt (fC (.int 60))) z).bind ((fun z=>(some z).bind (some)))))) (sNil)
def zcp:List Ag->List D->Option D:=runQ 1 0 1 zex
def zbv:List Ag->List D->Option Str:=xQ 1 0 1 zex
def zkn:FS:=sRet (fBin zav (fC (.int 1)) (zah bLen (zac (fLst (zbq (fiS (fVar 0)) [] (fTst (fBin dEq (fIxV 0 (fC (.int 0))) (fC (.str "put")))) (fVar 0))) (fNil))))
def zfj:List D->Option D:=runD 1 1 zkn
def zc4:FS:=sSeq (sXp (zda zeu [] (zac (fVar 1) (fNil))) (za7 (zar zet [] (zac (fVar 1) (fNil))))) (sSeq (zvm 0 "House" "kept" (zat (fNil))) (zvm 0 "House" "states" (zat (zac (fTup (zac (fLst (zbq (zao iR1 (zac (fVar 1) (fNil))) [] fYes (fLst (zat (fNil))))) (zac (fLst (zat (fNil))) (fNil)))) (fNil)))))
def zce:List Ag->List D->Option (D×List Ag):=runL 2 1 1 zc4
def zej:List Ag->List D->Option (Str×List Ag):=xL 2 1 1 zc4
def zg4:FS:=sRet (fBin dIx (pIx (.at (.ins false "House" zan)) 0 1 (-1)) (fC (.int 0)))
def zau:List Ag->List D->Option D:=runQ 1 1 0 zg4
def zm5:List Ag->List D->Option Str:=xQ 1 1 0 zg4
def zg5:FS:=sRet (fBin dIx (pIx (.at (.ins false "House" zan)) 0 1 (-1)) (fC (.int 1)))
def zaw:List Ag->List D->Option D:=runQ 1 1 0 zg5
def zm6:List Ag->List D->Option Str:=xQ 1 1 0 zg5
def zhz:FS:=sSeq (za7 (zk2 (.at (.ins false "House" zan)) 0 0 (fVar 1))) (za7 (zk2 (.at (.ins false "House" zan)) 0 1 (fTup (zac (fVar 2) (zac (fVar 3) (fNil))))))
def zbr:List Ag->List D->Option (D×List Ag):=runL 4 1 3 zhz
def zov:List Ag->List D->Option (Str×List Ag):=xL 4 1 3 zhz
def zgn:FS:=sSeq (sSet 4 (fK (.ins false "House" zan) 0 (zar zau [0] (fNil)))) (sSeq (sXp (zda zdg [] (zac (fVar 4) (zac (fVar 1) (fNil)))) (za7 (zar zdf [] (zac (fVar 4) (zac (fVar 1) (fNil)))))) (sSeq (sXp (zda zew [] (zac (fVar 2) (fNil))) (za7 (zar zev [] (zac (fVar 2) (fNil))))) (sSeq (sXp (zda zd6 [] (zac (fVar 3) (fNil))) (za7 (zar zd5 [] (zac (fVar 3) (fNil))))) (sSeq (sXp (zda zc3 [] (zac (fVar 4) (fNil))) (za7 (zar zfi [] (zac (fVar 4) (fNil))))) (sSeq (sXp (xFrz true (zda zbv [] (zac (zmf (.ins false "House" zan) 0 0) (fNil)))) (za7 (fFrz true (zar zcp [] (zac (zmf (.ins false "House" zan) 0 0) (fNil)))))) (sSeq (sSet 5 (fFrz true (zah zfj (zac (zmf (.ins false "House" zan) 0 0) (fNil))))) (sSeq (sSet 6 (fLst (fCat (fLst (zat (zac (fTup (zac (fVar 5) (zac (fVar 2) (zac (fVar 3) (fNil))))) (fNil)))) (fIxV 4 (fBin dSub (fVar 1) (fC (.int 1))))))) (sSeq (za7 (fK (.ins false "House" zan) 0 (ze5 zbr [0] (zac (fTup (zac (fC (.str "put")) (zac (fVar 1) (zac (fVar 2) (zac (fVar 3) (fNil)))))) (zac (zah zdr (zac (fVar 4) (zac (fVar 1) (zac (fVar 6) (fNil))))) (zac (fK (.ins false "House" zan) 0 (zar zaw [0] (fNil))) (fNil))))))) (sRet (fVar 5))))))))))
def ze8:List Ag->List D->Option (D×List Ag):=runL 7 1 3 zgn
def ziz:List Ag->List D->Option (Str×List Ag):=xL 7 1 3 zgn
def zg6:FS:=sRet (fLst (zxt (.at (.ins false "House" zan)) 0 0))
def zey:List Ag->List D->Option D:=runQ 1 1 0 zg6
def zm7:List Ag->List D->Option Str:=xQ 1 1 0 zg6
def zf7:FS:=sRet (fLst (zbq (fiS (fK (.ins false "House" zan) 0 (zar zau [0] (fNil)))) [] fYes (fLst (zao zkv (zac (fVar 0) (fNil))))))
def zcf:List Ag->List D->Option D:=runQ 1 1 0 zf7
def zmv:List Ag->List D->Option Str:=xQ 1 1 0 zf7
def zh0:FS:=sRet (zah ze7 (zac (fK (.ins false "House" zan) 0 (zar zaw [0] (fNil))) (fNil)))
def zd7:List Ag->List D->Option D:=runQ 1 1 0 zh0
def zow:List Ag->List D->Option Str:=xQ 1 1 0 zh0
def ze9:FS:=sIf (fTst (fBin dLt (fVar 3) (fVar 1))) (sSet 2 (fBin zav (fVar 2) (fBin dMul (fVar 5) (fBin dSub (zah bMin (zac (fVar 1) (zac (fVar 4) (fNil)))) (fVar 3))))) (sNil)
def zi8:FS:=sSeq (sIf (fOr (fTst (fBin dLt (fVar 1) (fC (.int 0)))) (fTst (fBin dGt (fVar 1) (zah ze7 (zac (fVar 0) (fNil)))))) (zeb "NotGone" (some)) (sNil)) (sSeq (sSet 2 (fC (.int 0))) (sSeq (zf9 [3,4,5] (fiS (fVar 0)) (ze9)) (sRet (fVar 2))))
def zi9:List Ag->List D->Option D:=runQ 6 0 2 zi8
def zja:List Ag->List D->Option Str:=xQ 6 0 2 zi8
def zez:FS:=sIf (fTst (fBin dEq (zah zes (zac (fVar 0) (fNil))) (fC (.int 0)))) (zeb "NothingWaits" (some)) (sNil)
def ze0:List Ag->List D->Option D:=runQ 1 0 1 zez
def zcq:List Ag->List D->Option Str:=xQ 1 0 1 zez
def zgo:FS:=sSeq (sSet 1 (fK (.ins false "House" zan) 0 (zar zau [0] (fNil)))) (sSeq (sXp (zda zcq [] (zac (fVar 1) (fNil))) (za7 (zar ze0 [] (zac (fVar 1) (fNil))))) (sSeq (sXp (xFrz true (zda zbv [] (zac (zmf (.ins false "House" zan) 0 0) (fNil)))) (za7 (fFrz true (zar zcp [] (zac (zmf (.ins false "House" zan) 0 0) (fNil)))))) (sSeq (sSet 2 (fBin dIx (fLst (zao zbu (zac (fVar 1) (fNil)))) (fC (.int 0)))) (sSeq (sSet 3 (zah zk5 (zac (fVar 1) (zac (fVar 2) (fNil))))) (sSeq (sSet 4 (fK (.ins false "House" zan) 0 (zar zd7 [0] (fNil)))) (sSeq (sSet 5 (fTup (zac (fVar 4) (zac (fBin zav (fVar 4) (zah zbf (zac (fVar 3) (fNil)))) (zac (zah zhu (zac (fVar 1) (fNil))) (fNil)))))) (sSeq (za7 (fK (.ins false "House" zan) 0 (ze5 zbr [0] (zac (fTup (zac (fC (.str "dry")) (fNil))) (zac (zah zhw (zac (fVar 1) (zac (fVar 2) (fNil)))) (zac (fLst (fCat (fK (.ins false "House" zan) 0 (zar zaw [0] (fNil))) (fLst (zat (zac (fVar 5) (fNil)))))) (fNil))))))) (sRet (fVar 3)))))))))
def zfa:List Ag->List D->Option (D×List Ag):=runL 6 1 0 zgo
def zi0:List Ag->List D->Option (Str×List Ag):=xL 6 1 0 zgo
def zg7:FS:=sRet (fLst (zao zbu (zac (fK (.ins false "House" zan) 0 (zar zau [0] (fNil))) (fNil))))
def zdh:List Ag->List D->Option D:=runQ 1 1 0 zg7
def zm8:List Ag->List D->Option Str:=xQ 1 1 0 zg7
def zd8:FS:=sRet (fLst (zao zkv (zac (fK (.ins false "House" zan) 0 (zar zaw [0] (fNil))) (fNil))))
def zcv:List Ag->List D->Option D:=runQ 1 1 0 zd8
def zko:List Ag->List D->Option Str:=xQ 1 1 0 zd8
def zfk:FS:=sXp (zda zja [] (zac (fK (.ins false "House" zan) 0 (zar zaw [0] (fNil))) (zac (fVar 1) (fNil)))) (sRet (zar zi9 [] (zac (fK (.ins false "House" zan) 0 (zar zaw [0] (fNil))) (zac (fVar 1) (fNil)))))
def zfl:List Ag->List D->Option D:=runQ 2 1 1 zfk
def zfm:List Ag->List D->Option Str:=xQ 2 1 1 zfk
def zj1:FS:=sRet (zah bSum (zac (fLst (zbq (fiS (fVar 0)) [] fYes (zah bSum (zac (fLst (zbq (fiS (fVar 0)) [] fYes (fIxV 0 (fC (.int 2))))) (fNil))))) (fNil)))
def zh1:List D->Option D:=runD 1 1 zj1
def ze1:FS:=sSet 1 (fLst (fCat (fVar 1) (fLst (fRep (zat (zac (fVar 4) (fNil))) (fBin dSub (fVar 3) (fVar 2))))))
def zi1:FS:=sSeq (sSet 1 (fLst (zat (fNil)))) (sSeq (zf9 [2,3,4] (fiS (fVar 0)) (ze1)) (sRet (fVar 1)))
def zi2:List D->Option D:=runD 5 1 zi1
def zcl:FS:=sSeq (sXp (xK (.ins false "House" zan) 0 (zda zfm [0] (zac (fVar 4) (fNil)))) (sSet 5 (fK (.ins false "House" zan) 0 (zar zfl [0] (zac (fVar 4) (fNil)))))) (sIf (fOr (fNot (fTst (zah zbs (zac (fVar 5) (fNil))))) (fTst (fBin dNe (fVar 5) (zah bSum (zac (fLst (fSl (fVar 2) (fO0) (fO1 (fVar 4)))) (fNil)))))) (sRet (fC (.bl false))) (sNil))
def zc5:FS:=sSeq (sSet 2 (zah zi2 (zac (fVar 1) (fNil)))) (sSeq (sSet 3 (fK (.ins false "House" zan) 0 (zar zd7 [0] (fNil)))) (sSeq (sIf (fOr (fNot (fTst (zah zbs (zac (fVar 3) (fNil))))) (fTst (fBin dNe (fVar 3) (za9 2)))) (sRet (fC (.bl false))) (sNil)) (sSeq (sFor 4 (fiS (fLst (zat (zac (fC (.int 0)) (zac (fBin dDiv (fVar 3) (fC (.int 3))) (zac (zah bMax (zac (fC (.int 0)) (zac (fBin dSub (fVar 3) (fC (.int 1))) (fNil)))) (zac (fVar 3) (fNil)))))))) (zcl)) (sRet (zah zay (zac (fK (.ins false "House" zan) 0 (zar zcv [0] (fNil))) (zac (fVar 1) (fNil))))))))
def zc6:List Ag->List D->Option D:=runQ 6 1 1 zc5
def zla:List Ag->List D->Option Str:=xQ 6 1 1 zc5
def zh2:FS:=sRet (zah zgh (zac (fK (.ins false "House" zan) 0 (zar zau [0] (fNil))) (zac (fK (.ins false "House" zan) 0 (zar zdh [0] (fNil))) (fNil))))
def zfn:List Ag->List D->Option D:=runQ 1 1 0 zh2
def zox:List Ag->List D->Option Str:=xQ 1 1 0 zh2
def zh3:FS:=sRet (zah zgk (zac (fK (.ins false "House" zan) 0 (zar zau [0] (fNil))) (fNil)))
def zfo:List Ag->List D->Option D:=runQ 1 1 0 zh3
def zoy:List Ag->List D->Option Str:=xQ 1 1 0 zh3
def zi3:FS:=sRet (zah zhs (zac (fK (.ins false "House" zan) 0 (zar zau [0] (fNil))) (fNil)))
def zgp:List Ag->List D->Option D:=runQ 1 1 0 zi3
def zp8:List Ag->List D->Option Str:=xQ 1 1 0 zi3
def zfp:FS:=sSeq (sSet 6 (zjo 4 (fBin dSub (fVar 5) (fC (.int 1))) (fC (.int 0)))) (sSeq (za7 (zbi 2 (fTup (zac (fIxV 6 (fC (.int 0))) (zac (fVar 5) (zac (fVar 3) (zac (fBin zav (fVar 3) (fIxV 6 (fC (.int 1)))) (fNil)))))))) (sSet 3 (fBin zav (fVar 3) (fIxV 6 (fC (.int 1))))))
def zj2:FS:=sSeq (sOwn 2 (zat (fNil))) (sSeq (sSet 3 (fC (.int 0))) (sSeq (zqn 4 (zmd zgj (zac (fVar 0) (fNil)))) (sSeq (sFor 5 (fiS (fVar 1)) (zfp)) (sRet (fVar 2)))))
def zj3:List D->Option D:=runD 7 2 zj2
def ze2:FS:=sSeq (sSet 2 (fIxV 1 (fC (.int 0)))) (sSeq (sIf (fOr (fNot (fTst (zah zbc (zac (fK (.ins false "House" zan) 0 (zar zcf [0] (fNil))) (zac (fVar 2) (fNil)))))) (fNot (fTst (zah zay (zac (fK (.ins false "House" zan) 0 (zar zey [0] (fNil))) (zac (fIxV 1 (fC (.int 1))) (fNil))))))) (sRet (fC (.bl false))) (sNil)) (sSeq (sSet 3 (fLst (zao zcz (zac (fVar 2) (fNil))))) (sSeq (sIf (fNot (fTst (zah zb2 (zac (fK (.ins false "House" zan) 0 (zar zdh [0] (fNil))) (zac (fVar 3) (fNil)))))) (sRet (fC (.bl false))) (sNil)) (sSeq (sSet 4 (fK (.ins false "House" zan) 0 (zar zfo [0] (fNil)))) (sSeq (sIf (fOr (fNot (fTst (zah zbs (zac (fVar 4) (fNil))))) (fTst (fBin dNe (fVar 4) (zah zjw (zac (zah zim (zac (fVar 2) (zac (fVar 3) (fNil)))) (fNil)))))) (sRet (fC (.bl false))) (sNil)) (sSeq (sIf (fNot (fTst (zah zay (zac (fK (.ins false "House" zan) 0 (zar zfn [0] (fNil))) (zac (zah zj3 (zac (fVar 2) (zac (fVar 3) (fNil)))) (fNil)))))) (sRet (fC (.bl false))) (sNil)) (sRet (zmz (zar zc6 [0] (zac (fIxV 1 (fC (.int 3))) (fNil))) (zah zf5 (zac (fK (.ins false "House" zan) 0 (zar zgp [0] (fNil))) (zac (fVar 2) (fNil))))))))))))
def zbw:List Ag->List D->Option D:=runQ 5 1 1 ze2
def zm9:List Ag->List D->Option Str:=xQ 5 1 1 ze2
def zfq:FS:=sIf (fTst (fBin dEq (zah bLen (zac (fIxV 0 (fBin dSub (fVar 1) (fC (.int 1)))) (fNil))) (fC (.int 0)))) (zeb "EmptyStack" ((fun z=>(some z).bind ((fun z=>((vInt (fVar 1)) z).bind (some)))))) (sNil)
def zfr:List Ag->List D->Option D:=runQ 2 0 2 zfq
def zc7:List Ag->List D->Option Str:=xQ 2 0 2 zfq
def zdi:FS:=sIf (fOr (fTst (fBin dLt (fVar 1) (fC (.int 1)))) (fTst (fBin dGt (fVar 1) (za9 0)))) (zeb "UnknownPlace" (some)) (sNil)
def ze3:List Ag->List D->Option D:=runQ 2 0 2 zdi
def zcr:List Ag->List D->Option Str:=xQ 2 0 2 zdi
def zj4:FS:=sRet (fTup (zac (zah zdx (zac (fVar 0) (fNil))) (zac (zah zbf (zac (fVar 0) (fNil))) (zac (fVar 1) (fNil)))))
def zj5:List D->Option D:=runD 2 2 zj4
def zfs:FS:=sSeq (sSet 4 (fK (.ins false "House" zan) 0 (zar zau [0] (fNil)))) (sSeq (sXp (zda zdg [] (zac (fVar 4) (zac (fVar 1) (fNil)))) (za7 (zar zdf [] (zac (fVar 4) (zac (fVar 1) (fNil)))))) (sSeq (sXp (zda zc7 [] (zac (fVar 4) (zac (fVar 1) (fNil)))) (za7 (zar zfr [] (zac (fVar 4) (zac (fVar 1) (fNil)))))) (sSeq (sSet 5 (fIxV 4 (fBin dSub (fVar 1) (fC (.int 1))))) (sSeq (sXp (zda zcr [] (zac (fVar 5) (zac (fVar 2) (fNil)))) (za7 (zar ze3 [] (zac (fVar 5) (zac (fVar 2) (fNil)))))) (sSeq (sXp (zda zd6 [] (zac (fVar 3) (fNil))) (za7 (zar zd5 [] (zac (fVar 3) (fNil))))) (sSeq (sXp (xFrz true (zda zbv [] (zac (zmf (.ins false "House" zan) 0 0) (fNil)))) (za7 (fFrz true (zar zcp [] (zac (zmf (.ins false "House" zan) 0 0) (fNil)))))) (sSeq (sSet 6 (fIxV 5 (fBin dSub (fVar 2) (fC (.int 1))))) (sSeq (sSet 7 (fLst (fCat (fLst (fCat (fLst (fSl (fVar 5) (fO0) (fO1 (fBin dSub (fVar 2) (fC (.int 1)))))) (fLst (zat (zac (zah zj5 (zac (fVar 6) (zac (fVar 3) (fNil)))) (fNil)))))) (fLst (fSl (fVar 5) (fO1 (fVar 2)) (fO0)))))) (sSeq (za7 (fK (.ins false "House" zan) 0 (ze5 zbr [0] (zac (fTup (zac (fC (.str "tell")) (zac (fVar 1) (zac (fVar 2) (zac (fVar 3) (fNil)))))) (zac (zah zdr (zac (fVar 4) (zac (fVar 1) (zac (fVar 7) (fNil))))) (zac (fK (.ins false "House" zan) 0 (zar zaw [0] (fNil))) (fNil))))))) (sRet (zah zb1 (zac (fVar 6) (fNil)))))))))))))
def zc8:List Ag->List D->Option (D×List Ag):=runL 8 1 3 zfs
def zh4:List Ag->List D->Option (Str×List Ag):=xL 8 1 3 zfs
inductive Deed where
 | put (a h l:Int) | tell (a p l:Int) | go (a:Int) | dry
def dD:Deed->D
 | .put a h l=>.tup [.str "put",.int a,.int h,.int l]
 | .tell a p l=>.tup [.str "tell",.int a,.int p,.int l]
 | .go a=>.tup [.str "go",.int a]
 | .dry=>.tup [.str "dry"]
def Deed.isPut:Deed->Bool | .put ..=>true | _=>false
abbrev Spn:=Int×Int×Int
abbrev Hs:=List (List Sk)×List Spn
def spL(sp:List Spn):D:=.lst (sp.map sD)
def stD(s:Hs):D:=.tup [ssL s.1,spL s.2]
abbrev kH:AK:=.ins false "House" zan
def hP(k:List Deed)(s:List Hs):List Pt:=[.o (k.map dD),.o (s.map stD)]
abbrev hA(k:List Deed)(s:List Hs):Ag:=(kH,hP k s)
variable{e:DE0}{κ:AK}{ps:List Pt}
theorem zye(h:e[i]?=some (some (.ag κ l ps)))(hj:ps[j]?=some (.o ds)):zjc (.at κ) i j e=some ds:=by
 unfold zjc agAt
 rw[if_pos (show Acc.ok (.at κ) e i j from(show isK κ e i from .inl ⟨_,_,h⟩)),h]
 dsimp only[Option.bind_some]
 rw[hj]
theorem zoz(h:e[i]?=some (some (.ro κ ps)))(hj:ps[j]?=some (.o ds)):zjc (.at κ) i j e=some ds:=by
 unfold zjc agAt
 rw[if_pos (show Acc.ok (.at κ) e i j from(show isK κ e i from .inr ⟨_,h⟩)),h]
 dsimp only[Option.bind_some]
 rw[hj]
variable{f:FE}
theorem zyf(h:e[i]?=some (some (.ag κ l ps))):fK κ i f e=f e:=if_pos (.inl ⟨_,_,h⟩)
theorem ztp(h:e[i]?=some (some (.ro κ ps))):fK κ i f e=f e:=if_pos (.inr ⟨_,h⟩)
theorem z57{f:XF}(h:e[i]?=some (some (.ro κ ps))):xK κ i f e=f e:=if_pos (.inr ⟨_,h⟩)
variable{r:List D×DE0}{m:List Ag->List D->Option D}{F:FA}
theorem zh5(h:e[i]?=some (some (.ro κ ps)))(hF:F e=some r)(h2:r.2[i]?=some (some (.ro κ ps))):zar m [i] F e=(m [(κ,ps)] r.1).map fun d=>(d,r.2):=by
 unfold zar
 rw[if_pos (show aggs e [i] from fun k hk=>by rw[List.mem_singleton.mp hk];exact⟨_,h⟩),hF]
 dsimp only[Option.bind_some]
 simp only[getR,h2,Option.map_some,Option.bind_some]
theorem zi4:zar m [] F e=(F e).bind fun r=>(m [] r.1).map fun d=>(d,r.2):=by
 unfold zar
 rw[if_pos (show aggs e [] from fun k hk=>nomatch hk)]
 rfl
theorem zha{x:List Ag->List D->Option Str}:zda x [] F e=(F e).bind fun r=>(x [] r.1).map fun d=>(d,r.2):=by
 unfold zda
 rw[if_pos (show aggs e [] from fun k hk=>nomatch hk)]
 rfl
variable{d:D}{ps':List Pt}
theorem zyg{m:List Ag->List D->Option (D×List Ag)}(h:e[i]?=some (some (.ag κ l ps)))(hF:F e=some r)(h2:r.2[i]?=some (some (.ag κ l ps)))(hm:m [(κ,ps)] r.1=some (d,[(κ,ps')])):ze5 m [i] F e=some (d,r.2.set i (some (.ag κ l ps'))):=by
 unfold ze5
 rw[if_pos (show aggs e [i] from fun k hk=>by rw[List.mem_singleton.mp hk];exact⟨_,h⟩),hF]
 dsimp only[Option.bind_some]
 simp only[getA,h2,Option.map_some,Option.bind_some,hm,List.map_cons,List.map_nil,if_true,putA]
theorem zq8(xs:List D)(x:D):atI (xs++[x]) (-1)=some x:=by
 unfold atI ixN
 rw[if_neg (by decide),if_pos (by simp;omega),show(-1+((xs++[x]).length:Int)).toNat=xs.length by simp;omega]
 simp
variable{k:List Deed}{s:Hs}
theorem zgq:zau [hA k (p++[s])] []=some (ssL s.1):=by
 unfold zau runQ
 rw[if_pos ⟨rfl,rfl⟩]
 have h:zjc (.at kH) 0 1 (zbb 1 [hA k (p++[s])] [])=some ((p++[s]).map stD):=zoz (ps:=hP k (p++[s])) rfl rfl
 simp only[zg4,sRet,fBin,pIx,h,Option.bind_some,List.map_append,List.map_cons,List.map_nil,zq8,Option.map_some,fC,stD,dIx]
 rfl
theorem zjb:zaw [hA k (p++[s])] []=some (spL s.2):=by
 unfold zaw runQ
 rw[if_pos ⟨rfl,rfl⟩]
 have h:zjc (.at kH) 0 1 (zbb 1 [hA k (p++[s])] [])=some ((p++[s]).map stD):=zoz (ps:=hP k (p++[s])) rfl rfl
 simp only[zg5,sRet,fBin,pIx,h,Option.bind_some,List.map_append,List.map_cons,List.map_nil,zq8,Option.map_some,fC,stD,dIx]
 rfl
theorem zyh:zey [hA k p] []=some (.lst (k.map dD)):=by
 unfold zey runQ
 rw[if_pos ⟨rfl,rfl⟩]
 have h:zjc (.at kH) 0 0 (zbb 1 [hA k p] [])=some (k.map dD):=zoz (ps:=hP k p) rfl rfl
 simp only[zg6,sRet,fLst,zxt,h,Option.map_some]
theorem znp(hl:s.1.length<=1000):zcf [hA k (p++[s])] []=some (ssL s.1):=by
 unfold zcf runQ
 rw[if_pos ⟨rfl,rfl⟩]
 have c:=zcc (te:=fLst (zao zkv (zac (fVar 0) (fNil)))) (base:=[]) (fun s:List Sk=>D.lst (s.map sD)) (fun s:List Sk=>D.lst (s.map sD)) s.1 fun s _=>⟨_,by simp;rfl⟩
 have hf:Few (s.1.map fun s=>D.lst (s.map sD)).length:=few (by rw[List.length_map];omega)
 have h0:(zbb 1 [hA k (p++[s])] [])[0]?=some (some (.ro kH (hP k (p++[s])))):=rfl
 have h1:=zh5 (m:=zau) (F:=fNil) h0 (r:=([],zbb 1 [hA k (p++[s])] [])) rfl h0
 have h2:=ztp (f:=zar zau [0] fNil) h0
 simp only[zgq,Option.map_some] at h1
 simp only[zf7,sRet,fLst,zbq,fiS,h2,h1,Option.bind_some,ssL] at c ⊢
 generalize (s.1.map fun s=>D.lst (s.map sD))=L at *
 simp only[hf,if_true,List.map_nil,c,Option.map_some]
def hrOf(sp:List Spn):Int:=match sp.getLast? with | none=>0 | some x=>x.2.1
theorem zkp(sp:List Spn):ze7 [spL sp]=some (.int (hrOf sp)):=by
 unfold ze7 runD spL hrOf
 rw[if_pos (show[D.lst (sp.map sD)].length=1 from rfl)]
 cases h:sp.getLast? with
 | none =>
   rw[List.getLast?_eq_none_iff.mp h]
   simp[ziy,za8]
 | some x =>
   obtain⟨q,rfl⟩:=List.getLast?_eq_some_iff.mp h
   have h0:za8 1 [D.lst ((q++[x]).map sD)]=[some (.sh (.lst (q.map sD++[sD x])))]:=by simp[za8]
   have h1:atI (q.map sD++[sD x]) (-1)=some (sD x):=zq8 _ _
   have h2:((q.map sD++[sD x]).length:Int)≠0:=by simp;omega
   rw[h0]
   generalize q.map sD++[sD x]=L at *
   have h3:decide ((L.length:Int)=0)=false:=decide_eq_false h2
   simp only[ziy,sSeq,sIf,fTst,fBin,za9,List.getElem?_cons_zero,Option.bind_some,fC,dEq,Option.map_some,h3,Bool.false_eq_true,if_false,sNil,sRet,fIxV,fUn,dNeg,ixSl,h1,sD,dIx]
   rfl
theorem zv8:zd7 [hA k (p++[s])] []=some (.int (hrOf s.2)):=by
 unfold zd7 runQ
 rw[if_pos ⟨rfl,rfl⟩]
 have h0:(zbb 1 [hA k (p++[s])] [])[0]?=some (some (.ro kH (hP k (p++[s])))):=rfl
 have h1:=zh5 (m:=zaw) (F:=fNil) h0 (r:=([],zbb 1 [hA k (p++[s])] [])) rfl h0
 have h2:=ztp (f:=zar zaw [0] fNil) h0
 simp only[zjb,Option.map_some] at h1
 simp only[zh0,sRet,zah,zac,fNil,h2,h1,Option.bind_some,zkp,Option.map_some]
theorem zsm{a:Int}(h1:1<=a)(h2:a<=ss.length):zdg [] [ssL ss,.int a]=none/\zdf [] [ssL ss,.int a]=some .non:=by
 have e:zbb 2 [] [ssL ss,.int a]=[some (.sh (ssL ss)),some (.sh (.int a))]:=rfl
 have l:((ss.map fun s=>D.lst (s.map sD)).length:Int)=ss.length:=by rw[List.length_map]
 unfold zdg zdf xQ runQ
 rw[if_pos ⟨rfl,rfl⟩,if_pos ⟨rfl,rfl⟩,e]
 unfold ssL at *
 generalize (ss.map fun s=>D.lst (s.map sD))=L at *
 simp[zg1,show ¬a<1 by omega,show ¬((L.length:Int)<a) by omega]
variable{h:Int}
theorem zyi(h1:1<=h)(h2:h<=60):zew [] [.int h]=none/\zev [] [.int h]=some .non:=by
 unfold zew zev xQ runQ
 rw[if_pos ⟨rfl,rfl⟩,if_pos ⟨rfl,rfl⟩,show zbb 1 [] [.int h]=[some (.sh (.int h))] from rfl]
 simp[zg3,show ¬h<1 by omega,show ¬60<h by omega]
theorem zv9(h1:0<=h)(h2:h<=100):zd6 [] [.int h]=none/\zd5 [] [.int h]=some .non:=by
 unfold zd6 zd5 xQ runQ
 rw[if_pos ⟨rfl,rfl⟩,if_pos ⟨rfl,rfl⟩,show zbb 1 [] [.int h]=[some (.sh (.int h))] from rfl]
 simp[zhy,show ¬h<0 by omega,show ¬100<h by omega]
theorem zyj(h1:0<=h)(h2:h<=5):zeu [] [.int h]=none/\zet [] [.int h]=some .non:=by
 unfold zeu zet xQ runQ
 rw[if_pos ⟨rfl,rfl⟩,if_pos ⟨rfl,rfl⟩,show zbb 1 [] [.int h]=[some (.sh (.int h))] from rfl]
 simp[zg2,show ¬h<0 by omega,show ¬5<h by omega]
theorem z1g(ss:List (List Sk))(hl:ss.length<=1000):(if ss.flatten.length<14 then zc3 [] [ssL ss]=none/\zfi [] [ssL ss]=some .non else zc3 [] [ssL ss]=some ("HouseFull" : Str)):=by
 have h:=zp7 ss hl
 generalize ss.flatten.length=n at *
 split <;> rename_i hh
 ·unfold zc3 zfi xQ runQ
  rw[if_pos ⟨rfl,rfl⟩,if_pos ⟨rfl,rfl⟩,show zbb 1 [] [ssL ss]=[some (.sh (ssL ss))] from rfl]
  simp[zfh,h,show ¬(14:Int)<=(n:Int) by omega]
 ·unfold zc3 xQ
  rw[if_pos ⟨rfl,rfl⟩,show zbb 1 [] [ssL ss]=[some (.sh (ssL ss))] from rfl]
  simp[zfh,h,show(14:Int)<=(n:Int) by omega,zeb,vInt]
theorem zo0(ds:List D):(if ds.length<60 then zbv [] [.lst ds]=none/\zcp [] [.lst ds]=some .non else zbv [] [.lst ds]=some ("DeedsFull" : Str)):=by
 split <;> rename_i hh
 ·unfold zbv zcp xQ runQ
  rw[if_pos ⟨rfl,rfl⟩,if_pos ⟨rfl,rfl⟩,show zbb 1 [] [.lst ds]=[some (.sh (.lst ds))] from rfl]
  simp[zex,show ¬(60:Int)<=(ds.length:Int) by omega]
 ·unfold zbv xQ
  rw[if_pos ⟨rfl,rfl⟩,show zbb 1 [] [.lst ds]=[some (.sh (.lst ds))] from rfl]
  simp[zex,show(60:Int)<=(ds.length:Int) by omega,zeb,vInt]
def zh8(k:List Deed):Int:=1+(k.filter Deed.isPut).length
theorem z1h(k:List Deed)(hk:k.length<=1000):zfj [.lst (k.map dD)]=some (.int (zh8 k)):=by
 have c:=zn8 (tt:=fTst (fBin dEq (fIxV 0 (fC (.int 0))) (fC (.str "put")))) (te:=fVar 0) (base:=[]) dD dD Deed.isPut k fun x _=>by
  cases x with
  | put a h l=>exact⟨_,rfl,fun _=>⟨_,rfl⟩⟩
  | tell a p l=>exact⟨_,rfl,fun z=>nomatch z⟩
  | go a=>exact⟨_,rfl,fun z=>nomatch z⟩
  | dry=>exact⟨_,rfl,fun z=>nomatch z⟩
 have hf:Few (k.map dD).length:=few (by rw[List.length_map];omega)
 have hl:((k.filter Deed.isPut).map dD).length=(k.filter Deed.isPut).length:=List.length_map ..
 unfold zfj runD
 rw[if_pos (show[D.lst (k.map dD)].length=1 from rfl),show za8 1 [D.lst (k.map dD)]=[some (.sh (.lst (k.map dD)))] from rfl]
 unfold zh8
 rw[← hl]
 generalize k.map dD=L at *
 generalize (k.filter Deed.isPut).map dD=M at *
 simp only[zkn,sRet,fBin,fC,zah,zac,fNil,fLst,zbq,fiS,fVar,List.getElem?_cons_zero,Option.bind_some,hf,if_true,List.map_nil,c,Option.map_some,bLen,zav]
theorem fK0:fK κ 0 f (some (.ag κ l ps)::e)=f (some (.ag κ l ps)::e):=zyf rfl
theorem fK0r:fK κ 0 f (some (.ro κ ps)::e)=f (some (.ro κ ps)::e):=ztp rfl
variable{sl:Sl}
theorem cQ0:zar m [0] F (some sl::e)=(F (some sl::e)).bind fun r=>(getR r.2 [0]).bind fun ags=>(m ags r.1).map fun d=>(d,r.2):=if_pos fun k hk=>by rw[List.mem_singleton.mp hk];exact⟨_,rfl⟩
theorem cL0{m:List Ag->List D->Option (D×List Ag)}:ze5 m [0] F (some sl::e)=(F (some sl::e)).bind fun r=>(getA r.2 [0]).bind fun ags=>(m ags r.1).bind fun q=>if q.2.map (·.1)=ags.map (·.1) then some (q.1,putA r.2 [0] q.2) else none:=if_pos fun k hk=>by rw[List.mem_singleton.mp hk];exact⟨_,rfl⟩
theorem z1i:getA (some (.ag κ l ps)::e) [0]=some [(κ,ps)]:=rfl
theorem z1j{κ':AK}:putA (some (.ag κ l ps)::e) [0] [(κ',ps')]=some (.ag κ' l ps')::e:=rfl
theorem z1k:getR (some (.ag κ l ps)::e) [0]=some [(κ,ps)]:=rfl
theorem zmw:getR (some (.ro κ ps)::e) [0]=some [(κ,ps)]:=rfl
theorem z1l:zmf kH 0 0 (frz true (some (.ag kH l (hP k p))::e))=some (.lst (k.map dD),frz true (some (.ag kH l (hP k p))::e)):=by
 unfold zmf
 rw[if_pos (show isK kH (frz true (some (.ag kH l (hP k p))::e)) 0 from .inr ⟨[.d (.lst (k.map dD)),.d (.lst (p.map stD))],rfl⟩)]
 rfl
theorem znq{r:Nat}(h:e[i]?=some (some (.ag κ (some r) ps)))(hl:∀c fs,κ≠.ins true c fs)(hj:ps[j]?=some (.o ds))(hf:f e=some (d,e))(hw:Few (ds.length+1)) :
  zk2 (.at κ) i j f e=some (.non,e.set i (some (.ag κ (some r) (ps.set j (.o (ds++[d])))))):=by
 unfold zk2
 rw[h]
 dsimp only
 rw[if_pos (show labO κ (some r) from⟨rfl,hl⟩),zye h hj,Option.bind_some,hf,Option.bind_some]
 unfold appP
 rw[h]
 dsimp only
 rw[hj]
 dsimp only
 rw[if_pos ⟨rfl,rfl,rfl,hw⟩]
 unfold setP
 rw[h]
variable{sp:List Spn}
theorem zq9{d:Deed}(hk:k.length<=1000)(hp:p.length<=1000):zbr [hA k p] [dD d,ssL ss,spL sp]=some (.non,[hA (k++[d]) (p++[(ss,sp)])]):=by
 have h1:=znq (e:=[some (.ag kH (some 0) (hP k p)),some (.sh (dD d)),some (.sh (ssL ss)),some (.sh (spL sp))]) (i:=0) (j:=0) (f:=fVar 1) rfl (fun c fs z=>nomatch z) rfl rfl (few (by rw[List.length_map];omega))
 have h2:=znq (e:=[some (.ag kH (some 0) ((hP k p).set 0 (.o (k.map dD++[dD d])))),some (.sh (dD d)),some (.sh (ssL ss)),some (.sh (spL sp))]) (i:=0) (j:=1) (f:=fTup (zac (fVar 2) (zac (fVar 3) fNil))) (ds:=p.map stD) rfl (fun c fs z=>nomatch z) rfl rfl (few (by rw[List.length_map];omega))
 unfold zbr runL
 rw[if_pos ⟨rfl,rfl⟩,show zge 4 [hA k p] [dD d,ssL ss,spL sp]=[some (.ag kH (some 0) (hP k p)),some (.sh (dD d)),some (.sh (ssL ss)),some (.sh (spL sp))] from rfl]
 simp only[List.set_cons_zero] at h1 h2
 simp only[zhz,sSeq,za7,h1,Option.map_some,Option.bind_some,h2]
 unfold hA hP
 rw[List.map_append,List.map_append]
 rfl
def putX(ss:List (List Sk))(n:Nat)(a h l:Int):Option Str:=if a<1\/(ss.length:Int)<a then some "UnknownStack" else if h<1\/60<h then some "BadHours" else if l<0\/100<l then some "BadLoss" else if ss.flatten.length<14 then(if n<60 then none else some "DeedsFull") else some "HouseFull"
def putS(ss:List (List Sk))(a:Nat)(x:Sk):List (List Sk):=ss.set (a-1) (x::ss.getD (a-1) [])
theorem z4u{l:Int}(hx:putX s.1 k.length a h l=none)(hl:s.1.length<=5)(hp:p.length<=100) :
  ziz [hA k (p++[s])] [.int a,.int h,.int l]=none/\ze8 [hA k (p++[s])] [.int a,.int h,.int l]=some (.int (zh8 k),[hA (k++[.put a h l]) (p++[s]++[(putS s.1 a (zh8 k,h,l),s.2)])]):=by
 unfold putX at hx
 split at hx
 ·cases hx
 rename_i c1
 split at hx
 ·cases hx
 rename_i c2
 split at hx
 ·cases hx
 rename_i c3
 split at hx
 case isFalse=>cases hx
 rename_i c4
 split at hx
 case isFalse=>cases hx
 rename_i c5
 have k1:=zsm (ss:=s.1) (a:=a) (by omega) (by omega)
 have k2:=zyi (h:=h) (by omega) (by omega)
 have k3:=zv9 (h:=l) (by omega) (by omega)
 have k4:=z1g s.1 (by omega)
 rw[if_pos c4] at k4
 have k5:=zo0 (k.map dD)
 rw[if_pos (by rw[List.length_map];exact c5)] at k5
 have k6:=z1h k (by omega)
 have hat:(a-1:Nat)<s.1.length:=by omega
 have k7:atI (s.1.map fun s=>D.lst (s.map sD)) ((a:Int)-1)=some (.lst ((s.1.getD (a-1) []).map sD)):=by
  rw[show(a:Int)-1=((a-1:Nat):Int) by omega,zbp (fun s:List Sk=>D.lst (s.map sD)) (List.getElem?_eq_getElem hat),List.getD_eq_getElem?_getD,List.getElem?_eq_getElem hat]
  rfl
 have k8:=zhx (ss:=s.1) (a:=a) ((zh8 k,h,l)::s.1.getD (a-1) []) (by omega) (by omega) (by omega)
 have k9:=zq9 (k:=k) (p:=p++[s]) (d:=.put a h l) (ss:=putS s.1 a (zh8 k,h,l)) (sp:=s.2) (by omega) (by simp;omega)
 have ka:=zgq (k:=k) (p:=p) (s:=s)
 have kb:=zjb (k:=k) (p:=p) (s:=s)
 have fw:Few (0+1+((s.1.getD (a-1) []).map sD).length):=few (by
  have:(s.1.getD (a-1) []).length<=s.1.flatten.length:=by
   rw[List.getD_eq_getElem?_getD,List.getElem?_eq_getElem hat]
   exact(List.sublist_flatten_of_mem (List.getElem_mem hat)).length_le
  rw[List.length_map];omega)
 have e0:zge 7 [hA k (p++[s])] [.int a,.int h,.int l]=[some (.ag kH (some 0) (hP k (p++[s]))),some (.sh (.int a)),some (.sh (.int h)),some (.sh (.int l)),none,none,none]:=rfl
 have k9':zbr [(kH,hP k (p++[s]))] [.tup [.str "put",.int a,.int h,.int l],ssL (putS s.1 a (zh8 k,h,l)),spL s.2]=some (.non,[hA (k++[.put a h l]) (p++[s]++[(putS s.1 a (zh8 k,h,l),s.2)])]):=k9
 have k8':zdr [ssL s.1,.int a,.lst (.tup [.int (zh8 k),.int h,.int l]::(s.1.getD (a-1) []).map sD)]=some (ssL (putS s.1 a (zh8 k,h,l))):=k8
 have key:zgn (zge 7 [hA k (p++[s])] [.int a,.int h,.int l])=some (.rt (.int (zh8 k)),[some (.ag kH (some 0) (hP (k++[.put a h l]) (p++[s]++[(putS s.1 a (zh8 k,h,l),s.2)]))),some (.sh (.int a)),some (.sh (.int h)),some (.sh (.int l)),some (.sh (ssL s.1)),some (.sh (.int (zh8 k))),some (.sh (.lst (.tup [.int (zh8 k),.int h,.int l]::(s.1.getD (a-1) []).map sD)))]):=by
  rw[e0]
  generalize putS s.1 a (zh8 k,h,l)=PS at *
  generalize (s.1.getD (a-1) []).map sD=TL at *
  unfold ssL at *
  generalize (s.1.map fun s=>D.lst (s.map sD))=SL at *
  simp only[zgn,sSeq,sSet,sXp,za7,fK0,cQ0,fNil,Option.bind_some,z1k,ka,Option.map_some,List.set_cons_succ,List.set_cons_zero,zha,zi4,zac,fVar,List.getElem?_cons_succ,List.getElem?_cons_zero,k1,k2,k3,k4,Option.map_none,xFrz,fFrz,z1l,k5,noL,if_true,zah,k6,fLst,fCat,zat,fTup,List.length_cons,List.length_nil,show 0+1+1+1<=64 by decide,show 0+1+1+1+1<=64 by decide,show 0+1<=64 by decide,fIxV,fBin,fC,dSub,ixSl,k7,fw,cL0,z1i,k8',kb,k9',List.cons_append,List.nil_append,List.map_cons,List.map_nil,z1j,sRet]
 exact⟨by unfold ziz xL;rw[if_pos ⟨rfl,rfl⟩,key],by unfold ze8 runL;rw[if_pos ⟨rfl,rfl⟩,key];rfl⟩
def newS(n:Nat):Hs:=(List.replicate n [],[])
theorem z1m(hn:n<=5):zej [(.ins true "House" [],[])] [.int n]=none/\zce [(.ins true "House" [],[])] [.int n]=some (.non,[(.ins true "House" zan,hP [] [newS n])]):=by
 have k1:=zyj (h:=n) (by omega) (by omega)
 have hf:Few (rngD 0 n).length:=few (by rw[zb0];omega)
 have c:=zcc (te:=fLst (zat fNil)) (base:=[]) (fun i:Nat=>D.int (0+(i:Int))) (fun _:Nat=>D.lst []) (List.range n) fun i _=>⟨_,rfl⟩
 have hr:=ze4 n (by omega)
 have e0:zge 2 [(AK.ins true "House" [],[])] [.int n]=[some (.ag (.ins true "House" []) (some 0) []),some (.sh (.int n))]:=rfl
 have hl:(List.range n).map (fun _=>D.lst [])=(List.replicate n ([]:List Sk)).map fun s=>D.lst (s.map sD):=by
  rw[List.map_const',List.length_range,List.map_replicate,List.map_nil]
 have key:zc4 (zge 2 [(AK.ins true "House" [],[])] [.int n])=some (.nx,[some (.ag (.ins true "House" zan) (some 0) (hP [] [newS n])),some (.sh (.int n))]):=by
  rw[e0]
  unfold rngD at hr hf
  rw[hl] at c
  rw[show hP [] [newS n]=[.o [],.o [.tup [.lst ((List.replicate n ([]:List Sk)).map fun s=>D.lst (s.map sD)),.lst []]]] from rfl]
  generalize (List.replicate n ([]:List Sk)).map (fun s=>D.lst (s.map sD))=SL at *
  generalize (List.range n).map (fun k:Nat=>D.int (0+(k:Int)))=RL at *
  have f1:(True/\(Str.ofString "kept")∉([]:List Str)/\0<900):=⟨trivial,by simp,by decide⟩
  have f2:(True/\(Str.ofString "states")∉[Str.ofString "kept"]/\0+1<900):=⟨trivial,by decide +kernel,by decide⟩
  simp only[zc4,sSeq,sXp,zha,zi4,zac,fVar,fNil,List.getElem?_cons_succ,List.getElem?_cons_zero,Option.bind_some,k1,Option.map_none,Option.map_some,za7,zvm,zat,List.length_nil,Nat.zero_le,if_true,List.set_cons_zero,List.nil_append,fTup,fLst,zbq,zao,hr,hf,c,List.map_nil,List.length_cons,show 0+1+1<=64 by decide,show 0+1<=64 by decide]
  rw[if_pos f1]
  simp only[Option.bind_some,List.getElem?_cons_succ,List.getElem?_cons_zero,hr,hf,c,if_true,Option.map_some,List.length_cons,List.length_nil,show 0+1+1<=64 by decide,show 0+1<=64 by decide]
  rw[if_pos f2]
  rfl
 exact⟨by unfold zej xL;rw[if_pos ⟨rfl,rfl⟩,key],by unfold zce runL;rw[if_pos ⟨rfl,rfl⟩,key];rfl⟩
theorem z1n(hn:n<=5)(hF:F e=some ([.int n],e')):zvj "House" zce F e=some ((kH,hP [] [newS n]),e'):=by
 unfold zvj
 rw[hF,Option.bind_some,(z1m hn).2]
 rfl
theorem zmx(h:e[i]?=some (some (.ag kH l (hP k p)))):(frz false e)[i]?=some (some (.ro kH (hP k p))):=by
 unfold frz
 rw[List.getElem?_map,h]
 rfl
theorem z58(h:e[i]?=some (some (.ag kH l (hP k p)))):fK kH i (zar m [i] fNil) (frz false e)=(m [hA k p] []).map fun d=>(d,frz false e):=by
 rw[ztp (zmx h)]
 exact zh5 (zmx h) (r:=([],frz false e)) rfl (zmx h)
variable{m:Int}
theorem zra{m:List Ag->List D->Option (D×List Ag)}(h:e[i]?=some (some (.ag κ l ps)))(hF:F e=some (ds,e))(hm:m [(κ,ps)] ds=some (d,[(κ,ps')])):ze5 m [i] F e=some (d,e.set i (some (.ag κ l ps'))):=zyg h (r:=(ds,e)) hF h hm
def plD:D->Prop | .int _=>True | .str _=>True | _=>False
theorem zrb(xs:List D)(hp:∀x∈xs,plD x)(hl:xs.length<=1000):zbo [.tup xs,.tup xs]=some (.bl true):=by
 obtain⟨e',h1,v2,rfl⟩:=zcm (i:=2) (g:=zbk) (fun k e=>∃v2,e=[some (.sh (.tup xs)),some (.sh (.tup xs)),v2]) (rngD 0 xs.length) [some (.sh (.tup xs)),some (.sh (.tup xs)),none] ⟨none,rfl⟩ (by
  rintro k d e hd ⟨v2,rfl⟩
  obtain⟨rfl,hk⟩:=zdj hd
  have ha:atI xs (k:Int)=some xs[k]:=by
   unfold atI;rw[zeh (by omega) (by omega)];simp[hk]
  have hx:=hp _ (List.getElem_mem hk)
  refine⟨[some (.sh (.tup xs)),some (.sh (.tup xs)),some (.sh (.int (0+k)))],?_,_,rfl⟩
  generalize xs[k]=x at *
  cases x with
  | int i=>simp[zbk,ha,zgl]
  | str i=>simp[zbk,ha]
  | _=>exact hx.elim)
 have hi:=ze4 xs.length (by omega)
 refine za4 (e':=?w) rfl ?h
 rotate_left
 show zcx [some (.sh (.tup xs)),some (.sh (.tup xs)),none]=_
 simp[zcx,hi,h1]
 rfl
theorem zp9(rs:List (List D))(hl:rs.length<=1000)(hr:∀x∈rs,(∀y∈x,plD y)/\x.length<=1000):zay [.lst (rs.map D.tup),.lst (rs.map D.tup)]=some (.bl true):=by
 obtain⟨e',h1,v2,rfl⟩:=zcm (i:=2) (g:=zb7) (fun k e=>∃v2,e=[some (.sh (.lst (rs.map D.tup))),some (.sh (.lst (rs.map D.tup))),v2]) (rngD 0 rs.length) [some (.sh (.lst (rs.map D.tup))),some (.sh (.lst (rs.map D.tup))),none] ⟨none,rfl⟩ (by
  rintro k d e hd ⟨v2,rfl⟩
  obtain⟨rfl,hk⟩:=zdj hd
  have ha:atI (rs.map D.tup) (k:Int)=some (.tup rs[k]):=zbp D.tup (by simp[hk])
  have hs:=zrb rs[k] (hr _ (List.getElem_mem hk)).1 (hr _ (List.getElem_mem hk)).2
  exact⟨[some (.sh (.lst (rs.map D.tup))),some (.sh (.lst (rs.map D.tup))),some (.sh (.int (0+k)))],by simp[zb7,ha,hs],_,rfl⟩)
 have hi:=ze4 rs.length (by omega)
 refine za4 (e':=?w) rfl ?h
 rotate_left
 show zcn [some (.sh (.lst (rs.map D.tup))),some (.sh (.lst (rs.map D.tup))),none]=_
 simp[zcn,hi,h1]
 rfl
def dR:Deed->List D
 | .put a h l=>[.str "put",.int a,.int h,.int l]
 | .tell a p l=>[.str "tell",.int a,.int p,.int l]
 | .go a=>[.str "go",.int a]
 | .dry=>[.str "dry"]
theorem dD_R(d:Deed):dD d=.tup (dR d):=by cases d <;> rfl
theorem z59(d:Deed):(∀y∈dR d,plD y)/\(dR d).length<=1000:=by
 cases d <;> simp[dR,plD]
theorem ztq(k:List Deed)(hk:k.length<=1000):zay [.lst (k.map dD),.lst (k.map dD)]=some (.bl true):=by
 have:=zp9 (k.map dR) (by rw[List.length_map];exact hk) fun x hx=>by
  obtain⟨d,_,rfl⟩:=List.mem_map.mp hx
  exact z59 d
 rw[List.map_map] at this
 rwa [show k.map dD=k.map (D.tup ∘ dR) from List.map_congr_left fun d _=>dD_R d]
theorem zzi(h:e[j]?=some (some (.ow ds))):(frz false e)[j]?=some (some (.sh (.lst ds))):=by
 unfold frz
 rw[List.getElem?_map,h]
 rfl
theorem zmy(h:a-1<ss.length):(putS ss a x).flatten.Perm (x::ss.flatten):=by
 unfold putS
 exact zkj (x:=[x]) (by simp[h])
theorem zwa(h:a-1<ss.length):(putS ss a x).flatten.length=ss.flatten.length+1:=(zmy h).length_eq
theorem zyk:(putS ss a x).length=ss.length:=by unfold putS;simp
theorem zlb{x:List Sk}(h:x∈ss):x.length<=ss.flatten.length:=(List.sublist_flatten_of_mem h).length_le
theorem z1o(ss:List (List Sk))(hg:∀x∈ss.flatten,zbg x)(hl:ss.flatten.length<=14)(ne:0<ss.flatten.length) :
  ∃a os x tl,zbu [ssL ss]=some (iD (a::os))/\Whole ss (a::os)/\ss[a-1]?=some (x::tl)/\1<=a/\a<=ss.length/\(a::os).length<=14:=by
 obtain⟨ts,ok,hbt⟩:=zgz ss hg hl
 have ht:=zfg ok hbt hl
 have hw:=ok.whole
 have hlen:(zbl ts).length<=14:=by rw[zmr,ok.perm.length_eq];exact hl
 cases ts with
 | nil =>
   have:=ok.perm.length_eq
   simp at this
   simp at ne
   omega
 | cons t ts =>
   obtain⟨a,b⟩:=t
   have hb:=(ok.good (a,b) (by simp)).ne
   cases b with
   | nil=>exact absurd rfl hb
   | cons x r =>
     obtain⟨tl,ts',h1,h2,h3,_⟩:=zv7 ok hg hl
     have e:zbl ((a,x::r)::ts)=a::(List.replicate r.length a++zbl ts):=by simp[zbl,List.replicate_succ]
     rw[e] at ht hw hlen
     exact⟨a,_,x,tl,ht,hw,h1,h2,h3,hlen⟩
theorem zso(h:zbu [ssL s.1]=some (iD os)):zdh [hA k (p++[s])] []=some (.lst (iD os)):=by
 unfold zdh runQ
 rw[if_pos ⟨rfl,rfl⟩]
 have h0:(zbb 1 [hA k (p++[s])] [])[0]?=some (some (.ro kH (hP k (p++[s])))):=rfl
 have h1:=zh5 (m:=zau) (F:=fNil) h0 (r:=([],zbb 1 [hA k (p++[s])] [])) rfl h0
 have h2:=ztp (f:=zar zau [0] fNil) h0
 simp only[zgq,Option.map_some] at h1
 simp only[zg7,sRet,fLst,zao,zac,fNil,h2,h1,Option.bind_some,h,Option.map_some]
theorem zqa:zcv [hA k (p++[s])] []=some (spL s.2):=by
 unfold zcv runQ
 rw[if_pos ⟨rfl,rfl⟩]
 have h0:(zbb 1 [hA k (p++[s])] [])[0]?=some (some (.ro kH (hP k (p++[s])))):=rfl
 have h1:=zh5 (m:=zaw) (F:=fNil) h0 (r:=([],zbb 1 [hA k (p++[s])] [])) rfl h0
 have h2:=ztp (f:=zar zaw [0] fNil) h0
 simp only[zjb,Option.map_some] at h1
 simp only[zd8,sRet,fLst,zao,zac,fNil,h2,h1,Option.bind_some,zkv,Option.map_some,spL]
theorem zyl(ss:List (List Sk))(hl:ss.length<=1000):(if 0<ss.flatten.length then zcq [] [ssL ss]=none/\ze0 [] [ssL ss]=some .non else zcq [] [ssL ss]=some ("NothingWaits" : Str)):=by
 have h:=zp7 ss hl
 generalize ss.flatten.length=n at *
 split <;> rename_i hh
 ·unfold zcq ze0 xQ runQ
  rw[if_pos ⟨rfl,rfl⟩,if_pos ⟨rfl,rfl⟩,show zbb 1 [] [ssL ss]=[some (.sh (ssL ss))] from rfl]
  simp[zez,h,show ¬n=0 by omega]
 ·unfold zcq xQ
  rw[if_pos ⟨rfl,rfl⟩,show zbb 1 [] [ssL ss]=[some (.sh (ssL ss))] from rfl]
  simp[zez,h,show n=0 by omega,zeb]
def dryS(s:Hs)(a:Nat)(x:Sk)(tl:List Sk):Hs:=(s.1.set (a-1) tl,s.2++[(hrOf s.2,hrOf s.2+x.2.1,lss s.1.flatten)])
variable{tl:List Sk}
theorem z4v(ht:zbu [ssL s.1]=some (iD (a::os)))(hx:s.1[a-1]?=some (x::tl))(l1:1<=a)(hk:k.length<60)(hl:s.1.length<=5)(hp:p.length<=100)(hr:∀y∈s.1,y.length<=1000)(hsp:s.2.length<=1000)(ne:0<s.1.flatten.length) :
  zi0 [hA k (p++[s])] []=none/\zfa [hA k (p++[s])] []=some (sD x,[hA (k++[.dry]) (p++[s]++[dryS s a x tl])]):=by
 have k1:=zyl s.1 (by omega)
 rw[if_pos ne] at k1
 have k5:=zo0 (k.map dD)
 rw[if_pos (by rw[List.length_map];exact hk)] at k5
 have k6:=z4s hx l1
 have k7:=ztn hx l1 (by omega)
 have k8:=zq6 s.1 hr
 have k9:zbr [(kH,hP k (p++[s]))] [.tup [.str "dry"],ssL (s.1.set (a-1) tl),.lst (s.2.map sD++[.tup [.int (hrOf s.2),.int (hrOf s.2+x.2.1),.int (lss s.1.flatten)]])]=some (.non,[hA (k++[.dry]) (p++[s]++[dryS s a x tl])]):=by
  have:=zq9 (k:=k) (p:=p++[s]) (d:=.dry) (ss:=s.1.set (a-1) tl) (sp:=s.2++[(hrOf s.2,hrOf s.2+x.2.1,lss s.1.flatten)]) (by omega) (by simp;omega)
  unfold spL at this
  rw[List.map_append] at this
  exact this
 have ka:=zgq (k:=k) (p:=p) (s:=s)
 have kb:=zjb (k:=k) (p:=p) (s:=s)
 have kc:=zv8 (k:=k) (p:=p) (s:=s)
 have kd:zbf [sD x]=some (.int x.2.1):=zkk x
 have fw:Few ((s.2.map sD).length+(0+1)):=few (by rw[List.length_map];omega)
 have at0:atI (iD (a::os)) 0=some (.int (a:Int)):=by unfold iD;exact zbp (k:=0) (fun n:Nat=>D.int (n:Int)) rfl
 have e0:zge 6 [hA k (p++[s])] []=[some (.ag kH (some 0) (hP k (p++[s]))),none,none,none,none,none]:=rfl
 have key:∃e',zgo (zge 6 [hA k (p++[s])] [])=some (.rt (sD x),some (.ag kH (some 0) (hP (k++[.dry]) (p++[s]++[dryS s a x tl])))::e'):=by
  rw[e0]
  unfold spL at kb
  generalize dryS s a x tl=PS at *
  generalize s.1.set (a-1) tl=SS at *
  unfold ssL at *
  generalize (s.1.map fun s=>D.lst (s.map sD))=SL at *
  generalize s.2.map sD=SP at *
  generalize iD (a::os)=OS at *
  refine⟨[some (.sh (.lst SL)),some (.sh (.int (a:Int))),some (.sh (sD x)),some (.sh (.int (hrOf s.2))),some (.sh (.tup [.int (hrOf s.2),.int (hrOf s.2+x.2.1),.int (lss s.1.flatten)]))],?_⟩
  simp only[zgo,sSeq,sSet,sXp,za7,fK0,cQ0,fNil,Option.bind_some,z1k,ka,Option.map_some,List.set_cons_succ,List.set_cons_zero,zha,zi4,zac,fVar,List.getElem?_cons_succ,List.getElem?_cons_zero,k1,Option.map_none,xFrz,fFrz,z1l,k5,noL,if_true,zah,k6,fLst,zao,ht,fCat,zat,fTup,List.length_cons,List.length_nil,show 0+1+1+1<=64 by decide,show 0+1+1+1+1<=64 by decide,show 0+1<=64 by decide,fIxV,fBin,fC,dSub,dIx,at0,kc,kd,k8,k7,kb,zav,fw,cL0,z1i,k9,List.cons_append,List.nil_append,List.map_cons,List.map_nil,z1j,sRet]
 obtain⟨e',key⟩:=key
 exact⟨by unfold zi0 xL;rw[if_pos ⟨rfl,rfl⟩,key],by unfold zfa runL;rw[if_pos ⟨rfl,rfl⟩,key];rfl⟩
def zo1:Int->List Spn->Prop
 | _,[]=>True
 | b,x::r=>x.1=b/\x.1<=x.2.1/\zo1 x.2.1 r
def zqb:Int->List Spn->Int
 | b,[]=>b
 | _,x::r=>zqb x.2.1 r
theorem zqc:∀(sp:List Spn) (b:Int) (x:Spn),zqb b (sp++[x])=x.2.1
 | [],_,_=>rfl
 | y::r,_,x=>zqc r y.2.1 x
theorem zwb(sp:List Spn):hrOf sp=zqb 0 sp:=by
 unfold hrOf
 cases h:sp.getLast? with
 | none=>rw[List.getLast?_eq_none_iff.mp h];rfl
 | some x=>obtain⟨q,rfl⟩:=List.getLast?_eq_some_iff.mp h;rw[zqc]
theorem zsp:∀(sp:List Spn) (b:Int),zo1 b sp->b<=zqb b sp
 | [],b,_=>Int.le_refl b
 | y::r,b,hc=>by have:=zsp r _ hc.2.2;have:=hc.1;have:=hc.2.1;show b<=zqb y.2.1 r;omega
def rts(sp:List Spn):List Int:=(sp.map fun x=>List.replicate (x.2.1-x.1).toNat x.2.2).flatten
def zh6(h:Int)(sp:List Spn):Int:=(sp.map fun x=>if x.1<h then x.2.2*((if x.2.1<h then x.2.1 else h)-x.1) else 0).sum
theorem zrc:∀(sp:List Spn) (b:Int),zo1 b sp->((rts sp).length:Int)=zqb b sp-b
 | [],b,_=>by show(0:Int)=b-b;omega
 | x::r,b,hc=>by
   have ih:=zrc r _ hc.2.2
   have e:rts (x::r)=List.replicate (x.2.1-x.1).toNat x.2.2++rts r:=rfl
   rw[e,List.length_append,List.length_replicate]
   have:=hc.1
   have:=hc.2.1
   show _=zqb x.2.1 r-b
   omega
theorem zqd:∀(sp:List Spn) (b h:Int),zo1 b sp->h<=b->zh6 h sp=0
 | [],_,_,_,_=>rfl
 | x::r,b,h,hc,hb=>by
   have:=hc.1
   have:=hc.2.1
   have ih:=zqd r x.2.1 h hc.2.2 (by omega)
   unfold zh6 at ih ⊢
   rw[List.map_cons,List.sum_cons,ih,if_neg (by omega)]
   rfl
theorem z1p(n:Nat)(c:Int):(List.replicate n c).sum=c*n:=by
 induction n with
 | zero=>simp
 | succ n ih=>rw[List.replicate_succ,List.sum_cons,ih,Int.natCast_add,Int.mul_add];omega
theorem zsq:∀(sp:List Spn) (b h:Int),zo1 b sp->b<=h->zh6 h sp=((rts sp).take (h-b).toNat).sum
 | [],b,h,_,_=>by simp[zh6,rts]
 | x::r,b,h,hc,hb=>by
   have h1:=hc.1
   have h2:=hc.2.1
   have e:rts (x::r)=List.replicate (x.2.1-x.1).toNat x.2.2++rts r:=rfl
   have el:zh6 h (x::r)=(if x.1<h then x.2.2*((if x.2.1<h then x.2.1 else h)-x.1) else 0)+zh6 h r:=rfl
   rw[e,el,List.take_append,List.sum_append,List.take_replicate,List.length_replicate,z1p]
   by_cases c:x.2.1<h
   ·rw[zsq r x.2.1 h hc.2.2 (by omega),if_pos (by omega),if_pos c,show(h-b).toNat-(x.2.1-x.1).toNat=(h-x.2.1).toNat by omega,show min (h-b).toNat (x.2.1-x.1).toNat=(x.2.1-x.1).toNat by omega,show(((x.2.1-x.1).toNat:Nat):Int)=x.2.1-x.1 by omega]
   ·rw[zqd r x.2.1 h hc.2.2 (by omega),show(h-b).toNat-(x.2.1-x.1).toNat=0 by omega,show min (h-b).toNat (x.2.1-x.1).toNat=(h-b).toNat by omega]
    by_cases c2:x.1<h
    ·rw[if_pos c2,if_neg c,show(((h-b).toNat:Nat):Int)=h-x.1 by omega];simp
    ·rw[if_neg c2,show(h-b).toNat=0 by omega];simp
theorem ztr(h0:0<=h)(h1:h<=hrOf sp)(hb:∀x∈sp,0<=x.2.2/\x.2.2<=100000):zja [] [spL sp,.int h]=none/\zi9 [] [spL sp,.int h]=some (.int (zh6 h sp)):=by
 obtain⟨e',hf,v3,v4,v5,rfl⟩:=zgm (ix:=[3,4,5]) (g:=ze9) (fun x:Spn=>[D.int x.1,.int x.2.1,.int x.2.2]) (fun p e=>∃v3 v4 v5,e=[some (.sh (spL sp)),some (.sh (.int h)),some (.sh (.int (zh6 h p))),v3,v4,v5]) sp
  [some (.sh (spL sp)),some (.sh (.int h)),some (.sh (.int 0)),none,none,none] ⟨none,none,none,rfl⟩ (fun _ _=>rfl) (by
   rintro p x q e hpq ⟨v3,v4,v5,rfl⟩
   have hx:=hb x (by rw[hpq];simp)
   have sm:zfb x.2.2:=⟨by omega,by omega⟩
   have hm:∀z:Int,dMul (.int x.2.2) (.int z)=some (.int (x.2.2*z)):=fun z=>by unfold dMul;exact if_pos (.inl sm)
   have e1:zh6 h (p++[x])=zh6 h p+(if x.1<h then x.2.2*((if x.2.1<h then x.2.1 else h)-x.1) else 0):=by unfold zh6;simp
   refine⟨[some (.sh (spL sp)),some (.sh (.int h)),some (.sh (.int (zh6 h (p++[x])))),some (.sh (.int x.1)),some (.sh (.int x.2.1)),some (.sh (.int x.2.2))],?_,_,_,_,rfl⟩
   rw[e1]
   by_cases c:x.1<h
   ·simp only[zgd,ze9,sIf,fTst,fBin,fVar,dLt,sSet,zav,dSub,zah,zac,fNil,bMin,List.getElem?_cons_zero,List.getElem?_cons_succ,Option.bind_some,Option.map_some,List.set_cons_zero,List.set_cons_succ,c,decide_true,if_true,hm]
   ·simp only[zgd,ze9,sIf,fTst,fBin,fVar,dLt,sSet,sNil,List.getElem?_cons_zero,List.getElem?_cons_succ,Option.bind_some,Option.map_some,List.set_cons_zero,List.set_cons_succ,c,decide_false,if_false,Bool.false_eq_true,Int.add_zero])
 have hf:forU [3,4,5] ze9 (sp.map sD) [some (.sh (spL sp)),some (.sh (.int h)),some (.sh (.int 0)),none,none,none]=_:=hf
 have hg:=zkp sp
 have c1:decide (h<0)=false:=decide_eq_false (by omega)
 have c2:decide (hrOf sp<h)=false:=decide_eq_false (by omega)
 have key:zi8 (zbb 6 [] [spL sp,.int h])=some (.rt (.int (zh6 h sp)),[some (.sh (spL sp)),some (.sh (.int h)),some (.sh (.int (zh6 h sp))),v3,v4,v5]):=by
  rw[show zbb 6 [] [spL sp,.int h]=[some (.sh (spL sp)),some (.sh (.int h)),none,none,none,none] from rfl]
  unfold spL at *
  generalize sp.map sD=L at *
  simp only[zi8,sSeq,sIf,fOr,fTst,fBin,fVar,fC,dLt,dGt,zah,zac,fNil,hg,List.getElem?_cons_zero,List.getElem?_cons_succ,Option.bind_some,Option.map_some,List.set_cons_zero,List.set_cons_succ,c1,c2,Bool.false_eq_true,if_false,sNil,sSet,zf9,fiS,hf,sRet]
 exact⟨by unfold zja xQ;rw[if_pos ⟨rfl,rfl⟩,key],by unfold zi9 runQ;rw[if_pos ⟨rfl,rfl⟩,key]⟩
theorem z1q(h0:0<=h)(h1:h<=hrOf s.2)(hb:∀x∈s.2,0<=x.2.2/\x.2.2<=100000):zfm [hA k (p++[s])] [.int h]=none/\zfl [hA k (p++[s])] [.int h]=some (.int (zh6 h s.2)):=by
 have l:=ztr h0 h1 hb
 have key:zfk (zbb 2 [hA k (p++[s])] [.int h])=some (.rt (.int (zh6 h s.2)),[some (.ro kH (hP k (p++[s]))),some (.sh (.int h))]):=by
  rw[show zbb 2 [hA k (p++[s])] [.int h]=[some (.ro kH (hP k (p++[s]))),some (.sh (.int h))] from rfl]
  simp only[zfk,sXp,zha,zi4,zac,fNil,fK0r,cQ0,zmw,Option.bind_some,zjb,Option.map_some,fVar,List.getElem?_cons_zero,List.getElem?_cons_succ,l,Option.map_none,sRet]
 exact⟨by unfold zfm xQ;rw[if_pos ⟨rfl,rfl⟩,key],by unfold zfl runQ;rw[if_pos ⟨rfl,rfl⟩,key]⟩
theorem z1r(ss:List (List Sk))(hl:ss.length<=1000)(hr:∀s∈ss,s.length<=1000):zh1 [ssL ss]=some (.int (lss ss.flatten)):=by
 have c:=zcc (te:=zah bSum (zac (fLst (zbq (fiS (fVar 0)) [] fYes (fIxV 0 (fC (.int 2))))) (fNil))) (base:=[]) (fun s:List Sk=>D.lst (s.map sD)) (fun s:List Sk=>D.int (s.map fun x:Sk=>x.2.2).sum) ss fun s hs=>by
  have c2:=zcc (te:=fIxV 0 (fC (.int 2))) (base:=[]) sD (fun x:Sk=>D.int x.2.2) s fun x _=>⟨_,by simp[sD,zoa];rfl⟩
  have hb:=znl (fun x:Sk=>x.2.2) s
  have hf:Few (s.map sD).length:=few (by rw[List.length_map];have:=hr s hs;omega)
  generalize s.map sD=L at *
  exact⟨_,by simp only[zah,zac,fLst,zbq,fiS,fVar,fNil,List.getElem?_cons_zero,List.cons_append,List.nil_append,Option.bind_some,Option.map_some,hf,if_true,List.map_nil,c2,hb];rfl⟩
 have hb:=znl (fun s:List Sk=>(s.map fun x:Sk=>x.2.2).sum) ss
 have hf:Few (ss.map fun s=>D.lst (s.map sD)).length:=few (by rw[List.length_map];omega)
 have e1:(ss.map fun s:List Sk=>(s.map fun x:Sk=>x.2.2).sum).sum=lss ss.flatten:=by
  clear c hb hf hl hr
  induction ss with
  | nil=>rfl
  | cons a l ih=>rw[List.map_cons,List.sum_cons,ih,List.flatten_cons,zfd];rfl
 rw[e1] at hb
 refine za4 (e':=[some (.sh (ssL ss))]) rfl ?_
 show zj1 [some (.sh (ssL ss))]=_
 unfold ssL
 generalize (ss.map fun s=>D.lst (s.map sD))=L at *
 simp only[zj1,sRet,zah,zac,fLst,zbq,fiS,fVar,fNil,List.getElem?_cons_zero,Option.bind_some,Option.map_some,hf,if_true,List.map_nil] at c ⊢
 simp only[c,hb,Option.bind_some,Option.map_some]
theorem zwc(a b:List Spn):rts (a++b)=rts a++rts b:=by simp[rts]
theorem zym(sp:List Spn){b:Int}(hc:zo1 b sp)(hl:zqb b sp-b<=100000):zi2 [spL sp]=some (.lst ((rts sp).map D.int)):=by
 have hlen:=zrc sp b hc
 obtain⟨e',hf,v2,v3,v4,rfl⟩:=zgm (ix:=[2,3,4]) (g:=ze1) (fun x:Spn=>[D.int x.1,.int x.2.1,.int x.2.2]) (fun p e=>∃v2 v3 v4,e=[some (.sh (spL sp)),some (.sh (.lst ((rts p).map D.int))),v2,v3,v4]) sp
  [some (.sh (spL sp)),some (.sh (.lst [])),none,none,none] ⟨none,none,none,rfl⟩ (fun _ _=>rfl) (by
   rintro p x q e hpq ⟨v2,v3,v4,rfl⟩
   have hl2:(rts p).length+(x.2.1-x.1).toNat<=100000:=by
    have:(rts sp).length=(rts p).length+((x.2.1-x.1).toNat+(rts q).length):=by rw[hpq,zwc,List.length_append];congr 1;show(List.replicate _ _++rts q).length=_;simp
    omega
   have hbd:Bnd (-(2 ^ 62)) (2 ^ 62) (x.2.1-x.1):=by
    have:-100000<=x.2.1-x.1:=by
     have hq:∀(l:List Spn) (b:Int),zo1 b l->x∈l->x.1<=x.2.1:=by
      intro l
      induction l with
      | nil=>intro b _ h;cases h
      | cons y r ih=>intro b hc h;rcases List.mem_cons.mp h with rfl | h;exact hc.2.1;exact ih _ hc.2.2 h
     have:=hq sp b hc (by rw[hpq];simp)
     omega
    exact⟨by omega,by omega⟩
   have f1:Few ((0+1)*(x.2.1-x.1).toNat):=by show _<=_;omega
   have f2:Few (((rts p).map D.int).length+(List.replicate (x.2.1-x.1).toNat (D.int x.2.2)).length):=by show _<=_;rw[List.length_map,List.length_replicate];omega
   have e1:(rts (p++[x])).map D.int=(rts p).map D.int++List.replicate (x.2.1-x.1).toNat (D.int x.2.2):=by rw[zwc,List.map_append,show rts [x]=List.replicate (x.2.1-x.1).toNat x.2.2 by simp[rts],List.map_replicate]
   refine⟨[some (.sh (spL sp)),some (.sh (.lst ((rts (p++[x])).map D.int))),some (.sh (.int x.1)),some (.sh (.int x.2.1)),some (.sh (.int x.2.2))],?_,_,_,_,rfl⟩
   rw[e1]
   generalize (rts p).map D.int=M at *
   simp only[zgd,ze1,sSet,fLst,fCat,fRep,zat,zac,fNil,fVar,fBin,dSub,List.getElem?_cons_zero,List.getElem?_cons_succ,Option.bind_some,Option.map_some,List.set_cons_zero,List.set_cons_succ,List.length_cons,List.length_nil,show 0+1<=64 by decide,if_true,f1,hbd,and_self,zq0,f2])
 have hf:forU [2,3,4] ze1 (sp.map sD) [some (.sh (spL sp)),some (.sh (.lst [])),none,none,none]=_:=hf
 refine za4 (e':=[some (.sh (spL sp)),some (.sh (.lst ((rts sp).map D.int))),v2,v3,v4]) rfl ?_
 show zi1 [some (.sh (spL sp)),none,none,none,none]=_
 unfold spL at *
 generalize sp.map sD=L at *
 simp only[zi1,sSeq,sSet,fLst,zat,fNil,zf9,fiS,fVar,List.getElem?_cons_zero,List.getElem?_cons_succ,Option.bind_some,Option.map_some,List.set_cons_zero,List.set_cons_succ,List.length_nil,Nat.zero_le,if_true,hf,sRet]
theorem xK0r{f:XF}:xK κ 0 f (some (.ro κ ps)::e)=f (some (.ro κ ps)::e):=z57 rfl
theorem xcQ0{m:List Ag->List D->Option Str}:zda m [0] F (some sl::e)=(F (some sl::e)).bind fun r=>(getR r.2 [0]).bind fun ags=>(m ags r.1).map fun d=>(d,r.2):=if_pos fun k hk=>by rw[List.mem_singleton.mp hk];exact⟨_,rfl⟩
theorem zqe(hc:zo1 0 s.2)(hb:∀x∈s.2,0<=x.2.2/\x.2.2<=100000)(hh:hrOf s.2<=100000)(hl:s.2.length<=1000):zc6 [hA k (p++[s])] [spL s.2]=some (.bl true):=by
 have h0:0<=hrOf s.2:=by rw[zwb];exact zsp _ _ hc
 have hlen:=zrc s.2 0 hc
 rw[← zwb] at hlen
 have hrt:=zym s.2 hc (by rw[← zwb];omega)
 have hho:=zv8 (k:=k) (p:=p) (s:=s)
 have hst:=zqa (k:=k) (p:=p) (s:=s)
 have hsr:zay [spL s.2,spL s.2]=some (.bl true):=ziu (fun x:Spn=>[x.1,x.2.1,x.2.2]) s.2 hl fun x _=>by simp
 have hLen:(((rts s.2).map D.int).length:Int)=hrOf s.2:=by rw[List.length_map];omega
 have hsum:∀h:Int,0<=h->h<=hrOf s.2->bSum [.lst (cutD ((rts s.2).map D.int) none (some h))]=some (.int (zh6 h s.2)):=fun h h1 h2=>by
  have c:=zot ((rts s.2).map D.int) h.toNat (by rw[List.length_map];omega)
  rw[show((h.toNat:Nat):Int)=h by omega] at c
  rw[c,← List.map_take,zsq s.2 0 h hc h1,Int.sub_zero]
  have:=znl (fun x:Int=>x) ((rts s.2).take h.toNat)
  rw[List.map_id'] at this
  exact this
 obtain⟨e',hf,v4,v5,rfl⟩:=zc1 (i:=4) (g:=zcl) D.int (fun q e=>∃v4 v5,e=[some (.ro kH (hP k (p++[s]))),some (.sh (spL s.2)),some (.sh (.lst ((rts s.2).map D.int))),some (.sh (.int (hrOf s.2))),v4,v5]) [0,hrOf s.2 / 3,(if hrOf s.2-1 > 0 then hrOf s.2-1 else 0),hrOf s.2]
  [some (.ro kH (hP k (p++[s]))),some (.sh (spL s.2)),some (.sh (.lst ((rts s.2).map D.int))),some (.sh (.int (hrOf s.2))),none,none] ⟨none,none,rfl⟩ (by
   rintro q h r e hpq ⟨v4,v5,rfl⟩
   have hm:h∈[0,hrOf s.2 / 3,(if hrOf s.2-1 > 0 then hrOf s.2-1 else 0),hrOf s.2]:=by rw[hpq];simp
   have hr:0<=h/\h<=hrOf s.2:=by
    simp only[List.mem_cons,List.not_mem_nil,or_false] at hm
    rcases hm with rfl | rfl | rfl | rfl
    ·omega
    ·omega
    ·split <;> omega
    ·omega
   have l:=z1q (k:=k) (p:=p) (s:=s) hr.1 hr.2 hb
   have sm:=hsum h hr.1 hr.2
   refine⟨[some (.ro kH (hP k (p++[s]))),some (.sh (spL s.2)),some (.sh (.lst ((rts s.2).map D.int))),some (.sh (.int (hrOf s.2))),some (.sh (.int h)),some (.sh (.int (zh6 h s.2)))],?_,_,_,rfl⟩
   generalize (rts s.2).map D.int=L at *
   have wh:=zgl (zh6 h s.2)
   simp only[zcl,sSeq,sXp,xK0r,xcQ0,fK0r,cQ0,zmw,zac,fNil,fVar,List.getElem?_cons_zero,List.getElem?_cons_succ,Option.bind_some,Option.map_some,Option.map_none,List.set_cons_zero,List.set_cons_succ,l,sSet,sIf,fOr,fNot,fTst,zah,wh,Bool.not_true,Bool.false_eq_true,if_false,fBin,fLst,fSl,fO0,fO1,sm,dNe,decide_true,sNil])
 have hf:forL 4 zcl [.int 0,.int (hrOf s.2 / 3),.int (if hrOf s.2-1 > 0 then hrOf s.2-1 else 0),.int (hrOf s.2)] [some (.ro kH (hP k (p++[s]))),some (.sh (spL s.2)),some (.sh (.lst ((rts s.2).map D.int))),some (.sh (.int (hrOf s.2))),none,none]=_:=hf
 have d3:dDiv (.int (hrOf s.2)) (.int 3)=some (.int (hrOf s.2 / 3)):=by unfold dDiv;exact if_pos b3
 have wh:=zgl (hrOf s.2)
 have key:zc5 (zbb 6 [hA k (p++[s])] [spL s.2])=some (.rt (.bl true),[some (.ro kH (hP k (p++[s]))),some (.sh (spL s.2)),some (.sh (.lst ((rts s.2).map D.int))),some (.sh (.int (hrOf s.2))),v4,v5]):=by
  rw[show zbb 6 [hA k (p++[s])] [spL s.2]=[some (.ro kH (hP k (p++[s]))),some (.sh (spL s.2)),none,none,none,none] from rfl]
  generalize (rts s.2).map D.int=L at *
  have hne:(!decide (hrOf s.2=(L.length:Int)))=false:=by rw[hLen];simp
  simp only[zc5,sSeq,sSet,zah,zac,fNil,fVar,List.getElem?_cons_zero,List.getElem?_cons_succ,Option.bind_some,Option.map_some,List.set_cons_zero,List.set_cons_succ,hrt,fK0r,cQ0,zmw,hho,sIf,fOr,fNot,fTst,wh,Bool.not_true,Bool.false_eq_true,if_false,fBin,za9,dNe,hne,sNil,sFor,fiS,fLst,zat,fC,d3,bMax,dSub,List.length_cons,List.length_nil,show 0+1+1+1+1<=64 by decide,if_true,hf,sRet,hst,hsr]
 unfold zc6 runQ
 rw[if_pos ⟨rfl,rfl⟩,key]
def drP(ss:List (List Sk))(p:List Nat):List (List D):=(List.range ss.length).map fun j=>((ss.getD j []).drop (p.count (j+1))).map sD
theorem z1s(ss:List (List Sk)):ss.map (fun s=>s.map sD)=drP ss []:=by
 unfold drP
 apply List.ext_getElem?
 intro i
 by_cases h:i<ss.length
 ·simp[h]
 ·simp[h]
theorem zyn(ss:List (List Sk))(hl:ss.length<=1000):zgj [ssL ss]=some (drP ss []):=by
 rw[← z1s]
 have c:=zky (te:=zao zkv (zac (fVar 0) (fNil))) (base:=[]) (fun s:List Sk=>D.lst (s.map sD)) (fun s:List Sk=>s.map sD) ss fun s _=>⟨_,by simp;rfl⟩
 have hf:Few (ss.map fun s=>D.lst (s.map sD)).length:=few (by rw[List.length_map];omega)
 unfold zgj zta
 rw[if_pos (show[ssL ss].length=1 from rfl)]
 have:zgi (za8 1 [ssL ss])=some (.r2 (ss.map fun s=>s.map sD),[some (.sh (ssL ss))]):=by
  show zgi [some (.sh (.lst (ss.map fun s:List Sk=>D.lst (s.map sD))))]=_
  unfold ssL
  generalize (ss.map fun s=>D.lst (s.map sD))=L at *
  simp only[zgi,zrt,zkc,fiS,fVar,List.getElem?_cons_zero,Option.bind_some,hf,if_true,List.map_nil,c,Option.map_some]
 rw[this]
theorem zwd{p:List Nat}(hw:Whole ss (p++a::q)) :
  ∃r:List D,(drP ss p)[a-1]?=some (sD (zec ss a (p.count a))::r)/\(drP ss p).set (a-1) r=drP ss (p++[a])/\ixN (drP ss p).length ((a:Int)-1)=some (a-1):=by
 obtain⟨s,hs,hc,hx,l1,l2⟩:=hw.at
 have hd:s.drop (p.count a)=zec ss a (p.count a)::s.drop (p.count a+1):=by
  rw[List.drop_eq_getElem_cons hc]
  rw[List.getElem?_eq_getElem hc] at hx
  rw[Option.some.inj hx]
 have hsd:ss.getD (a-1) []=s:=by rw[List.getD_eq_getElem?_getD,hs];rfl
 refine⟨(s.drop (p.count a+1)).map sD,?_,?_,?_⟩
 ·unfold drP
  rw[List.getElem?_map,List.getElem?_range (by omega),Option.map_some,hsd,show a-1+1=a by omega,hd,List.map_cons]
 ·apply List.ext_getElem?
  intro i
  unfold drP
  rw[List.getElem?_set]
  by_cases hi:i<ss.length
  ·by_cases e:a-1=i
   ·subst e
    simp only[List.length_map,List.length_range,hi,if_true]
    rw[List.getElem?_map,List.getElem?_range hi,Option.map_some,hsd,zft,if_pos (by omega),show a-1+1=a by omega]
   ·rw[if_neg e,List.getElem?_map,List.getElem?_map,List.getElem?_range hi,Option.map_some,Option.map_some,zft,if_neg (by omega)];rfl
  ·by_cases e:a-1=i
   ·subst e;omega
   ·rw[if_neg e,List.getElem?_eq_none (by simp;omega),List.getElem?_eq_none (by simp;omega)]
 ·rw[zeh (by omega) (by simp[drP];omega)]
  congr 1
  omega
theorem zwe:∀(p:List (Nat×Sk)) (h:Int),∀r∈zd4 h p,r.length<=1000:=fun p=>by
 induction p with
 | nil=>intro h r hr;simp[zd4] at hr
 | cons x p ih =>
   intro h r hr
   rw[zd4] at hr
   rcases List.mem_cons.mp hr with rfl | hr
   ·simp
   ·exact ih _ r hr
theorem zrd(hw:Whole ss os)(hn:ss.length<=900)(hl:ss.flatten.length<=14):zj3 [ssL ss,.lst (iD os)]=some (.lst ((zd4 0 (os.zip (tk ss os))).map iT)):=by
 have hcp2:=zyn ss (by omega)
 have hol:os.length<=14:=by rw[hw.len];exact hl
 have hsl:∀s∈ss,s.length<=14:=fun s h=>Nat.le_trans (List.sublist_flatten_of_mem h).length_le hl
 have zsn:∀(p:List Nat) (a:Nat),(p++[a]).zip (tk ss (p++[a]))=p.zip (tk ss p)++[(a,zec ss a (p.count a))]:=fun p a=>by
  rw[zmt,List.zip_append (by rw[znn])]
  rfl
 have zsd:∀p:List Nat,(p.zip (tk ss p)).map (·.2)=tk ss p:=fun p=>by
  rw[List.map_snd_zip]
  rw[znn];exact Nat.le_refl _
 obtain⟨e',h1,v5,v6,rfl⟩:=zc1 (i:=5) (g:=zfp) (fun a:Nat=>D.int (a:Int)) (fun p e=>∃v5 v6,e=[some (.sh (ssL ss)),some (.sh (.lst (iD os))),some (.ow ((zd4 0 (p.zip (tk ss p))).map iT)),some (.sh (.int (hrs (tk ss p)))),some (.o2 (drP ss p)),v5,v6]) os
  [some (.sh (ssL ss)),some (.sh (.lst (iD os))),some (.ow []),some (.sh (.int 0)),some (.o2 (drP ss [])),none,none] ⟨none,none,rfl⟩ (by
   rintro p a q e hpq ⟨v5,v6,rfl⟩
   have hwp:Whole ss (p++a::q):=by rw[← hpq];exact hw
   obtain⟨r,hg,hset,hix⟩:=zwd hwp
   have hpl':p.length<=14:=by rw[hpq] at hol;simp at hol;omega
   have hf:Few (((zd4 0 (p.zip (tk ss p))).map iT).length+1):=few (by rw[List.length_map,zkl,List.length_zip,znn];omega)
   have hrl:(sD (zec ss a (p.count a))::r).length<=100:=by
    have:∀ds∈drP ss p,ds.length<=14:=fun ds hds=>by
     obtain⟨j,hj,rfl⟩:=List.mem_map.mp hds
     have hj:j<ss.length:=List.mem_range.mp hj
     rw[List.length_map,List.length_drop]
     have:=hsl ss[j] (List.getElem_mem hj)
     simp[hj]
     omega
    have:=this _ (List.mem_of_getElem? hg)
    omega
   have hf2:Few (sD (zec ss a (p.count a))::r).length:=few (by omega)
   have hi0:ixN (sD (zec ss a (p.count a))::r).length 0=some 0:=by rw[zeh (by omega) (by simp)];rfl
   have e2:hrs (tk ss (p++[a]))=hrs (tk ss p)+(zec ss a (p.count a)).2.1:=by rw[zmt,zdp];simp[hrs]
   have e1:(zd4 0 ((p++[a]).zip (tk ss (p++[a])))).map iT=(zd4 0 (p.zip (tk ss p))).map iT++[.tup [.int (zec ss a (p.count a)).1,.int (a:Int),.int (hrs (tk ss p)),.int (hrs (tk ss p)+(zec ss a (p.count a)).2.1)]]:=by
    rw[zsn,zk8,List.map_append,zsd]
    simp[iT]
   generalize zec ss a (p.count a)=x at *
   refine⟨[some (.sh (ssL ss)),some (.sh (.lst (iD os))),some (.ow ((zd4 0 ((p++[a]).zip (tk ss (p++[a])))).map iT)),some (.sh (.int (hrs (tk ss (p++[a]))))),some (.o2 (drP ss (p++[a]))),some (.sh (.int (a:Int))),some (.sh (sD x))],?_,_,_,rfl⟩
   rw[e1,e2,← hset]
   generalize (zd4 0 (p.zip (tk ss p))).map iT=M at *
   generalize drP ss p=DS at *
   have her:(sD x::r).eraseIdx 0=r:=rfl
   have hg0:(sD x::r)[0]?=some (sD x):=rfl
   generalize sD x::r=Y at *
   simp only[zfp,sSeq,sSet,za7,zjo,pop2,zbi,zj9,fTup,zac,fNil,fBin,fIxV,ixSl,fVar,fC,dSub,zav,List.getElem?_cons_zero,List.getElem?_cons_succ,Option.bind_some,Option.map_some,List.set_cons_zero,List.set_cons_succ,hix,hg,hf2,if_true,hi0,her,hg0,sD,z0y,zn9,List.length_cons,List.length_nil,show(0+1+1+1+1<=64)=True by simp,hf])
 refine za4 (e':=[some (.sh (ssL ss)),some (.sh (.lst (iD os))),some (.sh (.lst ((zd4 0 (os.zip (tk ss os))).map iT))),some (.sh (.int (hrs (tk ss os)))),some (.o2 (drP ss os)),v5,v6]) rfl ?_
 show zj2 [some (.sh (ssL ss)),some (.sh (.lst (iD os))),none,none,none,none,none]=_
 have h1':forL 5 zfp (iD os) [some (.sh (ssL ss)),some (.sh (.lst (iD os))),some (.ow []),some (.sh (.int 0)),some (.o2 (drP ss [])),none,none]=_:=h1
 generalize iD os=O at *
 simp only[zj2,sSeq,sSet,sOwn,zqn,sFor,sRet,zmd,zac,fNil,fVar,fC,zat,fiS,List.getElem?_cons_zero,List.getElem?_cons_succ,Option.bind_some,Option.map_some,List.set_cons_zero,List.set_cons_succ,hcp2,List.length_nil,Nat.zero_le,if_true,h1']
theorem z1t(h:zgk [ssL s.1]=some d):zfo [hA k (p++[s])] []=some d:=by
 unfold zfo runQ
 rw[if_pos ⟨rfl,rfl⟩,show zbb 1 [hA k (p++[s])] []=[some (.ro kH (hP k (p++[s])))] from rfl]
 simp only[zh3,sRet,zah,zac,fNil,fK0r,cQ0,zmw,zgq,Option.bind_some,h,Option.map_some]
theorem z4w(h:zhs [ssL s.1]=some d):zgp [hA k (p++[s])] []=some d:=by
 unfold zgp runQ
 rw[if_pos ⟨rfl,rfl⟩,show zbb 1 [hA k (p++[s])] []=[some (.ro kH (hP k (p++[s])))] from rfl]
 simp only[zi3,sRet,zah,zac,fNil,fK0r,cQ0,zmw,zgq,Option.bind_some,h,Option.map_some]
theorem z1u(ht:zbu [ssL s.1]=some (iD os))(h:zgh [ssL s.1,.lst (iD os)]=some d):zfn [hA k (p++[s])] []=some d:=by
 unfold zfn runQ
 rw[if_pos ⟨rfl,rfl⟩,show zbb 1 [hA k (p++[s])] []=[some (.ro kH (hP k (p++[s])))] from rfl]
 simp only[zh2,sRet,zah,zac,fNil,fK0r,cQ0,zmw,zgq,zso ht,Option.bind_some,h,Option.map_some]
theorem zqf{X:D}(hg:∀x∈s.1.flatten,zbg x)(hl:s.1.flatten.length<=14)(hn:s.1.length<=5)(hk:k.length<=1000)(hc:zo1 0 s.2)(hb:∀x∈s.2,0<=x.2.2/\x.2.2<=100000)(hh:hrOf s.2<=100000)(hl2:s.2.length<=1000) :
  zbw [hA k (p++[s])] [.lst [ssL s.1,.lst (k.map dD),X,spL s.2]]=some (.bl true):=by
 have hsl:∀x∈s.1,x.length<=1000:=fun x h=>by have:=zlb h;omega
 obtain⟨ts,ok,hbt⟩:=zgz s.1 hg hl
 have hto:=zfg ok hbt hl
 have htl:=zms ok hg hl (by omega)
 have hw:=ok.whole
 have hwl:(zbl ts).length<=14:=by rw[hw.len];exact hl
 have q1:=znp (k:=k) (p:=p) (s:=s) (by omega)
 have q2:zbc [ssL s.1,ssL s.1]=some (.bl true):=zji s.1 (by omega) hsl
 have q3:=zyh (k:=k) (p:=p++[s])
 have q4:=ztq k hk
 have q5:=zso (k:=k) (p:=p) hto
 have q6:=zq1 (zbl ts) (by omega)
 have q7:=z1t (k:=k) (p:=p) (zoq ok hbt hg (by omega) hl)
 have q8:=zgl (zg0 0 (tk s.1 (zbl ts)))
 have q9:=zp2 hw (by omega) (by omega)
 have qa:=zq4 (tk s.1 (zbl ts)) fun x hx=>hg x (hw.sk x hx)
 have qb:=z1u (k:=k) (p:=p) hto (zoo hw (by omega) (by omega))
 have qc:=zrd hw (by omega) hl
 have qd:zay [.lst ((zd4 0 ((zbl ts).zip (tk s.1 (zbl ts)))).map iT),.lst ((zd4 0 ((zbl ts).zip (tk s.1 (zbl ts)))).map iT)]=some (.bl true):=ziu (fun r:List Int=>r) (zd4 0 ((zbl ts).zip (tk s.1 (zbl ts)))) (by rw[zkl,List.length_zip,znn];omega) (zwe _ _)
 have qe:=zqe (k:=k) (p:=p) hc hb hh hl2
 have qf:=z4w (k:=k) (p:=p) (zp6 ok hbt hg (by omega) hl)
 have qg:=zq5 ok hg (by omega) hl
 have a0:atI [ssL s.1,.lst (k.map dD),X,spL s.2] 0=some (ssL s.1):=rfl
 have a1:atI [ssL s.1,.lst (k.map dD),X,spL s.2] 1=some (.lst (k.map dD)):=rfl
 have a3:atI [ssL s.1,.lst (k.map dD),X,spL s.2] 3=some (spL s.2):=rfl
 have key:∃e',ze2 (zbb 5 [hA k (p++[s])] [.lst [ssL s.1,.lst (k.map dD),X,spL s.2]])=some (.rt (.bl true),e'):=by
  rw[show zbb 5 [hA k (p++[s])] [.lst [ssL s.1,.lst (k.map dD),X,spL s.2]]=[some (.ro kH (hP k (p++[s]))),some (.sh (.lst [ssL s.1,.lst (k.map dD),X,spL s.2])),none,none,none] from rfl]
  generalize (zd4 0 ((zbl ts).zip (tk s.1 (zbl ts)))).map iT=PL at *
  generalize zg0 0 (tk s.1 (zbl ts))=C at *
  generalize (tk s.1 (zbl ts)).map sD=TT at *
  generalize iD (zbl ts)=T at *
  generalize D.lst ((ts.zipIdx).map (rowW ts))=R at *
  generalize ssL s.1=SS at *
  generalize spL s.2=SP at *
  generalize k.map dD=KL at *
  refine⟨[some (.ro kH (hP k (p++[s]))),some (.sh (.lst [SS,.lst KL,X,SP])),some (.sh SS),some (.sh (.lst T)),some (.sh (.int C))],?_⟩
  simp only[ze2,sSeq,sSet,fIxV,ixSl,fC,List.getElem?_cons_zero,List.getElem?_cons_succ,Option.bind_some,Option.map_some,List.set_cons_zero,List.set_cons_succ,a0,a1,a3,sIf,fOr,fNot,fTst,zah,zac,fNil,fVar,fK0r,cQ0,zmw,q1,q2,q3,q4,Bool.not_true,Bool.false_eq_true,if_false,if_true,sNil,fLst,zao,htl,q5,q6,q7,q8,q9,qa,fBin,dNe,decide_true,qb,qc,qd,sRet,zmz,qe,qf,qg]
 obtain⟨e',key⟩:=key
 unfold zbw runQ
 rw[if_pos ⟨rfl,rfl⟩,key]
variable{t:List Sk}
theorem z1v(h:ss[a-1]?=some t)(l1:1<=a)(hl:ss.length<=1000):(if t.length=0 then zc7 [] [ssL ss,.int (a:Int)]=some ("EmptyStack" : Str) else zc7 [] [ssL ss,.int (a:Int)]=none/\zfr [] [ssL ss,.int (a:Int)]=some .non):=by
 have h1:=zq7 h l1
 have l2:=(List.getElem?_eq_some_iff.mp h).1
 have e:zbb 2 [] [ssL ss,.int (a:Int)]=[some (.sh (ssL ss)),some (.sh (.int (a:Int)))]:=rfl
 have hlen:((t.map sD).length:Int)=t.length:=by rw[List.length_map]
 generalize t.length=n at *
 generalize t.map sD=T at *
 split <;> rename_i hh
 ·unfold zc7 xQ
  rw[if_pos ⟨rfl,rfl⟩,e]
  unfold ssL
  generalize (ss.map fun s=>D.lst (s.map sD))=L at *
  have c:decide ((T.length:Int)=0)=true:=decide_eq_true (by omega)
  simp only[zfq,sIf,fTst,fBin,zah,zac,fIxV,ixSl,fVar,fC,fNil,dSub,List.getElem?_cons_zero,List.getElem?_cons_succ,Option.bind_some,Option.map_some,h1,bLen,dEq,c,if_true,zeb,vInt,show((a:Int)).natAbs<1000000 by omega]
 ·unfold zc7 zfr xQ runQ
  rw[if_pos ⟨rfl,rfl⟩,if_pos ⟨rfl,rfl⟩,e]
  unfold ssL
  generalize (ss.map fun s=>D.lst (s.map sD))=L at *
  have c:decide ((T.length:Int)=0)=false:=decide_eq_false (by omega)
  simp only[zfq,sIf,fTst,fBin,zah,zac,fIxV,ixSl,fVar,fC,fNil,dSub,List.getElem?_cons_zero,List.getElem?_cons_succ,Option.bind_some,Option.map_some,h1,bLen,dEq,c,Bool.false_eq_true,if_false,sNil,and_self]
theorem zyo:(if m<1\/(t.length:Int)<m then zcr [] [.lst (t.map sD),.int m]=some ("UnknownPlace" : Str) else zcr [] [.lst (t.map sD),.int m]=none/\ze3 [] [.lst (t.map sD),.int m]=some .non):=by
 have e:zbb 2 [] [.lst (t.map sD),.int m]=[some (.sh (.lst (t.map sD))),some (.sh (.int m))]:=rfl
 have hlen:((t.map sD).length:Int)=t.length:=by rw[List.length_map]
 rw[← hlen]
 generalize t.map sD=T at *
 split <;> rename_i hh
 ·unfold zcr xQ
  rw[if_pos ⟨rfl,rfl⟩,e]
  by_cases h1:m<1
  ·simp[zdi,h1,zeb]
  ·simp[zdi,h1,show(T.length:Int)<m by omega,zeb]
 ·unfold zcr ze3 xQ runQ
  rw[if_pos ⟨rfl,rfl⟩,if_pos ⟨rfl,rfl⟩,e]
  simp[zdi,show ¬m<1 by omega,show ¬(T.length:Int)<m by omega]
theorem zqg(x:Sk)(l:Int):zj5 [sD x,.int l]=some (sD (x.1,x.2.1,l)):=by
 refine za4 (e':=[some (.sh (sD x)),some (.sh (.int l))]) rfl ?_
 show zj4 [some (.sh (sD x)),some (.sh (.int l))]=_
 simp only[zj4,sRet,fTup,zah,zac,fNil,fVar,List.getElem?_cons_zero,List.getElem?_cons_succ,Option.bind_some,Option.map_some,zp3,zkk,List.length_cons,List.length_nil,show 0+1+1+1<=64 by decide,if_true]
 rfl
theorem z1w{m:Nat}{l:Int}(ht:s.1[a-1]?=some t)(hx:t[m-1]?=some x)(l1:1<=a)(m1:1<=m)(h0:0<=l)(h1:l<=100)(hk:k.length<60)(hl:s.1.length<=5)(htl:t.length<=1000)(hp:p.length<=100) :
  zh4 [hA k (p++[s])] [.int (a:Int),.int (m:Int),.int l]=none/\zc8 [hA k (p++[s])] [.int (a:Int),.int (m:Int),.int l]=some (.int x.2.2,[hA (k++[.tell a m l]) (p++[s]++[(s.1.set (a-1) (t.set (m-1) (x.1,x.2.1,l)),s.2)])]):=by
 have l2:=(List.getElem?_eq_some_iff.mp ht).1
 have m2:=(List.getElem?_eq_some_iff.mp hx).1
 have k1:=zsm (ss:=s.1) (a:=a) (by omega) (by omega)
 have k2:=z1v ht l1 (by omega)
 rw[if_neg (by omega)] at k2
 have k3:=zyo (t:=t) (m:=m)
 rw[if_neg (by omega)] at k3
 have k4:=zv9 (h:=l) h0 h1
 have k5:=zo0 (k.map dD)
 rw[if_pos (by rw[List.length_map];exact hk)] at k5
 have k6:=zq7 ht l1
 have k7:atI (t.map sD) ((m:Int)-1)=some (sD x):=by
  rw[show(m:Int)-1=((m-1:Nat):Int) by omega]
  exact zbp sD hx
 have k8:=zhx (ss:=s.1) (a:=a) (t.set (m-1) (x.1,x.2.1,l)) l1 (by omega) (by omega)
 have ll:(t.map sD).length=t.length:=List.length_map ..
 have c1:=zot (t.map sD) (m-1) (by omega)
 rw[show((m-1:Nat):Int)=(m:Int)-1 by omega] at c1
 have c2:=zou (t.map sD) m (by omega)
 have e2:=zv6 (t.map sD) (m-1) (sD (x.1,x.2.1,l)) (by omega)
 rw[show m-1+1=m by omega] at e2
 have f1:Few (((t.map sD).take (m-1)).length+(0+1)):=few (by simp only[List.length_take];omega)
 have f2:Few (((t.map sD).take (m-1)++[sD (x.1,x.2.1,l)]).length+((t.map sD).drop m).length):=few (by simp only[List.length_append,List.length_take,List.length_drop,List.length_cons,List.length_nil];omega)
 have ms:(t.set (m-1) (x.1,x.2.1,l)).map sD=(t.map sD).set (m-1) (sD (x.1,x.2.1,l)):=List.map_set ..
 rw[ms,← e2] at k8
 have k9:zbr [(kH,hP k (p++[s]))] [.tup [.str "tell",.int (a:Int),.int (m:Int),.int l],ssL (s.1.set (a-1) (t.set (m-1) (x.1,x.2.1,l))),spL s.2]=some (.non,[hA (k++[.tell a m l]) (p++[s]++[(s.1.set (a-1) (t.set (m-1) (x.1,x.2.1,l)),s.2)])]):=zq9 (k:=k) (p:=p++[s]) (d:=.tell a m l) (ss:=s.1.set (a-1) (t.set (m-1) (x.1,x.2.1,l))) (sp:=s.2) (by omega) (by simp;omega)
 have ka:=zgq (k:=k) (p:=p) (s:=s)
 have kb:=zjb (k:=k) (p:=p) (s:=s)
 have kc:=zqg x l
 have kd:=zon x
 have e0:zge 8 [hA k (p++[s])] [.int (a:Int),.int (m:Int),.int l]=[some (.ag kH (some 0) (hP k (p++[s]))),some (.sh (.int (a:Int))),some (.sh (.int (m:Int))),some (.sh (.int l)),none,none,none,none]:=rfl
 have key:∃e',zfs (zge 8 [hA k (p++[s])] [.int (a:Int),.int (m:Int),.int l])=some (.rt (.int x.2.2),some (.ag kH (some 0) (hP (k++[.tell a m l]) (p++[s]++[(s.1.set (a-1) (t.set (m-1) (x.1,x.2.1,l)),s.2)])))::e'):=by
  rw[e0]
  generalize (s.1.set (a-1) (t.set (m-1) (x.1,x.2.1,l)),s.2)=PS at *
  generalize ssL (s.1.set (a-1) (t.set (m-1) (x.1,x.2.1,l)))=SS at *
  generalize spL s.2=SP at *
  unfold ssL at *
  generalize (s.1.map fun s=>D.lst (s.map sD))=SL at *
  generalize (t.map sD).take (m-1)=TA at *
  generalize (t.map sD).drop m=TB at *
  generalize t.map sD=T at *
  generalize sD (x.1,x.2.1,l)=Y at *
  generalize sD x=Z at *
  refine⟨[some (.sh (.int (a:Int))),some (.sh (.int (m:Int))),some (.sh (.int l)),some (.sh (.lst SL)),some (.sh (.lst T)),some (.sh Z),some (.sh (.lst (TA++[Y]++TB)))],?_⟩
  simp only[zfs,sSeq,sSet,sXp,za7,fK0,cQ0,fNil,Option.bind_some,z1k,ka,Option.map_some,List.set_cons_succ,List.set_cons_zero,zha,zi4,zac,fVar,List.getElem?_cons_succ,List.getElem?_cons_zero,k1,k2,k3,k4,Option.map_none,xFrz,fFrz,z1l,k5,noL,if_true,zah,fIxV,ixSl,fBin,fC,dSub,k6,k7,fLst,fCat,fSl,fO0,fO1,c1,c2,zat,kc,f1,f2,fTup,List.length_cons,List.length_nil,show 0+1<=64 by decide,show 0+1+1+1+1<=64 by decide,k8,kb,cL0,z1i,k9,List.map_cons,List.map_nil,z1j,sRet,kd]
 obtain⟨e',key⟩:=key
 exact⟨by unfold zh4 xL;rw[if_pos ⟨rfl,rfl⟩,key],by unfold zc8 runL;rw[if_pos ⟨rfl,rfl⟩,key];rfl⟩
abbrev dsO(ss:List (List Sk)):List (List D):=ss.map fun s=>s.map sD
theorem zll(h:e[j]?=some (some (.sh d))):(frz false e)[j]?=some (some (.sh d)):=by
 unfold frz
 rw[List.getElem?_map,h]
 rfl
theorem zkq(h:e[j]?=some (some (.o2 (dsO ss)))):(frz false e)[j]?=some (some (.sh (ssL ss))):=by
 unfold frz
 rw[List.getElem?_map,h]
 show some (some (Sl.sh (.lst ((dsO ss).map D.lst))))=_
 unfold dsO ssL
 rw[List.map_map]
 rfl
theorem z4x(r:List Sk):noLs (r.map sD)=true:=by
 induction r with
 | nil=>rfl
 | cons x r ih=>rw[List.map_cons];unfold noLs;rw[ih];rfl
theorem z4y(r:List Int):noLs (r.map D.int)=true:=by
 induction r with
 | nil=>rfl
 | cons x r ih=>rw[List.map_cons];unfold noLs;rw[ih];rfl
theorem z1x{q:Nat}{l:Int}(h4:e[i]?=some (some (.o2 (dsO ss))))(h8:e[j]?=some (some (.sh (.tup [.str "put",.int a,.int h,.int l]))))(h9:e[q]?=some (some (.sh (.int m))))(ha:ss[a-1]?=some tl)(l1:1<=a)(hl:tl.length<=1000) :
  zm0 false (fCat (fLst (zat (zac (fTup (zac (fVar q) (zac (fIxV j (fC (.int 2))) (zac (fIxV j (fC (.int 3))) (fNil))))) (fNil)))) (fIxV i (fBin dSub (fIxV j (fC (.int 1))) (fC (.int 1))))) e=some (((m,h,l)::tl).map sD,e):=by
 have k7:=zq7 ha l1
 have fw:Few (0+1+(tl.map sD).length):=few (by rw[List.length_map];omega)
 have nl:noLs (D.tup [.int m,.int h,.int l]::tl.map sD)=true:=z4x ((m,h,l)::tl)
 have g4:=zkq h4
 have g8:=zll h8
 have g9:=zll h9
 have a1:atI [D.str "put",.int a,.int h,.int l] 1=some (.int a):=rfl
 have a2:atI [D.str "put",.int a,.int h,.int l] 2=some (.int h):=rfl
 have a3:atI [D.str "put",.int a,.int h,.int l] 3=some (.int l):=rfl
 unfold zm0
 unfold ssL at g4
 rw[show((m,h,l)::tl).map sD=D.tup [.int m,.int h,.int l]::tl.map sD from rfl]
 generalize frz false e=E at *
 generalize tl.map sD=TL at *
 generalize (ss.map fun s=>D.lst (s.map sD))=SL at *
 simp only[fCat,fLst,zat,zac,fTup,fVar,fIxV,ixSl,fC,fNil,fBin,dSub,g4,g8,g9,a1,a2,a3,k7,Option.bind_some,Option.map_some,List.length_cons,List.length_nil,show 0+1+1+1<=64 by decide,show 0+1<=64 by decide,if_true,fw,List.cons_append,List.nil_append,nl]
theorem zyp(h:e[i]?=some (some (.ag kH l (hP k (p++[s])))))(hj:e[j]?=some (some (.o2 (dsO s.1))))(hl:s.1.length<=1000)(hr:∀x∈s.1,x.length<=1000) :
  fFrz false (zah zbc (zac (fK kH i (zar zcf [i] fNil)) (zac (fVar j) fNil))) e=some (.bl true,e):=by
 unfold fFrz
 simp only[zah,zac,fNil,z58 h,znp hl,Option.map_some,Option.bind_some,fVar,zkq hj]
 rw[show zbc [ssL s.1,ssL s.1]=some (.bl true) from zji s.1 hl hr]
 rfl
theorem z4z(h4:e[j]?=some (some (.o2 (dsO ss))))(hl:ss.length<=1000)(hr:∀s∈ss,s.length<=1000):fFrz false (zah zh1 (zac (fVar j) fNil)) e=some (.int (lss ss.flatten),e):=by
 unfold fFrz
 simp only[zah,zac,fNil,fVar,zkq h4,Option.map_some,Option.bind_some,z1r ss hl hr]
 rfl
theorem z6a{g:FE}(h4:e[i]?=some (some (.o2 (dsO ss))))(hg:g e=some (.int ((a:Int)-1),e))(hx:ss[a-1]?=some (x::tl))(l1:1<=a)(hl:tl.length<=900):zjo i g (fC (.int 0)) e=some (sD x,e.set i (some (.o2 (dsO (ss.set (a-1) tl))))):=by
 have l2:=(List.getElem?_eq_some_iff.mp hx).1
 have k8:ixN (dsO ss).length ((a:Int)-1)=some (a-1):=by
  rw[zeh (by omega) (by unfold dsO;rw[List.length_map];omega)];congr 1;omega
 have k9:(dsO ss)[a-1]?=some (sD x::tl.map sD):=by unfold dsO;rw[List.getElem?_map,hx];rfl
 have k10:(dsO ss).set (a-1) (tl.map sD)=dsO (ss.set (a-1) tl):=by unfold dsO;rw[List.map_set]
 have k11:Few ((tl.map sD).length+1):=few (by rw[List.length_map];omega)
 have k12:ixN ((tl.map sD).length+1) 0=some 0:=by rw[zeh (by omega) (by simp)];rfl
 rw[← k10]
 generalize dsO ss=SL at *
 generalize tl.map sD=TL at *
 simp only[zjo,h4,hg,Option.bind_some,Option.map_some,fC,pop2,k8,k9,List.length_cons,k11,if_true,k12,List.getElem?_cons_zero,List.eraseIdx_cons_zero]
theorem z1y(h:ss[a-1]?=some (x::tl)):putS (ss.set (a-1) tl) a x=ss:=by
 have hl:=(List.getElem?_eq_some_iff.mp h).1
 unfold putS
 apply List.ext_getElem?
 intro j
 rw[List.set_set,List.getD_eq_getElem?_getD,List.getElem?_set,List.getElem?_set]
 by_cases e:a-1=j
 ·subst e
  simp[hl,h]
  exact(List.getElem?_eq_some_iff.mp h).2.symm
 ·simp[e]
theorem z1z(ss:List Sk)(h:∀x∈ss,zbg x)(hl:ss.length<=14):0<=lss ss/\lss ss<=100000:=by
 have:=zmk ss h
 omega
def zd9(ss:List (List Sk)):List Nat:=(List.range ss.length).filter fun j=>decide (0<(ss.getD j []).length)
theorem zwf(h:j∈zd9 ss):∃x tl,ss[j]?=some (x::tl):=by
 obtain⟨h1,h2⟩:=List.mem_filter.mp h
 have h1:=List.mem_range.mp h1
 have h2:=of_decide_eq_true h2
 rw[List.getD_eq_getElem?_getD,List.getElem?_eq_getElem h1] at h2
 rw[List.getElem?_eq_getElem h1]
 simp only[Option.getD_some] at h2
 cases q:ss[j] with
 | nil=>rw[q] at h2;simp at h2
 | cons x tl=>exact⟨x,tl,rfl⟩
theorem zyq(h:0<ss.flatten.length):0<(zd9 ss).length:=by
 apply List.length_pos_iff.mpr
 intro z
 obtain⟨x,hx⟩:=List.exists_mem_of_length_pos h
 obtain⟨t,ht,hxt⟩:=List.mem_flatten.mp hx
 obtain⟨j,hj,rfl⟩:=List.getElem_of_mem ht
 have:j∈zd9 ss:=by
  refine List.mem_filter.mpr ⟨List.mem_range.mpr hj,decide_eq_true ?_⟩
  rw[List.getD_eq_getElem?_getD,List.getElem?_eq_getElem hj]
  exact List.length_pos_of_mem hxt
 rw[z] at this
 cases this
theorem z10(h2:e[n]?=some (some (.sh (.int (ss.length:Nat)))))(h4:e[i]?=some (some (.o2 (dsO ss))))(hl:ss.length<=1000) :
  zm0 false (zbq (zao iR1 (zac (fVar n) (fNil))) [i] (fTst (fBin dGt (zah bLen (zac (fIxV 1 (fVar 0)) (fNil))) (fC (.int 0)))) (fVar 0)) e=some ((zd9 ss).map (fun j:Nat=>D.int (0+(j:Int))),e):=by
 have hr:=ze4 ss.length (by omega)
 have hf:Few (rngD 0 ss.length).length:=few (by rw[zb0];omega)
 have c:=zn8 (tt:=fTst (fBin dGt (zah bLen (zac (fIxV 1 (fVar 0)) (fNil))) (fC (.int 0)))) (te:=fVar 0) (base:=[some (.sh (ssL ss))]) (fun j:Nat=>D.int (0+(j:Int))) (fun j:Nat=>D.int (0+(j:Int))) (fun j=>decide (0<(ss.getD j []).length)) (List.range ss.length) fun j hj=>by
  have hj:=List.mem_range.mp hj
  have ha:atI (ss.map fun s=>D.lst (s.map sD)) (0+(j:Int))=some (.lst ((ss.getD j []).map sD)):=by
   rw[Int.zero_add,zbp (fun s:List Sk=>D.lst (s.map sD)) (List.getElem?_eq_getElem hj),List.getD_eq_getElem?_getD,List.getElem?_eq_getElem hj]
   rfl
  have hd:decide ((0:Int)<(((ss.getD j []).map sD).length:Int))=decide (0<(ss.getD j []).length):=by rw[List.length_map];simp
  refine⟨[some (.sh (.int (0+(j:Int)))),some (.sh (ssL ss))],?_,fun _=>⟨_,rfl⟩⟩
  unfold ssL
  rw[← hd]
  generalize (ss.map fun s=>D.lst (s.map sD))=L at *
  generalize (ss.getD j []).map sD=M at *
  simp only[fTst,fBin,zah,zac,fIxV,ixSl,fVar,fNil,fC,List.getElem?_cons_zero,List.getElem?_cons_succ,Option.bind_some,Option.map_some,ha,bLen,dGt]
 have g2:=zll h2
 have g4:=zkq h4
 have gd:(frz false e).getD i none=some (.sh (ssL ss)):=by rw[List.getD_eq_getElem?_getD,g4];rfl
 have nl:noLs ((zd9 ss).map (fun j:Nat=>D.int (0+(j:Int))))=true:=by
  rw[show(zd9 ss).map (fun j:Nat=>D.int (0+(j:Int)))=((zd9 ss).map fun j:Nat=>0+(j:Int)).map D.int by rw[List.map_map];rfl]
  exact z4y _
 unfold zm0
 have c:zg8 (fTst (fBin dGt (zah bLen (zac (fIxV 1 (fVar 0)) (fNil))) (fC (.int 0)))) (fVar 0) [some (.sh (ssL ss))] (rngD 0 ss.length)=some ((zd9 ss).map (fun j:Nat=>D.int (0+(j:Int)))):=c
 generalize frz false e=E at *
 generalize rngD 0 ss.length=R at *
 simp only[zbq,zao,zac,fNil,fVar,g2,Option.bind_some,Option.map_some,hr,hf,if_true,List.map_cons,List.map_nil,gd,capt,c,nl]
theorem zyr(ss:List (List Sk))(hg:∀x∈ss.flatten,zbg x)(hl:ss.flatten.length<=14)(hn:ss.length<=900)(ne:0<ss.flatten.length) :
  ∃a os x tl,zbu [ssL ss]=some (iD (a::os))/\zcz [ssL ss]=some (iD (a::os))/\Whole ss (a::os)/\ss[a-1]?=some (x::tl)/\1<=a/\a<=ss.length/\(a::os).length<=14:=by
 obtain⟨a,os,x,tl,h1,h2⟩:=z1o ss hg hl ne
 obtain⟨ts,ok,hbt⟩:=zgz ss hg hl
 have h3:=zfg ok hbt hl
 rw[h1] at h3
 exact⟨a,os,x,tl,h1,by rw[zms ok hg hl hn,← Option.some.inj h3],h2⟩
theorem zys{q:Nat}(h:e[i]?=some (some (.ag kH l (hP k (p++[s])))))(hj:e[j]?=some (some (.o2 (dsO s.1))))(hq:e[q]?=some (some (.ow (k.map dD))))(hs2:s.2=[])(hg:∀x∈s.1.flatten,zbg x)(hl:s.1.flatten.length<=14)(hn:s.1.length<=5)(hk:k.length<=1000) :
  fFrz false (zar zbw [i] (zac (fLst (zat (zac (fVar j) (zac (fVar q) (zac (fLst (zat (fNil))) (zac (fLst (zat (fNil))) (fNil))))))) (fNil))) e=some (.bl true,e):=by
 have st:=zqf (k:=k) (p:=p) (s:=s) (X:=.lst []) hg hl hn hk (by rw[hs2];trivial) (by rw[hs2];exact fun x hx=>nomatch hx) (by rw[hs2];decide) (by rw[hs2];decide)
 rw[show spL s.2=.lst [] by rw[hs2];rfl] at st
 have g4:=zkq hj
 have g5:=zzi hq
 unfold fFrz
 rw[zh5 (zmx h) (r:=([.lst [ssL s.1,.lst (k.map dD),.lst [],.lst []]],frz false e)) (by
  generalize frz false e=E at *
  generalize k.map dD=KL at *
  simp only[zac,fLst,zat,fVar,fNil,g4,g5,Option.bind_some,Option.map_some,List.length_cons,List.length_nil,Nat.zero_le,if_true,show 0+1+1+1+1<=64 by decide]) (zmx h),st]
 rfl
end LB
namespace S_rotstacks_k20_tell
open PySem L2 LB
def zo2:FS:=sSeq (sSet 7 (fIxV 1 (fBin zav (fC (.int 1)) (fVar 6)))) (sSeq (sSet 8 (fTup (zac (fC (.str "put")) (zac (fBin zav (fC (.int 1)) (fBin dMod (fBin dDiv (fVar 7) (fC (.int 6060))) (fVar 2))) (zac (fBin zav (fC (.int 1)) (fBin dMod (fVar 7) (fC (.int 60)))) (zac (fBin dMod (fBin dDiv (fVar 7) (fC (.int 60))) (fC (.int 101))) (fNil))))))) (sSeq (sSet 9 (fK (.ins false "House" zan) 3 (ze5 ze8 [3] (zac (fIxV 8 (fC (.int 1))) (zac (fIxV 8 (fC (.int 2))) (zac (fIxV 8 (fC (.int 3))) (fNil))))))) (sSeq (zx0 4 (fBin dSub (fIxV 8 (fC (.int 1))) (fC (.int 1))) (zm0 false (fCat (fLst (zat (zac (fTup (zac (fVar 9) (zac (fIxV 8 (fC (.int 2))) (zac (fIxV 8 (fC (.int 3))) (fNil))))) (fNil)))) (fIxV 4 (fBin dSub (fIxV 8 (fC (.int 1))) (fC (.int 1))))))) (za7 (zbi 5 (fVar 8))))))
def zo3:FS:=sSeq (sSet 7 (fIxV 1 (fBin zav (fC (.int 15)) (fVar 6)))) (sSeq (sSet 10 (fLst (zm0 false (zbq (zao iR1 (zac (fVar 2) (fNil))) [4] (fTst (fBin dGt (zah bLen (zac (fIxV 1 (fVar 0)) (fNil))) (fC (.int 0)))) (fVar 0))))) (sSeq (sSet 11 (fIxV 10 (fBin dMod (fBin dDiv (fVar 7) (fC (.int 101))) (za9 10)))) (sSeq (sSet 12 (fFrz false (fBin dMod (fBin dDiv (fVar 7) (fC (.int 505))) (zah bLen (zac (fIxV 4 (fVar 11)) (fNil)))))) (sSeq (sSet 13 (fFrz false (fBin dIx (fIxV 4 (fVar 11)) (fVar 12)))) (sSeq (sSet 14 (fK (.ins false "House" zan) 3 (ze5 zc8 [3] (zac (fBin zav (fVar 11) (fC (.int 1))) (zac (fBin zav (fVar 12) (fC (.int 1))) (zac (fBin dMod (fVar 7) (fC (.int 101))) (fNil))))))) (sSeq (sIf (fOr (fNot (fTst (zah zbs (zac (fVar 14) (fNil))))) (fTst (fBin dNe (fVar 14) (fIxV 13 (fC (.int 2)))))) (sRet (fC (.bl false))) (sNil)) (sSeq (zsb 4 (fVar 11) (fVar 12) (fTup (zac (fIxV 13 (fC (.int 0))) (zac (fIxV 13 (fC (.int 1))) (zac (fBin dMod (fVar 7) (fC (.int 101))) (fNil)))))) (sSeq (za7 (zbi 5 (fTup (zac (fC (.str "tell")) (zac (fBin zav (fVar 11) (fC (.int 1))) (zac (fBin zav (fVar 12) (fC (.int 1))) (zac (fBin dMod (fVar 7) (fC (.int 101))) (fNil)))))))) (sIf (fNot (fTst (fFrz false (zah zbc (zac (fK (.ins false "House" zan) 3 (zar zcf [3] (fNil))) (zac (fVar 4) (fNil))))))) (sRet (fC (.bl false))) (sNil))))))))))
def z11:FS:=sSeq (sSet 1 (zah ze6 (zac (fVar 0) (zac (fC (.int 24)) (fNil))))) (sSeq (sSet 2 (fBin zav (fC (.int 1)) (fBin dMod (fIxV 1 (fC (.int 0))) (fC (.int 5))))) (sSeq (zxv 3 (zvj "House" zce (zac (fVar 2) (fNil)))) (sSeq (zqn 4 (zkc (zao iR1 (zac (fVar 2) (fNil))) [] (zat (fNil)))) (sSeq (sOwn 5 (zat (fNil))) (sSeq (sFor 6 (zao iR1 (zac (fBin dSub (fC (.int 14)) (fBin dMod (fBin dDiv (fIxV 1 (fC (.int 0))) (fC (.int 5))) (fC (.int 14)))) (fNil))) (zo2)) (sSeq (sFor 6 (zao iR1 (zac (fBin zav (fC (.int 1)) (fBin dMod (fBin dDiv (fIxV 1 (fC (.int 0))) (fC (.int 70))) (fC (.int 8)))) (fNil))) (zo3)) (sSeq (sIf (fNot (fTst (fFrz false (zar zbw [3] (zac (fLst (zat (zac (fVar 4) (zac (fVar 5) (zac (fLst (zat (fNil))) (zac (fLst (zat (fNil))) (fNil))))))) (fNil)))))) (sRet (fC (.bl false))) (sNil)) (sSeq (sSet 15 (fFrz false (zah zh1 (zac (fVar 4) (fNil))))) (sSeq (sSet 13 (zjo 4 (fFrz false (fBin dSub (fBin dIx (fLst (zao zcz (zac (fVar 4) (fNil)))) (fC (.int 0))) (fC (.int 1)))) (fC (.int 0)))) (sSeq (sSet 16 (fLst (zat (zac (fTup (zac (fC (.int 0)) (zac (fIxV 13 (fC (.int 1))) (zac (fVar 15) (fNil))))) (fNil))))) (sRet (zmz (zah zbo (zac (fK (.ins false "House" zan) 3 (ze5 zfa [3] (fNil))) (zac (fVar 13) (fNil)))) (fFrz false (zar zbw [3] (zac (fLst (zat (zac (fVar 4) (zac (fLst (fCat (fVar 5) (fLst (zat (zac (fTup (zac (fC (.str "dry")) (fNil))) (fNil)))))) (zac (fLst (zat (fNil))) (zac (fVar 16) (fNil))))))) (fNil))))))))))))))))
def z40:List D->Option D:=runD 17 1 z11
end S_rotstacks_k20_tell
namespace S_rotstacks_k20_tell
open PySem L2 LB PyProof.Rows
def top(i:Nat):Stmt:=PySem.Challenge.pw_rotstacks_k20_tell.main.body.getD i (.Pass ⟨0,0,0,0⟩)
def mth(j:Nat):Stmt:=match top 68 with | .ClassDef _ _ _ b _ _ _ _ _ _ _=>b.getD j (.Pass ⟨0,0,0,0⟩) | _=>.Pass ⟨0,0,0,0⟩
local macro_rules | `(tactic| walk_at "g") => `(tactic| first | exact gl_d (by kernel_rfl) | exact gl_c (by kernel_rfl) | exact gl_p (by kernel_rfl))
local macro_rules | `(tactic| walk_at "b") => `(tactic| exact ⟨by walk_at "g", by assumption⟩)
theorem ok_all{P:Program}{w:World}{K:PySem.W.Frag}{mg:Str->Option Value}{C:Addr}(T2:Def K mg (top 2) "sack_number" ["sack"])(T3:Def K mg (top 3) "sack_hours" ["sack"])(T4:Def K mg (top 4) "sack_loss" ["sack"])(T5:Def K mg (top 5) "sacks_in_all" ["stacks"])(T6:Def K mg (top 6) "loss_in_all" ["stacks"])(T7:Def K mg (top 7) "top_sack" ["stacks", "at"])(T8:Def K mg (top 8) "with_stack" ["stacks", "at", "stack"])(T9:Def K mg (top 9) "without_top" ["stacks", "at"])(T11:Def K mg (top 11) "share_gap" ["one", "other"])(T12:Def K mg (top 12) "share_sign" ["one", "other"])(T13:Def K mg (top 13) "single_block" ["sack"])(T14:Def K mg (top 14) "joined_block" ["upper", "lower"])(T15:Def K mg (top 15) "block_share" ["block"])(T16:Def K mg (top 16) "has_greater_share" ["upper", "lower"])(T17:Def K mg (top 17) "stack_blocks" ["stack"])(T32:Def K mg (top 32) "turn_share" ["turn"])(T33:Def K mg (top 33) "place_of_turn" ["turns", "turn"])(T34:Def K mg (top 34) "block_turns" ["stacks"])(T35:Def K mg (top 35) "turn_sacks" ["stacks", "turns"])(T36:Def K mg (top 36) "told_order" ["stacks"])(T37:Def K mg (top 37) "check_known" ["stacks", "at"])(T38:Def K mg (top 38) "check_whole" ["stacks", "order"])(T39:Def K mg (top 39) "check_order" ["stacks", "order"])(T40:Def K mg (top 40) "taken_sacks" ["stacks", "order"])(T42:Def K mg (top 42) "order_plan" ["stacks", "order"])(T43:Def K mg (top 43) "order_cost" ["stacks", "order"])(T44:Def K mg (top 44) "least_cost" ["stacks"])(T46:Def K mg (top 46) "hours_gone" ["stretches"])(T47:Def K mg (top 47) "lost_by" ["stretches", "hour"])(T49:Def K mg (top 49) "block_debts" ["share", "sacks"])(T50:Def K mg (top 50) "turn_fall" ["turns", "place"])(T51:Def K mg (top 51) "why_least" ["stacks"])(T58:Def K mg (top 58) "check_count" ["many"])(T59:Def K mg (top 59) "check_hours" ["hours"])(T60:Def K mg (top 60) "check_loss" ["loss"])(T61:Def K mg (top 61) "check_room" ["stacks"])(T62:Def K mg (top 62) "check_lies" ["stacks", "at"])(T63:Def K mg (top 63) "check_place" ["stack", "place"])(T64:Def K mg (top 64) "check_waits" ["stacks"])(T65:Def K mg (top 65) "check_deeds" ["deeds"])(T66:Def K mg (top 66) "next_number" ["deeds"])(T67:Def K mg (top 67) "told_anew" ["sack", "loss"])(T68001:Mef K C (mth 0) "__init__" "House.__init__" ["self", "many"])(T68002:Mef K C (mth 1) "piles" "House.piles" ["self"])(T68003:Mef K C (mth 2) "spans" "House.spans" ["self"])(T68004:Mef K C (mth 3) "keep" "House.keep" ["self", "deed", "piles", "spans"])(T68005:Mef K C (mth 4) "put" "House.put" ["self", "at", "hours", "loss"])(T68006:Mef K C (mth 5) "tell" "House.tell" ["self", "at", "place", "loss"])(T68010:Mef K C (mth 9) "deeds" "House.deeds" ["self"])(T68011:Mef K C (mth 10) "stacks" "House.stacks" ["self"])(T68012:Mef K C (mth 11) "hour" "House.hour" ["self"])(T68008:Mef K C (mth 7) "dry" "House.dry" ["self"])(T68013:Mef K C (mth 12) "order" "House.order" ["self"])(T68014:Mef K C (mth 13) "plan" "House.plan" ["self"])(T68015:Mef K C (mth 14) "cost" "House.cost" ["self"])(T68016:Mef K C (mth 15) "why" "House.why" ["self"])(T68019:Mef K C (mth 18) "stretches" "House.stretches" ["self"])(T68020:Mef K C (mth 19) "lost" "House.lost" ["self", "hour"])(T70:Def K mg (top 70) "_law_whole" ["_law_found"])(T71:Def K mg (top 71) "_law_at" ["_law_script", "_law_k"])(T72:Def K mg (top 72) "_law_draws" ["_law_script", "_law_many"])(T73:Def K mg (top 73) "_law_best" ["_law_sacks"])(T74:Def K mg (top 74) "_law_turns" ["_law_stacks"])(T75:Def K mg (top 75) "_law_told" ["_law_stacks"])(T76:Def K mg (top 76) "_law_taken" ["_law_stacks", "_law_order"])(T77:Def K mg (top 77) "_law_cost" ["_law_sacks"])(T78:Def K mg (top 78) "_law_same_row" ["_law_found", "_law_due"])(T79:Def K mg (top 79) "_law_same_rows" ["_law_found", "_law_due"])(T80:Def K mg (top 80) "_law_same_stacks" ["_law_found", "_law_due"])(T81:Def K mg (top 81) "_law_same_numbers" ["_law_found", "_law_due"])(T82:Def K mg (top 82) "_law_copy" ["_law_stacks"])(T83:Def K mg (top 83) "_law_rate" ["_law_piles"])(T84:Def K mg (top 84) "_law_rates" ["_law_dried"])(T85:Def K mg (top 85) "_law_plan" ["_law_piles", "_law_turns_here"])(T86:Def K mg (top 86) "_law_debts" ["_law_sacks", "_law_hours", "_law_loss"])(T87:Def K mg (top 87) "_law_same_why" ["_law_found", "_law_piles"])(T88:Def K mg (top 88) "_law_same_lost" ["_law_house", "_law_dried"])(T89:Def K mg (top 89) "_law_stands" ["_law_house", "_law_state"])(hC:Cl K "House" C)(cs:Cls K C)(mC:mg "House" = some (.ref C))(kC:PySem.W.makesIn K C=true)(pC:PySem.W.keepIn K (.ref C)=true)(n_kept:PySem.W.findIn K (.ref C) "kept" = some none)(n_states:PySem.W.findIn K (.ref C) "states" = some none)(x_BadCount:Exc K mg "BadCount")(x_BadHours:Exc K mg "BadHours")(x_BadLoss:Exc K mg "BadLoss")(x_DeedsFull:Exc K mg "DeedsFull")(x_EmptyStack:Exc K mg "EmptyStack")(x_HouseFull:Exc K mg "HouseFull")(x_NotGone:Exc K mg "NotGone")(x_NothingWaits:Exc K mg "NothingWaits")(x_UnknownPlace:Exc K mg "UnknownPlace")(x_UnknownStack:Exc K mg "UnknownStack")(v_MOST_DEEDS:∃t,mg "MOST_DEEDS" = some (.int 60 t))(v_MOST_HOURS:∃t,mg "MOST_HOURS" = some (.int 60 t))(v_MOST_LOSS:∃t,mg "MOST_LOSS" = some (.int 100 t))(v_MOST_STACKS:∃t,mg "MOST_STACKS" = some (.int 5 t))(v_MOST_WAITING:∃t,mg "MOST_WAITING" = some (.int 14 t))(b_bool:mg "bool" = none)(b_enumerate:mg "enumerate" = none)(b_int:mg "int" = none)(b_isinstance:mg "isinstance" = none)(b_len:mg "len" = none)(b_list:mg "list" = none)(b_max:mg "max" = none)(b_min:mg "min" = none)(b_range:mg "range" = none)(b_str:mg "str" = none)(b_sum:mg "sum" = none)(b_tuple:mg "tuple" = none)(b_zip:mg "zip" = none):∀base f fd,Fun K "law" "law" (top 90) f fd->FnOk P w K mg base CX0 10 f fd ["_law_script"] (dSp K z40):=by
 intro base
 have a_kept:Atr K "House" "kept":=⟨C,cs,n_kept,hC⟩
 have a_states:Atr K "House" "states":=⟨C,cs,n_states,hC⟩
 have c2:Cal P w K mg base CX0 "sack_number" 1 (dSp K zdx):=zbx T2 ["sack"] (by decide +kernel) (by decide +kernel) fun _ _ _ _ _ _ _ _ _ r a t=>zag (zam (zak zaf a))
 have c3:Cal P w K mg base CX0 "sack_hours" 1 (dSp K zbf):=zbx T3 ["sack"] (by decide +kernel) (by decide +kernel) fun _ _ _ _ _ _ _ _ _ r a t=>zag (zam (zak zaf a))
 have c4:Cal P w K mg base CX0 "sack_loss" 1 (dSp K zb1):=zbx T4 ["sack"] (by decide +kernel) (by decide +kernel) fun _ _ _ _ _ _ _ _ _ r a t=>zag (zam (zak zaf a))
 have c5:Cal P w K mg base CX0 "sacks_in_all" 1 (dSp K zes):=zbx T5 ["stacks"] (by decide +kernel) (by decide +kernel) fun _ _ _ _ _ _ _ _ _ r a t=>zag (zam (znh (zaa (zbd (zjn a (zbz (zab a)) (fun _ _ _ _ _ _ _ a=>za2 a))) zae)))
 have c6:Cal P w K mg base CX0 "loss_in_all" 2 (dSp K zhu):=zbx T6 ["stacks", "total", "stack"] (by decide +kernel) (by decide +kernel) fun _ _ _ _ _ _ _ _ _ r a t=>zad (zal t zaf) (zad (zcw (zbz (zab a)) t.pg (zag (zjp t (znh (zaa (zbd (zjn a (zbz (zab a)) (fun _ _ _ _ _ _ _ a=>zai c4 r (zaa (zab a) zae)))) zae))))) (zag (zam (zab a))))
 have c7:Cal P w K mg base CX0 "top_sack" 1 (dSp K zk5):=zbx T7 ["stacks", "at"] (by decide +kernel) (by decide +kernel) fun _ _ _ _ _ _ _ _ _ r a t=>zag (zam (zgr (zak (zbm (zab a) zaf) a) zaf))
 have c8:Cal P w K mg base CX0 "with_stack" 1 (dSp K zdr):=zbx T8 ["stacks", "at", "stack"] (by decide +kernel) (by decide +kernel) fun _ _ _ _ _ _ _ _ _ r a t=>zag (zam (zbd (zjf (zbd (zjf (zbd (zlp (zab a) zfc (zds (zbm (zab a) zaf)))) (zbd (zba (zaa (zab a) zae))))) (zbd (zlp (zab a) (zds (zab a)) zfc)))))
 have c9:Cal P w K mg base CX0 "without_top" 2 (dSp K zhw):=zbx T9 ["stacks", "at"] (by decide +kernel) (by decide +kernel) fun _ _ _ _ _ _ _ _ _ r a t=>zag (zam (zai c8 r (zaa (zab a) (zaa (zab a) (zaa (zbd (zlp (zak (zbm (zab a) zaf) a) (zds zaf) zfc)) zae)))))
 have c11:Cal P w K mg base CX0 "share_gap" 1 (dSp K zef):=zbx T11 ["one", "other"] (by decide +kernel) (by decide +kernel) fun _ _ _ _ _ _ _ _ _ r a t=>zag (zam (zbm (zfw (zak zaf a) (zak zaf a)) (zfw (zak zaf a) (zak zaf a))))
 have c12:Cal P w K mg base CX0 "share_sign" 2 (dSp K zb6):=zbx T12 ["one", "other", "gap"] (by decide +kernel) (by decide +kernel) fun _ _ _ _ _ _ _ _ _ r a t=>zad (zal t (zai c11 r (zaa (zab a) (zaa (zab a) zae)))) (zad (zb5 (zks (zab a) zaf) (zag (zam zaf)) za5) (zad (zb5 (zlo (zab a) zaf) (zag (zam (zpl zaf))) za5) (zag (zam zaf))))
 have c13:Cal P w K mg base CX0 "single_block" 2 (dSp K zde):=zbx T13 ["sack"] (by decide +kernel) (by decide +kernel) fun _ _ _ _ _ _ _ _ _ r a t=>zag (zam (zcs (zaa zaf (zaa (zai c3 r (zaa (zab a) zae)) (zaa (zai c4 r (zaa (zab a) zae)) zae)))))
 have c14:Cal P w K mg base CX0 "joined_block" 1 (dSp K zen):=zbx T14 ["upper", "lower"] (by decide +kernel) (by decide +kernel) fun _ _ _ _ _ _ _ _ _ r a t=>zag (zam (zcs (zaa (zbe (zak zaf a) (zak zaf a)) (zaa (zbe (zak zaf a) (zak zaf a)) (zaa (zbe (zak zaf a) (zak zaf a)) zae)))))
 have c15:Cal P w K mg base CX0 "block_share" 1 (dSp K zdt):=zbx T15 ["block"] (by decide +kernel) (by decide +kernel) fun _ _ _ _ _ _ _ _ _ r a t=>zag (zam (zcs (zaa (zak zaf a) (zaa (zak zaf a) zae))))
 have c16:Cal P w K mg base CX0 "has_greater_share" 3 (dSp K zax):=zbx T16 ["upper", "lower"] (by decide +kernel) (by decide +kernel) fun _ _ _ _ _ _ _ _ _ r a t=>zag (zam (z5m (zai c12 r (zaa (zai c15 r (zaa (zab a) zae)) (zaa (zai c15 r (zaa (zab a) zae)) zae))) zaf))
 have c17:Cal P w K mg base CX0 "stack_blocks" 4 (dSp K zgt):=zbx T17 ["stack", "blocks", "sack", "block"] (by decide +kernel) (by decide +kernel) fun _ _ _ _ _ _ _ _ _ r a t=>zad (zc9 (t.psF (zba zae))) (zad (zcw (zbz (zab a)) t.pg (zad (zal t (zai c13 r (zaa (zab a) zae))) (zad (zn1 (dt_w (zrk (zks (za2 a) zaf) (znx (zcg (zb9 (zai c16 r (zaa (zak (zpl zaf) a) (zaa (zab a) zae)))))))) (zag (zal t (zai c14 r (zaa (z31 a) (zaa (zab a) zae)))))) (zag (za0 (zcb (zab a) a)))))) (zag (zam (zab a))))
 have c32:Cal P w K mg base CX0 "turn_share" 1 (dSp K zbt):=zbx T32 ["turn"] (by decide +kernel) (by decide +kernel) fun _ _ _ _ _ _ _ _ _ r a t=>zag (zam (zcs (zaa (zak zaf a) (zaa (zak zaf a) zae))))
 have c33:Cal P w K mg base CX0 "place_of_turn" 3 (dSp K zf0):=zbx T33 ["turns", "turn", "place"] (by decide +kernel) (by decide +kernel) fun _ _ _ _ _ _ _ _ _ r a t=>zad (zal t zaf) (zad (zn1 (dt_w (zrk (zlo (zab a) (za2 a)) (znx (zwy (zai c12 r (zaa (zai c32 r (zaa (zak (zab a) a) zae)) (zaa (zai c32 r (zaa (zab a) zae)) zae))) zaf)))) (zag (zjp t zaf))) (zag (zam (zab a))))
 have c34:Cal P w K mg base CX0 "block_turns" 5 (dSp K zck):=zbx T34 ["stacks", "turns", "at", "stack", "many", "hours", "loss", "turn"] (by decide +kernel) (by decide +kernel) fun _ _ _ _ _ _ _ _ _ r a t=>zad (zc9 (t.psF (zba zae))) (zad (zqo (zxg (zaa (zab a) zae)) (zbj t (zbj t zkd)) (zag (zmc (zbz (zai c17 r (zaa (zab a) zae))) (zbj t (zbj t (zbj t zkd))) (zad (zal t (zcs (zaa (zab a) (zaa (zab a) (zaa (zab a) (zaa (zab a) zae)))))) (zag (za0 (zu7 (zxp c33 r (z0x (z5x (zaa (zab a) zae)) a)) (zab a) a))))))) (zag (zam (zab a))))
 have c35:Cal P w K mg base CX0 "turn_sacks" 1 (dSp K ziq):=zbx T35 ["stacks", "turns", "taken", "sacks", "at", "many", "hours", "loss", "begin"] (by decide +kernel) (by decide +kernel) fun _ _ _ _ _ _ _ _ _ r a t=>zad (zc9 (zka a t (zbz (zab a)) (fun _ _ _ _ _ _ _ a=>zaf))) (zad (zc9 (t.psF (zba zae))) (zad (zmc (zbz (zab a)) (zbj t (zbj t (zbj t (zbj t zkd)))) (zad (zal t (zak (zbm (zab a) zaf) a)) (zad (zlx (zbm (zab a) zaf) (zbe (zab a) (zab a)) a) (zag (za0 (zcb (zbd (zlp (zak (zbm (zab a) zaf) a) (zds (zab a)) (zds (zbe (zab a) (zab a))))) a)))))) (zag (zam (zab a)))))
 have c36:Cal P w K mg base CX0 "told_order" 6 (fSp K zbu):=z04 T36 ["stacks", "order", "at", "many", "hours", "loss"] (by decide +kernel) (by decide +kernel) fun _ _ _ _ _ _ _ _ _ r a t=>zad (zc9 (t.psF (zba zae))) (zad (zmc (zbz (zai c34 r (zaa (zab a) zae))) (zbj t (zbj t (zbj t (zbj t zkd)))) (zag (za0 (zvd (zu8 (zba (zaa (zab a) zae)) (zab a)) a)))) (zag (zu2 a)))
 have c37:Cal P w K mg base CX0 "check_known" 1 (dSp K zhi):=zbx T37 ["stacks", "at"] (by decide +kernel) (by decide +kernel) fun _ _ _ _ _ _ _ _ _ r a t=>zag (zb5 (dt_w (zf8 (zlo (zab a) zaf) (zdq (zks (zab a) (za2 a))))) (zag zn0) za5)
 have q37:Cal P w K mg base (CXr P w) "check_known" 1 (qSp K zdf zdg):=zlq T37 ["stacks", "at"] (by decide +kernel) (by decide +kernel) fun _ _ _ _ _ _ _ _ _ r a t=>zag (zb5 (dt_w (zf8 (zlo (zab a) zaf) (zdq (zks (zab a) (za2 a))))) (zag (zdd x_UnknownStack zr7)) za5)
 have c38:Cal P w K mg base CX0 "check_whole" 1 (dSp K zhk):=zbx T38 ["stacks", "order", "left", "at"] (by decide +kernel) (by decide +kernel) fun _ _ _ _ _ _ _ _ _ r a t=>zad (zc9 (zka a t (zbz (zab a)) (fun _ _ _ _ _ _ _ a=>za2 a))) (zad (zcw (zbz (zab a)) t.pg (zad (zb5 (zqk (zak (zbm (zab a) zaf) a) zaf) (zag zn0) za5) (zag (zxk (zbm (zab a) zaf) zaf a)))) (zag (zb5 (zks (z0w a) zaf) (zag zn0) za5)))
 have c39:Cal P w K mg base CX0 "check_order" 2 (dSp K zhm):=zbx T39 ["stacks", "order", "at"] (by decide +kernel) (by decide +kernel) fun _ _ _ _ _ _ _ _ _ r a t=>zad (zcw (zbz (zab a)) t.pg (zag (za0 (zai c37 r (zaa (zab a) (zaa (zab a) zae)))))) (zag (za0 (zai c38 r (zaa (zab a) (zaa (zab a) zae)))))
 have c40:Cal P w K mg base CX0 "taken_sacks" 3 (dSp K zff):=zbx T40 ["stacks", "order", "taken", "sacks", "at"] (by decide +kernel) (by decide +kernel) fun _ _ _ _ _ _ _ _ _ r a t=>zad (za0 (zai c39 r (zaa (zab a) (zaa (zab a) zae)))) (zad (zc9 (zka a t (zbz (zab a)) (fun _ _ _ _ _ _ _ a=>zaf))) (zad (zc9 (t.psF (zba zae))) (zad (zcw (zbz (zab a)) t.pg (zad (za0 (zcb (zgr (zak (zbm (zab a) zaf) a) (zak (zbm (zab a) zaf) a)) a)) (zag (zxj (zbm (zab a) zaf) zaf a)))) (zag (zam (zab a))))))
 have c42:Cal P w K mg base CX0 "order_plan" 4 (dSp K zgh):=zbx T42 ["stacks", "order", "plan", "hour", "at", "sack", "dry"] (by decide +kernel) (by decide +kernel) fun _ _ _ _ _ _ _ _ _ r a t=>zad (zc9 (t.psF (zba zae))) (zad (zal t zaf) (zad (zqo (z38 (zaa (zab a) (zaa (zai c40 r (zaa (zab a) (zaa (zab a) zae))) zae))) (zbj t (zbj t zkd)) (zad (zal t (zbe (zab a) (zai c3 r (zaa (zab a) zae)))) (zad (za0 (zcb (zcs (zaa (zai c2 r (zaa (zab a) zae)) (zaa (zab a) (zaa (zab a) (zaa (zab a) zae))))) a)) (zag (zal t (zab a)))))) (zag (zam (zab a)))))
 have c43:Cal P w K mg base CX0 "order_cost" 4 (dSp K zik):=zbx T43 ["stacks", "order", "cost", "hour", "sack"] (by decide +kernel) (by decide +kernel) fun _ _ _ _ _ _ _ _ _ r a t=>zad (zal t zaf) (zad (zal t zaf) (zad (zcw (zbz (zai c40 r (zaa (zab a) (zaa (zab a) zae)))) t.pg (zad (zjp t (zai c3 r (zaa (zab a) zae))) (zag (zjp t (zfw (zai c4 r (zaa (zab a) zae)) (zab a)))))) (zag (zam (zab a)))))
 have c44:Cal P w K mg base CX0 "least_cost" 7 (dSp K zgk):=zbx T44 ["stacks"] (by decide +kernel) (by decide +kernel) fun _ _ _ _ _ _ _ _ _ r a t=>zag (zam (zai c43 r (zaa (zab a) (zaa (zbd (zku c36 r (zaa (zab a) zae))) zae))))
 have c46:Cal P w K mg base CX0 "hours_gone" 1 (dSp K ze7):=zbx T46 ["stretches"] (by decide +kernel) (by decide +kernel) fun _ _ _ _ _ _ _ _ _ r a t=>zad (zb5 (zqk (za2 a) zaf) (zag (zam zaf)) za5) (zag (zam (zgr (zak (zpl zaf) a) zaf)))
 have q47:Cal P w K mg base (CXr P w) "lost_by" 2 (qSp K zi9 zja):=zlq T47 ["stretches", "hour", "lost", "begun", "dry", "rate"] (by decide +kernel) (by decide +kernel) fun _ _ _ _ _ _ _ _ _ r a t=>zad (zb5 (dt_w (zf8 (zlo (zab a) zaf) (zdq (zks (zab a) (zai c46 r (zaa (zab a) zae)))))) (zag (zdd x_NotGone zr7)) za5) (zad (zal t zaf) (zad (zmc (zbz (zab a)) (zbj t (zbj t (zbj t zkd))) (zag (zb5 (zlo (zab a) (zab a)) (zag (zjp t (zfw (zab a) (zbm (z3w (zaa (zab a) (zaa (zab a) zae))) (zab a))))) za5))) (zag (zam (zab a)))))
 have c49:Cal P w K mg base CX0 "block_debts" 2 (dSp K zhq):=zbx T49 ["share", "sacks", "debts", "hours", "loss", "sack"] (by decide +kernel) (by decide +kernel) fun _ _ _ _ _ _ _ _ _ r a t=>zad (zc9 (t.psF (zba zae))) (zad (zal t zaf) (zad (zal t zaf) (zad (zcw (zbz (zbd (zlp (zab a) zfc (zds (zpl zaf))))) t.pg (zad (zjp t (zai c3 r (zaa (zab a) zae))) (zad (zjp t (zai c4 r (zaa (zab a) zae))) (zag (za0 (zcb (zai c11 r (zaa (zab a) (zaa (zcs (zaa (zab a) (zaa (zab a) zae))) zae))) a)))))) (zag (zam (zab a))))))
 have c50:Cal P w K mg base CX0 "turn_fall" 2 (dSp K zjx):=zbx T50 ["turns", "place"] (by decide +kernel) (by decide +kernel) fun _ _ _ _ _ _ _ _ _ r a t=>zad (zb5 (zqk (zbe (zab a) zaf) (za2 a)) (zag (zam zaf)) za5) (zag (zam (zai c11 r (zaa (zai c32 r (zaa (zak (zab a) a) zae)) (zaa (zai c32 r (zaa (zak (zbe (zab a) zaf) a) zae)) zae)))))
 have c51:Cal P w K mg base CX0 "why_least" 6 (dSp K zhs):=zbx T51 ["stacks", "turns", "rows", "place", "sacks", "turn"] (by decide +kernel) (by decide +kernel) fun _ _ _ _ _ _ _ _ _ r a t=>zad (zal t (zai c34 r (zaa (zab a) zae))) (zad (zc9 (t.psF (zba zae))) (zad (zqo (z0r (zaa (zai c35 r (zaa (zab a) (zaa (zab a) zae))) zae)) (zbj t (zbj t zkd)) (zad (zal t (zak (zab a) a)) (zag (za0 (zcb (z0u (zab a) (zcs (zaa (zai c49 r (zaa (zai c32 r (zaa (zab a) zae)) (zaa (zab a) zae))) (zaa (zai c50 r (zaa (zab a) (zaa (zab a) zae))) zae)))) a))))) (zag (zam (zab a)))))
 have q58:Cal P w K mg base (CXr P w) "check_count" 1 (qSp K zet zeu):=zlq T58 ["many"] (by decide +kernel) (by decide +kernel) fun _ _ _ _ _ _ _ _ _ r a t=>zag (zb5 (dt_w (zf8 (zlo (zab a) zaf) (zdq (zks (zab a) (zel v_MOST_STACKS))))) (zag (zdd x_BadCount (zk1 (zcu zid (zcu (zkz (zel v_MOST_STACKS)) (zcu zid zk0)))))) za5)
 have q59:Cal P w K mg base (CXr P w) "check_hours" 1 (qSp K zev zew):=zlq T59 ["hours"] (by decide +kernel) (by decide +kernel) fun _ _ _ _ _ _ _ _ _ r a t=>zag (zb5 (dt_w (zf8 (zlo (zab a) zaf) (zdq (zks (zab a) (zel v_MOST_HOURS))))) (zag (zdd x_BadHours (zk1 (zcu zid (zcu (zkz (zel v_MOST_HOURS)) (zcu zid zk0)))))) za5)
 have q60:Cal P w K mg base (CXr P w) "check_loss" 1 (qSp K zd5 zd6):=zlq T60 ["loss"] (by decide +kernel) (by decide +kernel) fun _ _ _ _ _ _ _ _ _ r a t=>zag (zb5 (dt_w (zf8 (zlo (zab a) zaf) (zdq (zks (zab a) (zel v_MOST_LOSS))))) (zag (zdd x_BadLoss (zk1 (zcu zid (zcu (zkz (zel v_MOST_LOSS)) zk0))))) za5)
 have q61:Cal P w K mg base (CXr P w) "check_room" 2 (qSp K zfi zc3):=zlq T61 ["stacks"] (by decide +kernel) (by decide +kernel) fun _ _ _ _ _ _ _ _ _ r a t=>zag (zb5 (zwy (zai c5 r (zaa (zab a) zae)) (zel v_MOST_WAITING)) (zag (zdd x_HouseFull (zk1 (zcu (zkz (zel v_MOST_WAITING)) (zcu zid zk0))))) za5)
 have q62:Cal P w K mg base (CXr P w) "check_lies" 1 (qSp K zfr zc7):=zlq T62 ["stacks", "at"] (by decide +kernel) (by decide +kernel) fun _ _ _ _ _ _ _ _ _ r a t=>zag (zb5 (zqk (zrl (zaa (zak (zbm (zab a) zaf) a) zae)) zaf) (zag (zdd x_EmptyStack (zk1 (zcu zid (zcu (zkz (zab a)) zk0))))) za5)
 have q63:Cal P w K mg base (CXr P w) "check_place" 1 (qSp K ze3 zcr):=zlq T63 ["stack", "place"] (by decide +kernel) (by decide +kernel) fun _ _ _ _ _ _ _ _ _ r a t=>zag (zb5 (dt_w (zf8 (zlo (zab a) zaf) (zdq (zks (zab a) (za2 a))))) (zag (zdd x_UnknownPlace zr7)) za5)
 have q64:Cal P w K mg base (CXr P w) "check_waits" 2 (qSp K ze0 zcq):=zlq T64 ["stacks"] (by decide +kernel) (by decide +kernel) fun _ _ _ _ _ _ _ _ _ r a t=>zag (zb5 (zqk (zai c5 r (zaa (zab a) zae)) zaf) (zag (zdd x_NothingWaits zr7)) za5)
 have q65:Cal P w K mg base (CXr P w) "check_deeds" 1 (qSp K zcp zbv):=zlq T65 ["deeds"] (by decide +kernel) (by decide +kernel) fun _ _ _ _ _ _ _ _ _ r a t=>zag (zb5 (zwy (za2 a) (zel v_MOST_DEEDS)) (zag (zdd x_DeedsFull (zk1 (zcu (zkz (zel v_MOST_DEEDS)) (zcu zid zk0))))) za5)
 have c66:Cal P w K mg base CX0 "next_number" 1 (dSp K zfj):=zbx T66 ["deeds"] (by decide +kernel) (by decide +kernel) fun _ _ _ _ _ _ _ _ _ r a t=>zag (zam (zbe zaf (zrl (zaa (zbd (zuy a (zbz (zab a)) (fun _ _ _ _ _ _ _ a=>zqk (zak zaf a) zma) (fun _ _ _ _ _ _ _ a=>zab a))) zae))))
 have c67:Cal P w K mg base CX0 "told_anew" 2 (dSp K zj5):=zbx T67 ["sack", "loss"] (by decide +kernel) (by decide +kernel) fun _ _ _ _ _ _ _ _ _ r a t=>zag (zam (zcs (zaa (zai c2 r (zaa (zab a) zae)) (zaa (zai c3 r (zaa (zab a) zae)) (zaa (zab a) zae)))))
 have l68001:KCal P w K mg base "House" 2 (lSp K zce zej):=z53 hC mC kC pC T68001 ["self", "many"] (by decide +kernel) (by decide +kernel) fun _ _ _ _ _ _ _ _ _ r a t=>zad (zfx (za0 (zbn q58 r (za6 (zaa (zab a) zae)))) (zc2 (zct q58 r (za6 (zaa (zab a) zae))))) (zad (zsa a_kept a (zba zae)) (zag (zsa a_states a (zba (zaa (zcs (zaa (zbd (zjn a (zca (zaa (zab a) zae)) (fun _ _ _ _ _ _ _ a=>zbd (zba zae)))) (zaa (zbd (zba zae)) zae))) zae)))))
 have q68002:MCal P w K mg base "House" "piles" 1 (qSp K zau zm5):=zmh hC cs T68002 ["self"] (by decide +kernel) fun _ _ _ _ _ _ _ _ _ r a t=>zag (zam (zgr (zvi (zkg a_states a) (zza zy9)) zaf))
 have q68003:MCal P w K mg base "House" "spans" 1 (qSp K zaw zm6):=zmh hC cs T68003 ["self"] (by decide +kernel) fun _ _ _ _ _ _ _ _ _ r a t=>zag (zam (zgr (zvi (zkg a_states a) (zza zy9)) zaf))
 have l68004:MCal P w K mg base "House" "keep" 1 (lSp K zbr zov):=zx2 hC cs T68004 ["self", "deed", "piles", "spans"] (by decide +kernel) fun _ _ _ _ _ _ _ _ _ r a t=>zad (za0 (zme (zkg a_kept a) (zab a))) (zag (za0 (zme (zkg a_states a) (zcs (zaa (zab a) (zaa (zab a) zae))))))
 have l68005:MCal P w K mg base "House" "put" 3 (lSp K ze8 ziz):=zx2 hC cs T68005 ["self", "at", "hours", "loss", "piles", "number", "stack"] (by decide +kernel) fun _ _ _ _ _ _ _ _ _ r a t=>zad (zal t (zas q68002 r a)) (zad (zfx (za0 (zbn q37 r (za6 (zaa (zab a) (zaa (zab a) zae))))) (zc2 (zct q37 r (za6 (zaa (zab a) (zaa (zab a) zae)))))) (zad (zfx (za0 (zbn q59 r (za6 (zaa (zab a) zae)))) (zc2 (zct q59 r (za6 (zaa (zab a) zae))))) (zad (zfx (za0 (zbn q60 r (za6 (zaa (zab a) zae)))) (zc2 (zct q60 r (za6 (zaa (zab a) zae))))) (zad (zfx (za0 (zbn q61 r (za6 (zaa (zab a) zae)))) (zc2 (zct q61 r (za6 (zaa (zab a) zae))))) (zad (zfx (za0 (zfy (fun _ _=>zbn q65 r (za6 (zaa (zhd a_kept a) zae))))) (zc2 (zvl (fun _ _=>zct q65 r (za6 (zaa (zhd a_kept a) zae)))))) (zad (zal t (zfy (fun _ _=>zai c66 r (zaa (zhd a_kept a) zae)))) (zad (zal t (zbd (zjf (zbd (zba (zaa (zcs (zaa (zab a) (zaa (zab a) (zaa (zab a) zae)))) zae))) (zak (zbm (zab a) zaf) a)))) (zad (za0 (zic l68004 r (zaa (zcs (zaa zma (zaa (zab a) (zaa (zab a) (zaa (zab a) zae))))) (zaa (zai c8 r (zaa (zab a) (zaa (zab a) (zaa (zab a) zae)))) (zaa (zas q68003 r a) zae))) a)) (zag (zam (zab a)))))))))))
 have l68006:MCal P w K mg base "House" "tell" 3 (lSp K zc8 zh4):=zx2 hC cs T68006 ["self", "at", "place", "loss", "piles", "stack", "sack", "changed"] (by decide +kernel) fun _ _ _ _ _ _ _ _ _ r a t=>zad (zal t (zas q68002 r a)) (zad (zfx (za0 (zbn q37 r (za6 (zaa (zab a) (zaa (zab a) zae))))) (zc2 (zct q37 r (za6 (zaa (zab a) (zaa (zab a) zae)))))) (zad (zfx (za0 (zbn q62 r (za6 (zaa (zab a) (zaa (zab a) zae))))) (zc2 (zct q62 r (za6 (zaa (zab a) (zaa (zab a) zae)))))) (zad (zal t (zak (zbm (zab a) zaf) a)) (zad (zfx (za0 (zbn q63 r (za6 (zaa (zab a) (zaa (zab a) zae))))) (zc2 (zct q63 r (za6 (zaa (zab a) (zaa (zab a) zae)))))) (zad (zfx (za0 (zbn q60 r (za6 (zaa (zab a) zae)))) (zc2 (zct q60 r (za6 (zaa (zab a) zae))))) (zad (zfx (za0 (zfy (fun _ _=>zbn q65 r (za6 (zaa (zhd a_kept a) zae))))) (zc2 (zvl (fun _ _=>zct q65 r (za6 (zaa (zhd a_kept a) zae)))))) (zad (zal t (zak (zbm (zab a) zaf) a)) (zad (zal t (zbd (zjf (zbd (zjf (zbd (zlp (zab a) zfc (zds (zbm (zab a) zaf)))) (zbd (zba (zaa (zai c67 r (zaa (zab a) (zaa (zab a) zae))) zae))))) (zbd (zlp (zab a) (zds (zab a)) zfc))))) (zad (za0 (zic l68004 r (zaa (zcs (zaa zma (zaa (zab a) (zaa (zab a) (zaa (zab a) zae))))) (zaa (zai c8 r (zaa (zab a) (zaa (zab a) (zaa (zab a) zae)))) (zaa (zas q68003 r a) zae))) a)) (zag (zam (zai c4 r (zaa (zab a) zae)))))))))))))
 have q68010:MCal P w K mg base "House" "deeds" 1 (qSp K zey zm7):=zmh hC cs T68010 ["self"] (by decide +kernel) fun _ _ _ _ _ _ _ _ _ r a t=>zag (zam (zbd (zvh (zkg a_kept a))))
 have q68011:MCal P w K mg base "House" "stacks" 2 (qSp K zcf zmv):=zmh hC cs T68011 ["self"] (by decide +kernel) fun _ _ _ _ _ _ _ _ _ r a t=>zag (zam (zbd (zjn a (zbz (zas q68002 r a)) (fun _ _ _ _ _ _ _ a=>zbd (zmb (zaa (zab a) zae))))))
 have q68012:MCal P w K mg base "House" "hour" 2 (qSp K zd7 zow):=zmh hC cs T68012 ["self"] (by decide +kernel) fun _ _ _ _ _ _ _ _ _ r a t=>zag (zam (zai c46 r (zaa (zas q68003 r a) zae)))
 have l68008:MCal P w K mg base "House" "dry" 7 (lSp K zfa zi0):=zx2 hC cs T68008 ["self", "piles", "at", "sack", "begun", "stretch"] (by decide +kernel) fun _ _ _ _ _ _ _ _ _ r a t=>zad (zal t (zas q68002 r a)) (zad (zfx (za0 (zbn q64 r (za6 (zaa (zab a) zae)))) (zc2 (zct q64 r (za6 (zaa (zab a) zae))))) (zad (zfx (za0 (zfy (fun _ _=>zbn q65 r (za6 (zaa (zhd a_kept a) zae))))) (zc2 (zvl (fun _ _=>zct q65 r (za6 (zaa (zhd a_kept a) zae)))))) (zad (zal t (zgr (zbd (zku c36 r (zaa (zab a) zae))) zaf)) (zad (zal t (zai c7 r (zaa (zab a) (zaa (zab a) zae)))) (zad (zal t (zas q68012 r a)) (zad (zal t (zcs (zaa (zab a) (zaa (zbe (zab a) (zai c3 r (zaa (zab a) zae))) (zaa (zai c6 r (zaa (zab a) zae)) zae))))) (zad (za0 (zic l68004 r (zaa (zcs (zaa zma zae)) (zaa (zai c9 r (zaa (zab a) (zaa (zab a) zae))) (zaa (zbd (zjf (zas q68003 r a) (zbd (zba (zaa (zab a) zae))))) zae))) a)) (zag (zam (zab a))))))))))
 have q68013:MCal P w K mg base "House" "order" 7 (qSp K zdh zm8):=zmh hC cs T68013 ["self"] (by decide +kernel) fun _ _ _ _ _ _ _ _ _ r a t=>zag (zam (zbd (zku c36 r (zaa (zas q68002 r a) zae))))
 have q68014:MCal P w K mg base "House" "plan" 8 (qSp K zfn zox):=zmh hC cs T68014 ["self"] (by decide +kernel) fun _ _ _ _ _ _ _ _ _ r a t=>zag (zam (zai c42 r (zaa (zas q68002 r a) (zaa (zas q68013 r a) zae))))
 have q68015:MCal P w K mg base "House" "cost" 8 (qSp K zfo zoy):=zmh hC cs T68015 ["self"] (by decide +kernel) fun _ _ _ _ _ _ _ _ _ r a t=>zag (zam (zai c44 r (zaa (zas q68002 r a) zae)))
 have q68016:MCal P w K mg base "House" "why" 7 (qSp K zgp zp8):=zmh hC cs T68016 ["self"] (by decide +kernel) fun _ _ _ _ _ _ _ _ _ r a t=>zag (zam (zai c51 r (zaa (zas q68002 r a) zae)))
 have q68019:MCal P w K mg base "House" "stretches" 2 (qSp K zcv zko):=zmh hC cs T68019 ["self"] (by decide +kernel) fun _ _ _ _ _ _ _ _ _ r a t=>zag (zam (zbd (zmb (zaa (zas q68003 r a) zae))))
 have q68020:MCal P w K mg base "House" "lost" 3 (qSp K zfl zfm):=zmh hC cs T68020 ["self", "hour"] (by decide +kernel) fun _ _ _ _ _ _ _ _ _ r a t=>zag (zfx (zam (zbn q47 r (za6 (zaa (zas q68003 r a) (zaa (zab a) zae))))) (z0z (zct q47 r (za6 (zaa (zas q68003 r a) (zaa (zab a) zae))))))
 have c70:Cal P w K mg base CX0 "_law_whole" 1 (dSp K zbs):=zbx T70 ["_law_found"] (by decide +kernel) (by decide +kernel) fun _ _ _ _ _ _ _ _ _ r a t=>zag (zam (zut (zia z34 (zab a)) (zus (z3p (zia z0k (zab a))))))
 have c71:Cal P w K mg base CX0 "_law_at" 1 (dSp K zie):=zbx T71 ["_law_script", "_law_k"] (by decide +kernel) (by decide +kernel) fun _ _ _ _ _ _ _ _ _ r a t=>zad (zb5 (zlo (zab a) (za2 a)) (zag (zam (zak (zab a) a))) za5) (zag (zam zaf))
 have c72:Cal P w K mg base CX0 "_law_draws" 2 (dSp K ze6):=zbx T72 ["_law_script", "_law_many", "_law_made", "_law_state", "_law_k", "_law_cell"] (by decide +kernel) (by decide +kernel) fun _ _ _ _ _ _ _ _ _ r a t=>zad (zc9 (t.psF (zba zae))) (zad (zal t zaf) (zad (zcw (zca (zaa (zab a) zae)) t.pg (zad (zal t (zai c71 r (zaa (zab a) (zaa (zab a) zae)))) (zad (zb5 (zqk (zgc (za2 a) zaf) zaf) (zad (zal t (zgc (zbe (zbe (zbe (zfw (zab a) zaf) (zab a)) (zab a)) zaf) zaf)) (zag (zal t (zgc (zfw (zbe (zab a) (zab a)) zaf) zaf)))) za5) (zag (za0 (zcb (zab a) a)))))) (zag (zam (zab a)))))
 have c73:Cal P w K mg base CX0 "_law_best" 1 (dSp K zf1):=zbx T73 ["_law_sacks", "_law_best_here", "_law_hours", "_law_loss", "_law_k"] (by decide +kernel) (by decide +kernel) fun _ _ _ _ _ _ _ _ _ r a t=>zad (zal t (zbd (zba (zaa zaf (zaa zaf (zaa (zpl zaf) zae)))))) (zad (zal t zaf) (zad (zal t zaf) (zad (zcw (zca (zaa (za2 a) zae)) t.pg (zad (zal t (zbe (zab a) (zgr (zak (zab a) a) zaf))) (zad (zal t (zbe (zab a) (zgr (zak (zab a) a) zaf))) (zag (zb5 (zwy (zfw (zab a) (zak zaf a)) (zfw (zak zaf a) (zab a))) (zag (zal t (zbd (zba (zaa (zbe (zab a) zaf) (zaa (zab a) (zaa (zab a) zae))))))) za5))))) (zag (zam (zab a))))))
 have c74:Cal P w K mg base CX0 "_law_turns" 2 (dSp K zgg):=zbx T74 ["_law_stacks", "_law_left", "_law_made", "_law_heads", "_law_pick", "_law_k"] (by decide +kernel) (by decide +kernel) fun _ _ _ _ _ _ _ _ _ r a t=>zad (zc9 (zka a t (zbz (zab a)) (fun _ _ _ _ _ _ _ a=>zbd (zmb (zaa (zab a) zae))))) (zad (zc9 (t.psF (zba zae))) (zad (zn1 (zks (znh (zaa (zbd (zxl a (zy5 a) (fun _ _ _ _ _ _ _ a=>za2 a))) zae)) zaf) (zad (zu3 (zxm a t (zy5 a) (fun _ _ _ _ _ _ _ a=>zai c73 r (zaa (zab a) zae)))) (zad (zal t zaf) (zad (zcw (zca (zaa (za2 a) zae)) t.pg (zag (zb5 (zks (zfw (zgr (zak (zab a) a) zaf) (zgr (zak (zab a) a) zaf)) (zfw (zgr (zak (zab a) a) zaf) (zgr (zak (zab a) a) zaf))) (zag (zal t (zab a))) za5))) (zad (za0 (zcb (zcs (zaa (zbe (zab a) zaf) (zaa (zgr (zak (zab a) a) zaf) (zaa (zgr (zak (zab a) a) zaf) (zaa (zgr (zak (zab a) a) zaf) zae))))) a)) (zag (zlx (zab a) (zbd (zlp (zak (zab a) a) (zds (zgr (zak (zab a) a) zaf)) zfc)) a))))))) (zag (zam (zab a)))))
 have c75:Cal P w K mg base CX0 "_law_told" 3 (fSp K zcz):=z04 T75 ["_law_stacks", "_law_made", "_law_turn"] (by decide +kernel) (by decide +kernel) fun _ _ _ _ _ _ _ _ _ r a t=>zad (zc9 (t.psF (zba zae))) (zad (zcw (zbz (zai c74 r (zaa (zab a) zae))) t.pg (zag (zc9 (t.psF (zjf (zab a) (zbd (zu8 (zba (zaa (zak zaf a) zae)) (zak zaf a)))))))) (zag (zu2 a)))
 have c76:Cal P w K mg base CX0 "_law_taken" 1 (dSp K zim):=zbx T76 ["_law_stacks", "_law_order", "_law_taken_here", "_law_made", "_law_at_here"] (by decide +kernel) (by decide +kernel) fun _ _ _ _ _ _ _ _ _ r a t=>zad (zc9 (zka a t (zbz (zab a)) (fun _ _ _ _ _ _ _ a=>zaf))) (zad (zc9 (t.psF (zba zae))) (zad (zcw (zbz (zab a)) t.pg (zad (za0 (zcb (zgr (zak (zbm (zab a) zaf) a) (zak (zbm (zab a) zaf) a)) a)) (zag (zlx (zbm (zab a) zaf) (zbe (zak (zbm (zab a) zaf) a) zaf) a)))) (zag (zam (zab a)))))
 have c77:Cal P w K mg base CX0 "_law_cost" 1 (dSp K zjw):=zbx T77 ["_law_sacks", "_law_hour", "_law_total", "_law_sack"] (by decide +kernel) (by decide +kernel) fun _ _ _ _ _ _ _ _ _ r a t=>zad (zal t zaf) (zad (zal t zaf) (zad (zcw (zbz (zab a)) t.pg (zad (zal t (zbe (zab a) (zak zaf a))) (zag (zal t (zbe (zab a) (zfw (zak zaf a) (zab a))))))) (zag (zam (zab a)))))
 have c78:Cal P w K mg base CX0 "_law_same_row" 2 (dSp K zbo):=zbx T78 ["_law_found", "_law_due", "_law_k"] (by decide +kernel) (by decide +kernel) fun _ _ _ _ _ _ _ _ _ r a t=>zad (zb5 (dt_w (zf8 (zcg (zb9 (zia zrr (zab a)))) (zdq (zkt (za2 a) (za2 a))))) (zag (zam zee)) za5) (zad (zcw (zca (zaa (za2 a) zae)) t.pg (zad (zb5 (dt_w (zrk (zb9 (zia zu5 (zak (zab a) a))) (znx (zcg (zb9 (zia zu5 (zak (zab a) a))))))) (zag (zam zee)) za5) (zad (zb5 (dt_w (zrk (zcg (zb9 (zia zu5 (zak (zab a) a)))) (znx (zcg (zb9 (zai c70 r (zaa (zak (zab a) a) zae))))))) (zag (zam zee)) za5) (zag (zb5 (zkt (zak (zab a) a) (zak (zab a) a)) (zag (zam zee)) za5))))) (zag (zam zee)))
 have c79:Cal P w K mg base CX0 "_law_same_rows" 3 (dSp K zay):=zbx T79 ["_law_found", "_law_due", "_law_k"] (by decide +kernel) (by decide +kernel) fun _ _ _ _ _ _ _ _ _ r a t=>zad (zb5 (dt_w (zf8 (zcg (zb9 (zia zn2 (zab a)))) (zdq (zkt (za2 a) (za2 a))))) (zag (zam zee)) za5) (zad (zcw (zca (zaa (za2 a) zae)) t.pg (zag (zb5 (zcg (zb9 (zai c78 r (zaa (zak (zab a) a) (zaa (zak (zab a) a) zae))))) (zag (zam zee)) za5))) (zag (zam zee)))
 have c80:Cal P w K mg base CX0 "_law_same_stacks" 4 (dSp K zbc):=zbx T80 ["_law_found", "_law_due", "_law_k"] (by decide +kernel) (by decide +kernel) fun _ _ _ _ _ _ _ _ _ r a t=>zad (zb5 (dt_w (zf8 (zcg (zb9 (zia zn2 (zab a)))) (zdq (zkt (za2 a) (za2 a))))) (zag (zam zee)) za5) (zad (zcw (zca (zaa (za2 a) zae)) t.pg (zag (zb5 (zcg (zb9 (zai c79 r (zaa (zak (zab a) a) (zaa (zak (zab a) a) zae))))) (zag (zam zee)) za5))) (zag (zam zee)))
 have c81:Cal P w K mg base CX0 "_law_same_numbers" 2 (dSp K zb2):=zbx T81 ["_law_found", "_law_due", "_law_k"] (by decide +kernel) (by decide +kernel) fun _ _ _ _ _ _ _ _ _ r a t=>zad (zb5 (dt_w (zf8 (zcg (zb9 (zia zn2 (zab a)))) (zdq (zkt (za2 a) (za2 a))))) (zag (zam zee)) za5) (zad (zcw (zca (zaa (za2 a) zae)) t.pg (zag (zb5 (dt_w (zf8 (zcg (zb9 (zai c70 r (zaa (zak (zab a) a) zae)))) (zdq (zkt (zak (zab a) a) (zak (zab a) a))))) (zag (zam zee)) za5))) (zag (zam zee)))
 have c82:Cal P w K mg base CX0 "_law_copy" 1 (fSp K zjt):=z04 T82 ["_law_stacks"] (by decide +kernel) (by decide +kernel) fun _ _ _ _ _ _ _ _ _ r a t=>zag (z0h (zjn a (zbz (zab a)) (fun _ _ _ _ _ _ _ a=>zbd (zmb (zaa (zab a) zae)))))
 have e82:Cal P w K mg base CX0 "_law_copy" 1 (fSp2 K zgj):=z4k T82 ["_law_stacks"] (by decide +kernel) (by decide +kernel) fun _ _ _ _ _ _ _ _ _ r a t=>zag (zw6 (zrp a (zbz (zab a)) (fun _ _ _ _ _ _ _ a=>zmb (zaa (zab a) zae))))
 have c83:Cal P w K mg base CX0 "_law_rate" 1 (dSp K zh1):=zbx T83 ["_law_piles"] (by decide +kernel) (by decide +kernel) fun _ _ _ _ _ _ _ _ _ r a t=>zag (zam (znh (zaa (zbd (zjn a (zbz (zab a)) (fun _ _ _ _ _ _ _ a=>znh (zaa (zbd (zjn a (zbz (zab a)) (fun _ _ _ _ _ _ _ a=>zak zaf a))) zae)))) zae)))
 have c84:Cal P w K mg base CX0 "_law_rates" 1 (dSp K zi2):=zbx T84 ["_law_dried", "_law_rates_here", "_law_begun", "_law_dry", "_law_rate_here"] (by decide +kernel) (by decide +kernel) fun _ _ _ _ _ _ _ _ _ r a t=>zad (zal t (zbd (zba zae))) (zad (zmc (zbz (zab a)) (zbj t (zbj t (zbj t zkd))) (zag (zal t (zbd (zjf (zab a) (zbd (zu8 (zba (zaa (zab a) zae)) (zbm (zab a) (zab a))))))))) (zag (zam (zab a))))
 have c85:Cal P w K mg base CX0 "_law_plan" 2 (dSp K zj3):=zbx T85 ["_law_piles", "_law_turns_here", "_law_made", "_law_hour", "_law_left", "_law_at_here", "_law_sack"] (by decide +kernel) (by decide +kernel) fun _ _ _ _ _ _ _ _ _ r a t=>zad (zc9 (t.psF (zba zae))) (zad (zal t zaf) (zad (zu4 (t.psF2 (zw8 e82 r (zaa (zab a) zae)))) (zad (zcw (zbz (zab a)) t.pg (zad (zal t (zpo (zbm (zab a) zaf) (fun _ _=>zaf) a)) (zad (za0 (zcb (zcs (zaa (zak zaf a) (zaa (zab a) (zaa (zab a) (zaa (zbe (zab a) (zak zaf a)) zae))))) a)) (zag (zal t (zbe (zab a) (zak zaf a))))))) (zag (zam (zab a))))))
 have c86:Cal P w K mg base CX0 "_law_debts" 1 (dSp K zis):=zbx T86 ["_law_sacks", "_law_hours", "_law_loss", "_law_made", "_law_begun", "_law_gone", "_law_sack"] (by decide +kernel) (by decide +kernel) fun _ _ _ _ _ _ _ _ _ r a t=>zad (zc9 (t.psF (zba zae))) (zad (zal t zaf) (zad (zal t zaf) (zad (zcw (zbz (zbd (zlp (zab a) zfc (zds (zbm (za2 a) zaf))))) t.pg (zad (zal t (zbe (zab a) (zak zaf a))) (zad (zal t (zbe (zab a) (zak zaf a))) (zag (za0 (zcb (zbm (zfw (zab a) (zab a)) (zfw (zab a) (zab a))) a)))))) (zag (zam (zab a))))))
 have c87:Cal P w K mg base CX0 "_law_same_why" 3 (dSp K zf5):=zbx T87 ["_law_found", "_law_piles", "_law_turns_here", "_law_left", "_law_k", "_law_at_here", "_law_many", "_law_hours", "_law_loss", "_law_fall", "_law_debts_here", "_law_row"] (by decide +kernel) (by decide +kernel) fun _ _ _ _ _ _ _ _ _ r a t=>zad (zal t (zai c74 r (zaa (zab a) zae))) (zad (zc9 (t.psF (zku c82 r (zaa (zab a) zae)))) (zad (zb5 (dt_w (zf8 (zcg (zb9 (zia zn2 (zab a)))) (zdq (zkt (za2 a) (za2 a))))) (zag (zam zee)) za5) (zad (zcw (zca (zaa (za2 a) zae)) t.pg (zad (z35 (zak (zab a) a) (zbj t (zbj t (zbj t (zbj t zkd))))) (zad (zal t zaf) (zad (zb5 (zlo (zbe (zab a) zaf) (za2 a)) (zag (zal t (zbm (zfw (zab a) (zgr (zak (zbe (zab a) zaf) a) zaf)) (zfw (zgr (zak (zbe (zab a) zaf) a) zaf) (zab a))))) za5) (zad (zal t (zai c86 r (zaa (zbd (zlp (zak (zbm (zab a) zaf) a) zfc (zds (zab a)))) (zaa (zab a) (zaa (zab a) zae))))) (zad (zlx (zbm (zab a) zaf) (zbd (zlp (zak (zbm (zab a) zaf) a) (zds (zab a)) zfc)) a) (zad (zal t (zak (zab a) a)) (zad (zb5 (dt_w (zf8 (zcg (zb9 (zia zrr (zab a)))) (zf8 (zkt (za2 a) zaf) (zdq (zcg (zb9 (zai c78 r (zaa (z4b (zab a) zfc (zds zaf)) (zaa (zak (zab a) a) zae))))))))) (zag (zam zee)) za5) (zag (zb5 (dt_w (zf8 (zcg (zb9 (zai c81 r (zaa (zak zaf a) (zaa (zab a) zae))))) (zf8 (zcg (zb9 (zai c70 r (zaa (zak zaf a) zae)))) (zdq (zkt (zak zaf a) (zab a)))))) (zag (zam zee)) za5)))))))))) (zag (zam zee)))))
 have q88:Cal P w K mg base (CXr P w) "_law_same_lost" 4 (qSp K zc6 zla):=zlq T88 ["_law_house", "_law_dried", "_law_rates_here", "_law_hour", "_law_gone", "_law_lost"] (by decide +kernel) (by decide +kernel) fun _ _ _ _ _ _ _ _ _ r a t=>zad (zal t (zai c84 r (zaa (zab a) zae))) (zad (zal t (zas q68012 r a)) (zad (zb5 (dt_w (zf8 (zcg (zb9 (zai c70 r (zaa (zab a) zae)))) (zdq (zkt (zab a) (za2 a))))) (zag (zam zee)) za5) (zad (zcw (zbz (zbd (zba (zaa zaf (zaa (zl9 (zab a) zaf) (zaa (z3v (zaa zaf (zaa (zbm (zab a) zaf) zae))) (zaa (zab a) zae))))))) t.pg (zad (zfx (zal t (zvg q68020 r (zaa (zab a) zae) a)) (z00 (i:=5) t (zxs q68020 r (zaa (zab a) zae) a))) (zag (zb5 (dt_w (zf8 (zcg (zb9 (zai c70 r (zaa (zab a) zae)))) (zdq (zkt (zab a) (znh (zaa (zbd (zlp (zab a) zfc (zds (zab a)))) zae)))))) (zag (zam zee)) za5)))) (zag (zam (zai c79 r (zaa (zas q68019 r a) (zaa (zab a) zae))))))))
 have q89:Cal P w K mg base (CXr P w) "_law_stands" 9 (qSp K zbw zm9):=zlq T89 ["_law_house", "_law_state", "_law_piles", "_law_turns_here", "_law_total"] (by decide +kernel) (by decide +kernel) fun _ _ _ _ _ _ _ _ _ r a t=>zad (zal t (zak zaf a)) (zad (zb5 (dt_w (zf8 (zcg (zb9 (zai c80 r (zaa (zas q68011 r a) (zaa (zab a) zae))))) (zdq (zcg (zb9 (zai c79 r (zaa (zas q68010 r a) (zaa (zak zaf a) zae)))))))) (zag (zam zee)) za5) (zad (zal t (zbd (zku c75 r (zaa (zab a) zae)))) (zad (zb5 (zcg (zb9 (zai c81 r (zaa (zas q68013 r a) (zaa (zab a) zae))))) (zag (zam zee)) za5) (zad (zal t (zas q68015 r a)) (zad (zb5 (dt_w (zf8 (zcg (zb9 (zai c70 r (zaa (zab a) zae)))) (zdq (zkt (zab a) (zai c77 r (zaa (zai c76 r (zaa (zab a) (zaa (zab a) zae))) zae)))))) (zag (zam zee)) za5) (zad (zb5 (zcg (zb9 (zai c79 r (zaa (zas q68014 r a) (zaa (zai c85 r (zaa (zab a) (zaa (zab a) zae))) zae))))) (zag (zam zee)) za5) (zag (zam (zut (zbn q88 r (zoh (za6 (zaa (zak zaf a) zae)) a)) (zus (zai c87 r (zaa (zas q68016 r a) (zaa (zab a) zae)))))))))))))
 exact z54 ["_law_script", "_law_draws_here", "_law_many", "_law_house", "_law_piles", "_law_kept", "_law_k", "_law_cell", "_law_put", "_law_number", "_law_some", "_law_spot", "_law_place", "_law_sack", "_law_found", "_law_rate_here", "_law_dried"] (by decide +kernel) fun _ _ _ _ _ _ _ _ _ r a t=>zad (zal t (zai c72 r (zaa (zab a) (zaa zaf zae)))) (zad (zal t (zbe zaf (zgc (zak zaf a) zaf))) (zad (zxw t (zxx l68001 r (zaa (zab a) zae))) (zad (zu4 (t.psF2 (zrp a (zca (zaa (zab a) zae)) (fun _ _ _ _ _ _ _ a=>zba zae)))) (zad (zc9 (t.psF (zba zae))) (zad (zcw (zca (zaa (zbm zaf (zgc (zl9 (zak zaf a) zaf) zaf)) zae)) t.pg (zad (zal t (zak (zbe zaf (zab a)) a)) (zad (zal t (zcs (zaa zma (zaa (zbe zaf (zgc (zl9 (zab a) zaf) (zab a))) (zaa (zbe zaf (zgc (zab a) zaf)) (zaa (zgc (zl9 (zab a) zaf) zaf) zae)))))) (zad (zal t (zic l68005 r (zaa (zak zaf a) (zaa (zak zaf a) (zaa (zak zaf a) zae))) a)) (zad (zx1 (fun _ _=>zbm (zak zaf a) zaf) (z02 (fun _ _=>zjf (zbd (zba (zaa (zcs (zaa (zab a) (zaa (zak zaf a) (zaa (zak zaf a) zae)))) zae))) (zak (zbm (zak zaf a) zaf) a))) a) (zag (za0 (zcb (zab a) a)))))))) (zad (zcw (zca (zaa (zbe zaf (zgc (zl9 (zak zaf a) zaf) zaf)) zae)) t.pg (zad (zal t (zak (zbe zaf (zab a)) a)) (zad (zu3 (z03 (fun _ _=>zs9 a t (zca (zaa (zab a) zae)) (fun _ _ _ _ _ _ _ a=>zks (zrl (zaa (zak (zab a) a) zae)) zaf) (fun _ _ _ _ _ _ _ a=>zab a)))) (zad (zal t (zak (zgc (zl9 (zab a) zaf) (za2 a)) a)) (zad (zal t (zfy (fun _ _=>zgc (zl9 (zab a) zaf) (zrl (zaa (zak (zab a) a) zae))))) (zad (zal t (zfy (fun _ _=>zgr (zak (zab a) a) (zab a)))) (zad (zal t (zic l68006 r (zaa (zbe (zab a) zaf) (zaa (zbe (zab a) zaf) (zaa (zgc (zab a) zaf) zae))) a)) (zad (zb5 (dt_w (zf8 (zcg (zb9 (zai c70 r (zaa (zab a) zae)))) (zdq (zkt (zab a) (zak zaf a))))) (zag (zam zee)) za5) (zad (zvn (fun _ _=>zab a) (fun _ _=>zab a) (zcs (zaa (zak zaf a) (zaa (zak zaf a) (zaa (zgc (zab a) zaf) zae)))) a) (zad (za0 (zcb (zcs (zaa zma (zaa (zbe (zab a) zaf) (zaa (zbe (zab a) zaf) (zaa (zgc (zab a) zaf) zae))))) a)) (zag (zb5 (zcg (zb9 (zfy (fun _ _=>zai c80 r (zaa (zas q68011 r a) (zaa (zab a) zae)))))) (zag (zam zee)) za5)))))))))))) (zad (zb5 (zcg (zb9 (zfy (fun _ _=>zbn q89 r (zoh (za6 (zaa (zbd (zba (zaa (zab a) (zaa (zab a) (zaa (zbd (zba zae)) (zaa (zbd (zba zae)) zae)))))) zae)) a))))) (zag (zam zee)) za5) (zad (zal t (zfy (fun _ _=>zai c83 r (zaa (zab a) zae)))) (zad (zal t (zpo (zfy (fun _ _=>zbm (zgr (zbd (zku c75 r (zaa (zab a) zae))) zaf) zaf)) (fun _ _=>zaf) a)) (zad (zal t (zbd (zba (zaa (zcs (zaa zaf (zaa (zak zaf a) (zaa (zab a) zae)))) zae)))) (zag (zam (zut (zai c78 r (zaa (zte l68008 r a) (zaa (zab a) zae))) (zus (zfy (fun _ _=>zbn q89 r (zoh (za6 (zaa (zbd (zba (zaa (zab a) (zaa (zbd (zjf (zab a) (zbd (zba (zaa (zcs (zaa zma zae)) zae))))) (zaa (zbd (zba zae)) (zaa (zab a) zae)))))) zae)) a)))))))))))))))))
end S_rotstacks_k20_tell
namespace S_rotstacks_k20_tell
open PySem L2 LB
abbrev EV(ns cs:List Int)(n:Nat)(k:List Deed)(p:List Hs)(s:Hs)(v6 v7 v8 v9 v10 v11 v12 v13 v14:Option Sl):DE0:=[some (.sh (.lst (ns.map D.int))),some (.sh (.lst (cs.map D.int))),some (.sh (.int n)),some (.ag kH none (hP k (p++[s]))),some (.o2 (dsO s.1)),some (.ow (k.map dD)),v6,v7,v8,v9,v10,v11,v12,v13,v14,none,none]
theorem puts(ns cs:List Int)(n t:Nat)(hn5:1<=n/\n<=5)(ht:t<=14)(hcl:cs.length=24):∃k p s v6 v7 v8 v9,forL 6 zo2 (rngD 0 t) (EV ns cs n [] [] (newS n) none none none none none none none none none)=some (.nx,EV ns cs n k p s v6 v7 v8 v9 none none none none none)/\k.length=t/\p.length=t/\zh8 k=(t:Int)+1/\s.2=[]/\s.1.length=n/\s.1.flatten.length=t/\∀x∈s.1.flatten,zbg x:=by
 obtain⟨e',h1,k,p,s,v6,v7,v8,v9,hk,hp,hnx,hs2,hsl,hsf,hg,rfl⟩:=zcm (i:=6) (g:=zo2) (fun i e=>∃k p s v6 v7 v8 v9,k.length=i/\p.length=i/\zh8 k=(i:Int)+1/\s.2=[]/\s.1.length=n/\s.1.flatten.length=i/\(∀x∈s.1.flatten,zbg x)/\e=EV ns cs n k p s v6 v7 v8 v9 none none none none none)
  (rngD 0 t) (EV ns cs n [] [] (newS n) none none none none none none none none none) ⟨[],[],newS n,none,none,none,none,rfl,rfl,rfl,rfl,by simp[newS],by simp[newS],by simp[newS],rfl⟩ (by
    rintro i d e hdd ⟨k,p,s,v6,v7,v8,v9,hk,hp,hnx,hs2,hsl,hsf,hg,rfl⟩
    obtain⟨rfl,hi⟩:=zdj hdd
    have ai:atI (cs.map D.int) (1+(0+(i:Int)))=some (.int cs[1+i]):=by
     rw[show(1:Int)+(0+(i:Int))=((1+i:Nat):Int) by omega]
     exact zbp D.int (List.getElem?_eq_getElem (by omega))
    generalize cs[1+i]=c at *
    obtain⟨a,ha,ha1⟩:∃a:Nat,1+c / 6060 % (n:Int)=(a:Int)/\(1<=a/\a<=n):=by
     have:=Int.emod_nonneg (c / 6060) (show(n:Int)≠0 by omega)
     have:=Int.emod_lt_of_pos (c / 6060) (show(0:Int)<n by omega)
     exact⟨(1+c / 6060 % (n:Int)).toNat,by omega,by omega⟩
    have hmod:∀z:Int,dMod (.int z) (.int (n:Int))=some (.int (z % n)):=fun z=>by unfold dMod;exact if_pos (by omega)
    have hat:a-1<s.1.length:=by omega
    have d60:∀z:Int,dDiv (.int z) (.int 60)=some (.int (z / 60)):=fun z=>by unfold dDiv;exact if_pos ⟨by decide,by decide⟩
    have d6060:∀z:Int,dDiv (.int z) (.int 6060)=some (.int (z / 6060)):=fun z=>by unfold dDiv;exact if_pos ⟨by decide,by decide⟩
    have m60:∀z:Int,dMod (.int z) (.int 60)=some (.int (z % 60)):=fun z=>by unfold dMod;exact if_pos (by decide)
    have m101:∀z:Int,dMod (.int z) (.int 101)=some (.int (z % 101)):=fun z=>by unfold dMod;exact if_pos (by decide)
    obtain⟨hh,eh,hb1⟩:∃hh:Int,1+c % 60=hh/\1<=hh/\hh<=60:=⟨_,rfl,by omega,by omega⟩
    obtain⟨ll,el,hb2⟩:∃ll:Int,c / 60 % 101=ll/\0<=ll/\ll<=100:=⟨_,rfl,by omega,by omega⟩
    have hpx:putX s.1 k.length a hh ll=none:=by
     unfold putX
     rw[if_neg (by omega),if_neg (by omega),if_neg (by omega),if_pos (by omega),if_pos (by omega)]
    have pk:=z4u (k:=k) (p:=p) (s:=s) hpx (by omega) (by omega)
    rw[hnx] at pk
    have pm:=zwa (x:=((i:Int)+1,hh,ll)) hat
    have pp:=zmy (x:=((i:Int)+1,hh,ll)) hat
    have hsa:s.1[a-1]?=some (s.1.getD (a-1) []):=by rw[List.getD_eq_getElem?_getD,List.getElem?_eq_getElem hat];rfl
    have tll:(s.1.getD (a-1) []).length<=14:=by
     have:=zlb (List.mem_of_getElem? hsa)
     omega
    have hc:=z1x (e:=[some (.sh (.lst (ns.map D.int))),some (.sh (.lst (cs.map D.int))),some (.sh (.int n)),some (.ag kH none (hP (k++[Deed.put a hh ll]) (p++[s]++[(putS s.1 a ((i:Int)+1,hh,ll),s.2)]))),some (.o2 (dsO s.1)),some (.ow (k.map dD)),some (.sh (.int (0+(i:Int)))),some (.sh (.int c)),some (.sh (.tup [.str "put",.int a,.int hh,.int ll])),some (.sh (.int ((i:Int)+1))),none,none,none,none,none,none,none]) (i:=4) (j:=8) (q:=9) (m:=(i:Int)+1) rfl rfl rfl hsa ha1.1 (by omega)
    have r1:fK kH 3 (ze5 ze8 [3] (zac (fIxV 8 (fC (.int 1))) (zac (fIxV 8 (fC (.int 2))) (zac (fIxV 8 (fC (.int 3))) fNil)))) [some (.sh (.lst (ns.map D.int))),some (.sh (.lst (cs.map D.int))),some (.sh (.int n)),some (.ag kH none (hP k (p++[s]))),some (.o2 (dsO s.1)),some (.ow (k.map dD)),some (.sh (.int (0+(i:Int)))),some (.sh (.int c)),some (.sh (.tup [.str "put",.int a,.int hh,.int ll])),v9,none,none,none,none,none,none,none]=some (.int ((i:Int)+1),[some (.sh (.lst (ns.map D.int))),some (.sh (.lst (cs.map D.int))),some (.sh (.int n)),some (.ag kH none (hP (k++[Deed.put a hh ll]) (p++[s]++[(putS s.1 a ((i:Int)+1,hh,ll),s.2)]))),some (.o2 (dsO s.1)),some (.ow (k.map dD)),some (.sh (.int (0+(i:Int)))),some (.sh (.int c)),some (.sh (.tup [.str "put",.int a,.int hh,.int ll])),v9,none,none,none,none,none,none,none]):=by
     rw[zyf (ps:=hP k (p++[s])) (l:=none) rfl]
     exact zra (ps:=hP k (p++[s])) (l:=none) (ds:=[.int a,.int hh,.int ll]) rfl rfl pk.2
    have k8:ixN (dsO s.1).length ((a:Int)-1)=some (a-1):=by
     rw[zeh (by omega) (by unfold dsO;rw[List.length_map];omega)];congr 1;omega
    have k9:(dsO s.1).set (a-1) ((((i:Int)+1,hh,ll)::s.1.getD (a-1) []).map sD)=dsO (putS s.1 a ((i:Int)+1,hh,ll)):=by
     unfold putS dsO
     rw[List.map_set]
    have a1:atI [D.str "put",.int a,.int hh,.int ll] 1=some (.int a):=rfl
    have fk:Few ((k.map dD).length+1):=few (by rw[List.length_map];omega)
    have e5:(k++[Deed.put a hh ll]).map dD=k.map dD++[.tup [.str "put",.int a,.int hh,.int ll]]:=by simp[dD]
    refine⟨EV ns cs n (k++[Deed.put a hh ll]) (p++[s]) (putS s.1 a ((i:Int)+1,hh,ll),s.2) (some (.sh (.int (0+(i:Int))))) (some (.sh (.int c))) (some (.sh (.tup [.str "put",.int a,.int hh,.int ll]))) (some (.sh (.int ((i:Int)+1)))) none none none none none,?_,?_⟩
    ·unfold EV
     dsimp only
     rw[← k9,e5]
     generalize (((i:Int)+1,hh,ll)::s.1.getD (a-1) []).map sD=NL at *
     generalize dsO s.1=SL at *
     generalize k.map dD=KL at *
     generalize hP (k++[Deed.put a hh ll]) (p++[s]++[(putS s.1 a ((i:Int)+1,hh,ll),s.2)])=HP' at *
     simp only[zo2,sSeq,sSet,fIxV,fBin,fC,fVar,List.getElem?_cons_succ,List.getElem?_cons_zero,List.set_cons_succ,List.set_cons_zero,ixSl,zav,ai,Option.bind_some,Option.map_some,m60,m101,d60,d6060,hmod,ha,eh,el,fTup,zac,fNil,List.length_cons,List.length_nil,show 0+1+1+1+1<=64 by decide,if_true]
     simp only[r1,fIxV,fBin,fC,fVar,Option.bind_some,Option.map_some,List.set_cons_succ,List.set_cons_zero,zx0,hc,List.getElem?_cons_succ,List.getElem?_cons_zero,frsE,frs1,List.map_cons,List.map_nil,ixSl,a1,dSub,k8,za7,zbi,zj9,fk,if_true]
    ·refine⟨k++[Deed.put a hh ll],p++[s],(putS s.1 a ((i:Int)+1,hh,ll),s.2),(some (.sh (.int (0+(i:Int))))),(some (.sh (.int c))),(some (.sh (.tup [.str "put",.int a,.int hh,.int ll]))),(some (.sh (.int ((i:Int)+1)))),by simp;omega,by simp;omega,?_,hs2,by rw[zyk];exact hsl,by dsimp only;omega,?_,rfl⟩
     ·unfold zh8 at hnx ⊢
      rw[List.filter_append,show[Deed.put a hh ll].filter Deed.isPut=[Deed.put a hh ll] from rfl]
      simp
      omega
     ·intro x hx
      rcases List.mem_cons.mp (pp.mem_iff.mp hx) with rfl | hx
      ·exact⟨by omega,by dsimp only;omega,hb1.1,hb1.2,hb2.1,hb2.2⟩
      ·exact hg x hx)
 rw[zb0] at hk hp hsf hnx
 exact⟨k,p,s,v6,v7,v8,v9,h1,hk,hp,hnx,hs2,hsl,hsf,hg⟩
def zlr(s:Hs)(a m:Nat)(t:List Sk)(x:Sk)(l:Int):Hs:=(s.1.set (a-1) (t.set (m-1) (x.1,x.2.1,l)),s.2)
variable{ss:List (List Sk)}{t:List Sk}{x:Sk}
theorem zyt{j i:Nat}{y:Sk}(h:ss[j]?=some t)(hx:t[i]?=some x):(ss.set j (t.set i y)).flatten.length=ss.flatten.length/\∀z∈(ss.set j (t.set i y)).flatten,z∈ss.flatten\/z=y:=by
 induction ss generalizing j with
 | nil=>simp at h
 | cons r ss ih =>
   cases j with
   | zero =>
     simp at h;subst h
     refine⟨by simp,fun z hz=>?_⟩
     rw[List.set_cons_zero,List.flatten_cons] at hz
     rcases List.mem_append.mp hz with hz | hz
     ·rcases List.mem_or_eq_of_mem_set hz with hz | hz
      ·exact .inl (List.mem_append_left _ hz)
      ·exact .inr hz
     ·exact .inl (List.mem_append_right _ hz)
   | succ j =>
     obtain⟨h1,h2⟩:=ih (j:=j) (by simpa using h)
     rw[List.set_cons_succ,List.flatten_cons,List.flatten_cons]
     refine⟨by simp only[List.length_append,h1],fun z hz=>?_⟩
     rcases List.mem_append.mp hz with hz | hz
     ·exact .inl (List.mem_append_left _ hz)
     ·exact(h2 z hz).imp (List.mem_append_right _) id
variable{e:DE0}{a:Nat}
theorem z12{c:Int}(h4:e[4]?=some (some (.o2 (dsO ss))))(h7:e[7]?=some (some (.sh (.int c))))(h11:e[11]?=some (some (.sh (.int ((a:Int)-1)))))(ht:ss[a-1]?=some t)(l1:1<=a)(hl:0<t.length) :
  fFrz false (fBin dMod (fBin dDiv (fVar 7) (fC (.int 505))) (zah bLen (zac (fIxV 4 (fVar 11)) (fNil)))) e=some (.int (c / 505 % t.length),e):=by
 have k7:=zq7 ht l1
 have g4:=zkq h4
 have g7:=zll h7
 have g11:=zll h11
 have d1:dDiv (.int c) (.int 505)=some (.int (c / 505)):=zn7 (by decide) (by decide)
 have hlen:((t.map sD).length:Int)=t.length:=by rw[List.length_map]
 have d2:dMod (.int (c / 505)) (.int ((t.map sD).length:Int))=some (.int (c / 505 % t.length)):=by rw[hlen];exact zkx (by omega)
 unfold fFrz
 unfold ssL at g4
 generalize frz false e=E at *
 generalize t.map sD=TL at *
 generalize (ss.map fun s=>D.lst (s.map sD))=SL at *
 simp only[fBin,fVar,fC,zah,zac,fIxV,ixSl,fNil,g4,g7,g11,k7,Option.bind_some,Option.map_some,bLen,d1,d2,noL,if_true]
theorem z41{m:Nat}(h4:e[4]?=some (some (.o2 (dsO ss))))(h11:e[11]?=some (some (.sh (.int ((a:Int)-1)))))(h12:e[12]?=some (some (.sh (.int ((m:Int)-1)))))(ht:ss[a-1]?=some t)(l1:1<=a)(hx:t[m-1]?=some x)(m1:1<=m) :
  fFrz false (fBin dIx (fIxV 4 (fVar 11)) (fVar 12)) e=some (sD x,e):=by
 have k7:=zq7 ht l1
 have g4:=zkq h4
 have g11:=zll h11
 have g12:=zll h12
 have k8:atI (t.map sD) ((m:Int)-1)=some (sD x):=by
  rw[show(m:Int)-1=((m-1:Nat):Int) by omega]
  exact zbp sD hx
 unfold fFrz
 unfold ssL at g4
 generalize frz false e=E at *
 generalize t.map sD=TL at *
 generalize (ss.map fun s=>D.lst (s.map sD))=SL at *
 simp only[fBin,fVar,fIxV,ixSl,g4,g11,g12,k7,k8,Option.bind_some,Option.map_some,dIx]
 rfl
theorem z6b(ns cs:List Int)(n t m:Nat)(hn5:1<=n/\n<=5)(ht:1<=t/\t<=14)(hm:m<=8)(hcl:cs.length=24)(k0:List Deed)(p0:List Hs)(s0:Hs)(hk0:k0.length=t)(hp0:p0.length=t)(hs02:s0.2=[])(hs0l:s0.1.length=n)(hs0f:s0.1.flatten.length=t)(hg0:∀x∈s0.1.flatten,zbg x)(u6 u7 u8 u9:Option Sl) :
  ∃k p s v6 v7 v10 v11 v12 v13 v14,forL 6 zo3 (rngD 0 m) (EV ns cs n k0 p0 s0 u6 u7 u8 u9 none none none none none)=some (.nx,EV ns cs n k p s v6 v7 u8 u9 v10 v11 v12 v13 v14)/\k.length=t+m/\p.length=t+m/\s.2=[]/\s.1.length=n/\s.1.flatten.length=t/\∀x∈s.1.flatten,zbg x:=by
 obtain⟨e',h1,k,p,s,v6,v7,v10,v11,v12,v13,v14,hk,hp,hs2,hsl,hsf,hg,rfl⟩:=zcm (i:=6) (g:=zo3) (fun i e=>∃k p s v6 v7 v10 v11 v12 v13 v14,k.length=t+i/\p.length=t+i/\s.2=[]/\s.1.length=n/\s.1.flatten.length=t/\(∀x∈s.1.flatten,zbg x)/\e=EV ns cs n k p s v6 v7 u8 u9 v10 v11 v12 v13 v14)
  (rngD 0 m) (EV ns cs n k0 p0 s0 u6 u7 u8 u9 none none none none none) ⟨k0,p0,s0,u6,u7,none,none,none,none,none,hk0,hp0,hs02,hs0l,hs0f,hg0,rfl⟩ (by
    rintro i d e hdd ⟨k,p,s,v6,v7,v10,v11,v12,v13,v14,hk,hp,hs2,hsl,hsf,hg,rfl⟩
    obtain⟨rfl,hi⟩:=zdj hdd
    have ai:atI (cs.map D.int) (15+(0+(i:Int)))=some (.int cs[15+i]):=by
     rw[show(15:Int)+(0+(i:Int))=((15+i:Nat):Int) by omega]
     exact zbp D.int (List.getElem?_eq_getElem (by omega))
    generalize cs[15+i]=c at *
    have hbn:=zyq (ss:=s.1) (by omega)
    obtain⟨b,hb,hb1⟩:∃b:Nat,c / 101 % ((zd9 s.1).length:Int)=(b:Int)/\b<(zd9 s.1).length:=by
     have:=Int.emod_nonneg (c / 101) (show((zd9 s.1).length:Int)≠0 by omega)
     have:=Int.emod_lt_of_pos (c / 101) (show(0:Int)<(zd9 s.1).length by omega)
     exact⟨(c / 101 % ((zd9 s.1).length:Int)).toNat,by omega,by omega⟩
    obtain⟨x0,tl0,hx0⟩:=zwf (List.getElem_mem hb1)
    have hbs:atI ((zd9 s.1).map (fun j:Nat=>D.int (0+(j:Int)))) (b:Int)=some (.int (0+((zd9 s.1)[b]:Int))):=zbp (fun j:Nat=>D.int (0+(j:Int))) (List.getElem?_eq_getElem hb1)
    have hlb:(((zd9 s.1).map (fun j:Nat=>D.int (0+(j:Int)))).length:Int)=((zd9 s.1).length:Int):=by rw[List.length_map]
    have d101:dDiv (.int c) (.int 101)=some (.int (c / 101)):=zn7 (by decide) (by decide)
    have m101:dMod (.int c) (.int 101)=some (.int (c % 101)):=zkx (by decide)
    have hdm:dMod (.int (c / 101)) (.int ((zd9 s.1).length:Int))=some (.int b):=by rw[zkx (by omega),hb]
    obtain⟨a,ea⟩:∃a,a=(zd9 s.1)[b]+1:=⟨_,rfl⟩
    have hsp:(0:Int)+((zd9 s.1)[b]:Int)=(a:Int)-1:=by omega
    rw[show(zd9 s.1)[b]=a-1 by omega] at hx0
    rw[hsp] at hbs
    have l1:1<=a:=by omega
    obtain⟨t1,et1⟩:∃t1,t1=x0::tl0:=⟨_,rfl⟩
    have tp:0<t1.length:=by rw[et1];simp
    rw[← et1] at hx0
    clear et1
    obtain⟨y,hy,hy1⟩:∃y:Nat,c / 505 % (t1.length:Int)=(y:Int)-1/\(1<=y/\y<=t1.length):=by
     have:=Int.emod_nonneg (c / 505) (show(t1.length:Int)≠0 by omega)
     have:=Int.emod_lt_of_pos (c / 505) (show(0:Int)<t1.length by omega)
     exact⟨(c / 505 % (t1.length:Int)).toNat+1,by omega,by omega⟩
    have hxx:t1[y-1]?=some t1[y-1]:=List.getElem?_eq_getElem (by omega)
    obtain⟨x,ex⟩:∃x,x=t1[y-1]:=⟨_,rfl⟩
    rw[← ex] at hxx
    obtain⟨ll,el,hb2⟩:∃ll:Int,c % 101=ll/\0<=ll/\ll<=100:=⟨_,rfl,by omega,by omega⟩
    rw[el] at m101
    have trow:t1.length<=14:=by have:=zlb (List.mem_of_getElem? hx0);omega
    have gk:zc8 [hA k (p++[s])] [.int (a:Int),.int (y:Int),.int ll]=some (.int x.2.2,[hA (k++[.tell a y ll]) (p++[s]++[zlr s a y t1 x ll])]):=(z1w (k:=k) (p:=p) (s:=s) hx0 hxx l1 hy1.1 hb2.1 hb2.2 (by omega) (by omega) (by omega) (by omega)).2
    obtain⟨f1,f2⟩:=zyt (y:=(x.1,x.2.1,ll)) hx0 hxx
    have gx:zbg x:=hg x (List.mem_flatten.mpr ⟨_,List.mem_of_getElem? hx0,List.mem_of_getElem? hxx⟩)
    have q1:=z10 (e:=EV ns cs n k p s (some (.sh (.int (0+(i:Int))))) (some (.sh (.int c))) u8 u9 v10 v11 v12 v13 v14) (n:=2) (i:=4) (ss:=s.1) (by rw[hsl];rfl) rfl (by omega)
    have q2:=z12 (e:=EV ns cs n k p s (some (.sh (.int (0+(i:Int))))) (some (.sh (.int c))) u8 u9 (some (.sh (.lst ((zd9 s.1).map (fun j:Nat=>D.int (0+(j:Int))))))) (some (.sh (.int ((a:Int)-1)))) v12 v13 v14) (a:=a) (c:=c) rfl rfl rfl hx0 l1 tp
    rw[hy] at q2
    have q3:=z41 (e:=EV ns cs n k p s (some (.sh (.int (0+(i:Int))))) (some (.sh (.int c))) u8 u9 (some (.sh (.lst ((zd9 s.1).map (fun j:Nat=>D.int (0+(j:Int))))))) (some (.sh (.int ((a:Int)-1)))) (some (.sh (.int ((y:Int)-1)))) v13 v14) (a:=a) (m:=y) rfl rfl rfl hx0 l1 hxx hy1.1
    have q4:fK kH 3 (ze5 zc8 [3] (zac (fBin zav (fVar 11) (fC (.int 1))) (zac (fBin zav (fVar 12) (fC (.int 1))) (zac (fBin dMod (fVar 7) (fC (.int 101))) fNil)))) (EV ns cs n k p s (some (.sh (.int (0+(i:Int))))) (some (.sh (.int c))) u8 u9 (some (.sh (.lst ((zd9 s.1).map (fun j:Nat=>D.int (0+(j:Int))))))) (some (.sh (.int ((a:Int)-1)))) (some (.sh (.int ((y:Int)-1)))) (some (.sh (sD x))) v14)=some (.int x.2.2,[some (.sh (.lst (ns.map D.int))),some (.sh (.lst (cs.map D.int))),some (.sh (.int n)),some (.ag kH none (hP (k++[.tell a y ll]) (p++[s]++[zlr s a y t1 x ll]))),some (.o2 (dsO s.1)),some (.ow (k.map dD)),some (.sh (.int (0+(i:Int)))),some (.sh (.int c)),u8,u9,some (.sh (.lst ((zd9 s.1).map (fun j:Nat=>D.int (0+(j:Int)))))),some (.sh (.int ((a:Int)-1))),some (.sh (.int ((y:Int)-1))),some (.sh (sD x)),v14,none,none]):=by
     rw[zyf (ps:=hP k (p++[s])) (l:=none) rfl]
     exact zra (ps:=hP k (p++[s])) (l:=none) (ds:=[.int (a:Int),.int (y:Int),.int ll]) rfl (by
      unfold EV
      simp only[zac,fBin,fVar,fC,fNil,List.getElem?_cons_zero,List.getElem?_cons_succ,Option.bind_some,Option.map_some,zav,m101,show(a:Int)-1+1=(a:Int) by omega,show(y:Int)-1+1=(y:Int) by omega]) gk
    have wh:=zgl x.2.2
    have e5:(k++[Deed.tell a y ll]).map dD=k.map dD++[.tup [.str "tell",.int (a:Int),.int (y:Int),.int ll]]:=by simp[dD]
    have fk:Few ((k.map dD).length+1):=few (by rw[List.length_map];omega)
    have k8:ixN (dsO s.1).length ((a:Int)-1)=some (a-1):=by
     have:=(List.getElem?_eq_some_iff.mp hx0).1
     rw[zeh (by omega) (by unfold dsO;rw[List.length_map];omega)];congr 1;omega
    have k9:(dsO s.1)[a-1]?=some (t1.map sD):=by unfold dsO;rw[List.getElem?_map,hx0];rfl
    have k10:ixN (t1.map sD).length ((y:Int)-1)=some (y-1):=by
     rw[zeh (by omega) (by rw[List.length_map];omega)];congr 1;omega
    have k11:(dsO s.1).set (a-1) ((t1.map sD).set (y-1) (.tup [.int x.1,.int x.2.1,.int ll]))=dsO (zlr s a y t1 x ll).1:=by
     unfold dsO zlr
     rw[List.map_set,List.map_set]
     rfl
    have hrow':∀z∈(zlr s a y t1 x ll).1,z.length<=1000:=fun z hz=>by have:=zlb hz;have:(zlr s a y t1 x ll).1.flatten.length=(s.1.set (a-1) (t1.set (y-1) (x.1,x.2.1,ll))).flatten.length:=rfl;omega
    have q6:=zyp (e:=EV ns cs n (k++[Deed.tell a y ll]) (p++[s]) (zlr s a y t1 x ll) (some (.sh (.int (0+(i:Int))))) (some (.sh (.int c))) u8 u9 (some (.sh (.lst ((zd9 s.1).map (fun j:Nat=>D.int (0+(j:Int))))))) (some (.sh (.int ((a:Int)-1)))) (some (.sh (.int ((y:Int)-1)))) (some (.sh (sD x))) (some (.sh (.int x.2.2)))) (i:=3) (j:=4) (l:=none) rfl rfl (by unfold zlr;rw[List.length_set];omega) hrow'
    refine⟨EV ns cs n (k++[Deed.tell a y ll]) (p++[s]) (zlr s a y t1 x ll) (some (.sh (.int (0+(i:Int))))) (some (.sh (.int c))) u8 u9 (some (.sh (.lst ((zd9 s.1).map (fun j:Nat=>D.int (0+(j:Int))))))) (some (.sh (.int ((a:Int)-1)))) (some (.sh (.int ((y:Int)-1)))) (some (.sh (sD x))) (some (.sh (.int x.2.2))),?_,k++[Deed.tell a y ll],p++[s],zlr s a y t1 x ll,some (.sh (.int (0+(i:Int)))),some (.sh (.int c)),some (.sh (.lst ((zd9 s.1).map (fun j:Nat=>D.int (0+(j:Int)))))),some (.sh (.int ((a:Int)-1))),some (.sh (.int ((y:Int)-1))),some (.sh (sD x)),some (.sh (.int x.2.2)),by simp;omega,by simp;omega,hs2,by unfold zlr;rw[List.length_set];exact hsl,by show(s.1.set (a-1) (t1.set (y-1) (x.1,x.2.1,ll))).flatten.length=t;omega,fun z hz=>?_,rfl⟩
    ·unfold EV at *
     rw[e5] at q6 ⊢
     rw[← k11] at q6 ⊢
     rw[← hlb] at hdm
     have a0:atI [D.int x.1,.int x.2.1,.int x.2.2] 0=some (.int x.1):=rfl
     have a1:atI [D.int x.1,.int x.2.1,.int x.2.2] 1=some (.int x.2.1):=rfl
     have a2:atI [D.int x.1,.int x.2.1,.int x.2.2] 2=some (.int x.2.2):=rfl
     generalize t1.map sD=TL at *
     unfold sD at q3 q4 q6
     generalize (zd9 s.1).map (fun j:Nat=>D.int (0+(j:Int)))=BL at *
     generalize dsO s.1=SL at *
     generalize k.map dD=KL at *
     generalize hP (k++[Deed.tell a y ll]) (p++[s]++[zlr s a y t1 x ll])=HP' at *
     simp only[show sD x=D.tup [.int x.1,.int x.2.1,.int x.2.2] from rfl]
     simp only[zo3,sSeq,sSet,fLst,List.set_cons_succ,List.set_cons_zero,q1,Option.bind_some,Option.map_some,fIxV,fBin,fC,fVar,za9,List.getElem?_cons_succ,List.getElem?_cons_zero,ixSl,zav,ai,d101,hdm,hbs,q2,q3]
     simp only[q4,sIf,fNot,fOr,fTst,zah,zac,fNil,Option.bind_some,Option.map_some,wh,Bool.not_true,Bool.false_eq_true,if_false,fBin,dNe,fIxV,ixSl,a0,a1,a2,fVar,fC,List.getElem?_cons_succ,List.getElem?_cons_zero,List.set_cons_succ,List.set_cons_zero,decide_true,sNil,zsb,frsE,frs1,List.map_cons,List.map_nil,k8,k9,k10,m101,fTup,List.length_cons,List.length_nil,show 0+1+1+1<=64 by decide,show 0+1+1+1+1<=64 by decide,if_true,za7,zbi,zj9,zav,show(a:Int)-1+1=(a:Int) by omega,show(y:Int)-1+1=(y:Int) by omega,fk,q6]
    ·rcases f2 z hz with hz | rfl
     ·exact hg z hz
     ·exact⟨gx.1,gx.2.1,gx.2.2.1,gx.2.2.2.1,hb2.1,hb2.2⟩)
 rw[zb0] at hk hp
 exact⟨k,p,s,v6,v7,v10,v11,v12,v13,v14,h1,hk,hp,hs2,hsl,hsf,hg⟩
theorem z6c{os:List Nat}(h4:e[4]?=some (some (.o2 (dsO ss))))(ht:zcz [ssL ss]=some (iD (a::os))):fFrz false (fBin dSub (fBin dIx (fLst (zao zcz (zac (fVar 4) (fNil)))) (fC (.int 0))) (fC (.int 1))) e=some (.int ((a:Int)-1),e):=by
 have at0:atI (iD (a::os)) 0=some (.int (a:Int)):=by unfold iD;exact zbp (k:=0) (fun n:Nat=>D.int (n:Int)) rfl
 have g4:=zkq h4
 unfold fFrz
 generalize frz false e=E at *
 generalize iD (a::os)=OS at *
 simp only[fBin,fLst,zao,zac,fVar,fNil,fC,g4,Option.bind_some,Option.map_some,ht,dIx,at0,dSub]
 rfl
theorem z13{k:List Deed}{p:List Hs}{s:Hs}{d:D}(h:e[3]?=some (some (.ag kH none (hP (k++[Deed.dry]) (p++[s])))))(hj:e[4]?=some (some (.o2 (dsO s.1))))(hq:e[5]?=some (some (.ow (k.map dD))))(h16:e[16]?=some (some (.sh (spL s.2))))(hk:k.length<=100)(st:zbw [hA (k++[Deed.dry]) (p++[s])] [.lst [ssL s.1,.lst ((k++[Deed.dry]).map dD),.lst [],spL s.2]]=some (.bl true)) :
  fFrz false (zar zbw [3] (zac (fLst (zat (zac (fVar 4) (zac (fLst (fCat (fVar 5) (fLst (zat (zac (fTup (zac (fC (.str "dry")) (fNil))) (fNil)))))) (zac (fLst (zat (fNil))) (zac (fVar 16) (fNil))))))) (fNil))) e=some (.bl true,e):=by
 have g4:=zkq hj
 have g5:=zzi hq
 have g16:=zll h16
 have e5:(k++[Deed.dry]).map dD=k.map dD++[.tup [.str "dry"]]:=by simp[dD]
 have fk:Few ((k.map dD).length+(0+1)):=few (by rw[List.length_map];omega)
 rw[e5] at st
 unfold fFrz
 rw[zh5 (zmx h) (r:=([.lst [ssL s.1,.lst (k.map dD++[.tup [.str "dry"]]),.lst [],spL s.2]],frz false e)) (by
  generalize frz false e=E at *
  generalize k.map dD=KL at *
  simp only[zac,fLst,zat,fCat,fTup,fC,fVar,fNil,g4,g5,g16,Option.bind_some,Option.map_some,List.length_cons,List.length_nil,Nat.zero_le,if_true,show 0+1<=64 by decide,show 0+1+1+1+1<=64 by decide,fk]) (zmx h),st]
 rfl
theorem good(ns:List Int)(hn:ns.length<=63):z40 [.lst (ns.map D.int)]=some (.bl true):=by
 obtain⟨cs,hcl,hd⟩:=zx3 ns 24 (by omega)
 have hd:ze6 [.lst (ns.map D.int),.int 24]=some (.lst (cs.map D.int)):=hd
 obtain⟨n,hn1,hn5⟩:∃n:Nat,(1:Int)+cs[0] % 5=(n:Int)/\(1<=n/\n<=5):=⟨(1+cs[0] % 5).toNat,by omega,by omega⟩
 obtain⟨t,ht,ht14⟩:∃t:Nat,(14:Int)-cs[0] / 5 % 14=(t:Int)/\(1<=t/\t<=14):=⟨(14-cs[0] / 5 % 14).toNat,by omega,by omega⟩
 obtain⟨m,hm,hm1⟩:∃m:Nat,(1:Int)+cs[0] / 70 % 8=(m:Int)/\(1<=m/\m<=8):=⟨(1+cs[0] / 70 % 8).toNat,by omega,by omega⟩
 have a0:atI (cs.map D.int) 0=some (.int cs[0]):=zbp (k:=0) D.int (by simp[hcl])
 obtain⟨k0,p0,s0,u6,u7,u8,u9,h1,hk0,hp0,hnx0,hs02,hs0l,hs0f,hg0⟩:=puts ns cs n t hn5 ht14.2 hcl
 obtain⟨k,p,s,v6,v7,v10,v11,v12,v13,v14,h2,hk,hp,hs2,hsl,hsf,hg⟩:=z6b ns cs n t m hn5 ht14 hm1.2 hcl k0 p0 s0 hk0 hp0 hs02 hs0l hs0f hg0 u6 u7 u8 u9
 have q1:=zys (e:=EV ns cs n k p s v6 v7 u8 u9 v10 v11 v12 v13 v14) (i:=3) (j:=4) (q:=5) (l:=none) rfl rfl rfl hs2 hg (by omega) (by omega) (by omega)
 obtain⟨a,os,x,tl,hto,htl2,hw,hx,l1,l2,hol⟩:=zyr s.1 hg (by omega) (by omega) (by omega)
 have hrow:∀y∈s.1,y.length<=1000:=fun y hy=>by have:=zlb hy;omega
 have htl:tl.length<=900:=by have:=zlb (List.mem_of_getElem? hx);rw[List.length_cons] at this;omega
 have gx:=hg x (List.mem_flatten.mpr ⟨_,List.mem_of_getElem? hx,by simp⟩)
 have dk:=(z4v (k:=k) (p:=p) (s:=s) hto hx l1 (by omega) (by omega) (by omega) hrow (by rw[hs2];decide) (by omega)).2
 have hsp:(dryS s a x tl).2=[(0,x.2.1,lss s.1.flatten)]:=by unfold dryS;dsimp only;rw[hs2];show[]++[((0:Int),0+x.2.1,lss s.1.flatten)]=_;rw[Int.zero_add];rfl
 have hat2:a-1<(s.1.set (a-1) tl).length:=by rw[List.length_set];omega
 have pp2:=zmy (x:=x) hat2
 rw[z1y hx] at pp2
 have ppl2:=pp2.length_eq
 rw[List.length_cons] at ppl2
 have lb:=z1z s.1.flatten hg (by omega)
 have st:=zqf (k:=k++[Deed.dry]) (p:=p++[s]) (s:=dryS s a x tl) (X:=.lst []) (fun y hy=>hg y (pp2.mem_iff.mpr (List.mem_cons_of_mem _ hy))) (by show(s.1.set (a-1) tl).flatten.length<=14;omega) (by show(s.1.set (a-1) tl).length<=5;rw[List.length_set];omega) (by simp;omega) (by rw[hsp];exact⟨rfl,by have:=gx.2.2.1;dsimp only;omega,trivial⟩) (by rw[hsp];intro y hy;rw[List.mem_singleton.mp hy];exact lb) (by rw[hsp];show x.2.1<=100000;have:=gx.2.2.2.1;omega) (by rw[hsp,List.length_singleton];decide)
 have q3:=z4z (e:=EV ns cs n k p s v6 v7 u8 u9 v10 v11 v12 v13 v14) (j:=4) (ss:=s.1) rfl (by omega) hrow
 have q4:=z6a (e:=[some (.sh (.lst (ns.map D.int))),some (.sh (.lst (cs.map D.int))),some (.sh (.int n)),some (.ag kH none (hP k (p++[s]))),some (.o2 (dsO s.1)),some (.ow (k.map dD)),v6,v7,u8,u9,v10,v11,v12,v13,v14,some (.sh (.int (lss s.1.flatten))),none]) (i:=4) (a:=a) (g:=fFrz false (fBin dSub (fBin dIx (fLst (zao zcz (zac (fVar 4) (fNil)))) (fC (.int 0))) (fC (.int 1)))) rfl (z6c rfl htl2) hx l1 htl
 have q5:fK kH 3 (ze5 zfa [3] fNil) [some (.sh (.lst (ns.map D.int))),some (.sh (.lst (cs.map D.int))),some (.sh (.int n)),some (.ag kH none (hP k (p++[s]))),some (.o2 (dsO (s.1.set (a-1) tl))),some (.ow (k.map dD)),v6,v7,u8,u9,v10,v11,v12,some (.sh (sD x)),v14,some (.sh (.int (lss s.1.flatten))),some (.sh (.lst [.tup [.int 0,.int x.2.1,.int (lss s.1.flatten)]]))]=some (sD x,[some (.sh (.lst (ns.map D.int))),some (.sh (.lst (cs.map D.int))),some (.sh (.int n)),some (.ag kH none (hP (k++[Deed.dry]) (p++[s]++[dryS s a x tl]))),some (.o2 (dsO (s.1.set (a-1) tl))),some (.ow (k.map dD)),v6,v7,u8,u9,v10,v11,v12,some (.sh (sD x)),v14,some (.sh (.int (lss s.1.flatten))),some (.sh (.lst [.tup [.int 0,.int x.2.1,.int (lss s.1.flatten)]]))]):=by
  rw[zyf (ps:=hP k (p++[s])) (l:=none) rfl]
  exact zra (ps:=hP k (p++[s])) (l:=none) (ds:=[]) rfl rfl dk
 have q6:zbo [sD x,sD x]=some (.bl true):=zjz [x.1,x.2.1,x.2.2] (by simp)
 have q7:=z13 (e:=[some (.sh (.lst (ns.map D.int))),some (.sh (.lst (cs.map D.int))),some (.sh (.int n)),some (.ag kH none (hP (k++[Deed.dry]) (p++[s]++[dryS s a x tl]))),some (.o2 (dsO (s.1.set (a-1) tl))),some (.ow (k.map dD)),v6,v7,u8,u9,v10,v11,v12,some (.sh (sD x)),v14,some (.sh (.int (lss s.1.flatten))),some (.sh (.lst [.tup [.int 0,.int x.2.1,.int (lss s.1.flatten)]]))]) (d:=.non) rfl rfl rfl (by rw[hsp];rfl) (by omega) st
 have hr:=ze4 n (by omega)
 have hrt:=ze4 t (by omega)
 have hrm:=ze4 m (by omega)
 have hf:Few (rngD 0 n).length:=few (by rw[zb0];omega)
 have c:=ztg (rngD 0 n)
 have hlr:(rngD 0 n).map (fun _=>([]:List D))=dsO (newS n).1:=by
  unfold dsO newS
  rw[List.map_const',zb0,List.map_replicate,List.map_nil]
 rw[hlr] at c
 have d5:∀z:Int,dDiv (.int z) (.int 5)=some (.int (z / 5)):=fun z=>zn7 (by decide) (by decide)
 have d70:∀z:Int,dDiv (.int z) (.int 70)=some (.int (z / 70)):=fun z=>zn7 (by decide) (by decide)
 have m5:∀z:Int,dMod (.int z) (.int 5)=some (.int (z % 5)):=fun z=>zkx (by decide)
 have m14:∀z:Int,dMod (.int z) (.int 14)=some (.int (z % 14)):=fun z=>zkx (by decide)
 have m8:∀z:Int,dMod (.int z) (.int 8)=some (.int (z % 8)):=fun z=>zkx (by decide)
 have mk:=fun e=>z1n (n:=n) hn5.2 (F:=zac (fVar 2) fNil) (e:=some (.sh (.lst (ns.map D.int)))::some (.sh (.lst (cs.map D.int)))::some (.sh (.int n))::e) (e':=some (.sh (.lst (ns.map D.int)))::some (.sh (.lst (cs.map D.int)))::some (.sh (.int n))::e) rfl
 have ax1:atI [D.int x.1,.int x.2.1,.int x.2.2] 1=some (.int x.2.1):=rfl
 suffices hz:∃e',z11 [some (.sh (.lst (ns.map D.int))),none,none,none,none,none,none,none,none,none,none,none,none,none,none,none,none]=some (.rt (.bl true),e') from let ⟨_,hz⟩:=hz;za4 rfl hz
 unfold EV at h1 h2 q1 q3
 rw[show hP [] ([]++[newS n])=hP [] [newS n] from rfl,show([]:List Deed).map dD=[] from rfl] at h1
 simp only[List.set_cons_succ,List.set_cons_zero] at q4
 generalize hP (k++[Deed.dry]) (p++[s]++[dryS s a x tl])=HP3 at *
 generalize hP k (p++[s])=HP1 at *
 generalize dsO (s.1.set (a-1) tl)=SL3 at *
 generalize dsO (newS n).1=SL0 at *
 generalize dsO s0.1=SL1 at *
 generalize dsO s.1=SL2 at *
 generalize rngD 0 n=RL at *
 generalize k0.map dD=KL0 at *
 generalize k.map dD=KL at *
 generalize lss s.1.flatten=LS at *
 unfold sD at *
 simp only[z11,sSeq,sSet,zah,zac,fVar,fC,fNil,List.getElem?_cons_zero,List.getElem?_cons_succ,List.set_cons_succ,List.set_cons_zero,Option.bind_some,Option.map_some,hd,fBin,fIxV,ixSl,a0,m5,zav,hn1,zxv,mk,zqn,sOwn,zkc,zao,hr,hf,if_true,List.map_nil,c,zat,List.length_nil,Nat.zero_le,sFor,d5,m14,dSub,ht,hrt,h1,d70,m8,hm,hrm,h2]
 simp only[sIf,fNot,fTst,q1,Option.bind_some,Option.map_some,Bool.not_true,Bool.false_eq_true,if_false,sNil,List.getElem?_cons_zero,List.getElem?_cons_succ,fC,List.set_cons_succ,List.set_cons_zero,fTup,zac,fNil,List.length_cons,List.length_nil,show 0+1+1+1<=64 by decide,show 0+1<=64 by decide,if_true,zah,fVar,fBin,q3,q4,fLst,zat,fIxV,ixSl,ax1,sRet,zmz,q5,q6,q7]
 exact⟨_,rfl⟩
end S_rotstacks_k20_tell
end
open PySem PySem.W PyProof.Rows
local macro_rules | `(tactic| walk_at "df") => `(tactic| (refine' L2.def_mk (by assumption) (by assumption) ?a ?l ?c ?k ?b; (case a => k_is); (case l => k_is); (case c => k_is); (case k => k_is); (case b => first | (exact fun us hl => match us, hl with | [_], _ => rfl) | (exact fun us hl => match us, hl with | [_, _], _ => rfl) | (exact fun us hl => match us, hl with | [_, _, _], _ => rfl) | (exact fun us hl => match us, hl with | [_, _, _, _], _ => rfl) | (exact fun us hl => match us, hl with | [_, _, _, _, _], _ => rfl))))
local macro_rules | `(tactic| walk_at "mf") => `(tactic| (refine' L2.mef_mk ?a ?l ?c ?k ?i ?b; (case a => k_is); (case l => k_is); (case c => k_is); (case k => k_is); (case i => k_is); (case b => first | (exact fun us hl => match us, hl with | [_], _ => rfl) | (exact fun us hl => match us, hl with | [_, _], _ => rfl) | (exact fun us hl => match us, hl with | [_, _, _], _ => rfl) | (exact fun us hl => match us, hl with | [_, _, _, _], _ => rfl))))
theorem PySem.Challenge.cw_rotstacks_k20_tell_holds : PySem.Challenge.rw_rotstacks_k20_tell.Holds := by
 refine headO ?_
 k_fill
 refine L2.walkD (k:=10) (s:="_law_script") (l:=PySem.Challenge.rw_rotstacks_k20_tell) ⟨rfl,by decide,by decide⟩ rfl rfl (fun w h Y=>PySem.W.kIn_of Y) ?F
 case F =>
  intro w mg fa h KX G hmg
  refine' L2.law_mk KX G hmg ?a ?l ?c ?k ?b (S_rotstacks_k20_tell.ok_all ?hT2 ?hT3 ?hT4 ?hT5 ?hT6 ?hT7 ?hT8 ?hT9 ?hT11 ?hT12 ?hT13 ?hT14 ?hT15 ?hT16 ?hT17 ?hT32 ?hT33 ?hT34 ?hT35 ?hT36 ?hT37 ?hT38 ?hT39 ?hT40 ?hT42 ?hT43 ?hT44 ?hT46 ?hT47 ?hT49 ?hT50 ?hT51 ?hT58 ?hT59 ?hT60 ?hT61 ?hT62 ?hT63 ?hT64 ?hT65 ?hT66 ?hT67 ?hT68001 ?hT68002 ?hT68003 ?hT68004 ?hT68005 ?hT68006 ?hT68010 ?hT68011 ?hT68012 ?hT68008 ?hT68013 ?hT68014 ?hT68015 ?hT68016 ?hT68019 ?hT68020 ?hT70 ?hT71 ?hT72 ?hT73 ?hT74 ?hT75 ?hT76 ?hT77 ?hT78 ?hT79 ?hT80 ?hT81 ?hT82 ?hT83 ?hT84 ?hT85 ?hT86 ?hT87 ?hT88 ?hT89 ?hhC ?hcs ?hmC ?hkC ?hpC ?hn_kept ?hn_states ?hx_BadCount ?hx_BadHours ?hx_BadLoss ?hx_DeedsFull ?hx_EmptyStack ?hx_HouseFull ?hx_NotGone ?hx_NothingWaits ?hx_UnknownPlace ?hx_UnknownStack ?hv_MOST_DEEDS ?hv_MOST_HOURS ?hv_MOST_LOSS ?hv_MOST_STACKS ?hv_MOST_WAITING ?hb_bool ?hb_enumerate ?hb_int ?hb_isinstance ?hb_len ?hb_list ?hb_max ?hb_min ?hb_range ?hb_str ?hb_sum ?hb_tuple ?hb_zip) S_rotstacks_k20_tell.good
  (case a=>k_is)
  (case l=>k_is)
  (case c=>k_is)
  (case k=>k_is)
  (case b=>exact fun v=>rfl)
  (case hhC=>unfold L2.Cl;k_is)
  (case hT2=>walk_at "df")
  (case hT3=>walk_at "df")
  (case hT4=>walk_at "df")
  (case hT5=>walk_at "df")
  (case hT6=>walk_at "df")
  (case hT7=>walk_at "df")
  (case hT8=>walk_at "df")
  (case hT9=>walk_at "df")
  (case hT11=>walk_at "df")
  (case hT12=>walk_at "df")
  (case hT13=>walk_at "df")
  (case hT14=>walk_at "df")
  (case hT15=>walk_at "df")
  (case hT16=>walk_at "df")
  (case hT17=>walk_at "df")
  (case hT32=>walk_at "df")
  (case hT33=>walk_at "df")
  (case hT34=>walk_at "df")
  (case hT35=>walk_at "df")
  (case hT36=>walk_at "df")
  (case hT37=>walk_at "df")
  (case hT38=>walk_at "df")
  (case hT39=>walk_at "df")
  (case hT40=>walk_at "df")
  (case hT42=>walk_at "df")
  (case hT43=>walk_at "df")
  (case hT44=>walk_at "df")
  (case hT46=>walk_at "df")
  (case hT47=>walk_at "df")
  (case hT49=>walk_at "df")
  (case hT50=>walk_at "df")
  (case hT51=>walk_at "df")
  (case hT58=>walk_at "df")
  (case hT59=>walk_at "df")
  (case hT60=>walk_at "df")
  (case hT61=>walk_at "df")
  (case hT62=>walk_at "df")
  (case hT63=>walk_at "df")
  (case hT64=>walk_at "df")
  (case hT65=>walk_at "df")
  (case hT66=>walk_at "df")
  (case hT67=>walk_at "df")
  (case hT68001=>walk_at "mf")
  (case hT68002=>walk_at "mf")
  (case hT68003=>walk_at "mf")
  (case hT68004=>walk_at "mf")
  (case hT68005=>walk_at "mf")
  (case hT68006=>walk_at "mf")
  (case hT68010=>walk_at "mf")
  (case hT68011=>walk_at "mf")
  (case hT68012=>walk_at "mf")
  (case hT68008=>walk_at "mf")
  (case hT68013=>walk_at "mf")
  (case hT68014=>walk_at "mf")
  (case hT68015=>walk_at "mf")
  (case hT68016=>walk_at "mf")
  (case hT68019=>walk_at "mf")
  (case hT68020=>walk_at "mf")
  (case hT70=>walk_at "df")
  (case hT71=>walk_at "df")
  (case hT72=>walk_at "df")
  (case hT73=>walk_at "df")
  (case hT74=>walk_at "df")
  (case hT75=>walk_at "df")
  (case hT76=>walk_at "df")
  (case hT77=>walk_at "df")
  (case hT78=>walk_at "df")
  (case hT79=>walk_at "df")
  (case hT80=>walk_at "df")
  (case hT81=>walk_at "df")
  (case hT82=>walk_at "df")
  (case hT83=>walk_at "df")
  (case hT84=>walk_at "df")
  (case hT85=>walk_at "df")
  (case hT86=>walk_at "df")
  (case hT87=>walk_at "df")
  (case hT88=>walk_at "df")
  (case hT89=>walk_at "df")
  (case hcs=>exact⟨by k_is,by k_is,by k_is,by k_is⟩)
  (case hmC=>exact PySem.W.mg_of KX G (by k_is))
  (case hkC=>k_is)
  (case hpC=>k_is)
  (case hn_kept=>k_is)
  (case hn_states=>k_is)
  (case hx_BadCount=>refine' L2.exc_mk KX G ?a ?b (by decide +kernel);(case a=>k_is);(case b=>k_exc))
  (case hx_BadHours=>refine' L2.exc_mk KX G ?a ?b (by decide +kernel);(case a=>k_is);(case b=>k_exc))
  (case hx_BadLoss=>refine' L2.exc_mk KX G ?a ?b (by decide +kernel);(case a=>k_is);(case b=>k_exc))
  (case hx_DeedsFull=>refine' L2.exc_mk KX G ?a ?b (by decide +kernel);(case a=>k_is);(case b=>k_exc))
  (case hx_EmptyStack=>refine' L2.exc_mk KX G ?a ?b (by decide +kernel);(case a=>k_is);(case b=>k_exc))
  (case hx_HouseFull=>refine' L2.exc_mk KX G ?a ?b (by decide +kernel);(case a=>k_is);(case b=>k_exc))
  (case hx_NotGone=>refine' L2.exc_mk KX G ?a ?b (by decide +kernel);(case a=>k_is);(case b=>k_exc))
  (case hx_NothingWaits=>refine' L2.exc_mk KX G ?a ?b (by decide +kernel);(case a=>k_is);(case b=>k_exc))
  (case hx_UnknownPlace=>refine' L2.exc_mk KX G ?a ?b (by decide +kernel);(case a=>k_is);(case b=>k_exc))
  (case hx_UnknownStack=>refine' L2.exc_mk KX G ?a ?b (by decide +kernel);(case a=>k_is);(case b=>k_exc))
  (case hv_MOST_DEEDS=>refine' L2.con_mk KX G ?a;(case a=>k_is))
  (case hv_MOST_HOURS=>refine' L2.con_mk KX G ?a;(case a=>k_is))
  (case hv_MOST_LOSS=>refine' L2.con_mk KX G ?a;(case a=>k_is))
  (case hv_MOST_STACKS=>refine' L2.con_mk KX G ?a;(case a=>k_is))
  (case hv_MOST_WAITING=>refine' L2.con_mk KX G ?a;(case a=>k_is))
  (case hb_bool=>exact PySem.W.mg_none_of KX G (by k_is))
  (case hb_enumerate=>exact PySem.W.mg_none_of KX G (by k_is))
  (case hb_int=>exact PySem.W.mg_none_of KX G (by k_is))
  (case hb_isinstance=>exact PySem.W.mg_none_of KX G (by k_is))
  (case hb_len=>exact PySem.W.mg_none_of KX G (by k_is))
  (case hb_list=>exact PySem.W.mg_none_of KX G (by k_is))
  (case hb_max=>exact PySem.W.mg_none_of KX G (by k_is))
  (case hb_min=>exact PySem.W.mg_none_of KX G (by k_is))
  (case hb_range=>exact PySem.W.mg_none_of KX G (by k_is))
  (case hb_str=>exact PySem.W.mg_none_of KX G (by k_is))
  (case hb_sum=>exact PySem.W.mg_none_of KX G (by k_is))
  (case hb_tuple=>exact PySem.W.mg_none_of KX G (by k_is))
  (case hb_zip=>exact PySem.W.mg_none_of KX G (by k_is))

