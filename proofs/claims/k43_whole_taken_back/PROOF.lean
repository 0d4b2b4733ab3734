import PyProof.Rows.All
import Wide.All
import OpenK.AllK
import Wide.FinOn
import Lean
import PyProof.EqAt
import PyProof.EqKinds
import PyProof.TupleCall
import PyProof.Draws
import PyProof.ZipIter
import PyProof.EnumMake
import PyProof.AttrMissHeap
import KE.KDictOf
import PyProof.Rows.SeqMore2
import PyProof.Rows.SortWalk
import KE.KTryMore
import PyProof.RulesAs
import PyProof.NsDelKeeps
import KE.KIsAll
import PyProof.ExcArgs
import PySem.Challenge.RW_rotstacks_k43_whole_taken_back
set_option Elab.async false
set_option linter.all false
set_option maxRecDepth 100000
set_option compiler.extract_closed false
set_option bootstrap.genMatcherCode false
local macro_rules | `(command|def $i:declId $s:optDeclSig $v:declVal)=>`(command|noncomputable def $i:declId $s:optDeclSig $v:declVal)
set_option maxHeartbeats 0
def ac:=@Option.bind_some
def ae:=@List.getElem?_cons_zero
def af:=@List.length_map
def ah:=@List.getElem?_cons_succ
def ai:=@Option.map_some
def aj:=@List.getElem?_eq_some_iff
def ak:=@List.length_cons
def am:=@List.length_append
def aq:=@PySem.Heap.get?_push_of_some
def au:=@List.set_cons_zero
def av:=@List.set_cons_succ
def aw:=@List.getElem?_eq_getElem
def ax:=@List.getElem?_append_left
def ay:=@List.mem_cons_of_mem
def bf:=@List.mem_of_getElem?
def bg:=@List.size_toArray
def bh:=@Nat.lt_of_lt_of_le
def bi:=@PySem.Heap.lt_size
def bj:=@List.getElem?_map
def bn:=@Option.some.inj
def bq:=@List.length_nil
def bu:=@List.mem_cons_self
def bw:=@Nat.le_refl
def bx:=@Bool.false_eq_true
def bz:=@List.map_cons
def b6:=@List.map_append
def b7:=@List.nodup_cons
def b8:=@List.mem_cons
def cb:=@List.mem_append_right
def ce:=@List.getElem?_eq_none
def cf:=@Nat.ne_of_lt
def ci:=@List.getD_eq_getElem?_getD
def cj:=@Bool.false_ne_true
def cq:=@PySem.Heap.get?_push_size
def cr:=@PySem.Heap.get?_update_other
def cw:=@List.mem_singleton
def cy:=@Nat.le_trans
def cz:=@List.lookup_cons
def db:=@List.flatten_cons
def dc:=@List.map_nil
def de:=@List.mem_append
def df:=@List.append_nil
def dg:=@List.getElem?_append_right
def dh:=@List.getElem?_set_ne
def dm:=@Option.bind_eq_some_iff
def dn:=@List.length_take
def dq:=@List.length_set
def dw:=@Bool.and_eq_true
def dy:=@List.mem_append_left
def dz:=@List.ext_getElem?
def d5:=@List.append_assoc
def d6:=@List.sublist_flatten_of_mem
def d8:=@List.getElem?_set_self
def d9:=@PySem.W.kia_one
def eg:=@PySem.mem_of_lookup
def eh:=@List.length_replicate
def em:=@List.length_drop
def e7:=@List.getElem_mem
def fb:=@List.drop_eq_getElem_cons
def fc:=@List.flatten_append
def ff:=@List.eq_nil_of_length_eq_zero
def fg:=@List.pairwise_cons
def fm:=@PySem.F.plainAttrs_list
def fo:=@Nat.lt_succ_self
def fq:=@List.mem_map
def ft:=@Nat.zero_le
def fz:=@Nat.lt_irrefl
def f7:=@List.take_append_of_le_length
def f8:=@PySem.Heap.get?_update_self
def gc:=@List.mem_flatten
def gh:=@Nat.lt_succ_of_lt
def gi:=@List.getElem?_set
def gk:=@Int.toNat_natCast
def gl:=@List.sum_cons
def gq:=@List.replicate_succ
def gv:=@List.all_eq_true
def gw:=@Int.mul_le_mul_of_nonneg_right
def h9:=@Option.map_eq_some_iff
def ib:=@List.take_of_length_le
def ie:=@List.map_set
def ig:=@List.map_map
def ii:=@Int.mul_right_comm
def im:=@Int.mul_assoc
def io:=@List.length_singleton
def iq:=@PyProof.Rows.callWith_type1
def ir:=@List.length_range
def iu:=@List.getElem?_concat_length
def iz:=@List.pairwise_append
def i4:=@List.mem_range
def i5:=@Int.add_mul
def i8:=@List.length_pos_iff
def i9:=@List.length_flatten
def ja:=@List.getElem_of_mem
def jb:=@List.getElem?_range
def jc:=@PySem.Heap.size_push
def je:=@PySem.W.callWith_K
def jf:=@List.filter_append
def jg:=@Int.mul_add
def jh:=@Int.eq_ofNat_of_zero_le
def jo:=@List.take_left
def jp:=@Int.zero_add
def jq:=@Int.mul_comm
def ju:=@PyProof.Rows.slot_tuple_getitem
def jv:=@List.takeWhile_append_dropWhile
def jw:=@List.singleton_append
def jx:=@List.dropLast_eq_take
def jz:=@List.drop_length
def j0:=@List.cons_append
def j2:=@Bool.not_true
def j6:=@List.of_mem_zip
def j7:=@List.mem_filter
def j8:=@List.map_congr_left
def j9:=@List.filterMap_cons
def kh:=@Nat.zero_add
def ki:=@Nat.le_of_lt
def km:=@List.zip_cons_cons
def kn:=@List.map_replicate
def ko:=@List.map_inj_right
def kq:=@Array.getElem?_eq_some_iff
def lc:=@Bool.not_eq_true'
def lh:=@PySem.W.mg_of
def li:=@Option.isSome_iff_exists
def lr:=@Nat.le_of_not_lt
def lu:=@List.length_eq_zero_iff
def lv:=@List.filter_cons_of_pos
def lw:=@List.filter_cons_of_neg
def l8:=@PySem.W.cellsFrom_some
def l9:=@Nat.ne_of_gt
def ma:=@Option.map_none
def md:=@List.range_succ
def me:=@List.length_zip
def mf:=@Bool.eq_iff_iff
def ml:=@PySem.F.type_list_pop
def mn:=@PySem.F.slot_list_pop
def m3:=@Nat.sub_succ_lt_self
def m4:=@Nat.le_succ
def m6:=@List.getElem?_zipIdx
def nr:=@PySem.W.plainGet_of
def nt:=@Array.length_toList
def om:=@List.mem_filterMap
def p8:=@PySem.W.kitx_list
def p9:=@Nat.lt_of_succ_le
def qh:=@Nat.le_succ_of_le
def qt:=@List.eraseIdxIfInBounds_toArray
def sg:=@List.map_snd_zip
def tu:=@Int.mul_le_mul_of_nonneg_left
def ui:=@Nat.le_antisymm
def uj:=@List.sum_append
def uk:=@List.nil_append
def ul:=@List.map_const'
def vh:=@Int.mul_lt_mul_of_pos_right
def wo:=@PySem.boot_len
def wp:=@PySem.F.excBase_ValueError
def wq:=@Int.lt_of_mul_lt_mul_right
def wt:=@Int.le_of_mul_le_mul_right
def x8:=@List.getLast?_eq_some_iff
def x9:=@List.getLast?_eq_none_iff
def z8:=@PySem.F.type_list_append
def z9:=@PySem.F.slot_list_append
abbrev ik:=List PySem.Str
abbrev i0:=List PySem.Value
abbrev ka:=Option PySem.Value
abbrev kb:=List PySem.Addr
abbrev kf:=List Nat
abbrev k4:=List Int
abbrev k7:=List PySem.Env
abbrev k8:=List PySem.Expr
abbrev k9:=Option PySem.Str
abbrev la:=Option Int
abbrev ll:=PySem.W.Frag
abbrev ln:=List (PySem.Addr×PySem.Obj)
abbrev lx:=Array PySem.Value
namespace PySem.W.Fast
def tw15322368539271036669:=0
def tw16532565388948089689:=0
def tw8304341065487614260:=0
def tw13494128715974936559:=0
def tw322729853329696326:=0
def tw5721976631286687531:=0
def tw16443253333803420104:=0
def tw3081121813497292077:=0
def tw7725012626891826632:=0
def tw2360446847297263352:=0
def tw14767782586175439492:=0
def tw18424013207920332442:=0
def tw1197844309002456482:=0
def tw13313881657851200425:=0
def tw17804478720980315082:=0
def tw10143343062441790778:=0
def tw10345980616635049427:=0
def tw17548525900877467917:=0
def tw8221379785114272625:=0
def tw5400519122571244047:=0
def tw207844607496620087:=0
def tw10939222874724088700:=0
def tw18414715300666540281:=0
def tw13413012072783188425:=0
def tw6493330665566167147:=0
def tw5106441590265517144:=0
def tw10462138171525502897:=0
def tw15359102603107413231:=0
def tw12791392028554949626:=0
def tw13372310052145129520:=0
def tw8106365122697232209:=0
def tw4537112723405316468:=0
def tw9973627246163530600:=0
def tw1941158131923050496:=0
def tw5044657848819888094:=0
def tw13848392978245017679:=0
def tw3602109726442100541:=0
def tw11457838680292950747:=0
def tw14057238044761739051:=0
def tw13252475720556201039:=0
def tw17806559798037380195:=0
def tw13960719575924556613:=0
def tw2049765247624823710:=0
def tw520760608191861299:=0
def tw5141834587752207717:=0
def tw7571543187569416755:=0
def tw772585827993199724:=0
def tw6483710568601462799:=0
def tw9798687865813937216:=0
def tw919646863622198488:=0
def tw2388936564005763016:=0
def tw7848409590926522962:=0
def tw16852722182879557646:=0
def tw596264357689304544:=0
def tw8528296176800286927:=0
def tw923929161578708131:=0
def tw8369070374558896570:=0
def tw2975443145256112729:=0
def tw7027161504191823226:=0
def tw12787879425846906538:=0
def tw10184082262108008333:=0
def tw16482829586814140525:=0
def tw4895425382642465790:=0
def tw10064278401438594924:=0
def tw3614790197501818629:=0
def tw8668784508862897318:=0
def tw8226255479208371499:=0
def tw10405927150804094027:=0
def tw5350862455573231912:=0
def tw14616072416306043124:=0
def tw17731801680971310:=0
def tw15346517549140329626:=0
def tw17081379799441678081:=0
def tw9218007220701248928:=0
def tw15469945006531455178:=0
def tw7881732657216084209:=0
def tw6016840223995648031:=0
def tw3626200723580813935:=0
def tw2702439272556505636:=0
def tw2811824731477432661:=0
def tw4050732226601590682:=0
def tw16554971948970461824:=0
def tw15745789919013403160:=0
def tw15594794917597159775:=0
def tw15848108554550008055:=0
def tw4268622498170725944:=0
def tw6807043632278035834:=0
def tw9679322562879927657:=0
def tw16095411511866042282:=0
def tw12538974470732270587:=0
def tw16461218191327465503:=0
def tw15146276678955778912:=0
def tw15509039178638469261:=0
def tw2955106872690358488:=0
def tw8972079347622455915:=0
def tw10020126217023852985:=0
def tw3663230652001387455:=0
def tw12619148345953009265:=0
def tw1636092840616996768:=0
def tw1381261406750607105:=0
def tw683955573386985426:=0
def tw15399392379912836652:=0
def tw14975499427983693858:=0
end PySem.W.Fast
open_top headO for PySem.Challenge.rw_rotstacks_k43_whole_taken_back
noncomputable section
namespace L2
open PySem PySem.Spec PyProof.Rows
abbrev Key:=Sum Int Str
def z5o:Key->Value->Bool
 | .inl k,v=>Value.isInt k v
 | .inr x,v=>Value.isStrOf x v
def keyH(w:World):Key->Int
 | .inl k=>hashInt k
 | .inr x=>hashStr w x
def u6:∀ {k:Key} {v:Value},z5o k v=true->(∃i t,k=Sum.inl i/\v=Value.int i t)\/(∃x t,k=Sum.inr x/\v=Value.str x t)
 | .inl i,v,h=>by
   obtain⟨t,e⟩:=Value.isInt_shape (k:=i) (v:=v) h;exact .inl ⟨i,t,rfl,e⟩
 | .inr x,v,h=>by
   obtain⟨t,e⟩:=Value.isStrOf_shape (x:=x) (v:=v) h;exact .inr ⟨x,t,rfl,e⟩
def z5p(a b:Int):decide ((Sum.inl a:Key)=Sum.inl b)=(a==b):=by
 by_cases e:a=b
 ·subst e;simp
 ·have h:¬(Sum.inl a:Key)=Sum.inl b:=λq=>e (Sum.inl.inj q)
  rw[decide_eq_false h];exact(beq_eq_false_iff_ne.mpr e).symm
def z5q(a b:Str):decide ((Sum.inr a:Key)=Sum.inr b)=decide (a=b):=by
 by_cases e:a=b
 ·subst e;simp
 ·have h:¬(Sum.inr a:Key)=Sum.inr b:=λq=>e (Sum.inr.inj q)
  rw[decide_eq_false h,decide_eq_false e]
def z5r(a:Int)(b:Str):decide ((Sum.inl a:Key)=Sum.inr b)=false:=decide_eq_false (λq=>nomatch q)
def z5s(a:Str)(b:Int):decide ((Sum.inr a:Key)=Sum.inl b)=false:=decide_eq_false (λq=>nomatch q)
def zwd(prog:Program)(w:World):PySem.KeyKind prog w Key where
 is:=z5o
 hash:=keyH w
 inj:=λv a b J I=>by
  rcases u6 J with⟨i,t,rfl,rfl⟩ | ⟨x,t,rfl,rfl⟩
  ·rcases u6 I with⟨j,u,rfl,e⟩ | ⟨y,u,rfl,e⟩
   ·injection e with e1 _;rw[e1]
   ·exact nomatch e
  ·rcases u6 I with⟨j,u,rfl,e⟩ | ⟨y,u,rfl,e⟩
   ·exact nomatch e
   ·injection e with e1 _;rw[e1]
 byValue:=λk v h=>by
  rcases u6 h with⟨i,t,rfl,rfl⟩ | ⟨x,t,rfl,rfl⟩ <;> rfl
 pyHash:=λD h=>by
  rcases u6 D with⟨i,t,rfl,rfl⟩ | ⟨x,t,rfl,rfl⟩
  ·exact wpAny_pyHash_int h
  ·exact wpAny_pyHash_str h
 eqBool:=λR D h=>by
  rcases u6 R with⟨i,t,rfl,rfl⟩ | ⟨x,t,rfl,rfl⟩
  ·rcases u6 D with⟨j,u,rfl,rfl⟩ | ⟨y,u,rfl,rfl⟩
   ·rw[z5p] at h;exact wpAny_eqBool_int h
   ·rw[z5r] at h;exact SeqAt.EqAt.int_str i t y u _ _ _ _ h
  ·rcases u6 D with⟨j,u,rfl,rfl⟩ | ⟨y,u,rfl,rfl⟩
   ·rw[z5s] at h;exact SeqAt.EqAt.str_int x t j u _ _ _ _ h
   ·rw[z5q] at h;exact wpAny_eqBool_str h
 «strs»:=λk x t v h=>by
  rcases u6 h with⟨i,u,rfl,e⟩ | ⟨y,u,rfl,e⟩
  ·exact nomatch e
  ·injection e with e1 _
   subst e1;cases v <;> rfl
inductive V where
 | non | bl (b:Bool) | int (i:Int) | str (x:Str) | byt (b:Array UInt8) | flt (b:UInt64) | ref (a:Addr) | ty (n:String)
 deriving DecidableEq
abbrev l0:=List V
def RelV:V->Value->Prop
 | .non,u=>u=Value.none
 | .bl b,u=>u=Value.bool b
 | .int i,u=>∃t,u=Value.int i t
 | .str x,u=>∃t,u=Value.str x t
 | .byt b,u=>∃t,u=Value.bytes b t
 | .flt b,u=>∃t,u=Value.float b t
 | .ref a,u=>u=Value.ref a
 | .ty n,u=>u=Value.type n
abbrev Vals:l0->i0->Prop:=Paired RelV
def Vals.length{xs:l0}{us:i0}(r:Vals xs us):xs.length=us.length:=Paired.length r
def Vals.get:∀ {xs:l0} {us:i0} {i:Nat} {x:V},Vals xs us->xs[i]?=some x->∃u,us[i]?=some u/\RelV x u
 | _,_,_,_,.nil,e=>by simp at e
 | _,_,0,_,.cons r _,e=>by simp at e;subst e;exact⟨_,rfl,r⟩
 | _,_,i+1,x,.cons _ t,e=>by
   obtain⟨u,h1,h2⟩:=Vals.get (i:=i) (x:=x) t (by simpa using e);exact⟨u,by simpa using h1,h2⟩
def Vals.set{x:V}{u:Value}(r:RelV x u):∀ {xs:l0} {us:i0} (i:Nat),Vals xs us->Vals (xs.set i x) (us.set i u)
 | _,_,_,.nil=>.nil
 | _,_,0,.cons _ t=>.cons r t
 | _,_,i+1,.cons q t=>.cons q (Vals.set r i t)
variable{xs ys:l0}{us:i0}
def Vals.append{ws:i0}(h:Vals xs us)(s:Vals ys ws):Vals (xs++ys) (us++ws):=by
 induction h with
 | nil=>exact s
 | cons r _ q=>exact .cons r q
def Vals.take:∀ {xs:l0} {us:i0} (n:Nat),Vals xs us->Vals (xs.take n) (us.take n)
 | _,_,0,_=>.nil
 | _,_,_+1,.nil=>.nil
 | _,_,n+1,.cons r t=>.cons r (Vals.take n t)
def Vals.drop:∀ {xs:l0} {us:i0} (n:Nat),Vals xs us->Vals (xs.drop n) (us.drop n)
 | _,_,0,r=>r
 | _,_,_+1,.nil=>.nil
 | _,_,n+1,.cons _ t=>Vals.drop n t
def RelO:Option V->ka->Prop
 | some v,some u=>RelV v u
 | none,none=>True
 | _,_=>False
def KV{κ:Type}:List (κ×V)->List (κ×Value)->Prop:=Paired λ(p:κ×V) (q:κ×Value)=>p.1=q.1/\RelV p.2 q.2
def kV:Key->V
 | .inl i=>.int i
 | .inr x=>.str x
inductive HO where
 | lst (xs:l0)
 | tup (xs:l0)
 | dK (kvs:List (Key×V)) | dT (kvs:List (List Key×V))
 | set (S:Int->Bool) (n:Nat)
 | ins (C dx:Addr) (fs:List (Str×V))
 | own (x:Addr)
 | xd (fs:List (Str×V))
 | met (f x:Addr)
 | rng (lo hi:Int)
 | frz (o:Obj) (u:HO)
 | tbl (ps:lx)
 | ext (φ:Heap->Prop)
abbrev Hp:=Addr->Option HO
def upd(H:Hp)(a:Addr)(o:HO):Hp:=λb=>if b=a then some o else H b
variable{H:Hp}{a:Addr}{o:HO}
def kl:upd H a o a=some o:=by unfold upd;rw[if_pos rfl]
variable{b:Addr}
def gx(h:b≠a):upd H a o b=H b:=by unfold upd;rw[if_neg h]
def o5(h:H a=some o)(h':H b=none):a≠b:=by
 intro e;subst e;rw[h] at h';cases h'
section
variable (P:Program) (w:World)
def ObjOk(H:Hp)(h:Heap)(a:Addr):HO->Prop
 | .lst xs=>xs.length<=sizeLine/\∃(its:i0) (n:Nat),Vals xs its/\h.get? a=some { cls:=.type "list",data:=.seq its.toArray n }
 | .tup xs=>xs.length<=sizeLine/\∃its:i0,Vals xs its/\IsTup h a its.toArray
 | .dK kvs=>kvs.length<=sizeLine/\(a==sysModules)=false/\∃vs,KV kvs vs/\h.DictOf (zwd P w) a vs
 | .dT kvs=>kvs.length<=sizeLine/\(a==sysModules)=false/\∃xs:List (List Key×Addr×Value),
    Paired (λ(p:List Key×V) (q:List Key×Addr×Value)=>p.1=q.1/\H q.2.1=some (.tup (p.1.map kV))/\RelV p.2 q.2.2) kvs xs /\
    ∃o es D,h.get? a=some o/\o.ExactDict/\o.data=.dict es D/\es.toList=xs.map (entryOfKey (tupleKind (zwd P w)))/\(xs.map (·.1)).Nodup
 | .set S n=>h.SetOf (intKind P w) a S n
 | .ins C dx fs=>H dx=some (.own a)/\fs.length<=1000/\dx≠a/\h.get? a=some (PySem.W.instObj C dx) /\
    ∃mA,h.Ns1 dx mA/\(∀f,RelO (fs.lookup f) (mA f))/\PySem.Within mA (fs.map (·.1))
 | .own _=>∃o,h.get? a=some o
 | .xd fs=>∃mA,h.Ns1 a mA/\∀f,RelO (fs.lookup f) (mA f)
 | .rng lo hi=>∃t u v,h.get? a=some { cls:=.type "range",data:=.fields #[.int lo t,.int hi u,.int 1 v] }
 | .frz o u=>h.get? a=some o/\ObjOk H h a u
 | .tbl ps=>h.get? a=some { cls:=.none,data:=.fields ps }
 | .met f x=>h.get? a=some (PySem.W.methodObj (.ref f) (.ref x))
 | .ext φ=>φ h/\(∃o,h.get? a=some o)/\∀h1 h2:Heap,φ h1->(∀o,h1.get? a=some o->h2.get? a=some o)->φ h2
def HOk(H:Hp)(h:Heap):Prop:=∀a o,H a=some o->ObjOk P w H h a o
end
variable{P:Program}{w:World}{h:Heap}
def ObjOk.lt(x:ObjOk P w H h a o):a<h.objs.size:=by
 cases o with
 | lst xs=>obtain⟨_,_,_,_,e⟩:=x;exact bi e
 | tup xs=>obtain⟨_,_,_,p⟩:=x;exact p.lt
 | dK kvs=>obtain⟨_,_,_,_,o,_,_,e,_⟩:=x;exact bi e
 | dT kvs=>obtain⟨_,_,_,_,o,_,_,e,_⟩:=x;exact bi e
 | set S n=>obtain⟨o,_,_,_,e,_⟩:=x;exact bi e
 | ins C dx fs=>obtain⟨_,_,_,e,_⟩:=x;exact bi e
 | own y=>obtain⟨_,e⟩:=x;exact bi e
 | xd fs=>obtain⟨_,⟨_,_,_,e,_⟩,_⟩:=x;exact bi e
 | rng lo hi=>obtain⟨_,_,_,e⟩:=x;exact bi e
 | frz ob u=>obtain⟨e,_⟩:=x;exact bi e
 | tbl ps=>exact bi (show h.get? a=some _ from x)
 | met f y=>exact bi (show h.get? a=some _ from x)
 | ext φ=>obtain⟨_,⟨_,e⟩,_⟩:=x;exact bi e
variable{α:Type}
def Paired.mapP{β:Type}{F G:α->β->Prop}{D:List α}{I:List β}(h:Paired F D I)(f:∀a b,F a b->G a b):Paired G D I:=by
 induction h with
 | nil=>exact .nil
 | cons r _ q=>exact .cons (f _ _ r) q
variable{H':Hp}{h':Heap}
def ObjOk.stay(x:ObjOk P w H h a o)(k:∀b u,(b=a\/H b=some (.own a))->h.get? b=some u->h'.get? b=some u)(J:∀b,H b=some (.own a)->H' b=some (.own a))(R:∀b xs,H b=some (.tup xs)->H' b=some (.tup xs)):ObjOk P w H' h' a o:=by
 induction o with
 | lst xs=>obtain⟨z,its,n,r,e⟩:=x;exact⟨z,its,n,r,k _ _ (.inl rfl) e⟩
 | tup xs=>obtain⟨z,its,r,D,e,c⟩:=x;exact⟨z,its,r,D,k _ _ (.inl rfl) e,c⟩
 | dK kvs=>obtain⟨z,y,vs,r,D,es,I,e,c⟩:=x;exact⟨z,y,vs,r,D,es,I,k _ _ (.inl rfl) e,c⟩
 | dT kvs =>
   obtain⟨z,y,xs,r,D,es,I,e,c⟩:=x;exact⟨z,y,xs,Paired.mapP r λp q z=>⟨z.1,R _ _ z.2.1,z.2.2⟩,D,es,I,k _ _ (.inl rfl) e,c⟩
 | set S n=>obtain⟨D,es,I,t,e,c⟩:=x;exact⟨D,es,I,t,k _ _ (.inl rfl) e,c⟩
 | ins C dx fs =>
   obtain⟨d,z,U,e,mA,⟨od,es,I,V,c⟩,r⟩:=x;exact⟨J _ d,z,U,k _ _ (.inl rfl) e,mA,⟨od,es,I,k _ _ (.inr d) V,c⟩,r⟩
 | own y=>obtain⟨D,e⟩:=x;exact⟨D,k _ _ (.inl rfl) e⟩
 | xd fs=>obtain⟨mA,⟨od,es,I,e,c⟩,r⟩:=x;exact⟨mA,⟨od,es,I,k _ _ (.inl rfl) e,c⟩,r⟩
 | rng lo hi=>obtain⟨t,u,v,e⟩:=x;exact⟨t,u,v,k _ _ (.inl rfl) e⟩
 | frz D u ih=>obtain⟨e,q⟩:=x;exact⟨k _ _ (.inl rfl) e,ih q⟩
 | tbl ps =>
   have e:h.get? a=some { cls:=.none,data:=.fields ps }:=x;show h'.get? a=some { cls:=.none,data:=.fields ps };exact k a _ (.inl rfl) e
 | met f y =>
   have e:h.get? a=some (PySem.W.methodObj (.ref f) (.ref y)):=x;show h'.get? a=some (PySem.W.methodObj (.ref f) (.ref y));exact k a _ (.inl rfl) e
 | ext φ=>obtain⟨p,⟨o,e⟩,st⟩:=x;exact⟨st _ _ p λo q=>k _ _ (.inl rfl) q,⟨o,k _ _ (.inl rfl) e⟩,st⟩
def HOk.lt(x:HOk P w H h)(e:H a=some o):a<h.objs.size:=(x a o e).lt
def HOk.fresh(x:HOk P w H h)(e:h.objs.size<=a):H a=none:=by
 cases q:H a with
 | none=>rfl
 | some u=>exact absurd (bh (x.lt q) e) (fz _)
def HOk.kept(x:HOk P w H h)(k:∀b u,h.get? b=some u->h'.get? b=some u):HOk P w H h':=λa o e =>
 (x a o e).stay (λb u _ q=>k b u q) (λ_ q=>q) λ_ _ q=>q
def HOk.laid(x:HOk P w H h)(k:∀b u,h.get? b=some u->h'.get? b=some u)(J:h.objs.size<=a)(new:ObjOk P w (upd H a o) h' a o):HOk P w (upd H a o) h':=λb u e=>by
 have D:=x.fresh J;by_cases I:b=a
 ·subst I;rw[kl] at e;cases e;exact new
 ·rw[gx I] at e
  exact(x b u e).stay (λc v _ q=>k c v q) (λc q=>by rw[gx (o5 q D)];exact q) λc xs q=>by rw[gx (o5 q D)];exact q
def Rd(H:Hp)(a:Addr)(u:HO):Prop:=H a=some u\/∃o,H a=some (.frz o u)
variable{u:Value}
def Rd.ok{u:HO}(r:Rd H a u)(x:HOk P w H h):ObjOk P w H h a u:=by
 rcases r with r | ⟨o,r⟩
 ·exact x a u r
 ·obtain⟨_,q⟩:=x a _ r
  exact q
def Mut:Option HO->Prop
 | some (.lst _)=>True
 | some (.dK _)=>True
 | some (.dT _)=>True
 | some (.set _ _)=>True
 | some (.ins _ _ _)=>True
 | some (.ext _)=>True
 | _=>False
variable{x e:Addr}{o':HO}
def HOk.write(ok:HOk P w H h)(R:Mut (H x))(Y:e=x\/H e=some (.own x))(k:∀b u,b≠e->h.get? b=some u->h'.get? b=some u)(V:∃u,h'.get? e=some u)(new:ObjOk P w (upd H x o') h' x o'):HOk P w (upd H x o') h':=λb u q=>by
 have I:∀c y,H c=some (.own y)->c≠x:=λc y r z=>by subst z;rw[r] at R;exact R
 have J:∀c xs,H c=some (.tup xs)->c≠x:=λc xs r z=>by subst z;rw[r] at R;exact R
 by_cases U:b=x
 ·subst U;rw[kl] at q;cases q;exact new
 ·rw[gx U] at q
  by_cases D:b=e
  ·have Z:H b=some (.own x):=by
    rcases Y with z | z
    ·exact absurd (D.trans z) U
    ·rw[D];exact z
   rw[q] at Z;cases Z;obtain⟨v,a⟩:=V;exact⟨v,by rw[D];exact a⟩
  ·refine(ok b u q).stay (λc v hc r=>k c v ?_ r) (λc r=>by rw[gx (I c b r)];exact r) λc xs r=>by rw[gx (J c xs r)];exact r
   rcases hc with rfl | hc
   ·exact D
   ·rintro rfl
    rcases Y with z | z
    ·exact I c b hc z
    ·rw[hc] at z;cases z;exact U rfl
structure Un (fs ex:kb) (H H':Hp) (h h':Heap):Prop where
 keep:∀b o,h.get? b=some o->H b=none->b∉fs->b∉ex->h'.get? b=some o
 slot:∀b o,h.get? b=some o->H b=none->b∈fs->b∉ex->∃sl,h'.get? b=some { o with slots:=sl }
 free:∀b o,h.get? b=some o->H b=none->b∉ex->H' b=none
 there:∀b o,h.get? b=some o->b∉ex->∃o',h'.get? b=some o'
 tups:∀b xs,H b=some (.tup xs)->H' b=some (.tup xs)
 frzs:∀b o u,H b=some (.frz o u)->H' b=some (.frz o u)
 tbls:∀b ps,H b=some (.tbl ps)->∃more,H' b=some (.tbl (ps++more))
variable{fs ex:kb}{H1:Hp}{h1:Heap}
def Un.any(u:Un fs ex H H1 h h1){D:Obj}(q:h.get? b=some D)(n:H b=none)(I:b∉ex):∃sl,h1.get? b=some { D with slots:=sl }:=by
 by_cases J:b∈fs
 ·exact u.slot b D q n J I
 ·exact⟨D.slots,u.keep b D q n J I⟩
def Un.kept(k:∀b u,h.get? b=some u->h'.get? b=some u):Un fs ex H H h h' :=
 ⟨λb D q _ _ _=>k b D q,λb D q _ _ _=>⟨D.slots,k b D q⟩,λ_ _ _ n _=>n,λb D q _=>⟨D,k b D q⟩,λ_ _ q=>q,λ_ _ _ q=>q,λ_ ps q=>⟨#[],by rw[q];simp⟩⟩
def Un.refl:Un fs ex H H h h:=Un.kept λ_ _ q=>q
def Un.laid(k:∀b u,h.get? b=some u->h'.get? b=some u)(I:h.objs.size<=a)(D:H a=none):Un fs ex H (upd H a o) h h' where
 keep:=λb u q _ _ _=>k b u q
 slot:=λb u q _ _ _=>⟨u.slots,k b u q⟩
 free:=λb u q n _=>by rw[gx (cf (bh (bi q) I))];exact n
 there:=λb u q _=>⟨u,k b u q⟩
 tups:=λb xs q=>by rw[gx (o5 q D)];exact q
 frzs:=λb u xs q=>by rw[gx (o5 q D)];exact q
 tbls:=λb ps q=>⟨#[],by rw[gx (o5 q D),q];simp⟩
def Un.write(I:Mut (H x))(Y:e=x\/H e=some (.own x))(k:∀b u,b≠e->h.get? b=some u->h'.get? b=some u)(J:∃u,h'.get? e=some u):Un fs ex H (upd H x o) h h':=by
 have U:∀b,H b=none->b≠x:=λb n z=>by subst z;rw[n] at I;exact I
 have V:∀b,H b=none->b≠e:=λb n z=>by
  subst z;rcases Y with r | r
  ·exact U b n r
  ·rw[n] at r;cases r
 have R:∀b u,H b=some u->¬Mut (some u)->b≠x:=λb u q nm z=>by subst z;rw[q] at I;exact nm I
 refine⟨λb u q n _ _=>k b u (V b n) q,λb u q n _ _=>⟨u.slots,k b u (V b n) q⟩,λb u q n _=>by rw[gx (U b n)];exact n,λb u q _=>?_,
  λb xs q=>by rw[gx (R b _ q λz=>z)];exact q,λb u xs q=>by rw[gx (R b _ q λz=>z)];exact q,λb ps q=>⟨#[],by rw[gx (R b _ q λz=>z),q];simp⟩⟩
 by_cases D:b=e
 ·subst D;exact J
 ·exact⟨u,k b u D q⟩
def trk(h:Heap)(H:Hp):kb:=(List.range h.objs.size).filter λa=>(H a).isSome
def hidT(h:Heap)(H:Hp):Heap:=PySem.W.hideAll h (trk h H)
def zwe(h:Heap)(H:Hp):(hidT h H).objs.size=h.objs.size:=PySem.W.hideAll_size _ _
variable{o:Obj}
def zzd(e:h.get? b=some o)(n:H b=none):(hidT h H).get? b=some o :=
 PySem.W.hideAll_get _ e λD=>by
  have q:(H b).isSome=true:=(j7.mp D).2;rw[n] at q;simp at q
def z2z(e:(hidT h H).get? b=some o):h.get? b=some o/\H b=none:=by
 have e':h.get? b=some o:=PySem.W.of_hideAll (trk h H) e;refine⟨e',?_⟩;cases q:H b with
 | none=>rfl
 | some x =>
   have D:b∈trk h H:=j7.mpr ⟨i4.mpr (bi e'),by simp[q]⟩;have z:(hidT h H).get? b=none:=PySem.W.hideAll_none (trk h H) D;rw[z] at e;cases e
def z20(g h:Heap)(L:Addr):ln:=(List.range h.objs.size).filterMap λa=>if a=L\/(g.get? a).isSome=true then none else(h.get? a).map λo=>(a,o)
def rest(g h:Heap)(L d:Addr):ln:=(z20 g h L).filter λp=>decide (p.1≠d)
structure Mod (K:ll) (mg:Str->ka) (base:Heap):Prop where
 kin:K.In base
 glob:base.Ns mainGlobals mg
 blt:∃mb,base.Ns builtinsNs mb/\∀x:Str,x ≠ "__name__"->mb x=bootBuiltins x
 nolimit:base.NoLimit
structure Cx where
 prog:Program
 w:World
 K:ll
 mg:Str->ka
 base:Heap
 A:Around
 N:ik
 s₀:Shared
 H₀:Hp
 env:Env
 outer:k7
 stack:k7
 ex:kb
 fn:Str->Bool
 calm:Bool
 pn:ln
 xe:Value->Shared->Prop
def frs(l:k7):kb:=l.filterMap (·.frame)
protected abbrev Cx.fs(X:Cx):kb:=frs X.outer
def Vis(sc:Scope)(x:Str):Prop:=sc.names.lookup x=some .local\/sc.names.lookup x=some .cell\/sc.names.lookup x=some .free
def Loc(sc:Scope)(x:Str):Prop:=sc.names.lookup x=some .local\/sc.names.lookup x=some .cell
def Look(env:Env)(h:Heap)(m:Str->ka)(x:Str)(u:Value):Prop :=
 (env.kindOf x=some .local/\m x=some u)\/((env.kindOf x=some .cell\/env.kindOf x=some .free)/\∃c,env.cells.lookup x=some c/\h.IsCell c (some u))
structure Cx.Ok (X:Cx):Prop where
 mod:Mod X.K X.mg X.base
 kind:X.env.scope.kind=.function
 glob:X.env.globals=mainGlobals
 blt:X.env.builtins=builtinsNs
 above:X.s₀.heap.objs.size<=X.env.locals
 inj:∀x y c,X.env.cells.lookup x=some c->X.env.cells.lookup y=some c->x=y
 has:∀x,(X.env.kindOf x=some .cell\/X.env.kindOf x=some .free)->∃c,X.env.cells.lookup x=some c
 cab:∀x c,X.fn x=true->X.env.cells.lookup x=some c->X.s₀.heap.objs.size<=c
 hd:X.calm=true->X.A.handled=none
 frames:X.A.frames=some X.stack
 stk:X.stack=X.outer\/(X.stack=X.env::X.outer/\X.env.frame=some X.env.locals)
 exf:∀b∈X.ex,b≠X.env.locals/\∀x c,X.env.cells.lookup x=some c->c≠b
 bs:∀b o,X.base.get? b=some o->X.s₀.heap.get? b=some o/\X.H₀ b=none
 bsz:X.base.objs.size<=X.s₀.heap.objs.size
 noex:∀b o,X.base.get? b=some o->b∉X.ex
 exfs:∀b∈X.ex,b∉X.fs
 funs:X.s₀.heap.FunFrames X.base X.outer
 frf:∀b∈X.fs,X.H₀ b=none
structure Inv (X:Cx) (pins:ln) (σ:List (Option V)) (H:Hp) (s:Shared):Prop where
 ok:X.Ok
 os:s.os=X.s₀.os
 bare:AllBare s.gens
 base:Un X.fs X.ex X.H₀ H X.s₀.heap s.heap
 loc:∃m,s.heap.Ns X.env.locals m/\∀(i:Nat) (x:Str) (v:V),X.N[i]?=some x->σ[i]?=some (some v)->Vis X.env.scope x->∃u,RelV v u/\Look X.env s.heap m x u
 cell:∀x c,X.env.cells.lookup x=some c->∃v,s.heap.IsCell c v
 free:H X.env.locals=none
 freeC:∀x c,X.env.cells.lookup x=some c->H c=none
 pin:∀p∈X.pn++pins,s.heap.get? p.1=some p.2/\H p.1=none/\p.1≠X.env.locals/\p.1∉X.fs/\∀v,p.2.data≠.cell v
 hok:HOk X.prog X.w H s.heap
 len:σ.length=X.N.length
variable{X:Cx}
def Cx.Ok.nofr(ok:X.Ok)(e:X.base.get? b=some o):b∉X.fs:=λD=>by
 have:=(ok.funs.mem D).1;rw[e] at this;cases this
variable{pins:ln}{σ:List (Option V)}{s:Shared}
protected def Inv.bs(I:Inv X pins σ H s):∀b o,X.base.get? b=some o->s.heap.get? b=some o/\H b=none:=λb o e =>
 ⟨I.base.keep b o (I.ok.bs b o e).1 (I.ok.bs b o e).2 (I.ok.nofr e) (I.ok.noex b o e),I.base.free b o (I.ok.bs b o e).1 (I.ok.bs b o e).2 (I.ok.noex b o e)⟩
def Inv.bk(I:Inv X pins σ H s):∀b o,X.base.get? b=some o->s.heap.get? b=some o:=λb o e=>(I.bs b o e).1
def Inv.mod(I:Inv X pins σ H s):Mod X.K X.mg X.base:=I.ok.mod
def Inv.kIn(I:Inv X pins σ H s):X.K.In s.heap:=I.ok.mod.kin.keeps I.bk
def Inv.lt(I:Inv X pins σ H s):X.env.locals<s.heap.objs.size:=let ⟨_,D,_⟩:=I.loc;D.lt
def Inv.sz(I:Inv X pins σ H s):X.s₀.heap.objs.size<=s.heap.objs.size:=cy I.ok.above (ki I.lt)
def Inv.nofs(I:Inv X pins σ H s)(h:s.heap.objs.size<=a):a∉X.fs:=λD=>by
 obtain⟨_,o,J,_⟩:=I.ok.funs.mem D;exact absurd (bh (bi J) (cy I.sz h)) (fz _)
def Inv.cne(I:Inv X pins σ H s):∀x c,X.env.cells.lookup x=some c->c≠X.env.locals:=λx c e z=>by
 obtain⟨v,o,R,U⟩:=I.cell x c e;obtain⟨m,⟨o',es,V,D,J,_⟩,_⟩:=I.loc;rw[z,D] at R;cases R;rw[J] at U;cases U
def Inv.funs(I:Inv X pins σ H s):s.heap.FunFrames X.base X.outer:=by
 have all:∀(l:k7),(∀b∈frs l,b∈X.fs)->X.s₀.heap.FunFrames X.base l->s.heap.FunFrames X.base l:=by
  intro l;induction l with
  | nil=>intro _ _;trivial
  | cons env r ih =>
    intro U V;obtain⟨Y,⟨L,o,D,Z,a,c⟩,d⟩:=V;have J:L∈X.fs:=U L (by unfold frs;rw[j9,D];exact bu);obtain⟨sl,e⟩:=I.base.slot L o a (I.ok.frf L J) J λz=>I.ok.exfs L z J;exact⟨Y,⟨L,_,D,Z,e,c⟩,ih (λb R=>U b (by unfold frs;rw[j9,D];exact ay _ R)) d⟩
 exact all X.outer (λ_ R=>R) I.ok.funs
def Inv.stack(I:Inv X pins σ H s):s.heap.FunFrames X.base X.stack:=by
 rcases I.ok.stk with e | ⟨e,hf⟩
 ·rw[e];exact I.funs
 ·rw[e]
  obtain⟨m,D,_⟩:=I.loc;refine .cons (by rw[I.ok.kind];decide) hf D ?_ I.funs;exact Heap.get?_none_of_le (cy I.ok.bsz I.ok.above)
def Inv.stkSub(I:Inv X pins σ H s):∀b∈frs X.stack,b∈X.env.locals::X.fs:=λb D=>by
 rcases I.ok.stk with e | ⟨e,hf⟩
 ·rw[e] at D;exact ay _ D
 ·rw[e] at D
  unfold frs at D;rw[j9,hf] at D;exact D
def Inv.stkFree(I:Inv X pins σ H s):∀b∈frs X.stack,H b=none:=λb hb=>by
 rcases b8.mp (I.stkSub b hb) with e | hb
 ·rw[e];exact I.free
 ·obtain⟨_,o,D,_⟩:=I.ok.funs.mem hb
  exact I.base.free b o D (I.ok.frf b hb) λz=>I.ok.exfs b z hb
variable{g':Array GenState}{t':Nat}{d':Drawn}{ch:kb}
protected def Inv.step(I:Inv X pins σ H s)(J:∀b∈ch,(b∈X.ex\/X.s₀.heap.objs.size<=b)/\b≠X.env.locals/\(∀x c,X.env.cells.lookup x=some c->c≠b)/\∀p∈X.pn++pins,p.1≠b)(keep:∀b o,b≠X.env.locals->b∉X.fs->b∉ch->s.heap.get? b=some o->H b=none->h'.get? b=some o)(Z:∀b o,b≠X.env.locals->b∈X.fs->b∉ch->s.heap.get? b=some o->H b=none->∃sl,h'.get? b=some { o with slots:=sl })(free:∀b o,b∉ch->s.heap.get? b=some o->H b=none->H' b=none)(a:∀b o,b∉ch->s.heap.get? b=some o->∃o',h'.get? b=some o')(h:∀b xs,H b=some (.tup xs)->H' b=some (.tup xs))(j:∀b o u,H b=some (.frz o u)->H' b=some (.frz o u))(t:∀b ps,H b=some (.tbl ps)->∃more,H' b=some (.tbl (ps++more)))(M:∀m,s.heap.Ns X.env.locals m->h'.Ns X.env.locals m)(B:HOk X.prog X.w H' h')(N:AllBare g') :
  Inv X pins σ H' { s with heap:=h',gens:=g',drawn:=d',toks:=t' }:=by
 have y:∀b o,X.s₀.heap.get? b=some o->b≠X.env.locals:=λb o e=>cf (bh (bi e) I.ok.above);have V:∀b o,X.s₀.heap.get? b=some o->b∉X.ex->b∉ch:=λb o e D f=>by
  rcases(J b f).1 with z | z
  ·exact D z
  ·exact absurd (bh (bi e) z) (fz _)
 have R:∀x c,X.env.cells.lookup x=some c->∀v,s.heap.IsCell c v->h'.IsCell c v:=λx c e v O=>by
  obtain⟨o,g,C⟩:=O;have U:c∉ch:=λz=>(J c z).2.2.1 x c e rfl;by_cases F:c∈X.fs
  ·obtain⟨sl,q⟩:=Z c o (I.cne x c e) F U g (I.freeC x c e)
   exact⟨_,q,C⟩
  ·exact⟨o,keep c o (I.cne x c e) F U g (I.freeC x c e),C⟩
 refine⟨I.ok,I.os,N,⟨λb o e n f D=>?_,λb o e n f D=>?_,λb o e n D=>?_,λb o e D=>?_,λb xs e=>h b xs (I.base.tups b xs e),λb o xs e=>j b o xs (I.base.frzs b o xs e),λb ps e=>?_⟩,?_,λx c e=>?_,?_,λx c e=>?_,λp G=>?_,B,I.len⟩
 ·exact keep b o (y b o e) f (V b o e D) (I.base.keep b o e n f D) (I.base.free b o e n D)
 ·obtain⟨sl,Y⟩:=I.base.slot b o e n f D
  obtain⟨E,A⟩:=Z b _ (y b o e) f (V b o e D) Y (I.base.free b o e n D);exact⟨E,A⟩
 ·obtain⟨o',Y⟩:=I.base.there b o e D
  exact free b o' (V b o e D) Y (I.base.free b o e n D)
 ·obtain⟨o',Y⟩:=I.base.there b o e D
  exact a b o' (V b o e D) Y
 ·obtain⟨P,Y⟩:=I.base.tbls b ps e
  obtain⟨Q,A⟩:=t b _ Y;exact⟨P++Q,by rw[A,Array.append_assoc]⟩
 ·obtain⟨m,S,T⟩:=I.loc
  refine⟨m,M m S,λi x v Y A W=>?_⟩;obtain⟨u,r,l⟩:=T i x v Y A W;refine⟨u,r,?_⟩;rcases l with l | ⟨k,c,e,z⟩
  ·exact .inl l
  ·exact .inr ⟨k,c,e,R x c e _ z⟩
 ·obtain⟨v,z⟩:=I.cell x c e
  exact⟨v,R x c e v z⟩
 ·obtain⟨m,⟨o,_,_,g,_⟩,_⟩:=I.loc
  exact free _ o (λz=>(J _ z).2.1 rfl) g I.free
 ·obtain⟨v,o,g,C⟩:=I.cell x c e
  exact free c o (λz=>(J c z).2.2.1 x c e rfl) g (I.freeC x c e)
 ·obtain⟨e,n,K,L,d⟩:=I.pin p G
  have U:p.1∉ch:=λz=>(J p.1 z).2.2.2 p G rfl;exact⟨keep p.1 p.2 K L U e n,free p.1 p.2 U e n,K,L,d⟩
def Inv.un(I:Inv X pins σ H s)(u:Un X.fs [] H H' s.heap h')(J:HOk X.prog X.w H' h'):Inv X pins σ H' { s with heap:=h',toks:=t' }:=by
 obtain⟨m,⟨o,es,d,Y,r⟩,_⟩:=id I.loc;obtain⟨sl,Z⟩:=u.any Y I.free (by simp);exact I.step (g':=s.gens) (d':=s.drawn) (ch:=[]) (λ_ z=>nomatch z) (λb o _ R _ e n=>u.keep b o e n R (by simp)) (λb o _ R _ e n=>u.slot b o e n R (by simp)) (λb o _ e n=>u.free b o e n (by simp)) (λb o _ e=>u.there b o e (by simp)) u.tups u.frzs u.tbls (λf a=>by
  obtain⟨o',U,V,D,c⟩:=a;rw[Y] at D;cases D;exact⟨_,U,V,Z,c⟩) J I.bare
def Inv.call(I:Inv X pins σ H s)(u:Un (frs X.stack) ch H H' s.heap h')(U:HOk X.prog X.w H' h')(d:AllBare g')(J:∀b∈ch,(b∈X.ex\/X.s₀.heap.objs.size<=b)/\b≠X.env.locals/\(∀x c,X.env.cells.lookup x=some c->c≠b)/\∀p∈X.pn++pins,p.1≠b) :
  Inv X pins σ H' { s with heap:=h',gens:=g',drawn:=d',toks:=t' }:=by
 obtain⟨m,⟨o,es,i,a,r⟩,_⟩:=id I.loc;obtain⟨sl,V⟩:=u.any a I.free λz=>(J _ z).2.1 rfl;exact I.step (ch:=ch) J (λb o V f D e n=>u.keep b o e n (λz=>(b8.mp (I.stkSub b z)).elim V f) D) (λb o _ _ D e n=>u.any e n D) (λb o D e n=>u.free b o e n D) (λb o D e=>u.there b o e D) u.tups u.frzs u.tbls (λj g=>by
  obtain⟨o',Y,Z,R,h⟩:=g;rw[a] at R;cases R;exact⟨_,Y,Z,V,h⟩) U d
variable{it:Addr}
def Inv.turned(I:Inv X pins σ H s)(k:∀b o,b≠it->s.heap.get? b=some o->h'.get? b=some o)(U:H it=none)(R:it≠X.env.locals)(h1:it∈X.ex\/X.s₀.heap.objs.size<=it)(h2:∀x c,X.env.cells.lookup x=some c->c≠it)(V:∀p∈X.pn++pins,p.1≠it):Inv X pins σ H { s with heap:=h',toks:=t' }:=by
 have J:∀b u,H b=some u->b≠it:=λb u e z=>by rw[z,U] at e;cases e
 refine I.step (g':=s.gens) (d':=s.drawn) (ch:=[it]) (λb Y=>?_) (λb o _ _ D e _=>k b o (λz=>D (by simp[z])) e) (λb o _ _ D e _=>⟨o.slots,k b o (λz=>D (by simp[z])) e⟩) (λ_ _ _ _ n=>n)
  (λb o D e=>⟨o,k b o (λz=>D (by simp[z])) e⟩) (λ_ _ e=>e) (λ_ _ _ e=>e) (λb ps e=>⟨#[],by rw[e];simp⟩) (λm Z=>?_) (λb u e=>?_) I.bare
 ·have e:b=it:=by simpa using Y
  subst e;exact⟨h1,R,h2,V⟩
 ·obtain⟨o,es,a,d,r⟩:=Z
  exact⟨o,es,a,k _ o (Ne.symm R) d,r⟩
 ·refine(I.hok b u e).stay (λc v D q=>k c v ?_ q) (λ_ q=>q) λ_ _ q=>q
  rcases D with z | z
  ·rw[z];exact J b u e
  ·exact J c _ z
def Inv.tok(I:Inv X pins σ H s)(t:Nat):Inv X pins σ H { s with toks:=t }:=I.un (h':=s.heap) (t':=t) Un.refl I.hok
def Inv.kept{t':Nat}(I:Inv X pins σ H s)(k:∀b u,s.heap.get? b=some u->h'.get? b=some u):Inv X pins σ H { s with heap:=h',toks:=t' }:=I.un (Un.kept k) (I.hok.kept k)
def Inv.laid{a:Addr}{o:HO}{t':Nat}(I:Inv X pins σ H s)(k:∀b u,s.heap.get? b=some u->h'.get? b=some u)(D:s.heap.objs.size<=a)(new:ObjOk X.prog X.w (upd H a o) h' a o) :
  Inv X pins σ (upd H a o) { s with heap:=h',toks:=t' }:=I.un (Un.laid k D (I.hok.fresh D)) (I.hok.laid k D new)
def Inv.write{x e:Addr}{o:HO}{t':Nat}(I:Inv X pins σ H s)(J:Mut (H x))(R:e=x\/H e=some (.own x))(k:∀b u,b≠e->s.heap.get? b=some u->h'.get? b=some u)(D:∃u,h'.get? e=some u)(new:ObjOk X.prog X.w (upd H x o) h' x o):Inv X pins σ (upd H x o) { s with heap:=h',toks:=t' }:=I.un (Un.write J R k D) (I.hok.write J R k D new)
def Inv.pins_of{D:ln}(I:Inv X pins σ H s)(h:∀p∈D,s.heap.get? p.1=some p.2/\H p.1=none/\p.1≠X.env.locals/\p.1∉X.fs/\∀v,p.2.data≠.cell v):Inv X D σ H s :=
 ⟨I.ok,I.os,I.bare,I.base,I.loc,I.cell,I.free,I.freeC,λp J=>(de.mp J).elim (λz=>I.pin p (dy _ z)) (h p),I.hok,I.len⟩
variable{x:Str}{N:ik}{i:Nat}{j:Int}
def zpl(D:N.Nodup){j:Nat}(a:N[i]?=some x)(b:N[j]?=some x):i=j:=by
 obtain⟨h1,I⟩:=aj.mp a;obtain⟨h2,J⟩:=aj.mp b;exact(List.getElem_inj D).mp (I.trans J.symm)
variable{M:Model}{A:Around}{E:Value->Shared->Prop}{v:V}{Q:Unit->Shared->Prop}
def znk(I:Inv X pins σ H s)(hN:X.N.Nodup)(hi:X.N[i]?=some x)(U:Loc X.env.scope x)(r:RelV v u)(h:∀s',Inv X pins (σ.set i (some v)) H s'->(∃a,Heap.SameBut a s.heap s'.heap/\(a=X.env.locals\/X.env.cells.lookup x=some a))->Q () s')(hf:X.fn x=true\/X.env.scope.names.lookup x=some .local:=by first | exact .inl rfl | exact .inr rfl | assumption):wpAny M A (storeName X.env x u) Q E s:=by
 obtain⟨m,P,hl⟩:=id I.loc;have t:(X.env.scope.kind==.class || (X.env.scope.kind==.module && X.env.locals != X.env.globals))=false:=by rw[I.ok.kind];rfl
 have Z:i<σ.length:=by rw[I.len];exact(aj.mp hi).1
 have cne:=I.cne;have J:∀ {a:Addr} {h':Heap},(∃o,s.heap.get? a=some o/\H a=none)->Heap.SameBut a s.heap h'->HOk X.prog X.w H h':=λ{a h'} ha D b ob e=>by
  obtain⟨_,_,V⟩:=ha;refine(I.hok b ob e).stay (λc K hc q=>(D.2 c ?_).trans q) (λ_ q=>q) λ_ _ q=>q;rintro rfl;rcases hc with rfl | hc
  ·rw[V] at e;cases e
  ·rw[V] at hc;cases hc
 rcases U with hk | hk
 ·refine wpAny_storeName_local hk P (λh' S D=>?_) t
  obtain⟨oL,_,_,T,_⟩:=id P;refine h _ ⟨I.ok,I.os,I.bare,⟨λb o e n f U=>?_,λb o e n f U=>?_,I.base.free,λb o e U=>?_,I.base.tups,I.base.frzs,I.base.tbls⟩,⟨_,S,λj y W R Y e3=>?_⟩,λy c e=>?_,I.free,I.freeC,λp hp=>?_,J ⟨oL,T,I.free⟩ D,by simpa using I.len⟩ ⟨_,D,.inl rfl⟩
  ·exact(D.2 b (cf (bh (bi e) I.ok.above))).trans (I.base.keep b o e n f U)
  ·obtain⟨sl,R⟩:=I.base.slot b o e n f U
   exact⟨sl,(D.2 b (cf (bh (bi e) I.ok.above))).trans R⟩
  ·obtain⟨o',R⟩:=I.base.there b o e U
   exact⟨o',(D.2 b (cf (bh (bi e) I.ok.above))).trans R⟩
  ·by_cases g:j=i
   ·subst g
    rw[hi] at R;cases R;rw[d8 Z] at Y;cases Y;exact⟨u,r,.inl ⟨hk,by simp⟩⟩
   ·rw[dh (Ne.symm g)] at Y
    obtain⟨u',r',q⟩:=hl j y W R Y e3;refine⟨u',r',?_⟩;rcases q with⟨k,e⟩ | ⟨k,c,e,z⟩
    ·refine .inl ⟨k,?_⟩
     have:y≠x:=λe=>g (zpl hN R (e ▸ hi));simp[this,e]
    ·exact .inr ⟨k,c,e,z.sameBut D (cne y c e)⟩
  ·obtain⟨K,z⟩:=I.cell y c e
   exact⟨K,z.sameBut D (cne y c e)⟩
  ·obtain⟨e,n,L,nf,d⟩:=I.pin p hp
   exact⟨(D.2 p.1 L).trans e,n,L,nf,d⟩
 ·have l:X.fn x=true:=by
   rcases hf with z | z
   ·exact z
   ·rw[z] at hk;cases hk
  obtain⟨c,hc⟩:=I.ok.has x (.inl hk);obtain⟨K,z⟩:=I.cell x c hc;refine wpAny_storeName_cell I.ok.kind hk hc z (λh' B D=>?_);obtain⟨oc,C,F⟩:=id z;refine h { s with heap:=h' } ⟨I.ok,I.os,I.bare,⟨λb o e n f U=>?_,λb o e n f U=>?_,I.base.free,λb o e U=>?_,I.base.tups,I.base.frzs,I.base.tbls⟩,⟨m,P.sameBut D (Ne.symm (cne x c hc)),λj y W R Y e3=>?_⟩,λy O e=>?_,I.free,I.freeC,λp hp=>?_,J ⟨oc,C,I.freeC x c hc⟩ D,by simpa using I.len⟩ ⟨c,D,.inr hc⟩
  ·exact(D.2 b (cf (bh (bi e) (I.ok.cab x c l hc)))).trans (I.base.keep b o e n f U)
  ·obtain⟨sl,R⟩:=I.base.slot b o e n f U
   exact⟨sl,(D.2 b (cf (bh (bi e) (I.ok.cab x c l hc)))).trans R⟩
  ·obtain⟨o',R⟩:=I.base.there b o e U
   exact⟨o',(D.2 b (cf (bh (bi e) (I.ok.cab x c l hc)))).trans R⟩
  ·by_cases g:j=i
   ·subst g
    rw[hi] at R;cases R;rw[d8 Z] at Y;cases Y;exact⟨u,r,.inr ⟨.inl hk,c,hc,B⟩⟩
   ·rw[dh (Ne.symm g)] at Y
    obtain⟨u',r',q⟩:=hl j y W R Y e3;refine⟨u',r',?_⟩;rcases q with q | ⟨k,O,e,z'⟩
    ·exact .inl q
    ·refine .inr ⟨k,O,e,z'.sameBut D ?_⟩
     rintro rfl;exact g (zpl hN R (I.ok.inj _ _ _ e hc ▸ hi))
  ·by_cases G:O=c
   ·subst G;exact⟨_,B⟩
   ·obtain⟨w2,z2⟩:=I.cell y O e
    exact⟨w2,z2.sameBut D G⟩
  ·obtain⟨e,n,L,nf,d⟩:=I.pin p hp
   refine⟨(D.2 p.1 ?_).trans e,n,L,nf,d⟩;intro q;rw[q,C] at e;have q':oc=p.2:=bn e;exact d K (by rw[<-q'];exact F)
def zm5(I:Inv X pins σ H s)(D:X.N.Nodup)(hi:X.N[i]?=some x)(J:Loc X.env.scope x)(r:RelV v u)(h:∀s',Inv X pins (σ.set i (some v)) H s'->Q () s')(R:X.fn x=true\/X.env.scope.names.lookup x=some .local:=by first | exact .inl rfl | exact .inr rfl | assumption):wpAny M A (storeName X.env x u) Q E s :=
 znk I D hi J r (λs' U _=>h s' U) R
variable{s':Shared}
def Inv.call'(I:Inv X pins σ H s)(R:s'.os=s.os)(u:Un (frs X.stack) ch H H' s.heap s'.heap)(D:HOk X.prog X.w H' s'.heap)(U:AllBare s'.gens)(J:∀b∈ch,(b∈X.ex\/X.s₀.heap.objs.size<=b)/\b≠X.env.locals/\(∀x c,X.env.cells.lookup x=some c->c≠b)/\∀p∈X.pn++pins,p.1≠b):Inv X pins σ H' s':=by
 obtain⟨h',g',d',t',o'⟩:=s';have e:o'=s.os:=R;subst e;exact I.call (g':=g') (t':=t') (d':=d') u D U J
abbrev XK:=Value->Option Addr->Hp->Prop
abbrev St:=List (Option V)
abbrev VK:=V->Hp->Prop
abbrev TE:=St->Hp->VK->Prop
abbrev TT:=St->Hp->(Bool->Hp->Prop)->Prop
abbrev TA:=St->Hp->(l0->Hp->Prop)->Prop
structure Ends where
 nx:St->Hp->Prop
 rt:VK
 bk:St->Hp->Prop:=λ_ _=>False
 ct:St->Hp->Prop:=λ_ _=>False
abbrev TS:=Ends->St->Hp->Prop
inductive EP (X:Cx) (pins:ln) (σ:St) (Q:VK) (u:Value) (s':Shared):Prop
 | mk (v:V) (H':Hp) (i:Inv X pins σ H' s') (r:RelV v u) (q:Q v H'):EP X pins σ Q u s'
inductive TP (X:Cx) (pins:ln) (σ:St) (Q:Bool->Hp->Prop) (b:Bool) (s':Shared):Prop
 | mk (H':Hp) (i:Inv X pins σ H' s') (q:Q b H'):TP X pins σ Q b s'
inductive AP (X:Cx) (pins:ln) (σ:St) (Q:l0->Hp->Prop) (us:i0) (s':Shared):Prop
 | mk (vs:l0) (H':Hp) (i:Inv X pins σ H' s') (r:Vals vs us) (q:Q vs H'):AP X pins σ Q us s'
def SP(X:Cx)(pins:ln)(D:Ends)(f:Flow)(s':Shared):Prop :=
 match f with
 | .next=>∃I H',Inv X pins I H' s'/\D.nx I H'
 | .brk=>∃I H',Inv X pins I H' s'/\D.bk I H'
 | .cont=>∃I H',Inv X pins I H' s'/\D.ct I H'
 | .ret u=>∃v I H',Inv X pins I H' s'/\RelV v u/\D.rt v H'
def PE(X:Cx)(e:Expr)(t:TE):Prop :=
 ∀(pins:ln) (s:Shared) (σ:St) (H:Hp) (Q:VK),Inv X pins σ H s->t σ H Q->wpAny (model X.prog X.w) X.A (eval e X.env) (EP X pins σ Q) X.xe s
def PT(X:Cx)(e:Expr)(t:TT):Prop :=
 ∀(pins:ln) (s:Shared) (σ:St) (H:Hp) (Q:Bool->Hp->Prop),Inv X pins σ H s->t σ H Q->wpAny (model X.prog X.w) X.A (isTrue e X.env (eval e X.env)) (TP X pins σ Q) X.xe s
def PW(X:Cx)(e:Expr)(t:TT):Prop :=
 ∀(whole:Sem Value) (pins:ln) (s:Shared) (σ:St) (H:Hp) (Q:Bool->Hp->Prop),Inv X pins σ H s->t σ H Q->wpAny (model X.prog X.w) X.A (isTrue e X.env whole) (TP X pins σ Q) X.xe s
variable{e:Expr}{t:TA}
def PW.pt{t:TT}(h:PW X e t):PT X e t:=h _
def PA(X:Cx)(es:k8)(t:TA):Prop :=
 ∀(pos:Pos) (pins:ln) (s:Shared) (σ:St) (H:Hp) (Q:l0->Hp->Prop),Inv X pins σ H s->t σ H Q->wpAny (model X.prog X.w) X.A (spliced (backTo pos (starEach es X.env))) (AP X pins σ Q) X.xe s
def PS(X:Cx)(st:Stmt)(t:TS):Prop :=
 ∀(pins:ln) (s:Shared) (σ:St) (H:Hp) (D:Ends),Inv X pins σ H s->t D σ H->wpAny (model X.prog X.w) X.A (exec st X.env) (SP X pins D) X.xe s
def PSs(X:Cx)(st:List Stmt)(t:TS):Prop :=
 ∀(pins:ln) (s:Shared) (σ:St) (H:Hp) (D:Ends),Inv X pins σ H s->t D σ H->wpAny (model X.prog X.w) X.A (execs st X.env) (SP X pins D) X.xe s
def thn{t:Sem α}{Q D:α->Shared->Prop}(h:wpAny M A t Q E s)(I:∀a s,Q a s->D a s):wpAny M A t D E s:=wpAny_mono h I λ_ _ x=>x
section
variable {X:Cx}
def tVar(i:Nat):TE:=λσ H Q=>∃v,σ[i]?=some (some v)/\Q v H
def tC(v:V):TE:=λ_ H Q=>Q v H
def z5t{i:Nat}{x:Str}{pos:Pos}(U:X.N[i]?=some x)(V:Vis X.env.scope x)(J:(x==("__debug__" : Str))=false:=by decide)(R:(x==("__classdict__" : Str))=false:=by decide):PE X (.Name x pos) (tVar i):=by
 intro pins s σ H Q I h;obtain⟨v,e,h⟩:=h;obtain⟨m,Y,Z⟩:=I.loc;obtain⟨u,r,l⟩:=Z i x v U e V;have D:EP X pins σ Q u s:=⟨v,H,I,r,h⟩;rcases l with⟨hk,a⟩ | ⟨hk,c,hc,hcell⟩
 ·exact wpAny_Name (wpAny_loadName_local I.ok.kind hk Y a D) J
 ·rcases hk with hk | hk
  ·exact wpAny_Name (wpAny_loadName_cell I.ok.kind hk hc hcell D) J
  ·exact wpAny_Name (wpAny_loadName_free I.ok.kind hk hc hcell D R) J
def yn{i j pos}:PE X (.Constant (.int i) j pos) (tC (.int i)):=λ_ _ _ H _ I h=>wpAny_Constant_int ⟨.int i,H,I.tok _,⟨_,rfl⟩,h⟩
def z86{b j pos}:PE X (.Constant (.bool b) j pos) (tC (.bl b)):=λ_ _ _ H _ I h=>Constant_bool ⟨.bl b,H,I,rfl,h⟩
def z1v{x j pos}:PE X (.Constant (.str x) j pos) (tC (.str x)):=λ_ _ _ H _ I h=>Calls.Constant_str ⟨.str x,H,I.tok _,⟨_,rfl⟩,h⟩
def Gl(X:Cx)(x:Str):Prop:=X.env.kindOf x=some .globalImplicit
def xq{E:Value->Shared->Prop}{pins:ln}{s:Shared}{σ:St}{H:Hp}{x:Str}{u:Value}{pos:Pos}{Q:Value->Shared->Prop}(I:Inv X pins σ H s)(D:Gl X x)(J:X.mg x=some u)(h:Q u s)(R:(x==("__debug__" : Str))=false:=by decide):wpAny (model X.prog X.w) X.A (eval (.Name x pos) X.env) Q E s :=
 Calls.Name_function_global I.ok.kind D (Calls.loadGlobal_global (by rw[I.ok.glob];exact I.mod.glob.keeps I.bk) J h) R
def xk{E:Value->Shared->Prop}{pins:ln}{s:Shared}{σ:St}{H:Hp}{x:Str}{u:Value}{pos:Pos}{Q:Value->Shared->Prop}(I:Inv X pins σ H s)(D:Gl X x)(J:X.mg x=none)(R:bootBuiltins x=some u)(h:Q u s)(U:x ≠ "__name__":=by decide)(V:(x==("__debug__" : Str))=false:=by decide):wpAny (model X.prog X.w) X.A (eval (.Name x pos) X.env) Q E s:=by
 obtain⟨Y,h1,h2⟩:=I.mod.blt;exact Calls.Name_function_global I.ok.kind D (Calls.loadGlobal_builtin (by rw[I.ok.glob];exact I.mod.glob.keeps I.bk) J (by rw[I.ok.blt];exact h1.keeps I.bk) ((h2 x U).trans R) h) V
def zwf{x:Str}{v:V}{u:Value}{pos:Pos}(D:Gl X x)(J:X.mg x=some u)(r:RelV v u)(R:(x==("__debug__" : Str))=false:=by decide):PE X (.Name x pos) (tC v) :=
 λ_ _ _ H _ I h=>xq I D J ⟨v,H,I,r,h⟩ R
def zwg{x:Str}{v:V}{u:Value}{pos:Pos}(D:Gl X x)(J:X.mg x=none)(R:bootBuiltins x=some u)(r:RelV v u)(U:x ≠ "__name__":=by decide)(Y:(x==("__debug__" : Str))=false:=by decide):PE X (.Name x pos) (tC v) :=
 λ_ _ _ H _ I h=>xk I D J R ⟨v,H,I,r,h⟩ U Y
variable {a b:Expr} {ta tb:TE} {pos:Pos}
def tB(t:TE):TT:=λσ H Q=>t σ H λx H1=>∃c,x=.bl c/\Q c H1
def z5u{e:Expr}{t:TE}(h:PE X e t)(D:∀whole,isTrue e X.env whole=(do let v <-whole;standAt e.pos;holding [v] (truthy v)):=by intro _;rfl):PT X e (tB t):=by
 intro pins s σ H Q I J;refine isTrue_plain (thn (h pins s σ H _ I J) λv Z R=>?_) (D _);obtain⟨x,H1,U,V,Y⟩:=R;obtain⟨d,rfl,q⟩:=Y;cases V;exact wpAny_truthy_bool ⟨H1,U,q⟩
variable {tA tB':TT} {rest:k8}
def tAnd(t u:TT):TT:=λσ H Q=>t σ H λc H1=>if c=true then u σ H1 Q else Q false H1
def tOr(t u:TT):TT:=λσ H Q=>t σ H λc H1=>if c=true then Q true H1 else u σ H1 Q
def tNot(t:TT):TT:=λσ H Q=>t σ H λc H1=>Q (!c) H1
def z21(D:PT X a tA):PW X (.BoolOp .And [a] pos) tA:=by
 intro J pins s σ H Q I h;refine isTrue_and (thn (D pins s σ H Q I h) λc R e=>?_);cases c with
 | true=>exact isTrue_and_nil e
 | false=>exact e
def z5v(D:PT X a tA):PW X (.BoolOp .Or [a] pos) tA:=by
 intro J pins s σ H Q I h;refine isTrue_or (thn (D pins s σ H Q I h) λc R e=>?_);cases c with
 | false=>exact isTrue_or_nil e
 | true=>exact e
def z5w(R:PT X a tA)(U:PW X (.BoolOp .And (b::rest) pos) tB'):PW X (.BoolOp .And (a::b::rest) pos) (tAnd tA tB'):=by
 intro V pins s σ H Q I h;refine isTrue_and (thn (R pins s σ H _ I h) λc Y Z=>?_);obtain⟨H1,D,J⟩:=Z;cases c with
 | true=>exact U V pins Y σ H1 Q D J
 | false=>exact⟨H1,D,J⟩
def z87(R:PT X a tA)(U:PW X (.BoolOp .Or (b::rest) pos) tB'):PW X (.BoolOp .Or (a::b::rest) pos) (tOr tA tB'):=by
 intro V pins s σ H Q I h;refine isTrue_or (thn (R pins s σ H _ I h) λc Y Z=>?_);obtain⟨H1,D,J⟩:=Z;cases c with
 | true=>exact⟨H1,D,J⟩
 | false=>exact U V pins Y σ H1 Q D J
def z5x(D:PT X a tA):PT X (.UnaryOp .Not a pos) (tNot tA):=by
 intro pins s σ H Q I h;refine isTrue_not (thn (D pins s σ H (λc H1=>Q (!c) H1) I h) λc R h=>?_);obtain⟨H1,J,q⟩:=h;exact⟨H1,J,q⟩
def z88(ta tb:TE):TE:=λσ H Q=>ta σ H λx H1=>∃c,x=.bl c/\if c=true then tb σ H1 Q else Q (.bl false) H1
def z89(ta:TE):TE:=λσ H Q=>ta σ H λx H1=>∃c,x=.bl c/\Q (.bl (!c)) H1
def z5y{op}{t:TE}(h:PE X a t):PE X (.BoolOp op [a] pos) t:=λpins s σ H Q I D=>BoolOp_one (h pins s σ H Q I D)
def z5z(R:PE X a ta)(U:PE X (.BoolOp .And (b::rest) pos) tb):PE X (.BoolOp .And (a::b::rest) pos) (z88 ta tb):=by
 intro pins s σ H Q I h;refine BoolOp_and (thn (R pins s σ H _ I h) λv V Y=>?_);obtain⟨x,H1,J,Z,D⟩:=Y;obtain⟨c,rfl,D⟩:=D;cases Z;refine wpAny_truthy_bool ?_;cases c with
 | true=>exact U pins V σ H1 Q J D
 | false=>exact⟨.bl false,H1,J,rfl,D⟩
def z50(J:PE X a ta):PE X (.UnaryOp .Not a pos) (z89 ta):=by
 intro pins s σ H Q I h;refine UnaryOp_ (thn (J pins s σ H _ I h) λv Y R=>?_);obtain⟨x,H1,U,V,D⟩:=R;obtain⟨c,rfl,D⟩:=D;cases V;exact not_of (wpAny_truthy_bool ⟨.bl (!c),H1,U,rfl,D⟩)
end
def SqL(K:ll)(H:Hp)(a:Addr)(xs:l0):Prop :=
 Rd H a (.lst xs) \/
  ∃(o:Obj) (its:lx) (n:Nat),K.lookup a=some o/\o.cls=.type "list"/\o.dict=none/\o.data=.seq its n/\its.size<=sizeLine/\Vals xs its.toList
def SqT(K:ll)(H:Hp)(a:Addr)(xs:l0):Prop :=
 Rd H a (.tup xs) \/
  ∃(o:Obj) (its:lx) (n:Nat),K.lookup a=some o/\o.cls=.type "tuple"/\o.data=.seq its n/\its.size<=sizeLine/\Vals xs its.toList
def absV:Value->Option V
 | .none=>some .non
 | .bool b=>some (.bl b)
 | .int i _=>some (.int i)
 | .str x _=>some (.str x)
 | .bytes b _=>some (.byt b)
 | .float b _=>some (.flt b)
 | .ref a=>some (.ref a)
 | .type n=>some (.ty n)
 | _=>none
def RelV.abs{x:V}(r:RelV x u):absV u=some x:=by
 cases x with
 | non=>cases r;rfl
 | bl _=>cases r;rfl
 | int _=>obtain⟨t,rfl⟩:=r;rfl
 | str _=>obtain⟨t,rfl⟩:=r;rfl
 | byt _=>obtain⟨t,rfl⟩:=r;rfl
 | flt _=>obtain⟨t,rfl⟩:=r;rfl
 | ref _=>cases r;rfl
 | ty _=>cases r;rfl
def RelV.inj{x y:V}{u:Value}(r:RelV x u)(q:RelV y u):x=y:=bn (r.abs.symm.trans q.abs)
def Vals.inj{xs ys:l0}{us:i0}(h:Vals xs us)(g:Vals ys us):xs=ys:=by
 induction h generalizing ys with
 | nil=>cases g;rfl
 | cons r t ih=>cases g with | cons p q=>rw[r.inj p,ih q]
variable{K:ll}
def SqT.of(h:H a=some (.tup xs)):SqT K H a xs:=.inl (.inl h)
variable{σ:St}
theorem Inv.list(I:Inv X pins σ H s)(h:SqL X.K H a xs):∃its:i0,Vals xs its/\PlainL s.heap a its.toArray/\xs.length<=sizeLine:=by
 rcases h with h | ⟨o,its,n,hk,hc,hd,hs,hz,r⟩
 ·obtain⟨z,its,n,r,e⟩:=h.ok I.hok
  exact⟨its,r,⟨_,n,e,rfl,rfl,rfl⟩,z⟩
 ·refine⟨its.toList,r,⟨o,n,I.kIn a o hk,hc,hd,by simpa using hs⟩,?_⟩
  have e:=r.length;simp only[nt] at e
  lia
theorem Inv.tuple(I:Inv X pins σ H s)(h:SqT X.K H a xs):∃its:i0,Vals xs its/\IsTup s.heap a its.toArray/\xs.length<=sizeLine:=by
 rcases h with h | ⟨o,its,n,hk,hc,hs,hz,r⟩
 ·obtain⟨z,its,r,p⟩:=h.ok I.hok
  exact⟨its,r,p,z⟩
 ·refine⟨its.toList,r,⟨o,I.kIn a o hk,hc,n,by simpa using hs⟩,?_⟩
  have e:=r.length;simp only[nt] at e
  lia
def Inv.list_inj(I:Inv X pins σ H s)(h:SqL X.K H a xs)(h':SqL X.K H a ys):xs=ys:=by
 obtain⟨its,r,⟨o,n,e,_,_,d⟩,_⟩:=I.list h;obtain⟨its',D,⟨o',J,e',_,_,d'⟩,_⟩:=I.list h';rw[e] at e';cases e';rw[d] at d';injection d' with d1 _;have:its=its':=by simpa using congrArg Array.toList d1
 subst this;exact r.inj D
def Inv.tuple_inj(I:Inv X pins σ H s)(h:SqT X.K H a xs)(h':SqT X.K H a ys):xs=ys:=by
 obtain⟨its,r,⟨o,e,_,n,d⟩,_⟩:=I.tuple h;obtain⟨its',D,⟨o',e',_,J,d'⟩,_⟩:=I.tuple h';rw[e] at e';cases e';rw[d] at d';injection d' with d1 _;have:its=its':=by simpa using congrArg Array.toList d1
 subst this;exact r.inj D
abbrev Cx.wish(X:Cx)(E:Value->Shared->Prop):Cx:={ X with xe:=E }
abbrev Cx.nox(X:Cx):Cx:=X.wish λ_ _=>False
def Cx.Ok.wish(ok:X.Ok)(E:Value->Shared->Prop):(X.wish E).Ok :=
 ⟨ok.mod,ok.kind,ok.glob,ok.blt,ok.above,ok.inj,ok.has,ok.cab,ok.hd,ok.frames,ok.stk,ok.exf,ok.bs,ok.bsz,ok.noex,ok.exfs,ok.funs,ok.frf⟩
def Cx.Ok.unwish(ok:(X.wish E).Ok):X.Ok :=
 ⟨ok.mod,ok.kind,ok.glob,ok.blt,ok.above,ok.inj,ok.has,ok.cab,ok.hd,ok.frames,ok.stk,ok.exf,ok.bs,ok.bsz,ok.noex,ok.exfs,ok.funs,ok.frf⟩
def Inv.wish(I:Inv X pins σ H s)(E:Value->Shared->Prop):Inv (X.wish E) pins σ H s:=⟨I.ok.wish E,I.os,I.bare,I.base,I.loc,I.cell,I.free,I.freeC,I.pin,I.hok,I.len⟩
def Inv.unwish(I:Inv (X.wish E) pins σ H s):Inv X pins σ H s:=⟨I.ok.unwish,I.os,I.bare,I.base,I.loc,I.cell,I.free,I.freeC,I.pin,I.hok,I.len⟩
def SP.unwish{D:Ends}{f:Flow}{s':Shared}(h:SP (X.wish E) pins D f s'):SP X pins D f s':=by
 cases f with
 | next=>obtain⟨J,H',I,q⟩:=h;exact⟨J,H',I.unwish,q⟩
 | brk=>obtain⟨J,H',I,q⟩:=h;exact⟨J,H',I.unwish,q⟩
 | cont=>obtain⟨J,H',I,q⟩:=h;exact⟨J,H',I.unwish,q⟩
 | ret u=>obtain⟨v,J,H',I,r,q⟩:=h;exact⟨v,J,H',I.unwish,r,q⟩
def PSs.nox{st:List Stmt}{t:TS}(h:PSs X.nox st t):PSs X st t:=λpins s σ H D I J =>
 wpAny_mono (h pins s σ H D (I.wish _) J) (λ_ _ q=>q.unwish) λ_ _ z=>False.elim z
section
variable {X:Cx} {st:Stmt} {rest:List Stmt} {t u:TS} {e:Expr} {te:TE} {pos:Pos}
def z9a:TS:=λD σ H=>D.nx σ H
def tSeq(t u:TS):TS:=λD σ H=>t { D with nx:=u D } σ H
def z22:PSs X [] z9a:=λ_ _ σ H _ I h=>wpAny_execs_nil ⟨σ,H,I,h⟩
def zze(h1:PS X st t)(h2:PSs X rest u):PSs X (st::rest) (tSeq t u):=by
 intro pins s σ H D I h;refine wpAny_execs_cons (thn (h1 pins s σ H { D with nx:=u D } I h) λf R q=>?_);cases f with
 | next =>
   obtain⟨J,H',U,q⟩:=q;exact h2 pins R J H' D U q
 | ret v=>exact q
 | brk=>exact q
 | cont=>exact q
def z23(h1:PS X st t):PSs X [st] t:=by
 intro pins s σ H D I h;refine wpAny_execs_cons (thn (h1 pins s σ H D I h) λf J q=>?_);cases f with
 | next=>exact wpAny_execs_nil q
 | ret v=>exact q
 | brk=>exact q
 | cont=>exact q
def Inv.quiet{pins:ln}{σ:St}{H:Hp}{s:Shared}(I:Inv X pins σ H s):interactive X.env=false:=by simp[interactive,I.ok.kind]
def z9b(te:TE):TS:=λD σ H=>te σ H λ_ H1=>D.nx σ H1
def zwh(J:PE X e te)(R:swapsWith e none pos.line X.env=pure false:=by rfl):PS X (.Expr e pos) (z9b te):=by
 intro pins s σ H D I h;exact wpAny_Expr_any (thn (J pins s σ H _ I h) λv s1 ⟨x,H1,I1,r1,q1⟩=>⟨σ,H1,I1,q1⟩) I.quiet R
def tRet(te:TE):TS:=λD σ H=>te σ H D.rt
def ym(J:PE X e te):PS X (.Return (some e) pos) (tRet te):=by
 intro pins s σ H D I h;exact wpAny_Return_some (thn (J pins s σ H _ I h) λv s1 ⟨x,H1,I1,r1,q1⟩=>⟨x,σ,H1,I1,r1,q1⟩)
def tIfS(c:TT)(t u:TS):TS:=λD σ H=>c σ H λb H1=>if b=true then t D σ H1 else u D σ H1
def z9c{c:Expr}{a b:List Stmt}{J:TT}(Y:PT X c J)(Z:PSs X a t)(e:PSs X b u):PS X (.If c a b pos) (tIfS J t u):=by
 intro pins s σ H D I h;refine wpAny_If (thn (Y pins s σ H _ I h) λd R f=>?_);obtain⟨H1,U,V⟩:=f;cases d with
 | true=>exact Z pins R σ H1 D U V
 | false=>exact e pins R σ H1 D U V
def z51:TS:=λ_ _ _=>False
def zzf:PS X st z51:=λ_ _ _ _ _ _ h=>h.elim
end
abbrev TG:=V->St->Hp->(St->Hp->Prop)->Prop
abbrev TGs:=l0->St->Hp->(St->Hp->Prop)->Prop
def PG(X:Cx)(D:Expr)(t:TG):Prop :=
 ∀(pins:ln) (s:Shared) (σ:St) (H:Hp) (v:V) (u:Value) (Q:St->Hp->Prop),Inv X pins σ H s->RelV v u->t v σ H Q ->
  wpAny (model X.prog X.w) X.A (assign D X.env u) (λ_ s'=>∃I H',Inv X pins I H' s'/\Q I H') X.xe s
def PGs(X:Cx)(ts:k8)(t:TGs):Prop :=
 ∀(pins:ln) (s:Shared) (σ:St) (H:Hp) (vs:l0) (us:i0) (Q:St->Hp->Prop),Inv X pins σ H s->Vals vs us->t vs σ H Q ->
  wpAny (model X.prog X.w) X.A (assignInOrder ((assignEach ts X.env).map (·.2)) us) (λ_ s'=>∃D H',Inv X pins D H' s'/\Q D H') X.xe s
abbrev TSet:=V->V->V->Hp->(Hp->Prop)->Prop
def PSet(X:Cx)(t:TSet):Prop :=
 ∀(pins:ln) (s:Shared) (σ:St) (H:Hp) (o i v:V) (D I u:Value) (Q:Hp->Prop),Inv X pins σ H s->RelV o D->RelV i I->RelV v u->t o i v H Q ->
  wpAny (model X.prog X.w) X.A (setItem D I u) (λ_ s'=>∃H',Inv X pins σ H' s'/\Q H') X.xe s
abbrev TIp:=V->V->Hp->VK->Prop
def PIp(X:Cx)(op:Operator)(t:TIp):Prop :=
 ∀(pins:ln) (s:Shared) (σ:St) (H:Hp) (x y:V) (v u:Value) (Q:VK),Inv X pins σ H s->RelV x v->RelV y u->t x y H Q ->
  wpAny (model X.prog X.w) X.A (inplaceOp op v u) (EP X pins σ Q) X.xe s
def nz(i:Nat):TG:=λv σ H Q=>Q (σ.set i (some v)) H
variable{pos:Pos}
def zwi(D:X.N.Nodup)(hi:X.N[i]?=some x)(J:Loc X.env.scope x)(R:X.fn x=true\/X.env.scope.names.lookup x=some .local:=by first | exact .inl rfl | exact .inr rfl | assumption):PG X (.Name x pos) (nz i):=by
 intro pins s σ H v u Q I r h;exact wpAny_assign_Name (zm5 I D hi J r (λs' U=>⟨_,H,U,h⟩) R)
def gNil:TGs:=λvs σ H Q=>vs=[]/\Q σ H
def z52(t:TG)(u:TGs):TGs:=λvs σ H Q=>∃v r,vs=v::r/\t v σ H λD H'=>u r D H' Q
def z24:PGs X [] gNil:=by
 intro pins s σ H vs us Q I r h;obtain⟨e,h⟩:=h;subst e;cases r;exact assignInOrder_nil ⟨σ,H,I,h⟩
variable{es:k8}
def zzg{t:TG}{u:TGs}(h1:PG X e t)(h2:PGs X es u)(J:(assignEach (e::es) X.env).map (·.2)=assign e X.env::(assignEach es X.env).map (·.2):=by rfl):PGs X (e::es) (z52 t u):=by
 intro pins s σ H vs us Q I r h;obtain⟨v,a,R,h⟩:=h;subst R;cases r with
 | cons r rr =>
   rw[J];refine assignInOrder_cons (thn (h1 pins s σ H _ _ _ I r h) λ_ U V=>?_);obtain⟨D,H1,Y,Z⟩:=V;exact h2 pins U D H1 _ _ Q Y rr Z
def gTup(K:ll)(n:Nat)(t:TGs):TG:=λv σ H Q=>∃a xs,v=.ref a/\SqT K H a xs/\xs.length=n/\t xs σ H Q
variable{k n:Nat}
def z1w{t:TGs}(U:X.calm=true)(h:PGs X es t)(V:(assignEach es X.env).length=n:=by rfl)(D:(assignEach es X.env).findIdx? (·.1)=none:=by rfl):PG X (.Tuple es k pos) (gTup X.K n t):=by
 intro pins s σ H v u Q I r J;obtain⟨a,xs,Y,Z,c,J⟩:=J;subst Y;cases r;obtain⟨its,R,d,i⟩:=I.tuple Z;refine assign_Tuple_tuple (I.ok.hd U) d (by simp[V,<-c,R.length]) D λh' f=>?_;have g:Inv X pins σ H { s with heap:=h' }:=I.kept (t':=s.toks) λb o e=>f b o (cf (bi e)) e;exact h pins _ σ H xs _ Q g (by simpa using R) J
def gSub(to ti:TE)(t:TSet):TG:=λv σ H Q=>to σ H λo H1=>ti σ H1 λi H2=>t o i v H2 λD=>Q σ D
variable{to ti:TE}
def zt3{o i:Expr}{t:TSet}(U:PE X o to)(hi:PE X i ti)(V:PSet X t)(Y:∀v,assign (.Subscript o i pos) X.env v=(do
   let D <-holding [v] (eval o X.env);let J <-holding [v,D] (eval i X.env)
   standAt pos
   holding [v,D,J] (setItem D J v)
   release [v,D,J] []):=by intro _;rfl):PG X (.Subscript o i pos) (gSub to ti t):=by
 intro pins s σ H v u Q I r h;rw[Y];refine wpAny_bind (wpAny_holding (thn (U pins s σ H _ I h) λD Z R=>?_));obtain⟨x,H1,a,b,c⟩:=R;refine wpAny_bind (wpAny_holding (thn (hi pins Z σ H1 _ a c) λJ s2 R=>?_));obtain⟨y,H2,d,e,f⟩:=R;refine wpAny_bind (wpAny_standAt (wpAny_bind (wpAny_holding (thn (V pins s2 σ H2 x y v D J u _ d b e r f) λ_ l R=>?_))));obtain⟨g,j,k⟩:=R;exact wpAny_release ⟨σ,g,j,k⟩
def tAsg(te:TE)(g:TG):TS:=λD σ H=>te σ H λx H1=>g x σ H1 D.nx
variable{tg:Expr}{te:TE}{g:TG}
def yl(J:PE X e te)(R:PG X tg g)(U:swapsWithSole [tg] e pos.line X.env=pure false:=by rfl)(V:swappedStores [tg] e X.env=pure none:=by rfl)(h1:(assignEach [tg] X.env).map (·.2)=[assign tg X.env]:=by rfl):PS X (.Assign [tg] e pos) (tAsg te g):=by
 intro pins s σ H D I h;refine wpAny_Assign_stores (thn (J pins s σ H _ I h) λv Y Z=>?_) U V;obtain⟨x,H1,a,b,c⟩:=Z;rw[h1];exact thn (R pins Y σ H1 x v _ a b c) λ_ s2 q=>q
variable{pos':Pos}
def zq7(J:X.N.Nodup)(hi:X.N[i]?=some x)(R:Loc X.env.scope x)(U:PE X e te)(V:swapsWith e (some (.Name x pos')) pos.line X.env=pure false:=by rfl)(Y:X.fn x=true\/X.env.scope.names.lookup x=some .local:=by first | exact .inl rfl | exact .inr rfl | assumption) :
  PS X (.Assign [.Name x pos'] e pos) (tAsg te (nz i)):=by
 intro pins s σ H D I h;refine wpAny_Assign_Name (thn (U pins s σ H _ I h) λv f Z=>?_) V;obtain⟨y,H1,a,b,c⟩:=Z;exact zm5 a J hi R b (λs2 d=>⟨_,H1,d,c⟩) Y
def tAug(i:Nat)(te:TE)(ti:TIp):TS:=λD σ H=>∃x,σ[i]?=some (some x)/\te σ H λy H1=>ti x y H1 λz H2=>D.nx (σ.set i (some z)) H2
variable{op:Operator}
def z53{ti:TIp}(Y:X.N.Nodup)(hi:X.N[i]?=some x)(R:Loc X.env.scope x)(Z:PE X e te)(a:PIp X op ti)(b:X.fn x=true\/X.env.scope.names.lookup x=some .local:=by first | exact .inl rfl | exact .inr rfl | assumption) :
  PS X (.AugAssign (.Name x pos') op e pos) (tAug i te ti):=by
 intro pins s σ H D I h;obtain⟨v,d,h⟩:=h;obtain⟨m,f,g⟩:=I.loc;have U:Vis X.env.scope x:=by rcases R with k | k;exact .inl k;exact .inr (.inl k)
 obtain⟨u,r,l⟩:=g i x v hi d U;refine wpAny_AugAssign_Name ?_;have go:wpAny (model X.prog X.w) X.A (eval e X.env) (λw s₂=>wpAny (model X.prog X.w) X.A (inplaceOp op u w) (λr J=>wpAny (model X.prog X.w) X.A (storeName X.env x r) (λ_=>SP X pins D .next) X.xe J) X.xe s₂) X.xe s:=by
  refine thn (Z pins s σ H _ I h) λw j V=>?_;obtain⟨y,H1,n,o,p⟩:=V;refine thn (a pins j σ H1 v y u w _ n r o p) λz s2 V=>?_;obtain⟨F,H2,q,t,B⟩:=V;exact zm5 q Y hi R t (λG C=>⟨_,H2,C,B⟩) b
 rcases l with⟨hk,E⟩ | ⟨hk,c,hc,hcell⟩
 ·exact wpAny_loadName_local I.ok.kind hk f E go
 ·rcases hk with hk | hk
  ·exact wpAny_loadName_cell I.ok.kind hk hc hcell go
  ·rcases R with k | k
   ·have:X.env.scope.names.lookup x=some .free:=hk
    rw[k] at this;cases this
   ·have:X.env.scope.names.lookup x=some .free:=hk
    rw[k] at this;cases this
def z54(to ti te:TE)(I:V->V->Hp->VK->Prop)(R:TIp)(J:TSet):TS:=λD σ H=>to σ H λo H1=>ti σ H1 λi H2=>I o i H2 λx U=>te σ U λy Y=>R x y Y λz Z=>J o i z Z λa=>D.nx σ a
def PGet(X:Cx)(t:V->V->Hp->VK->Prop):Prop :=
 ∀(pins:ln) (s:Shared) (σ:St) (H:Hp) (o i:V) (D I:Value) (Q:VK),Inv X pins σ H s->RelV o D->RelV i I->t o i H Q ->
  wpAny (model X.prog X.w) X.A (getItem D I) (EP X pins σ Q) X.xe s
variable{i:Int}
def zwj{o i:Expr}{R:V->V->Hp->VK->Prop}{a:TIp}{U:TSet}{b:Pos}(k:PE X o to)(hi:PE X i ti)(l:PGet X R)(m:PE X e te)(n:PIp X op a)(p:PSet X U)(q:∀Y Z new,augStore i Y Z new=(do holding [new,Y,Z] (setItem Y Z new);release [new,Y,Z] [];pure .next):=by intros;rfl):PS X (.AugAssign (.Subscript o i b) op e pos) (z54 to ti te R a U):=by
 intro pins s σ H D I h;refine wpAny_AugAssign_SubscriptAny (thn (k pins s σ H _ I h) λY r J=>?_) q;obtain⟨d,H1,t,f,u⟩:=J;refine thn (hi pins r σ H1 _ t u) λZ s2 J=>?_;obtain⟨g,H2,w,j,x⟩:=J;refine thn (l pins s2 σ H2 d g Y Z _ w f j x) λc y J=>?_;obtain⟨z,A,B,r3,C⟩:=J;refine thn (m pins y σ A _ B C) λv E J=>?_;obtain⟨F,G,K,L,M⟩:=J;refine thn (n pins E σ G z F c v _ K r3 L M) λnew N J=>?_;obtain⟨O,P,Q,S,T⟩:=J;exact thn (p pins N σ P d g O Y Z new _ Q f j S T) λ_ s6 ⟨H6,I6,q6⟩=>⟨σ,H6,I6,q6⟩
def ipI(f:Int->Int->Int):TIp:=λx y H Q=>∃i j,x=.int i/\y=.int j/\Q (.int (f i j)) H
def z1x:PIp X .Add (ipI λi j=>i+j):=by
 intro pins s σ H x y v u Q I D J h;obtain⟨i,j,R,U,q⟩:=h;subst R;subst U;obtain⟨t,rfl⟩:=D;obtain⟨t',rfl⟩:=J;exact iadd_int ⟨.int _,H,I.tok _,⟨_,rfl⟩,q⟩
def z55:PIp X .Sub (ipI λi j=>i-j):=by
 intro pins s σ H x y v u Q I D J h;obtain⟨i,j,R,U,q⟩:=h;subst R;subst U;obtain⟨t,rfl⟩:=D;obtain⟨t',rfl⟩:=J;exact isub_int ⟨.int _,H,I.tok _,⟨_,rfl⟩,q⟩
def z56(c:TT)(tb:TS):TS:=λD σ H=>∃W:Nat->St->Hp->Prop,(∃m,W m σ H)/\∀m σ H,W m σ H ->
 c σ H λb H1=>if b=true then ∃N:St->Hp->Prop,(∀I H',N I H'->∃J,J<m/\W J I H')/\tb { D with nx:=N,ct:=N,bk:=D.nx } σ H1 else D.nx σ H1
variable{c:Value}{body:List Stmt}{tb:TS}
def zzh{c:Expr}{i:TT}(j:PassesOwn (model X.prog X.w) X.A X.env X.xe)(m:PT X c i)(o:PSs X body tb):PS X (.While c body [] pos) (z56 i tb):=by
 intro pins s σ H D I h;obtain⟨W,⟨p,q⟩,turn⟩:=h;refine wpAny_While (codeAny_whileLoop (λn s'=>∃R H',Inv X pins R H' s'/\W n R H') ?_ p ⟨σ,H,I,q⟩);rintro n r ⟨σ1,H1,I1,w1⟩;refine wpAny_passesOwn j (thn (m pins r σ1 H1 _ I1 (turn n σ1 H1 w1)) λb s2 t=>?_);obtain⟨H2,k,V⟩:=t;cases b with
 | true =>
   obtain⟨N,l,V⟩:=V;rw[if_pos rfl];refine wpAny_passesOwn j (thn (o pins s2 σ1 H2 _ k V) λf u Y=>?_);cases f with
   | next =>
     obtain⟨J,U,Z,a⟩:=Y;obtain⟨d,e,g⟩:=l J U a;exact⟨d,e,J,U,Z,g⟩
   | cont =>
     obtain⟨J,U,Z,a⟩:=Y;obtain⟨d,e,g⟩:=l J U a;exact⟨d,e,J,U,Z,g⟩
   | brk=>exact Y
   | ret v=>exact Y
 | false =>
   rw[if_neg cj];exact wpAny_execs_nil ⟨σ1,H2,k,V⟩
structure It where
 go:Nat->Hp->Prop
 yld:Nat->Hp->V->Hp->Prop
 stop:Nat->Hp->Prop
def FpOk(X:Cx)(pins:ln)(H:Hp)(b:Addr):Prop :=
 H b=none/\b≠X.env.locals/\b∉X.fs/\(b∈X.ex\/X.s₀.heap.objs.size<=b)/\(∀x c,X.env.cells.lookup x=some c->c≠b)/\∀p∈X.pn++pins,p.1≠b
def Inv.fpOk(I:Inv X pins σ H s)(D:s.heap.objs.size<=b)(J:H' b=none):FpOk X pins H' b:=by
 refine⟨J,l9 (bh I.lt D),I.nofs D,.inr (cy I.sz D),λx c e z=>?_,λp R z=>?_⟩
 ·obtain⟨v,q⟩:=I.cell x c e
  exact absurd (bh q.lt (by rw[z];exact D)) (fz _)
 ·exact absurd (bh (bi (I.pin p R).1) (by rw[z];exact D)) (fz _)
structure wx (Cm:Cx->Prop) (P:Program) (w:World) (K:ll) (tg:Expr) (J:It) (fp:kb) (it:Addr) (tn:Nat->Heap->Prop):Prop where
 mem:it∈fp
 obj:∀i h,tn i h->∀b∈fp,∃o,h.get? b=some o/\∀v,o.data≠.cell v
 keep:∀i h h',tn i h->(∀b∈fp,∀o,h.get? b=some o->h'.get? b=some o)->tn i h'
 item:∀(X:Cx),X.prog=P->X.w=w->X.K=K->Cm X->∀(i:Nat) (pins:ln) (s:Shared) (σ:St) (H:Hp) (E:Value->Shared->Prop),Inv X pins σ H s->(∀b∈fp,FpOk X pins H b)->tn i s.heap->J.go i H ->
  wpAny (model P w) X.A (pyNext (.ref it)) (λr s1=>∃u,r=some u /\
   wpAny (model P w) X.A (letOwnedTupleGo tg (.ref it) u) (λ_ s2=>∃x H',Inv X pins σ H' s2/\RelV x u/\J.yld i H x H'/\tn (i+1) s2.heap/\∀b∈fp,H' b=none) E s1) E s
 done:∀(X:Cx),X.prog=P->X.w=w->X.K=K->Cm X->∀(i:Nat) (pins:ln) (s:Shared) (σ:St) (H:Hp) (E:Value->Shared->Prop),Inv X pins σ H s->(∀b∈fp,FpOk X pins H b)->tn i s.heap->J.stop i H ->
  wpAny (model P w) X.A (pyNext (.ref it)) (λr s1=>r=none/\Inv X pins σ H s1) E s
 self:∀(A:Around) (i:Nat) (s:Shared) (Q:Value->Shared->Prop) (E:Value->Shared->Prop),tn i s.heap->Q (.ref it) s->wpAny (model P w) A (pyIter (.ref it)) Q E s
abbrev Turn:=wx λX=>X.calm=true
abbrev TI:=St->Hp->(It->Hp->Prop)->Prop
def PIEC(Cm:Cx->Prop)(X:Cx)(pins:ln)(σ:St)(tg:Expr)(R:It->Hp->Prop)(D:Value)(s2:Shared):Prop :=
 ∃(it:Addr) (fp:kb) (I:Nat->Heap->Prop) (J:It) (H':Hp),D=.ref it/\Inv X pins σ H' s2/\wx Cm X.prog X.w X.K tg J fp it I/\I 0 s2.heap/\(∀b∈fp,FpOk X pins H' b)/\R J H'
def PIC(Cm:Cx->Prop)(X:Cx)(tg iter:Expr)(wi:TI):Prop :=
 ∀(pins:ln) (s:Shared) (σ:St) (H:Hp) (R:It->Hp->Prop),Inv X pins σ H s->wi σ H R ->
  wpAny (model X.prog X.w) X.A (eval iter X.env) (λv D=>wpAny (model X.prog X.w) X.A (pyIter v) (PIEC Cm X pins σ tg R) X.xe D) X.xe s
abbrev PI:=PIC λX=>X.calm=true
variable{vs:l0}
def zzi{n:String}{vs:lx}(I:s.heap.get? it=some o)(J:o.cls=.type n)(R:o.data=.fields vs)(U:["enumerate", "zip", "dict_itemiterator", "dict_reverseitemiterator", "odict_iterator", "itertools.zip_longest", "itertools.pairwise"].contains n=false)(D:Q () s):wpAny M A (letOwnedTupleGo tg (.ref it) u) Q E s:=by
 unfold letOwnedTupleGo;cases tg <;> first
  | exact wpAny_pure D
  | (cases u <;> first
      | exact wpAny_pure D
      | (refine wpAny_bind (wpAny_load I ?_)
         rw[J,R];show wpAny M A (if (["enumerate", "zip", "dict_itemiterator", "dict_reverseitemiterator", "odict_iterator", "itertools.zip_longest", "itertools.pairwise"].contains n && vs[0]?==some (rawInt _))=true then _ else _) Q E s;rw[if_neg (by intro h;rw[U,Bool.false_and] at h;cases h)];exact wpAny_pure D))
def Itl(K:ll)(a:Addr):It :=
 ⟨λi H=>∃xs x,SqL K H a xs/\xs[i]?=some x,λi H x H'=>H'=H/\∀xs,SqL K H a xs->xs[i]?=some x,λi H=>∃xs,SqL K H a xs/\xs.length<=i⟩
def Itt(K:ll)(a:Addr):It :=
 ⟨λi H=>∃xs x,SqT K H a xs/\xs[i]?=some x,λi H x H'=>H'=H/\∀xs,SqT K H a xs->xs[i]?=some x,λi H=>∃xs,SqT K H a xs/\xs.length<=i⟩
def Itr(lo:Int)(n:Nat):It:=⟨λi _=>i<n,λi H x H'=>H'=H/\x=.int (lo+i),λi _=>n<=i⟩
theorem zwk(a it:Addr):Turn P w K tg (Itl K a) [it] it (λi h=>h.IsListIter it a i) where
 mem:=by simp
 obj:=λi h st b D=>by
  have e:b=it:=by simpa using D
  subst e;obtain⟨o,e,c,d⟩:=st;exact⟨o,e,λv z=>by rw[d] at z;cases z⟩
 keep:=λi h h' st k=>st.at λo e=>k it (by simp) o e
 item:=by
  intro X hP V Y r i pins s σ H E I R st Z;subst hP V Y;obtain⟨xs,x,U,f⟩:=Z;obtain⟨its,g,p,t⟩:=I.list U;obtain⟨u,y,A⟩:=g.get f;obtain⟨j,l,f2,m,n,q⟩:=R it (by simp);refine wpAny_pyNext_list_item st p.isList (x:=u) (by simpa using y) λh' J B=>?_;have C:Inv X pins σ H { s with heap:=h' }:=I.turned (t':=s.toks) (λb o D e=>(B.2 b D).trans e) j l m n q;obtain⟨o,e,c,d⟩:=id J;exact⟨u,rfl,zzi (s:={ s with heap:=h' }) e c d (by decide) ⟨x,H,C,A,⟨rfl,λys F=>by rw[I.list_inj F U];exact f⟩,J,λb D=>(R b D).1⟩⟩
 done:=by
  intro X hP V Y r i pins s σ H E I R st Z;subst hP V Y;obtain⟨xs,U,f⟩:=Z;obtain⟨its,g,p,t⟩:=I.list U;obtain⟨j,l,f2,m,n,q⟩:=R it (by simp);have L:=g.length;exact wpAny_pyNext_list_end (I.ok.hd r) st p.isList (by simp;lia) λh' G=>⟨rfl,I.turned (t':=s.toks) (λb o D e=>G b o D e) j l m n q⟩
 self:=λ_ _ _ _ _ st h=>wpAny_pyIter_listiter st h
theorem zvi(a it:Addr):Turn P w K tg (Itt K a) [it] it (λi h=>h.IsTupleIter it a i) where
 mem:=by simp
 obj:=λi h st b D=>by
  have e:b=it:=by simpa using D
  subst e;obtain⟨o,e,c,d⟩:=st;exact⟨o,e,λv z=>by rw[d] at z;cases z⟩
 keep:=λi h h' st k=>st.at λo e=>k it (by simp) o e
 item:=by
  intro X hP V Y r i pins s σ H E I R st Z;subst hP V Y;obtain⟨xs,x,U,f⟩:=Z;obtain⟨its,g,p,t⟩:=I.tuple U;obtain⟨u,y,A⟩:=g.get f;obtain⟨j,l,f2,m,n,q⟩:=R it (by simp);refine wpAny_pyNext_tuple_item st (show s.heap.IsTuple a its.toArray from p) (x:=u) (by simpa using y) λh' J B=>?_;have C:Inv X pins σ H { s with heap:=h' }:=I.turned (t':=s.toks) (λb o D e=>(B.2 b D).trans e) j l m n q;obtain⟨o,e,c,d⟩:=id J;exact⟨u,rfl,zzi (s:={ s with heap:=h' }) e c d (by decide) ⟨x,H,C,A,⟨rfl,λys F=>by rw[I.tuple_inj F U];exact f⟩,J,λb D=>(R b D).1⟩⟩
 done:=by
  intro X hP V Y r i pins s σ H E I R st Z;subst hP V Y;obtain⟨xs,U,f⟩:=Z;obtain⟨its,g,p,t⟩:=I.tuple U;obtain⟨j,l,f2,m,n,q⟩:=R it (by simp);have L:=g.length;exact wpAny_pyNext_tuple_end (I.ok.hd r) st (show s.heap.IsTuple a its.toArray from p) (by simp;lia) λh' G=>⟨rfl,I.turned (t':=s.toks) (λb o D e=>G b o D e) j l m n q⟩
 self:=λ_ _ _ _ _ st h=>wpAny_pyIter_tupleiter st h
theorem zkd(it:Addr)(lo:Int)(n:Nat):Turn P w K tg (Itr lo n) [it] it (λi h=>IsRangeIter h it (lo+(i:Nat)*1) ((n:Int)-(i:Nat)) 1) where
 mem:=by simp
 obj:=λi h st b D=>by
  have e:b=it:=by simpa using D
  subst e;exact⟨_,st,λv z=>by
   have j:Data.fields _=Data.cell v:=z;cases j⟩
 keep:=λi h h' st k=>k it (by simp) _ st
 item:=by
  intro X hP U V Y i pins s σ H E I R st Z;subst hP U V;obtain⟨a,c,f2,d,f,g⟩:=R it (by simp);have W:=Walks.range (prog:=X.prog) (w:=X.w) (I.ok.hd Y) it lo 1 n;refine W.item i s _ _ Z st λv h' tk l J kk=>?_;obtain⟨t,rfl⟩:=l;have m:Inv X pins σ H { s with heap:=h',toks:=tk }:=I.turned (λb o D e=>kk b o (by simpa using D) e) a c d f g;refine⟨_,rfl,zzi (s:={ s with heap:=h',toks:=tk }) (n:="range_iterator") J rfl rfl (by decide) ⟨.int (lo+i),H,m,⟨t,?_⟩,⟨rfl,rfl⟩,J,λb D=>(R b D).1⟩⟩;rw[Int.mul_one]
 done:=by
  intro X hP U V Y i pins s σ H E I R st Z;subst hP U V;obtain⟨a,c,f2,d,f,g⟩:=R it (by simp);exact wpAny_pyNext_range_end (I.ok.hd Y) st (by have:n<=i:=Z;lia) λh' p=>⟨rfl,I.turned (t':=s.toks) (λb o D e=>p b o D e) a c d f g⟩
 self:=λ_ _ _ _ _ st h=>wpAny_pyIter_rangeiter st h
def z9d(K:ll)(tl:TE):TI:=λσ H R=>tl σ H λx H1=>∃a,x=.ref a/\(∃xs,SqL K H1 a xs)/\R (Itl K a) H1
def iTup(K:ll)(tl:TE):TI:=λσ H R=>tl σ H λx H1=>∃a,x=.ref a/\(∃xs,SqT K H1 a xs)/\R (Itt K a) H1
variable{l:Expr}{tl:TE}
def zwl(U:PE X l tl):PI X tg l (z9d X.K tl):=by
 intro pins s σ H R I h;refine thn (U pins s σ H _ I h) λv D V=>?_;obtain⟨x,H1,J,Y,Z⟩:=V;obtain⟨a,e,⟨xs,c⟩,q⟩:=Z;subst e;cases Y;obtain⟨its,f,p,g⟩:=J.list c;refine wpAny_pyIter_list p.isList ?_;refine⟨D.heap.objs.size,[D.heap.objs.size],_,_,H1,rfl,J.kept (t':=D.toks) λb o e=>aq _ e,zwk a _,⟨_,cq _ rfl,rfl,rfl⟩,λb d=>?_,q⟩;have e:b=D.heap.objs.size:=by simpa using d
 subst e;exact J.fpOk (bw _) (J.hok.fresh (bw _))
def z57(U:PE X l tl):PI X tg l (iTup X.K tl):=by
 intro pins s σ H R I h;refine thn (U pins s σ H _ I h) λv D V=>?_;obtain⟨x,H1,J,Y,Z⟩:=V;obtain⟨a,e,⟨xs,c⟩,q⟩:=Z;subst e;cases Y;obtain⟨its,f,p,g⟩:=J.tuple c;refine wpAny_pyIter_tuple (show D.heap.IsTuple a its.toArray from p) ?_;refine⟨D.heap.objs.size,[D.heap.objs.size],_,_,H1,rfl,J.kept (t':=D.toks) λb o e=>aq _ e,zvi a _,⟨_,cq _ rfl,rfl,rfl⟩,λb d=>?_,q⟩;have e:b=D.heap.objs.size:=by simpa using d
 subst e;exact J.fpOk (bw _) (J.hok.fresh (bw _))
variable{v:Value}{Cm:Cx->Prop}
theorem zzj(hT:∀(it:Addr) (lo:Int) (n:Nat),wx Cm X.prog X.w X.K tg (Itr lo n) [it] it (λi h=>IsRangeIter h it (lo+(i:Nat)*1) ((n:Int)-(i:Nat)) 1)){R:It->Hp->Prop}{lo hi:Int}{t u v:Tok}{tk:Nat}(I:Inv X pins σ H s)(h1:-(2 ^ 62)<=lo)(h2:lo<2 ^ 62)(J:-(2 ^ 62)<=hi)(U:hi<2 ^ 62)(q:R (Itr lo (hi-lo).toNat) H):wpAny (model X.prog X.w) X.A (pyIter (.ref s.heap.objs.size)) (PIEC Cm X pins σ tg R) E { s with heap:=s.heap.push { cls:=.type "range",data:=.fields #[.int lo t,.int hi u,.int 1 v] },toks:=tk }:=by
 refine wpAny_pyIter_range (IsRange.new ..) (small_one h1 h2 J U) ?_;have D:Inv X pins σ H { s with heap:=s.heap.push { cls:=.type "range",data:=.fields #[.int lo t,.int hi u,.int 1 v] },toks:=tk }:=I.kept λb o e=>aq _ e;refine⟨(s.heap.push { cls:=.type "range",data:=.fields #[.int lo t,.int hi u,.int 1 v] }).objs.size,[(s.heap.push { cls:=.type "range",data:=.fields #[.int lo t,.int hi u,.int 1 v] }).objs.size],_,_,H,rfl,
  D.kept (t':=tk) λb o e=>aq _ e,hT _ lo (hi-lo).toNat,?_,λb V=>?_,q⟩
 ·have Y:lo+((0:Nat):Int)*1=lo:=by simp
  have Z:(((hi-lo).toNat:Nat):Int)-((0:Nat):Int)=Builtin.Range.rangeSize lo hi 1:=by rw[rangeSize_one];split <;> lia
  show IsRangeIter _ _ (lo+((0:Nat):Int)*1) ((((hi-lo).toNat:Nat):Int)-((0:Nat):Int)) 1;rw[Y,Z];exact cq _ rfl
 ·have e:b=(s.heap.push { cls:=.type "range",data:=.fields #[.int lo t,.int hi u,.int 1 v] }).objs.size:=by simpa using V
  subst e;exact D.fpOk (bw _) (D.hok.fresh (bw _))
def z9e(ta:TA):TI:=λσ H R=>ta σ H λvs H1=>∃j:Int,vs=[.int j]/\-(2 ^ 62)<=j/\j<2 ^ 62/\R (Itr 0 j.toNat) H1
variable{a:Expr}{ta:TE}{p:Pos}
theorem zvj(hT:∀(it:Addr) (lo:Int) (n:Nat),wx Cm X.prog X.w X.K tg (Itr lo n) [it] it (λi h=>IsRangeIter h it (lo+(i:Nat)*1) ((n:Int)-(i:Nat)) 1)){ta:TA}(J:Gl X "range")(U:X.mg "range" = none)(V:PA X [a] ta)(Y:starEach [a] X.env=[(false,eval a X.env)]:=by rfl):PIC Cm X tg (.Call (.Name "range" p) [a] [] pos) (z9e ta):=by
 intro pins s σ H R I h;refine Call_ (xk I J U boot_range (iq (thn (V pos pins s σ H _ I h) λus f Z=>?_) Y rfl));obtain⟨vs,H1,b,c,D⟩:=Z;obtain⟨j,e,D,d,q⟩:=D;subst e;cases c with
 | cons r rr =>
   cases rr;obtain⟨t,rfl⟩:=r;exact call_range_1 (zzj hT b (by lia) (by lia) D d (by simpa using q))
def tFor(wi:TI)(g:TG)(tb:TS):TS:=λD σ H=>wi σ H λJ H1=>∃W:Nat->Nat->St->Hp->Prop,(∃m,W 0 m σ H1)/\∀i m σ H,W i m σ H ->
 (J.stop i H/\D.nx σ H)\/(J.go i H/\∃N:St->Hp->Prop,(∀I H',N I H'->∃U,U<m/\W (i+1) U I H')/\∀x H',J.yld i H x H'->g x σ H' λR H2=>tb { D with nx:=N,ct:=N,bk:=D.nx } R H2)
def zq8(fp:kb)(h:Heap):ln:=fp.filterMap λb=>(h.get? b).map λo=>(b,o)
variable{fp:kb}
def zke(D:b∈fp)(e:h.get? b=some o):(b,o)∈zq8 fp h:=om.mpr ⟨b,D,by rw[e];rfl⟩
def zwm{p:Addr×Obj}(D:p∈zq8 fp h):p.1∈fp/\h.get? p.1=some p.2:=by
 obtain⟨b,I,e⟩:=om.mp D;cases q:h.get? b with
 | none=>rw[q] at e;cases e
 | some o =>
   rw[q] at e;have e':(b,o)=p:=bn e;subst e';exact⟨I,q⟩
def Inv.pinned(I:Inv X pins σ H s)(J:∀b∈fp,FpOk X pins H b)(R:∀b∈fp,∃o,s.heap.get? b=some o/\∀v,o.data≠.cell v):Inv X (pins++zq8 fp s.heap) σ H s :=
 I.pins_of λp U=>(de.mp U).elim (λz=>I.pin p (cb _ z)) λz=>by
  obtain⟨D,e⟩:=zwm z;obtain⟨V,Y,f2,_⟩:=J p.1 D;obtain⟨o,e',d⟩:=R p.1 D;rw[e] at e';cases e';exact⟨e,V,Y,f2,d⟩
def Inv.unpinned{pins pl:ln}(I:Inv X (pins++pl) σ H s):Inv X pins σ H s:=I.pins_of λp D=>I.pin p (cb _ (dy _ D))
def z58{iter:Expr}{wi:TI}(l:PassesOwn (model X.prog X.w) X.A X.env X.xe)(F:X.calm=true)(hi:PI X tg iter wi)(O:PG X tg g)(U:PSs X body tb)(P:∀x,foldedSetIterable iter X.env x=pure x:=by intro _;rfl):PS X (.For tg iter body [] pos) (tFor wi g tb):=by
 intro pins s σ H D I h;refine wpAny_For (thn (hi pins s σ H _ I h) λv s1 h1=>thn h1 λQ s2 h2=>?_) P;obtain⟨it,fp,G,J,H2,e,S,T,t,f2,W,⟨m0,w0⟩,turn⟩:=h2;subst e;have V:∀ {H':Hp},(∀b∈fp,H' b=none)->∀b∈fp,FpOk X pins H' b:=λhn b U=>⟨hn b U,(f2 b U).2⟩;refine codeAny_forLoop_any (λn s'=>∃i Y H',Inv X pins Y H' s'/\G i s'.heap/\(∀b∈fp,H' b=none)/\W i n Y H') ?_ m0 ⟨0,σ,H2,S,t,λb U=>(f2 b U).1,w0⟩;rintro n K ⟨i,σ3,H3,I3,st3,fr3,w3⟩;rcases turn i n σ3 H3 w3 with⟨p,qn⟩ | ⟨go,N,hN,step⟩
 ·refine wpAny_passesOwn l (thn (T.done X rfl rfl rfl F i pins K σ3 H3 X.xe I3 (V fr3) st3 p) λr s4 j=>?_)
  obtain⟨y,I4⟩:=j;subst y;exact wpAny_execs_nil ⟨σ3,H3,I4,qn⟩
 ·refine wpAny_passesOwn l (thn (T.item X rfl rfl rfl F i pins K σ3 H3 X.xe I3 (V fr3) st3 go) λr s4 j=>?_)
  obtain⟨u,y,h4⟩:=j;subst y;refine wpAny_passesOwn l (thn h4 λ_ L j=>?_);obtain⟨x,M,I5,r5,y5,k,z⟩:=j;have B:=I5.pinned (V z) (T.obj _ _ k);refine wpAny_passesOwn l (thn (O _ L σ3 M x u _ B r5 (step x M y5)) λ_ s6 j=>?_);obtain⟨C,H6,I6,q6⟩:=j;refine wpAny_passesOwn l (thn (U _ s6 C H6 _ I6 q6) λf E c=>?_);have zzc:∀ {R:St} {Z:Hp},Inv X (pins++zq8 fp L.heap) R Z E->N R Z->∃m,m<n/\∃i Y H',Inv X pins Y H' E/\G i E.heap/\(∀b∈fp,H' b=none)/\W i m Y H':=λ{R Z} a q=>by
   obtain⟨m',hm,w7⟩:=hN R Z q;refine⟨m',hm,i+1,R,Z,a.unpinned,T.keep _ _ _ k λb U o e=>(a.pin (b,o) (cb _ (cb _ (zke U e)))).1,λb U=>?_,w7⟩;obtain⟨o,e,d⟩:=T.obj _ _ k b U;exact(a.pin (b,o) (cb _ (cb _ (zke U e)))).2.1
  cases f with
  | next=>obtain⟨R,Z,a,q⟩:=c;exact zzc a q
  | cont=>obtain⟨R,Z,a,q⟩:=c;exact zzc a q
  | brk=>obtain⟨R,Z,a,c⟩:=c;exact⟨R,Z,a.unpinned,c⟩
  | ret v=>obtain⟨x7,R,Z,a,r7,c⟩:=c;exact⟨x7,R,Z,a.unpinned,r7,c⟩
abbrev R2:=V->V->Hp->VK->Prop
def OpR(X:Cx)(f:Value->Value->Sem Value)(r:R2):Prop :=
 ∀(pins:ln) (s:Shared) (σ:St) (H:Hp) (x y:V) (v u:Value) (Q:VK),Inv X pins σ H s->RelV x v->RelV y u->r x y H Q ->
  wpAny (model X.prog X.w) X.A (f v u) (EP X pins σ Q) X.xe s
def UnR(X:Cx)(f:Value->Sem Value)(r:V->Hp->VK->Prop):Prop :=
 ∀(pins:ln) (s:Shared) (σ:St) (H:Hp) (x:V) (v:Value) (Q:VK),Inv X pins σ H s->RelV x v->r x H Q ->
  wpAny (model X.prog X.w) X.A (f v) (EP X pins σ Q) X.xe s
def ph(X:Cx)(f:Value)(r:l0->Hp->VK->Prop):Prop :=
 ∀(pins:ln) (s:Shared) (σ:St) (H:Hp) (xs:l0) (us:i0) (Q:VK),Inv X pins σ H s->Vals xs us->r xs H Q ->
  wpAny (model X.prog X.w) X.A (call f us) (EP X pins σ Q) X.xe s
def tOp(r:R2)(ta tb:TE):TE:=λσ H Q=>ta σ H λx H1=>tb σ H1 λy H2=>r x y H2 Q
def tUn(r:V->Hp->VK->Prop)(ta:TE):TE:=λσ H Q=>ta σ H λx H1=>r x H1 Q
def rI(C:Int->Int->Prop)(g:Int->Int->V):R2:=λx y H Q=>∃i j,x=.int i/\y=.int j/\C i j/\Q (g i j) H
def rI0(g:Int->Int->V):R2:=λx y H Q=>∃i j,x=.int i/\y=.int j/\Q (g i j) H
def rU(g:Int->V):V->Hp->VK->Prop:=λx H Q=>∃i,x=.int i/\Q (g i) H
variable{b:Expr}{Q:Value->Shared->Prop}{tb:TE}{f:Value->Value->Sem Value}
def binT(U:PE X a ta)(Y:PE X b tb){R:V->V->Hp->Prop}(I:Inv X pins σ H s)(h:ta σ H λx H1=>tb σ H1 λy H2=>R x y H2)(Z:∀v u s2 x y H2,Inv X pins σ H2 s2->RelV x v->RelV y u->R x y H2->wpAny (model X.prog X.w) X.A (f v u) Q X.xe s2) :
  wpAny (model X.prog X.w) X.A (eval a X.env) (λv D=>wpAny (model X.prog X.w) X.A (eval b X.env) (λu s₂=>wpAny (model X.prog X.w) X.A (f v u) Q X.xe s₂) X.xe D) X.xe s:=by
 refine thn (U pins s σ H _ I h) λv c J=>?_;obtain⟨x,H1,d,e,g⟩:=J;refine thn (Y pins c σ H1 _ d g) λu s2 J=>?_;obtain⟨y,H2,i,j,k⟩:=J;exact Z v u s2 x y H2 i e j k
variable{r:R2}
def z25(D:OpR X (binaryOp op) r)(J:PE X a ta)(R:PE X b tb):PE X (.BinOp a op b pos) (tOp r ta tb):=by
 intro pins s σ H Q I h;exact wpAny_BinOp (binT J R I h λv u s2 x y H2 U V Y q=>D pins s2 σ H2 x y v u Q U V Y q)
variable{op:CmpOp}
def z59{op:UnaryOp}{r:V->Hp->VK->Prop}(D:UnR X (unaryOp op) r)(J:PE X a ta):PE X (.UnaryOp op a pos) (tUn r ta):=by
 intro pins s σ H Q I h;exact UnaryOp_ (thn (J pins s σ H _ I h) λv s1 ⟨x,H1,I1,r1,q1⟩=>D pins s1 σ H1 x v Q I1 r1 q1)
variable{g:Int->Int->Int}{C:Addr}
def opI{C:Int->Int->Prop}(rule:∀(i j:Int) (t u:Tok) (s:Shared) (Q:Value->Shared->Prop) (E:Value->Shared->Prop),C i j->Q (.int (g i j) s.toks) { s with toks:=s.toks+1 }->wpAny (model X.prog X.w) X.A (f (.int i t) (.int j u)) Q E s) :
  OpR X f (rI C λi j=>.int (g i j)):=by
 intro pins s σ H x y v u Q I D J h;obtain⟨i,j,rfl,rfl,R,q⟩:=h;obtain⟨t,rfl⟩:=D;obtain⟨t',rfl⟩:=J;exact rule i j t t' s _ _ R ⟨.int (g i j),H,I.tok _,⟨_,rfl⟩,q⟩
def opI0(rule:∀(i j:Int) (t u:Tok) (s:Shared) (Q:Value->Shared->Prop) (E:Value->Shared->Prop),Q (.int (g i j) s.toks) { s with toks:=s.toks+1 }->wpAny (model X.prog X.w) X.A (f (.int i t) (.int j u)) Q E s) :
  OpR X f (rI0 λi j=>.int (g i j)):=by
 intro pins s σ H x y v u Q I D J h;obtain⟨i,j,rfl,rfl,q⟩:=h;obtain⟨t,rfl⟩:=D;obtain⟨t',rfl⟩:=J;exact rule i j t t' s _ _ ⟨.int (g i j),H,I.tok _,⟨_,rfl⟩,q⟩
def opB0{g:Int->Int->Bool}(rule:∀(i j:Int) (t u:Tok) (s:Shared) (Q:Value->Shared->Prop) (E:Value->Shared->Prop),Q (.bool (g i j)) s->wpAny (model X.prog X.w) X.A (f (.int i t) (.int j u)) Q E s) :
  OpR X f (rI0 λi j=>.bl (g i j)):=by
 intro pins s σ H x y v u Q I D J h;obtain⟨i,j,rfl,rfl,q⟩:=h;obtain⟨t,rfl⟩:=D;obtain⟨t',rfl⟩:=J;exact rule i j t t' s _ _ ⟨.bl (g i j),H,I,rfl,q⟩
def CDiv(i j:Int):Prop:=0<j/\j<1073741824
def CPow(i j:Int):Prop:=0<=j/\j<=1000000/\i.natAbs<2 ^ 64
def CMul(i j:Int):Prop:=(-(2 ^ 64)<i/\i<2 ^ 64)\/(-(2 ^ 64)<j/\j<2 ^ 64)
def CMul.ok(h:CMul i j):IntMulOk i j:=by
 rcases h with⟨h1,h2⟩ | ⟨h1,h2⟩
 ·exact .of_left (intBits_le_64 h1 h2)
 ·exact .of_right (intBits_le_64 h1 h2)
def z6a:OpR X (binaryOp .Add) (rI0 λi j=>.int (i+j)):=opI0 λ_ _ _ _ _ _ _ q=>add_int q
def z6b:OpR X (binaryOp .Sub) (rI0 λi j=>.int (i-j)):=opI0 λ_ _ _ _ _ _ _ q=>sub_int q
def z6c:OpR X (binaryOp .Mult) (rI CMul λi j=>.int (i*j)):=opI λ_ _ _ _ _ _ _ D q=>mul_int q D.ok
theorem z26:OpR X (binaryOp .FloorDiv) (rI CDiv λi j=>.int (i / j)):=opI λi j _ _ _ _ _ D q=>by
 have h1:(0:Int)<j:=D.1;have h2:j<1073741824:=D.2;exact floordiv_int (by lia) (by rw[Int.fdiv_eq_ediv_of_nonneg i (by lia)];exact q) (.inl (PyProof.noPylong_small (by lia)))
theorem z6d:OpR X (binaryOp .Mod) (rI (λ_ j=>0<j) λi j=>.int (i % j)):=opI λi j _ _ _ _ _ D q=>by
 have h1:(0:Int)<j:=D;exact mod_int' (by lia) (by rw[Int.fmod_eq_emod_of_nonneg i (by lia)];exact q)
def z6e:OpR X (binaryOp .Pow) (rI CPow λi j=>.int (i ^ j.toNat)):=opI λ_ _ _ _ _ _ _ D q=>pow_int_small D.1 D.2.1 D.2.2 q
variable{f:Addr}
def unI{f:Value->Sem Value}{g:Int->Int}(rule:∀(i:Int) (t:Tok) (s:Shared) (Q:Value->Shared->Prop) (E:Value->Shared->Prop),Q (.int (g i) s.toks) { s with toks:=s.toks+1 }->wpAny (model X.prog X.w) X.A (f (.int i t)) Q E s) :
  UnR X f (rU λi=>.int (g i)):=by
 intro pins s σ H x v Q I D h;obtain⟨i,rfl,q⟩:=h;obtain⟨t,rfl⟩:=D;exact rule i t s _ _ ⟨.int (g i),H,I.tok _,⟨_,rfl⟩,q⟩
def z1y:UnR X (unaryOp .USub) (rU λi=>.int (-i)):=unI λ_ _ _ _ _ q=>neg_int q
def scal:V->V->Bool
 | .non,.non=>true | .non,.int _=>true | .int _,.non=>true | .non,.bl _=>true | .bl _,.non=>true | .non,.str _=>true | .str _,.non=>true
 | .int _,.int _=>true | .bl _,.bl _=>true | .str _,.str _=>true | .byt _,.byt _=>true
 | .int _,.str _=>true | .str _,.int _=>true | .bl _,.str _=>true | .str _,.bl _=>true
 | _,_=>false
def rEq:R2:=λx y H Q=>scal x y=true/\Q (.bl (decide (x=y))) H
def rNe:R2:=λx y H Q=>scal x y=true/\Q (.bl (!decide (x=y))) H
def zwn:decide (V.int i=V.int j)=(i==j):=by
 rw[mf];simp
def z1z{i j:Bool}:decide (V.bl i=V.bl j)=(i==j):=by
 rw[mf];simp
def zwo{i j:Str}:decide (V.str i=V.str j)=(i==j):=by
 rw[mf];simp
def zwp{i j:Array UInt8}:decide (V.byt i=V.byt j)=(i.toList==j.toList):=by
 rw[mf];cases i;cases j;simp
def kz{Q:VK}{k k':Bool}(I:Inv X pins σ H s)(q:Q (.bl k) H)(e:k=k'):EP X pins σ Q (.bool k') s:=by
 subst e;exact⟨.bl k,H,I,rfl,q⟩
def z6f:OpR X (compareOp .Eq) rEq:=by
 intro pins s σ H x y v u Q I R D h;obtain⟨J,q⟩:=h;cases x with
 | non =>
   cases R;cases y with
   | non=>cases D;exact PySem.EqNone.eq_none_none (kz I q (by simp))
   | bl j=>cases D;exact PySem.EqNone.eq_none_bool (kz I q (by simp))
   | int j=>obtain⟨t',rfl⟩:=D;exact PySem.EqNone.eq_none_int (kz I q (by simp))
   | str j=>obtain⟨t',rfl⟩:=D;exact PySem.EqNone.eq_none_str (kz I q (by simp))
   | _=>exact absurd (show false=true from J) cj
 | bl i =>
   cases R;cases y with
   | non=>cases D;exact PySem.EqNone.eq_bool_none (kz I q (by simp))
   | bl j=>cases D;exact eq_bool (kz I q z1z)
   | str j=>obtain⟨t',rfl⟩:=D;exact PySem.EqMixed.eq_bool_str (kz I q (by simp))
   | _=>exact absurd (show false=true from J) cj
 | int i =>
   obtain⟨t,rfl⟩:=R;cases y with
   | non=>cases D;exact PySem.EqNone.eq_int_none (kz I q (by simp))
   | int j=>obtain⟨t',rfl⟩:=D;exact eq_int (kz I q zwn)
   | str j=>obtain⟨t',rfl⟩:=D;exact PySem.EqMixed.eq_int_str (kz I q (by simp))
   | _=>exact absurd (show false=true from J) cj
 | str i =>
   obtain⟨t,rfl⟩:=R;cases y with
   | non=>cases D;exact PySem.EqNone.eq_str_none (kz I q (by simp))
   | bl j=>cases D;exact PySem.EqMixed.eq_str_bool (kz I q (by simp))
   | int j=>obtain⟨t',rfl⟩:=D;exact PySem.EqMixed.eq_str_int (kz I q (by simp))
   | str j=>obtain⟨t',rfl⟩:=D;exact eq_str (kz I q zwo)
   | _=>exact absurd (show false=true from J) cj
 | byt i =>
   obtain⟨t,rfl⟩:=R;cases y with
   | byt j=>obtain⟨t',rfl⟩:=D;exact PySem.W.eq_bytes (kz I q zwp)
   | _=>exact absurd (show false=true from J) cj
 | _=>cases y <;> exact absurd (show false=true from J) cj
def z9f:OpR X (compareOp .NotEq) rNe:=by
 intro pins s σ H x y v u Q I R D h;obtain⟨J,q⟩:=h;cases x with
 | non =>
   cases R;cases y with
   | non=>cases D;exact PySem.EqNone.ne_none_none (kz I q (by simp))
   | bl j=>cases D;exact PySem.EqNone.ne_none_bool (kz I q (by simp))
   | int j=>obtain⟨t',rfl⟩:=D;exact PySem.EqNone.ne_none_int (kz I q (by simp))
   | str j=>obtain⟨t',rfl⟩:=D;exact PySem.EqNone.ne_none_str (kz I q (by simp))
   | _=>exact absurd (show false=true from J) cj
 | bl i =>
   cases R;cases y with
   | non=>cases D;exact PySem.EqNone.ne_bool_none (kz I q (by simp))
   | bl j=>cases D;exact ne_bool (kz I q (congrArg not z1z))
   | str j=>obtain⟨t',rfl⟩:=D;exact PySem.EqMixed.ne_bool_str (kz I q (by simp))
   | _=>exact absurd (show false=true from J) cj
 | int i =>
   obtain⟨t,rfl⟩:=R;cases y with
   | non=>cases D;exact PySem.EqNone.ne_int_none (kz I q (by simp))
   | int j=>obtain⟨t',rfl⟩:=D;exact ne_int (kz I q (congrArg not zwn))
   | str j=>obtain⟨t',rfl⟩:=D;exact PySem.EqMixed.ne_int_str (kz I q (by simp))
   | _=>exact absurd (show false=true from J) cj
 | str i =>
   obtain⟨t,rfl⟩:=R;cases y with
   | non=>cases D;exact PySem.EqNone.ne_str_none (kz I q (by simp))
   | bl j=>cases D;exact PySem.EqMixed.ne_str_bool (kz I q (by simp))
   | int j=>obtain⟨t',rfl⟩:=D;exact PySem.EqMixed.ne_str_int (kz I q (by simp))
   | str j=>obtain⟨t',rfl⟩:=D;exact ne_str (kz I q (congrArg not zwo))
   | _=>exact absurd (show false=true from J) cj
 | byt i =>
   obtain⟨t,rfl⟩:=R;cases y with
   | byt j=>obtain⟨t',rfl⟩:=D;exact PySem.W.ne_bytes (kz I q (congrArg not zwp))
   | _=>exact absurd (show false=true from J) cj
 | _=>cases y <;> exact absurd (show false=true from J) cj
def z9g:OpR X (compareOp .Lt) (rI0 λi j=>.bl (decide (i<j))):=opB0 λ_ _ _ _ _ _ _ q=>lt_int q
def z9h:OpR X (compareOp .LtE) (rI0 λi j=>.bl (decide (i<=j))):=opB0 λ_ _ _ _ _ _ _ q=>le_int q
def z6g:OpR X (compareOp .Gt) (rI0 λi j=>.bl (decide (j<i))):=opB0 λ_ _ _ _ _ _ _ q=>gt_int q
def z9i:OpR X (compareOp .GtE) (rI0 λi j=>.bl (decide (j<=i))):=opB0 λ_ _ _ _ _ _ _ q=>ge_int q
def vw(b:Expr)(h:op≠.In:=by decide)(h2:op≠.NotIn:=by decide):behindInMarks op b=false:=by
 have D:(op==CmpOp.In)=false:=by cases op <;> first | rfl | exact absurd rfl h
 have I:(op==CmpOp.NotIn)=false:=by cases op <;> first | rfl | exact absurd rfl h2
 cases b <;> simp[behindInMarks,D,I]
def z27(D:OpR X (compareOp op) r)(J:PE X a ta)(R:PE X b tb)(U:behindInMarks op b=false):PE X (.Compare a [op] [b] pos) (tOp r ta tb):=by
 intro pins s σ H Q I h;exact wpAny_Compare1 (binT J R I h λv u s2 x y H2 V Y Z q=>D pins s2 σ H2 x y v u Q V Y Z q) U
def z6h(t:TE):TT:=λσ H Q=>t σ H λx H'=>∃k,x=.bl k/\Q k H'
def z28(D:OpR X (compareOp op) r)(J:PE X a ta)(R:PE X b tb)(U:behindInMarks op b=false):PT X (.Compare a [op] [b] pos) (z6h (tOp r ta tb)):=by
 intro pins s σ H Q I h;refine wpAny_isTrue_Compare1 (thn (J pins s σ H _ I h) λv s1 ⟨x,H1,I1,r1,q1⟩=>thn (R pins s1 σ H1 _ I1 q1) λu s2 ⟨y,H2,I2,r2,q2⟩ =>
  thn (D pins s2 σ H2 x y v u _ I2 r1 r2 q2) λc s3 ⟨z,H3,I3,r3,k,e,q3⟩=>?_) U
 subst e;cases r3;exact wpAny_truthy_bool ⟨H3,I3,q3⟩
def yr:(sizeLine:Nat)<2 ^ 63:=by rw[sizeLine_eq];decide
variable{x:V}
def ww(r:Vals [x] us):∃u,us=[u]/\RelV x u:=by
 cases r with
 | cons r1 r2=>cases r2;exact⟨_,rfl,r1⟩
variable{y:V}
def zzk(r:Vals [x,y] us):∃u D,us=[u,D]/\RelV x u/\RelV y D:=by
 cases r with
 | cons r1 r2 =>
   cases r2 with
   | cons r3 r4=>cases r4;exact⟨_,_,rfl,r1,r3⟩
def zwq(J:X.calm=true):ph X (.builtin "max") (λxs H Q=>∃i j,xs=[.int i,.int j]/\Q (.int (if j > i then j else i)) H):=by
 intro pins s σ H xs us Q I r h;obtain⟨i,j,rfl,q⟩:=h;obtain⟨u,R,rfl,⟨t,rfl⟩,⟨t',rfl⟩⟩:=zzk r;refine max_two_ints (I.ok.hd J) λh' tk k=>⟨_,H,I.kept k,?_,q⟩;by_cases D:j > i
 ·rw[if_pos D,if_pos D];exact⟨_,rfl⟩
 ·rw[if_neg D,if_neg D];exact⟨_,rfl⟩
def zwr(J:X.calm=true):ph X (.builtin "min") (λxs H Q=>∃i j,xs=[.int i,.int j]/\Q (.int (if j<i then j else i)) H):=by
 intro pins s σ H xs us Q I r h;obtain⟨i,j,rfl,q⟩:=h;obtain⟨u,R,rfl,⟨t,rfl⟩,⟨t',rfl⟩⟩:=zzk r;refine min_two_ints (I.ok.hd J) λh' tk k=>⟨_,H,I.kept k,?_,q⟩;by_cases D:j<i
 ·rw[if_pos D,if_pos D];exact⟨_,rfl⟩
 ·rw[if_neg D,if_neg D];exact⟨_,rfl⟩
def zws:ph X (.type "int") (λxs H Q=>(∃i,xs=[.int i]/\Q (.int i) H)\/∃k,xs=[.bl k]/\Q (.int (if k then 1 else 0)) H):=by
 intro pins s σ H xs us Q I r h;rcases h with⟨i,rfl,q⟩ | ⟨k,rfl,q⟩
 ·obtain⟨u,rfl,t,rfl⟩:=ww r
  exact call_int_int ⟨.int i,H,I,⟨_,rfl⟩,q⟩
 ·obtain⟨u,rfl,D⟩:=ww r
  cases D;exact call_int_bool ⟨.int (if k then 1 else 0),H,I.tok _,⟨_,rfl⟩,q⟩
structure ObjM (h:Heap) (x dx C:Addr) (mA:Str->ka):Prop where
 obj:h.get? x=some (PySem.W.instObj C dx)
 ns:h.Ns1 dx mA
 ne:dx≠x
variable{dx:Addr}{mA:Str->ka}
def zwt(n:h.Ns1 dx mA):∃od,h.get? dx=some od/\∀name,PySem.W.lookIn name od=some (mA name):=by
 obtain⟨o,es,Z,I,J,R,_,U⟩:=n;refine⟨o,I,λname=>?_⟩;have e:=U name;unfold nsFind findBy at e;rw[<-Array.find?_toList] at e;unfold PySem.W.lookIn;rw[J];dsimp only;split
 ·rename_i y q
  rw[q] at e;exact congrArg some e
 ·rename_i q
  rw[q] at e;have a:es.toList.any (·.refKey)=false:=by
   rw[List.any_eq_false];intro y V;obtain⟨z,t,D⟩:=R y (Array.mem_toList_iff.mp V);simp[DictEntry.refKey,D]
  have Y:¬es.toList.any (·.refKey)=true:=by rw[a];exact cj
  rw[if_neg Y];exact congrArg some e
variable{x:Addr}
def ObjM.look(I:ObjM h x dx C mA):∃od,PySem.W.InstAt h x (PySem.W.instObj C dx) C (some od)/\∀name,PySem.W.lookIn name od=some (mA name) :=
 let ⟨od,D,J⟩:=zwt I.ns
 ⟨od,⟨I.obj,rfl,rfl,D⟩,J⟩
variable{prog:Program}{name:Str}
def z29{D:Bool}(X:K.In s.heap)(I:ObjM s.heap x dx C mA)(U:PySem.W.plainGet K C name=true)(V:PySem.W.hasDictIn K C=true)(Y:PySem.W.findIn K (.ref C) name=some none)(Z:mA name=some v)(R:PySem.W.handedIn v=true)(h:Q v { s with toks:=s.toks+1 }) :
  wpAny (model prog w) A (getAttr (.ref x) name D) Q E s:=by
 obtain⟨od,J,a⟩:=I.look;exact PySem.W.get_value X J (nr U).1 (PySem.W.findObj_own V Y rfl (by rw[a,Z])) R h
def zzl{pl:Sem Bool}{Q:Value×i0->Shared->Prop}(X:K.In s.heap)(I:ObjM s.heap x dx C mA)(D:PySem.W.plainGet K C name=true)(R:PySem.W.findIn K (.ref C) name=some (some (.ref f)))(U:PySem.W.isFn K (.ref f)=true)(V:mA name=none)(h:Q (.ref f,[.ref x]) s) :
  wpAny (model prog w) A (getMethod (.ref x) name pl) Q E s:=by
 obtain⟨od,J,Y⟩:=I.look;exact PySem.W.method_fn X J (nr D).1 (nr D).2 R (beq_iff_eq.mp U) (by show(PySem.W.lookIn name od).map (·.isSome)=some false;rw[Y,V];rfl) h
theorem z3a{c:ik}{Q:Unit->Shared->Prop}(X:K.In s.heap)(I:ObjM s.heap x dx C mA)(d:PySem.W.findIn K (.ref C) "__setattr__" = some (some (.builtin "object.__setattr__")))(e:PySem.W.plainOver K C=true)(f:PySem.W.takerIn K C name=some none)(g:PySem.W.hasDictIn K C=true)(i:PySem.Within mA c)(j:c.length<=sizeLine)(h:∀h',ObjM h' x dx C (λy=>if y=name then some v else mA y)->Heap.SameBut dx s.heap h'->Q () { s with heap:=h',toks:=s.toks+2 }) :
  wpAny (model prog w) A (setAttr (.ref x) name v) Q E s:=by
 obtain⟨od,J,o⟩:=I.look;refine PySem.W.set_plain X J d (PySem.W.osa_open (s:={ s with toks:=s.toks+1 }) (r:=none) X J e f λb=>?_);obtain⟨p,k,U⟩:=PySem.W.any_some g;have l:s.heap.get? x=some ⟨.ref C,some dx,.plain,#[]⟩:=I.obj;refine wpAny_bind (wpAny_pure (wpAny_bind (wpAny_bind (wpAny_loadPart l (wpAny_bind (PySem.W.Looks.here (s:={ s with toks:=s.toks+1 }) (PySem.W.looks_clsIn X k) ?_))))));rw[U];refine wpAny_pure (a:=some dx) (wpAny_bind (wpAny_pure (wpAny_bind ?_)));refine wpAny_nsSet1 (s:={ s with toks:=s.toks+1 }) I.ns λh' D R=>?_;obtain⟨q,m,n,V,Y,Z⟩:=D.count (PySem.Within.cons name v i);refine wpAny_bind (wpAny_lookBehind V (by rw[Y];exact pastItsLine_dict (cy Z (by rw[ak];lia))) ?_);exact wpAny_pure (h _ ⟨(R.2 _ (Ne.symm I.ne)).trans I.obj,D,I.ne⟩ R)
variable{kw:List (Str×Value)}
def zzm{R:Result->Shared->Prop}{vs:i0}(X:K.In s.heap)(I:PySem.W.makesIn K C=true)(hi:PySem.W.findIn K (.ref C) "__init__" = some (some (.ref f)))(J:PySem.W.typeIn K (.ref f)=some (.type "function"))(h:codeAny (model prog w) (A.under (.builtin "type.__call__" ⟨.ref C::vs,kw⟩)) (.call (.ref f) ⟨.ref (s.heap.objs.size+1)::vs,kw⟩) (PySem.W.InitBack (s.heap.objs.size+1) R)
   { s with heap:=(s.heap.push PySem.W.emptyDict).push (PySem.W.instObj C s.heap.objs.size) }) :
  codeAny (model prog w) A (.call (.ref C) ⟨vs,kw⟩) R s:=by
 obtain⟨U,g,d,t,os⟩:=s;exact PySem.W.make_core (PySem.W.makes_of X I) (PySem.W.looks_findIn X hi) (λD=>PySem.W.bind_fn X D J) (.inl rfl) h
def putF(f:Str)(v:V):List (Str×V)->List (Str×V)
 | []=>[(f,v)]
 | (g,x)::r=>if g=f then(g,v)::r else(g,x)::putF f v r
def znm(f g:Str)(v:V):∀fs:List (Str×V),(putF f v fs).lookup g=if g=f then some v else fs.lookup g
 | []=>by
   show List.lookup g [(f,v)]=_;by_cases h:g=f
   ·have D:(g==f)=true:=beq_iff_eq.mpr h
    simp only[List.lookup,D,if_pos h]
   ·have D:(g==f)=false:=beq_eq_false_iff_ne.mpr h
    simp only[List.lookup,D,if_neg h]
 | (k,x)::r=>by
   have J:=znm f g v r;rw[show putF f v ((k,x)::r)=(if k=f then(k,v)::r else(k,x)::putF f v r) from rfl];by_cases I:k=f
   ·rw[if_pos I]
    by_cases h:g=k
    ·have D:(g==k)=true:=beq_iff_eq.mpr h
     simp only[List.lookup,D,if_pos (h.trans I)]
    ·have D:(g==k)=false:=beq_eq_false_iff_ne.mpr h
     simp only[List.lookup,D,if_neg (λe:g=f=>h (e.trans I.symm))]
   ·rw[if_neg I]
    by_cases h:g=k
    ·have D:(g==k)=true:=beq_iff_eq.mpr h
     simp only[List.lookup,D,if_neg (λe:g=f=>I (h.symm.trans e))]
    ·have D:(g==k)=false:=beq_eq_false_iff_ne.mpr h
     simp only[List.lookup,D];exact J
def znn(f:Str)(v:V):∀fs:List (Str×V),f∈(putF f v fs).map (·.1)/\∀g,g∈fs.map (·.1)->g∈(putF f v fs).map (·.1)
 | []=>⟨by simp[putF],λg h=>by simp at h⟩
 | (k,x)::r=>by
   obtain⟨I,J⟩:=znn f v r;rw[show putF f v ((k,x)::r)=(if k=f then(k,v)::r else(k,x)::putF f v r) from rfl];by_cases D:k=f
   ·rw[if_pos D]
    subst D;exact⟨by simp,λg h=>by simpa using h⟩
   ·rw[if_neg D]
    refine⟨?_,λg h=>?_⟩
    ·rw[bz]
     exact ay _ I
    ·rw[bz] at h ⊢
     rcases b8.mp h with e | e
     ·exact b8.mpr (.inl e)
     ·exact ay _ (J g e)
theorem zno(f:Str)(v:V):∀fs:List (Str×V),(putF f v fs).length<=fs.length+1
 | []=>by simp[putF]
 | (k,x)::r=>by
   have I:=zno f v r;rw[show putF f v ((k,x)::r)=(if k=f then(k,v)::r else(k,x)::putF f v r) from rfl];by_cases D:k=f
   ·rw[if_pos D,ak,ak];lia
   ·rw[if_neg D,ak,ak];lia
variable{o:ka}{v:V}
def RelO.some_of(r:RelO (some v) o):∃u,o=some u/\RelV v u:=by
 cases o with
 | none=>exact(show False from r).elim
 | some u=>exact⟨u,rfl,r⟩
def RelO.none_of(r:RelO none o):o=none:=by
 cases o with
 | none=>rfl
 | some u=>exact(show False from r).elim
def zwu(r:RelV v u):PySem.W.handedIn u=true:=by
 cases v with
 | non=>cases (show u=Value.none from r);rfl
 | bl b=>cases (show u=Value.bool b from r);rfl
 | int i=>obtain⟨t,e⟩:=(show ∃t,u=Value.int i t from r);cases e;rfl
 | str x=>obtain⟨t,e⟩:=(show ∃t,u=Value.str x t from r);cases e;rfl
 | byt b=>obtain⟨t,e⟩:=(show ∃t,u=Value.bytes b t from r);cases e;rfl
 | flt b=>obtain⟨t,e⟩:=(show ∃t,u=Value.float b t from r);cases e;rfl
 | ref a=>cases (show u=Value.ref a from r);rfl
 | ty n=>cases (show u=Value.type n from r);rfl
variable{a:Addr}{fs:List (Str×V)}
def zpm(D:HOk P w H h)(e:H a=some (.ins C dx fs)):∃mA,ObjM h a dx C mA/\(∀f,RelO (fs.lookup f) (mA f))/\PySem.Within mA (fs.map (·.1))/\fs.length<=1000/\H dx=some (.own a):=by
 obtain⟨d,z,I,J,mA,n,r,q⟩:=(show ObjOk P w H h a (.ins C dx fs) from D a _ e);exact⟨mA,⟨J,n,I⟩,r,q,z,d⟩
structure Cls (K:ll) (C:Addr):Prop where
 pg:PySem.W.plainGet K C Str.empty=true
 hd:PySem.W.hasDictIn K C=true
 po:PySem.W.plainOver K C=true
 sa:PySem.W.findIn K (.ref C) "__setattr__" = some (some (.builtin "object.__setattr__"))
def Cls.get(c:Cls K C)(f:Str):PySem.W.plainGet K C f=true:=c.pg
def NoAttr(K:ll)(C:Addr)(f:Str):Prop:=PySem.W.findIn K (.ref C) f=some none
variable{f:Str}
def NoAttr.taker(n:NoAttr K C f):PySem.W.takerIn K C f=some none:=by
 unfold PySem.W.takerIn;rw[show PySem.W.findIn K (.ref C) f=some none from n];rfl
structure Con (K:ll) (C:Addr) (f:Str) (v:V) (u:Value):Prop where
 at_:PySem.W.findIn K (.ref C) f=some (some u)
 rel:RelV v u
 get:PySem.W.specialIn K u "__get__" = some none
 cp:PySem.W.copiedNames.contains f=false
structure Meth (K:ll) (C:Addr) (m:Str) (f:Addr):Prop where
 at_:PySem.W.findIn K (.ref C) m=some (some (.ref f))
 fn:PySem.W.isFn K (.ref f)=true
 kp:PySem.W.keepIn K (.ref f)=true
variable{b:Bool}
def zvk(I:Inv X pins σ H s)(e:H a=some (.ins C dx fs))(c:Cls X.K C)(n:NoAttr X.K C f)(l:fs.lookup f=some v)(h:∀u s',Inv X pins σ H s'->RelV v u->Q u s'):wpAny (model X.prog X.w) A (getAttr (.ref a) f b) Q E s:=by
 obtain⟨mA,O,r,_,_,_⟩:=zpm I.hok e;obtain⟨u,J,D⟩:=RelO.some_of (v:=v) (o:=mA f) (by rw[<-l];exact r f);exact z29 I.kIn O (c.get f) c.hd n J (zwu D) (h u _ (I.tok _) D)
def zo1{m:Str}{g:Addr}{pl:Sem Bool}{Q:Value×i0->Shared->Prop}(I:Inv X pins σ H s)(e:H a=some (.ins C dx fs))(c:Cls X.K C)(k:Meth X.K C m g)(l:fs.lookup m=none)(h:Q (.ref g,[.ref a]) s):wpAny (model X.prog X.w) A (getMethod (.ref a) m pl) Q E s:=by
 obtain⟨mA,O,r,_,_,_⟩:=zpm I.hok e;have D:mA m=none:=RelO.none_of (by rw[<-l];exact r m);exact zzl I.kIn O (c.get m) k.at_ k.fn D h
theorem zvl{Q:Unit->Shared->Prop}(I:Inv X pins σ H s)(e:H a=some (.ins C dx fs))(c:Cls X.K C)(n:NoAttr X.K C f)(d:fs.length<1000)(J:RelV y u)(h:∀s',Inv X pins σ (upd H a (.ins C dx (putF f y fs))) s'->Q () s'):wpAny (model X.prog X.w) A (setAttr (.ref a) f u) Q E s:=by
 obtain⟨mA,O,r,wi,_,D⟩:=zpm I.hok e;have R:(fs.map (·.1)).length<=sizeLine:=by rw[af,sizeLine_eq];lia
 refine z3a I.kIn O c.sa c.po n.taker c.hd wi R λh' O' U=>h _ ?_;have V:∃o,h'.get? dx=some o:=let ⟨o,_,_,e',_⟩:=O'.ns;⟨o,e'⟩;refine I.write (x:=a) (e:=dx) (by rw[e];exact True.intro) (.inr D) (λb q Y z=>(U.2 b Y).trans z) V ?_;refine⟨by rw[gx O.ne];exact D,?_,O.ne,O'.obj,_,O'.ns,λg=>?_,λg Z=>?_⟩
 ·have:=zno f y fs;lia
 ·show RelO ((putF f y fs).lookup g) (if g=f then some u else mA g)
  rw[znm];by_cases q:g=f
  ·rw[if_pos q,if_pos q];exact J
  ·rw[if_neg q,if_neg q];exact r g
 ·by_cases q:g=f
  ·rw[q];exact(znn f y fs).1
  ·refine(znn f y fs).2 g (wi g λz=>Z ?_)
   show(if g=f then some u else mA g)=none;rw[if_neg q];exact z
def Inv.made(I:Inv X pins σ H s):Inv X pins σ (upd (upd H s.heap.objs.size (.own (s.heap.objs.size+1))) (s.heap.objs.size+1) (.ins C s.heap.objs.size []))
  { s with heap:=(s.heap.push PySem.W.emptyDict).push (PySem.W.instObj C s.heap.objs.size) }:=by
 have D:(s.heap.push PySem.W.emptyDict).get? s.heap.objs.size=some PySem.W.emptyDict:=cq s.heap rfl;have R:((s.heap.push PySem.W.emptyDict).push (PySem.W.instObj C s.heap.objs.size)).get? (s.heap.objs.size+1)=some (PySem.W.instObj C s.heap.objs.size):=by
  have:=cq (s.heap.push PySem.W.emptyDict) (o:=PySem.W.instObj C s.heap.objs.size) rfl;rwa [jc] at this
 have U:(s.heap.push PySem.W.emptyDict).Ns s.heap.objs.size (λ_=>none):=⟨PySem.W.emptyDict,#[],_,D,rfl,(λe V=>absurd V (by simp)),λ_=>rfl⟩;have Y:=I.laid (a:=s.heap.objs.size) (o:=.own (s.heap.objs.size+1)) (h':=s.heap.push PySem.W.emptyDict) (t':=s.toks) (λb u q=>aq _ q) (bw _) ⟨_,D⟩;refine Y.laid (a:=s.heap.objs.size+1) (o:=.ins C s.heap.objs.size []) (t':=s.toks) (λb u q=>aq _ q) (Nat.le_of_eq (jc _ _)) ?_;have J:s.heap.objs.size≠s.heap.objs.size+1:=cf (fo _);refine⟨by rw[gx J,kl],ft _,J,R,λ_=>none,(Heap.Ns1.of_empty U).at λo q=>aq _ q,λ_=>True.intro,λy Z=>absurd rfl Z⟩
def z3b{env:Env}(I:attributeBase e f env (eval e env)=eval e env)(h:wpAny (model prog w) A (eval e env) (λo D=>wpAny (model prog w) A (getAttr o f true) Q E D) E s):wpAny (model prog w) A (eval (.Attribute e f pos) env) Q E s :=
 Attribute_any_ h (by rw[arm_eval_Attribute,I])
def tFld(K:ll)(ta:TE)(f:Str):TE:=λσ H Q=>ta σ H λx H1=>∃a C dx fs v,x=.ref a/\H1 a=some (.ins C dx fs)/\Cls K C/\NoAttr K C f/\fs.lookup f=some v/\Q v H1
def sFld(K:ll)(ta tv:TE)(f:Str):TS:=λD σ H=>tv σ H λy H1=>ta σ H1 λx H2=>∃a C dx fs,x=.ref a/\H2 a=some (.ins C dx fs)/\Cls K C/\NoAttr K C f/\fs.length<1000 /\
 D.nx σ (upd H2 a (.ins C dx (putF f y fs)))
def z10(D:PE X e ta)(J:attributeBase e f X.env (eval e X.env)=eval e X.env):PE X (.Attribute e f pos) (tFld X.K ta f):=by
 intro pins s σ H Q I h;refine z3b J (thn (D pins s σ H _ I h) λu b R=>?_);obtain⟨x,H1,U,V,a,C,dx,fs,v,ex,ea,c,n,l,q⟩:=R;subst ex;obtain rfl:u=Value.ref a:=V;exact zvk U ea c n l λd s2 Y Z=>⟨v,H1,Y,Z,q⟩
variable{o value:Expr}{tv:TE}
def z6i(R:PE X o ta)(U:PE X value tv)(V:swapsWith value (some (.Attribute o f pos')) pos.line X.env=pure false):PS X (.Assign [.Attribute o f pos'] value pos) (sFld X.K ta tv f):=by
 intro pins s σ H D I h;refine plainObj_wpAny_Assign_Attribute (thn (U pins s σ H _ I h) λu Y J=>?_) V;obtain⟨y,H1,Z,b,q⟩:=J;refine thn (R pins Y σ H1 _ Z q) λd s2 J=>?_;obtain⟨x,H2,e,g,a,C,dx,fs,ex,ea,c,n,l,i⟩:=J;subst ex;obtain rfl:d=Value.ref a:=g;exact zvl e ea c n l b λk j=>⟨σ,_,j,i⟩
inductive TyOf (K:ll) (H:Hp):V->Value->Prop where
 | non:TyOf K H .non (.type "NoneType")
 | bl (x:Bool):TyOf K H (.bl x) (.type "bool")
 | int (i:Int):TyOf K H (.int i) (.type "int")
 | str (x:Str):TyOf K H (.str x) (.type "str")
 | flt (x:UInt64):TyOf K H (.flt x) (.type "float")
 | lst {a:Addr} {xs:l0} (e:H a=some (.lst xs)):TyOf K H (.ref a) (.type "list")
 | frz {a:Addr} {o:Obj} {xs:l0} (e:H a=some (.frz o (.lst xs))):TyOf K H (.ref a) (.type "list")
 | tup {a:Addr} {xs:l0} (e:H a=some (.tup xs)):TyOf K H (.ref a) (.type "tuple")
 | dK {a:Addr} {kvs:List (Key×V)} (e:H a=some (.dK kvs)):TyOf K H (.ref a) (.type "dict")
 | dT {a:Addr} {kvs:List (List Key×V)} (e:H a=some (.dT kvs)):TyOf K H (.ref a) (.type "dict")
 | ins {a C dx:Addr} {fs:List (Str×V)} (e:H a=some (.ins C dx fs)) (cl:Cls K C) (ha:PySem.W.findIn K (.ref C) "__class__" = some (some (.builtin "object.__class__")))
    (hn:PySem.W.specialIn K (.builtin "object.__class__") "__get__" = some (some (.builtin "getset_descriptor.__get__"))) (htk:PySem.W.takesIn K (.builtin "object.__class__")=some true)
    (hm:PySem.W.mroIn K C (.type "object")=some true):TyOf K H (.ref a) (.ref C)
variable{x:Str}
def zwv{x:V}{t:Value}(I:Inv X pins σ H s)(D:RelV x u)(R:TyOf X.K H x t)(e:PySem.W.kitOne X.K t c=some b)(h:∀tk,Q (.bool b) { s with toks:=tk }) :
  wpAny (model X.prog X.w) A (call (.builtin "isinstance") [u,c]) Q E s:=by
 cases R with
 | non=>cases (show u=Value.none from D);exact d9 PySem.W.kitx_none I.kIn True.intro e (λz=>nomatch z) h
 | bl y=>cases (show u=Value.bool y from D);exact d9 PySem.W.kitx_bool I.kIn True.intro e (λz=>nomatch z) h
 | int i=>obtain⟨t,q⟩:=(show ∃t,u=Value.int i t from D);cases q;exact d9 PySem.W.kitx_int I.kIn True.intro e (λz=>nomatch z) h
 | str y=>obtain⟨t,q⟩:=(show ∃t,u=Value.str y t from D);cases q;exact d9 PySem.W.kitx_str I.kIn True.intro e (λz=>nomatch z) h
 | flt y=>obtain⟨t,q⟩:=(show ∃t,u=Value.float y t from D);cases q;exact d9 PySem.W.kitx_float I.kIn True.intro e (λz=>nomatch z) h
 | @lst a xs ea =>
   cases (show u=Value.ref a from D);obtain⟨_,_,n,_,h1⟩:=(show ObjOk X.prog X.w H s.heap a (.lst xs) from I.hok a _ ea);exact d9 p8 I.kIn ⟨_,h1,rfl⟩ e (λz=>nomatch z) h
 | @frz a ob xs ea =>
   cases (show u=Value.ref a from D);obtain⟨_,_,_,n,_,h1⟩:=(show ObjOk X.prog X.w H s.heap a (.frz ob (.lst xs)) from I.hok a _ ea);exact d9 p8 I.kIn ⟨_,h1,rfl⟩ e (λz=>nomatch z) h
 | @tup a xs ea =>
   cases (show u=Value.ref a from D);obtain⟨_,_,_,p⟩:=(show ObjOk X.prog X.w H s.heap a (.tup xs) from I.hok a _ ea);obtain⟨o,h1,h2,_⟩:=p;exact d9 PySem.W.kitx_tuple I.kIn ⟨o,h1,h2⟩ e (λz=>nomatch z) h
 | @dK a kvs ea =>
   cases (show u=Value.ref a from D);obtain⟨_,_,vs,_,p⟩:=(show ObjOk X.prog X.w H s.heap a (.dK kvs) from I.hok a _ ea);obtain⟨o,es,U,h1,h2,_⟩:=p;exact d9 PySem.W.kitx_dict I.kIn ⟨o,h1,h2.1⟩ e (λz=>nomatch z) h
 | @dT a kvs ea =>
   cases (show u=Value.ref a from D);obtain⟨_,_,xs,_,o,es,U,h1,h2,_⟩:=(show ObjOk X.prog X.w H s.heap a (.dT kvs) from I.hok a _ ea);exact d9 PySem.W.kitx_dict I.kIn ⟨o,h1,h2.1⟩ e (λz=>nomatch z) h
 | @ins a C dx fs ea cl ha hn htk hm =>
   cases (show u=Value.ref a from D);obtain⟨mA,O,_⟩:=zpm I.hok ea;obtain⟨od,J,_⟩:=O.look;exact d9 (PySem.W.kitx_own (cl.get _) cl.hd ha hn htk hm) I.kIn J e (λz=>nomatch z) h
structure Room (k:Nat) (A:Around):Prop where
 hd:A.handled=none
 dp:A.depth+3*k+5<recursionLimit
 un:A.units+16*k+200<cLine
theorem Room.mono{j:Nat}(r:Room k A)(h:j<=k):Room j A:=⟨r.hd,by have:=r.dp;lia,by have:=r.un;lia⟩
theorem Room.deeper(r:Room (k+1) A)(env:Env):Room k (A.deeper env) :=
 ⟨r.hd,by have:=r.dp;show A.depth+1+3*k+5<_;lia,by have:=r.un;show A.units+3+16*k+200<_;lia⟩
def zvm:(A.under (.builtin "type.__call__" ⟨.ref C::us,kw⟩)).depth=A.depth+1:=by
 first | rfl | simp[Around.under,Code.weight,Code.isCreation,Code.isGuard,Code.isCaller,Code.frames,Code.isFrame,guardIds]
def zvn:(A.under (.builtin "type.__call__" ⟨.ref C::us,kw⟩)).units=A.units+1:=by
 first | rfl | simp[Around.under,Code.cUnits,Code.frames,Code.isFrame]
theorem Room.make(r:Room (k+1) A)(C:Addr)(us:i0)(kw:List (Str×Value)):Room k (A.under (.builtin "type.__call__" ⟨.ref C::us,kw⟩)) :=
 ⟨r.hd,by have:=r.dp;rw[zvm];lia,by have:=r.un;rw[zvn];lia⟩
theorem Room.depth(r:Room k A):A.depth<recursionLimit:=by have:=r.dp;lia
def tNil:TA:=λ_ H Q=>Q [] H
def z6j(ta:TE)(tr:TA):TA:=λσ H Q=>ta σ H λx H1=>tr σ H1 λxs H2=>Q (x::xs) H2
def pj:PA X [] tNil:=λ_ _ _ _ H Q I h=>Calls.spliced_nil ⟨[],H,I,.nil,h⟩
def nc(D:PE X e te)(J:PA X es t)(R:starEach (e::es) X.env=(false,eval e X.env)::starEach es X.env:=by rfl):PA X (e::es) (z6j te t):=by
 intro pos pins s σ H Q I h;rw[R];show wpAny _ _ (spliced ((false,eval e X.env)::backTo pos (starEach es X.env))) _ _ s;refine Calls.spliced_cons (thn (D pins s σ H _ I h) λu U V=>?_);obtain⟨x,H1,Y,Z,a⟩:=V;exact thn (J pos pins U σ H1 _ Y a) λus s2 ⟨xs,H2,I2,r2,q2⟩=>⟨x::xs,H2,I2,.cons Z r2,q2⟩
def tTup(t:TA):TE:=λσ H Q=>t σ H λxs H1=>xs.length<=sizeLine/\∀p,H1 p=none->Q (.ref p) (upd H1 p (.tup xs))
def tLst(t:TA):TE:=λσ H Q=>t σ H λxs H1=>xs.length<=sizeLine/\∀p,H1 p=none->Q (.ref p) (upd H1 p (.lst xs))
def z6k{x1}(h:PA X es t):PE X (.Tuple es x1 pos) (tTup t):=by
 intro pins s σ H Q I R;refine wpAny_Tuple_spliced (thn (h pos pins s σ H _ I R) λus D U=>?_);obtain⟨xs,H1,J,r,z,q⟩:=U;refine⟨by rw[<-r.length];exact z,?_⟩;have V:H1 D.heap.objs.size=none:=J.hok.fresh (bw _);refine⟨.ref D.heap.objs.size,upd H1 D.heap.objs.size (.tup xs),J.laid (t':=D.toks) (λb u e=>aq _ e) (bw _) ?_,rfl,q _ V⟩;exact⟨z,us,r,⟨_,cq _ rfl,rfl,_,rfl⟩⟩
def z11(h:PA X es t):PE X (.List es pos) (tLst t):=by
 intro pins s σ H Q I R;refine wpAny_List_spliced (thn (h pos pins s σ H _ I R) λus D U=>?_);obtain⟨xs,H1,J,r,z,q⟩:=U;refine⟨by rw[<-r.length];exact z,?_⟩;have V:H1 D.heap.objs.size=none:=J.hok.fresh (bw _);refine⟨.ref D.heap.objs.size,upd H1 D.heap.objs.size (.lst xs),J.laid (t':=D.toks) (λb u e=>aq _ e) (bw _) ?_,rfl,q _ V⟩;exact⟨z,us,0,r,cq _ rfl⟩
abbrev Sp:=l0->Hp->VK->XK->Prop
abbrev CXT:=k7->Hp->Shared->XK->Value->Shared->Prop
structure Env0 (P:Program) (w:World) (K:ll) (mg:Str->ka) (base:Heap) (A:Around) (outer:k7) (s:Shared) (H:Hp):Prop where
 frames:A.frames=some outer
 mod:Mod K mg base
 bs:∀b o,base.get? b=some o->s.heap.get? b=some o/\H b=none
 bsz:base.objs.size<=s.heap.objs.size
 funs:s.heap.FunFrames base outer
 frf:∀b∈frs outer,H b=none
 hok:HOk P w H s.heap
 bare:AllBare s.gens
def CE(outer:k7)(P:Program)(w:World)(H:Hp)(s:Shared)(Q:VK)(u:Value)(s':Shared):Prop :=
 ∃v H',s'.os=s.os/\AllBare s'.gens/\Un (frs outer) [] H H' s.heap s'.heap/\HOk P w H' s'.heap/\RelV v u/\Q v H'
def CR(CX:CXT)(outer:k7)(P:Program)(w:World)(H:Hp)(s:Shared)(Q:VK)(E:XK)(r:Result)(s':Shared):Prop :=
 match r with
 | .ok (.ret u)=>CE outer P w H s Q u s'
 | .ok _=>False
 | .error e=>CX outer H s E e s'
structure FnOk (P:Program) (w:World) (K:ll) (mg:Str->ka) (base:Heap) (CX:CXT) (k:Nat) (f:Addr) (fd:FuncData) (ps:ik) (sp:Sp):Prop where
 len:∀vs H Q E,sp vs H Q E->vs.length=ps.length
 run:∀(A:Around) (outer:k7) (s:Shared) (H:Hp) (args:Args) (us:i0) (vs:l0) (Q:VK) (E:XK),Room k A->Env0 P w K mg base A outer s H->BindsTo s fd args (ps.zip us)->Vals vs us->sp vs H Q E ->
  codeAny (model P w) A (.call (.ref f) args) (CR CX outer P w H s Q E) s
variable{f:Addr}{mg:Str->ka}{base:Heap}{CX:CXT}{fd:FuncData}{ps:ik}{sp:Sp}
theorem FnOk.imp{D:Sp}(F:FnOk P w K mg base CX k f fd ps sp)(h:∀vs H Q E,D vs H Q E->sp vs H Q E):FnOk P w K mg base CX k f fd ps D :=
 ⟨λvs H Q E q=>F.len vs H Q E (h _ _ _ _ q),λA outer s H args us vs Q E I J R U V=>F.run A outer s H args us vs Q E I J R U (h _ _ _ _ V)⟩
variable{outer:k7}
def Env0.make(e:Env0 P w K mg base A outer s H)(C:Addr)(us:i0)(kw:List (Str×Value)) :
  Env0 P w K mg base (A.under (.builtin "type.__call__" ⟨.ref C::us,kw⟩)) outer s H:=⟨by first | exact e.frames | (simpa[Around.under,Code.envs,Code.isFrame,pushEnvs] using e.frames),e.mod,e.bs,e.bsz,e.funs,e.frf,e.hok,e.bare⟩
protected def Inv.env0(I:Inv X pins σ H s):Env0 X.prog X.w X.K X.mg X.base X.A X.stack s H :=
 ⟨I.ok.frames,I.ok.mod,I.bs,cy I.ok.bsz I.sz,I.stack,I.stkFree,I.hok,I.bare⟩
variable{Q:VK}
def Inv.after(I:Inv X pins σ H s)(h:CE X.stack X.prog X.w H s Q u s'):EP X pins σ Q u s':=by
 obtain⟨v,H',os,D,un,J,r,q⟩:=h;obtain⟨U,g,d,t,R⟩:=s';obtain rfl:R=s.os:=os;exact⟨v,H',I.call (h':=U) (g':=g) (d':=d) (t':=t) (ch:=[]) un J D (λb z=>absurd z (by simp)),r,q⟩
def zww(sp:Sp)(dvs:l0)(E:XK)(t:TA):TE:=λσ H Q=>t σ H λvs H1=>sp (vs++dvs) H1 Q E
def Binds(K:ll)(fd:FuncData)(ps:ik)(ds:i0):Prop :=
 ∀(s:Shared) (us:i0),K.In s.heap->(us++ds).length=ps.length->BindsTo s fd ⟨us,[]⟩ (ps.zip (us++ds))
def Binds.all(h:∀us:i0,us.length=ps.length->bindArgs fd ⟨us,[]⟩=pure (ps.zip us)):Binds K fd ps []:=λs us _ D=>by
 rw[df] at D ⊢;exact .of_eq (h us D)
def zwx(CX:CXT)(X:Cx)(E:XK):Prop:=∀(pins:ln) (σ:St) (H:Hp) (s:Shared) (e:Value) (s':Shared),Inv X pins σ H s->CX X.stack H s E e s'->X.xe e s'
variable{E:XK}{dvs:l0}{ds:i0}
theorem z6l(F:FnOk X.prog X.w X.K X.mg X.base CX k f fd ps sp)(R:Room k X.A)(U:Binds X.K fd ps ds)(V:Vals dvs ds)(Y:zwx CX X E)(I:Inv X pins σ H s)(r:Vals vs us)(h:sp (vs++dvs) H Q E):wpAny (model X.prog X.w) X.A (call (.ref f) us) (EP X pins σ Q) X.xe s:=by
 have J:Vals (vs++dvs) (us++ds):=r.append V;have Z:(us++ds).length=ps.length:=by rw[<-J.length];exact F.len _ _ _ _ h
 refine wpAny_call (codeAny_mono (F.run X.A X.stack s H ⟨us,[]⟩ (us++ds) (vs++dvs) Q E R I.env0 (U s us I.kIn Z) J h) λr s' D=>?_);cases r with
 | error e=>exact Y pins σ H s e s' I D
 | ok fl =>
   cases fl with
   | ret u=>exact I.after D
   | next=>exact False.elim D
   | brk=>exact False.elim D
   | cont=>exact False.elim D
def zpn(F:FnOk X.prog X.w X.K X.mg X.base CX k f fd ps sp)(U:Room k X.A)(V:Gl X x)(Y:X.mg x=some (.ref f))(Z:PySem.W.keepIn X.K (.ref f)=true)(a:Binds X.K fd ps ds)(b:Vals dvs ds)(c:zwx CX X E)(d:PA X (e::es) t)(D:(x==("__debug__" : Str))=false:=by decide)(g:starEach (e::es) X.env=(false,eval e X.env)::starEach es X.env:=by rfl)(J:(backTo pos (starEach es X.env)).any (·.1)=false:=by rfl) :
  PE X (.Call (.Name x p) (e::es) [] pos) (zww sp dvs E t):=by
 intro pins s σ H Q I h;refine wpAny_Call_Name_kw (xq I V Y ?_ D);refine je (h₀:=X.base) I.ok.mod.kin Z (thn (d pos pins s σ H _ I h) λus j i=>?_) g J;obtain⟨vs,H1,R,r,q⟩:=i;refine⟨R.kIn,?_⟩;exact z6l F U a b c R r q
structure Mk (K:ll) (C f:Addr):Prop where
 makes:PySem.W.makesIn K C=true
 init:PySem.W.findIn K (.ref C) "__init__" = some (some (.ref f))
 fn:PySem.W.isFn K (.ref f)=true
 kp:PySem.W.keepIn K (.ref C)=true
def PK(X:Cx)(kws:List Keyword)(t:TA):Prop :=
 ∀(pos:Pos) (pins:ln) (s:Shared) (σ:St) (H:Hp) (Q:l0->Hp->Prop),Inv X pins σ H s->t σ H Q->wpAny (model X.prog X.w) X.A (evalAll ((backToKw pos (keywordEach kws X.env)).map (·.2))) (AP X pins σ Q) X.xe s
section
variable {X:Cx} {CX:CXT} {k:Nat} {f C:Addr} {fd:FuncData} {ps ks:ik} {sp:Sp} {E:XK} {x m:Str} {p pos apos kpos:Pos} {e o:Expr} {es:k8} {kws:List Keyword} {te ta:TE} {t tk:TA} {nm:k9}
def z6m:PK X [] tNil:=λ_ _ _ _ H Q I h=>wpAny_evalAll_nil ⟨[],H,I,.nil,h⟩
def z3c(D:PE X e te)(J:PK X kws t):PK X (⟨nm,e,kpos⟩::kws) (z6j te t):=by
 intro pos pins s σ H Q I h;show wpAny _ _ (evalAll ((do let v <-eval e X.env;standAt pos;pure v)::(backToKw pos (keywordEach kws X.env)).map (·.2))) _ _ s;refine wpAny_evalAll_cons (wpAny_bind (thn (D pins s σ H _ I h) λu R U=>?_));obtain⟨x,H1,V,Y,Z⟩:=U;refine wpAny_bind (wpAny_standAt (wpAny_pure ?_));exact thn (J pos pins R σ H1 _ V Z) λus s2 ⟨xs,H2,I2,r2,q2⟩=>⟨x::xs,H2,I2,.cons Y r2,q2⟩
structure yao (K:ll) (fd:FuncData) (ps ks:ik) (g:i0->i0->i0) (gV:l0->l0->l0):Prop where
 to:∀(s:Shared) (us ws:i0),K.In s.heap->(g us ws).length=ps.length->BindsTo s fd ⟨us,ks.zip ws⟩ (ps.zip (g us ws))
 rel:∀ {vs:l0} {us:i0} {zs:l0} {ws:i0},Vals vs us->Vals zs ws->Vals (gV vs zs) (g us ws)
variable {g:i0->i0->i0} {gV:l0->l0->l0}
end
structure rn (N P:ik) (sc:Scope):Prop where
 kind:sc.kind=.function
 co:sc.isCoroutine=false
 gen:sc.isGenerator=false
 nd:N.Nodup
 pre:N.take P.length=P
 par:∀x∈P,sc.names.lookup x=some .local\/sc.names.lookup x=some .cell
 nofree:∀y∈sc.names,y.2≠.free
def zq9{kindOf:Str->Option NameKind}{x:Str}:∀ {D:List (Str×Value)} {m:Str->ka},(∀v,(x,v)∉D)->bindL kindOf D m x=m x
 | [],_,_=>rfl
 | (n,v)::r,m,h=>by
   unfold bindL;rw[zq9 λw I=>h w (ay _ I)];split
   ·have:x≠n:=by rintro rfl;exact h v bu
    simp[this]
   ·rfl
def zra{kindOf:Str->Option NameKind}{x:Str}:∀ {D:List (Str×Value)} {m:Str->ka},(∀v,(x,v)∉D)->bindC kindOf D m x=m x
 | [],_,_=>rfl
 | (n,v)::r,m,h=>by
   unfold bindC;rw[zra λw I=>h w (ay _ I)];split
   ·rfl
   ·have:x≠n:=by rintro rfl;exact h v bu
    simp[this]
def zrb{kindOf:Str->Option NameKind}{x:Str}{v:Value}:∀ {P:ik} {vs:i0} {i:Nat} {m:Str->ka},P.Nodup->P[i]?=some x->vs[i]?=some v->kindOf x=some .local ->
  bindL kindOf (P.zip vs) m x=some v
 | [],_,_,_,_,h,_,_=>by simp at h
 | _::_,[],_,_,_,_,h,_=>by simp at h
 | p::P,w::vs,0,m,nd,h1,h2,hk=>by
   simp at h1 h2;subst h1;subst h2;show bindL kindOf ((p,w)::P.zip vs) m p=_;unfold bindL;rw[zq9 λv D=>(b7.mp nd).1 (j6 D).1,if_pos hk];simp
 | p::P,w::vs,i+1,m,nd,h1,h2,hk=>by
   show bindL kindOf ((p,w)::P.zip vs) m x=_;unfold bindL;exact zrb (i:=i) (b7.mp nd).2 (by simpa using h1) (by simpa using h2) hk
def zrc{kindOf:Str->Option NameKind}{x:Str}{v:Value}:∀ {P:ik} {vs:i0} {i:Nat} {m:Str->ka},P.Nodup->P[i]?=some x->vs[i]?=some v->kindOf x≠some .local ->
  bindC kindOf (P.zip vs) m x=some v
 | [],_,_,_,_,h,_,_=>by simp at h
 | _::_,[],_,_,_,_,h,_=>by simp at h
 | p::P,w::vs,0,m,nd,h1,h2,hk=>by
   simp at h1 h2;subst h1;subst h2;show bindC kindOf ((p,w)::P.zip vs) m p=_;unfold bindC;rw[zra λv D=>(b7.mp nd).1 (j6 D).1,if_neg hk];simp
 | p::P,w::vs,i+1,m,nd,h1,h2,hk=>by
   show bindC kindOf ((p,w)::P.zip vs) m x=_;unfold bindC;exact zrc (i:=i) (b7.mp nd).2 (by simpa using h1) (by simpa using h2) hk
def start(N:ik)(vs:l0):St:=vs.map some++List.replicate (N.length-vs.length) none
def cxOf(CX:CXT)(P:Program)(w:World)(K:ll)(mg:Str->ka)(base:Heap)(N:ik)(qual:Str)(scope:Scope)(f:Addr)(I:Value)(A:Around)(outer:k7)(s:Shared)(H:Hp)(E:XK):Cx where
 prog:=P
 w:=w
 K:=K
 mg:=mg
 base:=base
 A:=A.deeper (envOfC qual scope s.heap.objs.size f I)
 N:=N
 s₀:=s
 H₀:=H
 env:=envOfC qual scope s.heap.objs.size f I
 outer:=outer
 stack:=envOfC qual scope s.heap.objs.size f I::outer
 ex:=[]
 calm:=true
 fn:=λ_=>true
 pn:=[]
 xe:=λe s'=>wpAny (model P w) (A.deeper (envOfC qual scope s.heap.objs.size f I)) (leaving (envOfC qual scope s.heap.objs.size f I) e) (λ_ D=>CX outer H s E e D) (λe' D=>CX outer H s E e' D) s'
def zt4{sc:Scope}(h:sc.names.lookup x=some .cell):∃c,(cellsFrom n sc.names []).lookup x=some c:=by
 have q:=l8 sc.names n [] (.inl h);exact li.mp q
variable{qual:Str}{scope:Scope}
theorem zrd{U:Value}{V:Shared}(S:rn N ps scope)(d:A.handled=none)(D:Env0 P w K mg base A outer s H)(m:vs.length=ps.length)(r:Vals vs us)(x:InCallC s s.heap.objs.size (bindL (envOfC qual scope s.heap.objs.size f U).kindOf (ps.zip us) λ_=>none) (cellsFrom (s.heap.objs.size+1) scope.names []) (bindC (envOfC qual scope s.heap.objs.size f U).kindOf (ps.zip us) λ_=>none) V) :
  Inv (cxOf CX P w K mg base N qual scope f U A outer s H E) [] (start N vs) H V:=by
 have g:ps.length<=N.length:=by have:=congrArg List.length S.pre;rw[dn] at this;lia
 obtain⟨h1,tk,rfl,Y⟩:=x.done;have I:∀b:Addr,b∉(cxOf CX P w K mg base N qual scope f U A outer s H E).ex:=λb z=>absurd (show b∈([]:kb) from z) (by simp);refine⟨⟨D.mod,S.kind,rfl,rfl,bw _,λy z c h1 h2=>?_,λy hy=>?_,λy c _ h=>?_,λ_=>d,Around.frames_deeper D.frames,.inr ⟨rfl,rfl⟩,λb z=>absurd z (I b),D.bs,D.bsz,λb _ _=>I b,λb z=>absurd z (I b),D.funs,D.frf⟩,
  rfl,D.bare,Un.kept Y,⟨_,x.toInCall.ns,λi y v h1 h2 o=>?_⟩,λy c h=>⟨_,x.cell y c h⟩,D.hok.fresh (bw _),λy c h=>?_,λp J=>absurd (show p∈([]:ln) from J) (by simp),D.hok.kept Y,?_⟩
 ·exact name_of_addr x.apart (eg h1) (eg h2)
 ·have hy:scope.names.lookup y=some .cell\/scope.names.lookup y=some .free:=hy
  rcases hy with hy | hy
  ·exact zt4 hy
  ·exact absurd rfl (S.nofree _ (eg hy))
 ·exact ki (x.above y c (eg h))
 ·have hi:i<vs.length:=by
   unfold start at h2;by_cases hi:i<vs.length
   ·exact hi
   ·rw[dg (by simpa using hi)] at h2
    rw[List.getElem?_replicate] at h2;split at h2 <;> cases h2
  have j:vs[i]?=some v:=by
   unfold start at h2;rw[ax (by simpa using hi),bj] at h2;cases e:vs[i]? with
   | none=>rw[e] at h2;cases h2
   | some a=>rw[e] at h2;cases h2;rfl
  obtain⟨u,Z,l⟩:=r.get j;have J:ps[i]?=some y:=by
   rw[<-S.pre,List.getElem?_take_of_lt (by lia)];exact h1
  have R:ps.Nodup:=by rw[<-S.pre];exact S.nd.sublist (List.take_sublist _ _)
  refine⟨u,l,?_⟩;rcases S.par y (bf J) with k | k
  ·exact .inl ⟨k,zrb R J Z k⟩
  ·obtain⟨c,e⟩:=zt4 (n:=s.heap.objs.size+1) k
   refine .inr ⟨.inl k,c,e,?_⟩;have q:=x.cell y c e;rw[zrc R J Z (by show scope.names.lookup y≠_;rw[k];decide)] at q;exact q
 ·exact D.hok.fresh (ki (x.above y c (eg h)))
 ·unfold start
  show _=N.length;rw[am,af,eh]
  lia
def z9j{D:Arguments}{m kV a p cdv ct oc:Value}{an od:Option Addr}{osl:Array ka}(C:K.lookup f=some ⟨oc,od,.func (PySem.W.fnOf name qual D body scope m kV a p an cdv ct),osl⟩)(h:PySem.W.codeIn K cdv qual=true)(S:rn N ps scope)(len:∀vs H Q E,sp vs H Q E->vs.length=ps.length)(U:∀(A:Around) (outer:k7) (s:Shared) (H:Hp) (vs:l0) (Q:VK) (E:XK),Room k (A.deeper (envOfC qual scope s.heap.objs.size f cdv))->sp vs H Q E ->
   ∃t,PSs (cxOf CX P w K mg base N qual scope f cdv A outer s H E) body t/\t { nx:=λ_ H'=>Q .non H',rt:=Q } (start N vs) H) :
  FnOk P w K mg base CX (k+1) f (PySem.W.fnOf name qual D body scope m kV a p an cdv ct) ps sp:=by
 refine⟨len,λA outer s H args us vs Q E i c F r d=>?_⟩;have G:=len _ _ _ _ d;have z:K.In s.heap:=c.mod.kin.keeps λb o e=>(c.bs b o e).1;have j:s.heap.NoLimit:=c.mod.nolimit.keeps λb o e=>(c.bs b o e).1;have Y:∀y∈ps.zip us,scope.names.lookup y.1=some .local\/(scope.names.lookup y.1=some .cell/\((cellsFrom (s.heap.objs.size+1) scope.names []).lookup y.1).isSome=true):=λ⟨n,v⟩ hy=>by
  rcases S.par n (j6 hy).1 with q | q
  ·exact .inl q
  ·exact .inr ⟨q,l8 _ _ _ (.inl q)⟩
 refine codeAny_call_function i.depth (z _ _ C) rfl S.co S.gen rfl (PySem.W.codeRec_of z h) (F _ _ _ _ ?_);refine wpAny_newFunctionEnv_cells S.kind Y λenv L B x=>?_;subst L;refine⟨j.keeps x.toInCall.keep,codeAny_func ?_⟩;obtain⟨t,M,O⟩:=U A outer s H vs Q E (i.deeper _) d;have I:Inv (cxOf CX P w K mg base N qual scope f cdv A outer s H E) [] (start N vs) H B:=zrd S i.hd c G r x;refine wpAny_mono (M [] B (start N vs) H _ I O) (λfl s' Z=>?_) λe s' Z=>Z;have g:∀ {R:St} {H':Hp} {v:V} {u:Value},Inv (cxOf CX P w K mg base N qual scope f cdv A outer s H E) [] R H' s'->RelV v u->Q v H'->CE outer P w H s Q u s' :=
  λ{R H' v u} J l q=>⟨v,H',J.os,J.bare,J.base,J.hok,l,q⟩
 cases fl with
 | ret u =>
   obtain⟨v,R,H',J,l,q⟩:=Z;exact g J l q
 | next =>
   obtain⟨R,H',J,q⟩:=Z;exact g (v:=V.non) (u:=Value.none) J rfl q
 | brk =>
   obtain⟨_,_,_,q⟩:=Z;exact False.elim q
 | cont =>
   obtain⟨_,_,_,q⟩:=Z;exact False.elim q
def tCB(r:l0->Hp->VK->Prop)(t:TA):TE:=λσ H Q=>t σ H λvs H1=>r vs H1 Q
variable{r:l0->Hp->VK->Prop}{id:String}
def y9(R:ph X (.builtin id) r)(U:Gl X x)(V:X.mg x=none)(Y:bootBuiltins x=some (.builtin id))(Z:PA X (e::es) t)(a:x ≠ "__name__":=by decide)(D:(x==("__debug__" : Str))=false:=by decide)(b:starEach (e::es) X.env=(false,eval e X.env)::starEach es X.env:=by rfl)(J:(backTo pos (starEach es X.env)).any (·.1)=false:=by rfl):PE X (.Call (.Name x p) (e::es) [] pos) (tCB r t):=by
 intro pins s σ H Q I h;refine wpAny_Call_Name_kw (xk I U V Y ?_ a D);exact PyProof.Rows.callWith_builtin1 (thn (Z pos pins s σ H _ I h) λus s1 ⟨vs,H1,I1,r1,q1⟩=>R pins s1 σ H1 vs us Q I1 r1 q1) b J
variable{T:String}
def znp(R:ph X (.type T) r)(U:Gl X x)(V:X.mg x=none)(Y:bootBuiltins x=some (.type T))(Z:PA X (e::es) t)(a:x ≠ "__name__":=by decide)(D:(x==("__debug__" : Str))=false:=by decide)(b:starEach (e::es) X.env=(false,eval e X.env)::starEach es X.env:=by rfl)(J:(backTo pos (starEach es X.env)).any (·.1)=false:=by rfl):PE X (.Call (.Name x p) (e::es) [] pos) (tCB r t):=by
 intro pins s σ H Q I h;refine wpAny_Call_Name_kw (xk I U V Y ?_ a D);exact iq (thn (Z pos pins s σ H _ I h) λus s1 ⟨vs,H1,I1,r1,q1⟩=>R pins s1 σ H1 vs us Q I1 r1 q1) b J
end L2
namespace HT
open PySem PyProof.Rows
section
open PySem.SeqAt
open PySem.AutoSeq1 (wpAny_loadPart')
open PySem.MeetsSeq PySem.MeetsSeq2 PySem.MeetsSeq3
end
variable{t:Addr}{Q E:Value->Shared->Prop}{prog:Program}{w:World}{A:Around}{s:Shared}
def cat_tup{b:Addr}{vs ws:i0}(g:IsTup s.heap t vs.toArray)(h:IsTup s.heap b ws.toArray)(a:vs≠[])(h1:ws=[]->Q (.ref t) s)(h2:ws≠[]->Q (.ref s.heap.objs.size) { s with heap:=s.heap.push { cls:=.type "tuple",data:=.seq (vs++ws).toArray } })(Z:vs.length+ws.length<=sizeLine):wpAny (model prog w) A (binaryOp .Add (.ref t) (.ref b)) Q E s:=by
 obtain⟨⟨cls,dd,data,sl⟩,V,c,n,d⟩:=id g;obtain⟨⟨f,I,data2,J⟩,D,R,n2,U⟩:=id h;simp only at c d R U;subst c d R U;have e:vs.toArray++ws.toArray=(vs++ws).toArray:=by simp
 by_cases Y:ws=[]
 ·exact concat_meets ⟨_,V,rfl⟩ ⟨_,D,rfl⟩ noFill_tuple_add seq_tuple_add PySem.F.slot_tuple_add PySem.F.entry_tuple_add (PySem.F.args_tuple_add_2 _ _)
   (tuple_addW1 t b vs.toArray ws.toArray n n2 dd I sl J (by simpa using a) (by simp[Y])) ⟨V,D,h1 Y⟩
 ·refine concat_meets ⟨_,V,rfl⟩ ⟨_,D,rfl⟩ noFill_tuple_add seq_tuple_add PySem.F.slot_tuple_add PySem.F.entry_tuple_add (PySem.F.args_tuple_add_2 _ _)
   (tuple_addW2 t b vs.toArray ws.toArray n n2 dd I sl J (by simpa using a) (by simpa using Y) (by rw[bg,bg];exact Z)) ⟨V,D,?_⟩
  rw[e];exact h2 Y
def sIx(n d:Nat):la->Nat
 | none=>d
 | some v=>if v<0 then(v+(n:Int)).toNat else min v.toNat n
def sIx_none(n d:Nat):sIx n d none=d:=rfl
theorem sIx_nat(n d k:Nat):sIx n d (some (k:Int))=min k n:=by
 show(if (k:Int)<0 then((k:Int)+(n:Int)).toNat else min (k:Int).toNat n)=min k n;rw[if_neg (by lia),gk]
theorem z6n(n d:Nat)(I:d<=n)(o:la):sIx n d o<=n:=by
 cases o with
 | none=>exact I
 | some v =>
   show(if v<0 then(v+(n:Int)).toNat else min v.toNat n)<=n;by_cases D:v<0
   ·rw[if_pos D];lia
   ·rw[if_neg D];exact Nat.min_le_right _ _
theorem zwy(v:Int)(n d:Nat):(if v<0 then max (v+(n:Int)) 0 else min v (n:Int))=((sIx n d (some v):Nat):Int):=by
 show(if v<0 then max (v+(n:Int)) 0 else min v (n:Int))=(((if v<0 then(v+(n:Int)).toNat else min v.toNat n):Nat):Int);by_cases D:v<0
 ·simp only[if_pos D];lia
 ·simp only[if_neg D];lia
theorem zvo(lo hi:la)(n:Nat):Builtin.Slice.sliceAdjust lo hi 1 (n:Int)=(((sIx n 0 lo:Nat):Int),((sIx n n hi:Nat):Int)):=by
 have h1:¬((1:Int)<0):=by lia
 unfold Builtin.Slice.sliceAdjust;simp only[h1,if_false];refine Prod.ext ?_ ?_
 ·cases lo with
  | none=>rfl
  | some v=>exact zwy v n 0
 ·cases hi with
  | none=>rfl
  | some v=>exact zwy v n n
theorem zvp(i j:Nat):Builtin.Slice.slicePlaces (i:Int) (j:Int) 1=j-i:=by
 unfold Builtin.Slice.slicePlaces;have h1:(1:Int) > 0:=by lia
 simp only[h1,if_true,Int.ediv_one];split <;> lia
def zo2{v:Value}{o:la}{Q:la->Shared->Prop}(p:IsPart v o)(h:Q o s):wpAny (model prog w) A (Builtin.Slice.slicePartIndex v) Q E s:=by
 cases p with
 | none=>exact slicePart_none h
 | int i t=>exact slicePart_int h
variable{sl:Addr}{vl vu:Value}{lo hi:la}
def zmx{n:Nat}{Q:Int×Int×Nat->Shared->Prop}(J:s.heap.IsSliceOf sl vl vu .none)(pl:IsPart vl lo)(R:IsPart vu hi)(h:Q (((sIx n 0 lo:Nat):Int),1,sIx n n hi-sIx n 0 lo) s):wpAny (model prog w) A (Builtin.Slice.sliceApplied (.ref sl) (pure (n:Int))) Q E s:=by
 obtain⟨os,D,U,I⟩:=id J;unfold Builtin.Slice.sliceApplied Builtin.Slice.sliceFields;refine wpAny_bind (wpAny_bind (wpAny_field D I (x:=vl) rfl (wpAny_bind (wpAny_field D I (x:=vu) rfl (wpAny_bind (wpAny_field D I (x:=.none) rfl (wpAny_pure ?_)))))));refine wpAny_bind (slicePart_none ?_);show wpAny _ _ (if ((1:Int)==0)=true then _ else _) _ _ s;rw[if_neg (by decide)];refine wpAny_bind (zo2 pl (wpAny_bind (zo2 R (wpAny_bind (wpAny_pure ?_)))));show wpAny _ _ (match Builtin.Slice.sliceAdjust lo hi 1 (n:Int) with | (lo,hi)=>pure (lo,(1:Int),Builtin.Slice.slicePlaces lo hi 1)) _ _ s;rw[zvo lo hi n];show wpAny _ _ (pure (((sIx n 0 lo:Nat):Int),(1:Int),Builtin.Slice.slicePlaces ((sIx n 0 lo:Nat):Int) ((sIx n n hi:Nat):Int) 1)) _ _ s;rw[zvp];exact wpAny_pure h
theorem zzn(xs:lx)(i k:Nat):((List.range k).filterMap λ(m:Nat)=>xs[((i:Int)+(m:Int)*1).toNat]?).toArray=((xs.toList.drop i).take k).toArray:=by
 have e:(λ(m:Nat)=>xs[((i:Int)+(m:Int)*1).toNat]?)=λm=>xs[i+m]?:=by
  funext m;have:((i:Int)+(m:Int)*1).toNat=i+m:=by lia
  rw[this]
 rw[e];have:=pick_run xs i k;rw[List.filterMap_map] at this;have D:((λx=>xs[x]?) ∘ λx=>i+x)=λm=>xs[i+m]?:=rfl;rw[D] at this;rw[this]
theorem getItem_tuple_cut{D:lx}(J:IsTup s.heap t D)(Z:s.heap.IsSliceOf sl vl vu .none)(pl:IsPart vl lo)(a:IsPart vu hi)(b:¬(sIx D.size 0 lo=0/\sIx D.size D.size hi=D.size))(h:Q (.ref s.heap.objs.size) { s with heap:=s.heap.push { cls:=.type "tuple",data:=.seq ((D.toList.drop (sIx D.size 0 lo)).take (sIx D.size D.size hi-sIx D.size 0 lo)).toArray } })(c:D.size<=sizeLine):wpAny (model prog w) A (getItem (.ref t) (.ref sl)) Q E s:=by
 have I:sizeOk (.seq ((D.toList.drop (sIx D.size 0 lo)).take (sIx D.size D.size hi-sIx D.size 0 lo)).toArray):=by
  show((D.toList.drop (sIx D.size 0 lo)).take (sIx D.size D.size hi-sIx D.size 0 lo)).toArray.size<=sizeLine;rw[bg,dn,em,nt]
  lia
 have e:sIx D.size D.size hi<=D.size:=z6n _ _ (bw _) hi;obtain⟨os,R,U,d⟩:=id Z;have V:s.TypeIs (.ref sl) "slice":=⟨os,R,U⟩;unfold getItem;try with_reducible refine wpAny_holding ?_
 first | refine wpAny_bind (wpAny_pure ?_) | skip
 refine wpAny_bind (wpAny_sequenceKey J.typeIs (by decide) ?_);refine wpAny_bind (wpAny_callSpecial?_slot (name:=Str.ofString "__getitem__") J.typeIs ju
  (wpAny_call_entry ju J.typeIs entry_tuple_getitem ?_ (args_tuple_getitem _ _)))
 show wpAny _ _ (Builtin.Tuple.tupleItemsOf (.ref t) >>= _) _ _ s;refine wpAny_bind (tupleItemsOf_ J ?_);refine wpAny_bind (wpAny_typeOf V ?_);rw[if_pos (by decide)];refine wpAny_bind (zmx Z pl a ?_);have Y:¬((((sIx D.size 0 lo:Nat):Int)==0 && (1:Int)==1 && (sIx D.size D.size hi-sIx D.size 0 lo)==D.size)=true):=by
  intro q;rw[dw,dw] at q;have f:((sIx D.size 0 lo:Nat):Int)=0:=eq_of_beq q.1.1;have g:sIx D.size D.size hi-sIx D.size 0 lo=D.size:=eq_of_beq q.2;exact b ⟨by lia,by lia⟩
 show wpAny _ _ (if (((sIx D.size 0 lo:Nat):Int)==0 && (1:Int)==1 && (sIx D.size D.size hi-sIx D.size 0 lo)==D.size)=true then _ else _) _ _ s;rw[if_neg Y,zzn];first
  | exact wpAny_bind (m:=Builtin.Tuple.tupleExact _) (wpAny_newObj_type (wpAny_pure ⟨_,rfl,wpAny_pure h⟩) I)
  | exact wpAny_bind (m:=Builtin.Tuple.tupleExact _) (wpAny_newObj_type (wpAny_bind (wpAny_pure (wpAny_pure ⟨_,rfl,wpAny_pure h⟩))) I)
  | exact wpAny_bind (wpAny_bind (m:=Builtin.Tuple.tupleExact _) (wpAny_newObj_type (wpAny_pure (wpAny_pure ⟨_,rfl,wpAny_pure h⟩)) I))
  | exact wpAny_bind (wpAny_bind (m:=Builtin.Tuple.tupleExact _) (wpAny_newObj_type (wpAny_pure ⟨_,rfl,wpAny_pure h⟩) I))
end HT
namespace L2
open PySem PySem.Spec PyProof.Rows
abbrev TO:=St->Hp->(la->Hp->Prop)->Prop
def PO(X:Cx)(e:Option Expr)(t:TO):Prop :=
 ∀(pins:ln) (s:Shared) (σ:St) (H:Hp) (Q:la->Hp->Prop),Inv X pins σ H s->t σ H Q ->
  wpAny (model X.prog X.w) X.A (evalPart e X.env) (λu s'=>∃o H',Inv X pins σ H' s'/\IsPart u o/\Q o H') X.xe s
def z3d:TO:=λ_ H Q=>Q none H
def z9k(t:TE):TO:=λσ H Q=>t σ H λx H1=>∃i,x=.int i/\Q (some i) H1
def zvq{D:k4}:∀ {us:i0},Vals (D.map V.int) us->IntsAre us D:=by
 induction D with
 | nil=>intro us r;rw[dc] at r;cases r;exact .nil
 | cons n D ih =>
   intro us r;rw[bz] at r;cases r with
   | cons r1 r2 =>
     obtain⟨t,e⟩:=r1;subst e;exact .cons n t (ih r2)
variable{X:Cx}
def z3e:PO X none z3d:=by
 intro pins s σ H Q I h;rw[evalPart_none];exact wpAny_pure ⟨none,H,I,.none,h⟩
variable{e:Expr}{te:TE}
def z3f(h:PE X e te):PO X (some e) (z9k te):=by
 intro pins s σ H Q I D;rw[evalPart_some];refine thn (h pins s σ H _ I D) λu Y J=>?_;obtain⟨x,H1,R,U,V⟩:=J;obtain⟨i,rfl,q⟩:=V;obtain⟨t,rfl⟩:=U;exact⟨some i,H1,R,.int i t,q⟩
variable{lo hi:Option Expr}
def SlR(X:Cx)(r:V->la->la->Hp->VK->Prop):Prop :=
 ∀(pins:ln) (s:Shared) (σ:St) (H:Hp) (x:V) (v vl vu:Value) (lo hi:la) (sl:Addr) (Q:VK),Inv X pins σ H s->RelV x v->s.heap.IsSliceOf sl vl vu .none->IsPart vl lo->IsPart vu hi->r x lo hi H Q ->
  ∃T id,typeLookup (.type T) "__getitem__" = pure (some (.builtin id))/\s.TypeIs v T/\wpAny (model X.prog X.w) X.A (getItem v (.ref sl)) (EP X pins σ Q) X.xe s
def tSl(r:V->la->la->Hp->VK->Prop)(te:TE)(tl th:TO):TE:=λσ H Q=>te σ H λx H1=>tl σ H1 λl H2=>th σ H2 λu D=>r x l u D Q
variable{r:R2}{tl th:TO}{pos p2:Pos}
def zt5{r:V->la->la->Hp->VK->Prop}(U:SlR X r)(Y:PE X e te)(Z:PO X lo tl)(a:PO X hi th):PE X (.Subscript e (.Slice lo hi none p2) pos) (tSl r te tl th):=by
 intro pins s σ H Q I h;refine Subscript_ (thn (Y pins s σ H _ I h) λv c J=>?_);obtain⟨x,H1,d,f,g⟩:=J;refine wpAny_Slice (thn (Z pins c σ H1 _ d g) λvl s2 J=>?_);obtain⟨l,H2,i,pl,j⟩:=J;refine thn (a pins s2 σ H2 _ i j) λvu D J=>?_;obtain⟨u,R,k,m,n⟩:=J;rw[evalPart_none];refine wpAny_pure ?_;have o:Inv X pins σ R { D with heap:=D.heap.push { cls:=.type "slice",data:=.fields #[vl,vu,.none] } }:=k.kept (t':=D.toks) λb y q=>aq _ q;obtain⟨T,id,hT,p,t⟩:=U pins { D with heap:=D.heap.push { cls:=.type "slice",data:=.fields #[vl,vu,.none] } } σ R x v vl vu l u D.heap.objs.size Q o f (Heap.IsSliceOf.new ..) pl m n;show wpAny (model X.prog X.w) X.A (subscriptTail e (.Slice lo hi none p2) v (.ref D.heap.objs.size)) (EP X pins σ Q) X.xe { D with heap:=D.heap.push { cls:=.type "slice",data:=.fields #[vl,vu,.none] } };exact tail_any (ops:=[.ref D.heap.objs.size,v]) p hT t (by with_unfolding_all rfl)
def cutV(xs:l0)(lo hi:la):l0:=(xs.drop (HT.sIx xs.length 0 lo)).take (HT.sIx xs.length xs.length hi-HT.sIx xs.length 0 lo)
theorem znq(xs:l0)(lo hi:la):(cutV xs lo hi).length<=xs.length:=by
 unfold cutV;rw[dn,em]
 lia
def rSlT(K:ll):V->la->la->Hp->VK->Prop:=λx lo hi H Q=>∃a xs,x=.ref a/\SqT K H a xs /\
 ¬(HT.sIx xs.length 0 lo=0/\HT.sIx xs.length xs.length hi=xs.length)/\∀p,H p=none->Q (.ref p) (upd H p (.tup (cutV xs lo hi)))
def z6o:SlR X (rSlT X.K):=by
 intro pins s σ H x v vl vu lo hi sl Q I U V pl Y h;obtain⟨a,xs,rfl,Z,c,q⟩:=h;cases U;obtain⟨its,r,J,R⟩:=I.tuple Z;have D:its.toArray.size=xs.length:=by rw[bg];exact r.length.symm
 refine⟨"tuple",_,ju.lookup,J.typeIs,?_⟩;refine HT.getItem_tuple_cut J V pl Y (by rw[D];exact c) ?_ (by rw[D];exact R);rw[D];refine⟨.ref s.heap.objs.size,_,I.laid (t':=s.toks) (o:=.tup (cutV xs lo hi)) (λb d q=>aq _ q) (bw _) ?_,rfl,q _ (I.hok.fresh (bw _))⟩;exact⟨cy (znq xs lo hi) R,_,(r.drop (HT.sIx xs.length 0 lo)).take (HT.sIx xs.length xs.length hi-HT.sIx xs.length 0 lo),IsTup.new _ _⟩
def z6p(K:ll):R2:=λx y H Q=>∃a b xs ys,x=.ref a/\y=.ref b/\SqT K H a xs/\SqT K H b ys/\xs≠[]/\xs.length+ys.length<=sizeLine /\
 (ys=[]->Q (.ref a) H)/\(ys≠[]->∀p,H p=none->Q (.ref p) (upd H p (.tup (xs++ys))))
variable{xs:l0}{us:i0}
def Vals.nil_iff(r:Vals xs us):us=[]↔xs=[]:=by
 cases r with
 | nil=>simp
 | cons _ _=>simp
def z3g:OpR X (binaryOp .Add) (z6p X.K):=by
 intro pins s σ H x y v u Q I V Y h;obtain⟨a,b,xs,ys,rfl,rfl,Z,c,d,R,e,f⟩:=h;cases V;cases Y;obtain⟨its,J,p1,_⟩:=I.tuple Z;obtain⟨U,D,p2,_⟩:=I.tuple c;refine HT.cat_tup p1 p2 (λz=>d (J.nil_iff.mp z)) (λz=>⟨.ref a,H,I,rfl,e (D.nil_iff.mp z)⟩) (λz=>?_) (by rw[<-J.length,<-D.length];exact R);refine⟨.ref s.heap.objs.size,_,I.laid (t':=s.toks) (o:=.tup (xs++ys)) (λb g q=>aq _ q) (bw _) ?_,rfl,f (λw=>z (D.nil_iff.mpr w)) _ (I.hok.fresh (bw _))⟩;exact⟨by rw[am];exact R,_,J.append D,IsTup.new _ _⟩
def ixN(n:Nat)(i:Int):Option Nat:=if 0<=i then(if i<n then some i.toNat else none) else if -(n:Int)<=i then some (i+n).toNat else none
variable{α:Type}
def atI(xs:List α)(i:Int):Option α:=(ixN xs.length i).bind λj=>xs[j]?
variable{n j:Nat}{i:Int}
theorem zpo(h:ixN n i=some j):seqIndex? i n=some j/\j<n/\-(n:Int)<=i/\i<n:=by
 unfold ixN at h;by_cases D:0<=i
 ·rw[if_pos D] at h
  by_cases h1:i<n
  ·rw[if_pos h1] at h
   have e:i.toNat=j:=bn h;exact⟨by rw[seqIndex_of D h1,e],by lia,by lia,h1⟩
  ·rw[if_neg h1] at h;cases h
 ·rw[if_neg D] at h
  by_cases h1:-(n:Int)<=i
  ·rw[if_pos h1] at h
   have e:(i+n).toNat=j:=bn h;exact⟨by rw[seqIndex_neg (by lia) h1,e],by lia,h1,by lia⟩
  ·rw[if_neg h1] at h;cases h
def zsu{xs:List α}{v:α}(h:atI xs i=some v):∃j,seqIndex? i xs.length=some j/\xs[j]?=some v/\j<xs.length/\-(xs.length:Int)<=i/\i<xs.length:=by
 unfold atI at h;cases e:ixN xs.length i with
 | none=>rw[e] at h;cases h
 | some j =>
   rw[e] at h;obtain⟨h1,h2,D,I⟩:=zpo e;exact⟨j,h1,h,h2,D,I⟩
theorem zsv{xs:List α}{v:α}(h:xs[j]?=some v):atI xs (j:Int)=some v:=by
 have D:j<xs.length:=(aj.mp h).1;have e:ixN xs.length (j:Int)=some j:=by
  unfold ixN;rw[if_pos (by lia),if_pos (by lia)];simp
 unfold atI;rw[e];exact h
theorem zzo(xs:List α)(v:α):atI (xs++[v]) (-1)=some v:=by
 have D:(xs++[v]).length=xs.length+1:=by simp
 have e:ixN (xs++[v]).length (-1)=some xs.length:=by
  unfold ixN;rw[D,if_neg (by decide),if_pos (by lia)];congr 1
  lia
 unfold atI;rw[e];show(xs++[v])[xs.length]?=some v;simp
def uw(b:Expr):Prop:=∀o i,subscripted b false o i=operate [o,i] (getItem o i)
def IxR(X:Cx)(r:R2):Prop :=
 ∀(value D:Expr) (pins:ln) (s:Shared) (σ:St) (H:Hp) (x y:V) (v u:Value) (Q:VK),Inv X pins σ H s->RelV x v->RelV y u->r x y H Q ->
  subscripted D false v u=operate [v,u] (getItem v u)->wpAny (model X.prog X.w) X.A (subscriptTail value D v u) (EP X pins σ Q) X.xe s
def MtR(X:Cx)(id:String)(r:V->l0->Hp->VK->Prop):Prop :=
 ∀(pins:ln) (s:Shared) (σ:St) (H:Hp) (x:V) (xs:l0) (v:Value) (us:i0) (Q:VK),Inv X pins σ H s->RelV x v->Vals xs us->r x xs H Q ->
  wpAny (model X.prog X.w) X.A (call (.builtin id) (v::us)) (EP X pins σ Q) X.xe s
def IxR.or{J:R2}(h:IxR X r)(h':IxR X J):IxR X (λx y H Q=>r x y H Q\/J x y H Q):=by
 intro value D pins s σ H x y v u Q I R U q V;rcases q with q | q
 ·exact h value D pins s σ H x y v u Q I R U q V
 ·exact h' value D pins s σ H x y v u Q I R U q V
variable{a b:Expr}{ta tb:TE}
def wv(D:IxR X r)(J:PE X a ta)(R:PE X b tb)(U:uw b):PE X (.Subscript a b pos) (tOp r ta tb):=by
 intro pins s σ H Q I h;exact Subscript_ (binT J R I h λv u s2 x y H2 V Y Z q=>D a b pins s2 σ H2 x y v u Q V Y Z q (U _ _))
def rIxL(K:ll):R2:=λx y H Q=>∃p xs i v,x=.ref p/\y=.int i/\SqL K H p xs/\atI xs i=some v/\Q v H
def rIxT(K:ll):R2:=λx y H Q=>∃p xs i v,x=.ref p/\y=.int i/\SqT K H p xs/\atI xs i=some v/\Q v H
def rIxS:R2:=λx y H Q=>∃z i c,x=.str z/\y=.int i/\z.length<=sizeLine/\atI z.cps.toList i=some c/\Q (.str ⟨#[c]⟩) H
theorem znr:IxR X (rIxL X.K):=by
 intro value J pins s σ H x y v u Q I a b h V;obtain⟨p,xs,i,z,rfl,rfl,c,d,q⟩:=h;cases a;obtain⟨t,rfl⟩:=b;obtain⟨its,r,pl,k⟩:=I.list c;obtain⟨j,h1,h2,l,e,f⟩:=zsu d;obtain⟨w,Y,R⟩:=r.get h2;have g:=r.length;have m:=yr;have D:EP X pins σ Q w s:=⟨z,H,I,R,q⟩;by_cases Z:0<=i
 ·have U:i.toNat=j:=by
   rw[seqIndex_of Z f] at h1;exact bn h1
  exact item_listR pl.isList Z (by lia) (by rw[U];simpa using Y) D V
 ·have U:(i+(its.toArray.size:Int)).toNat=j:=by
   rw[seqIndex_neg (by lia) e] at h1;rw[bg,<-g];exact bn h1
  exact subscriptTail_builtinR (x:=w) pl.isList.typeIs slot_list_getitem.lookup
   (wpAny_getItem_list_neg (Q:=λr s'=>r=w/\EP X pins σ Q r s') pl.isList (by lia) (by rw[bg] <;> lia) (by lia) (by rw[U];simpa using Y) ⟨rfl,D⟩) V
theorem z6q:IxR X (rIxT X.K):=by
 intro value D pins s σ H x y v u Q I U V h Y;obtain⟨p,xs,i,z,rfl,rfl,Z,a,q⟩:=h;cases U;obtain⟨t,rfl⟩:=V;obtain⟨its,r,pl,d⟩:=I.tuple Z;obtain⟨j,h1,h2,e,f,g⟩:=zsu a;obtain⟨w,b,J⟩:=r.get h2;have c:=r.length;have k:=yr;have R:EP X pins σ Q w s:=⟨z,H,I,J,q⟩;exact subscriptTail_builtinR (x:=w) pl.typeIs slot_tuple_getitem.lookup
  (getItem_tuple (j:=j) (Q:=λr s'=>r=w/\EP X pins σ Q r s') pl (by lia) (by lia) (by rw[bg,<-c];exact h1) (by simpa using b) ⟨rfl,R⟩) Y
theorem z6r:IxR X rIxS:=by
 intro value D pins s σ H x y v u Q I J R h U;obtain⟨z,i,c,rfl,rfl,e,V,q⟩:=h;obtain⟨t,rfl⟩:=J;obtain⟨t',rfl⟩:=R;obtain⟨j,h1,h2,f,Y,Z⟩:=zsu V;have a:z.cps.toList.length=z.length:=by simp[Str.length]
 rw[a] at h1 Y Z;have g:=yr;exact tail_any (typeIs_str s z t) slot_str_getitem.lookup (getItem_str (c:=c) (by
  have b:decide (i < -(2 ^ 63:Int))=false:=decide_eq_false (by lia);have d:decide (i >= 2 ^ 63)=false:=decide_eq_false (by lia);rw[b,d,Bool.or_false]) (by rw[h1];simpa using h2) ⟨.str ⟨#[c]⟩,H,I.tok _,⟨_,rfl⟩,q⟩) U
def rIx(K:ll):R2:=λx y H Q=>rIxL K x y H Q\/rIxT K x y H Q\/rIxS x y H Q
def zwz:IxR X (rIx X.K):=znr.or (z6q.or z6r)
def zvr(its:i0)(n j:Nat)(u:Value):Obj.mapSeq (·.setIfInBounds j u) { cls:=.type "list",data:=.seq its.toArray n }={ cls:=.type "list",data:=.seq (its.set j u).toArray n }:=by
 simp[Obj.mapSeq]
def Inv.lst{pins:ln}{σ:St}{H:Hp}{s:Shared}{p:Addr}{xs:l0}(I:Inv X pins σ H s)(h:H p=some (.lst xs)) :
  ∃(its:i0) (n:Nat),Vals xs its/\s.heap.get? p=some { cls:=.type "list",data:=.seq its.toArray n }/\xs.length<=sizeLine:=by
 obtain⟨z,its,n,r,e⟩:=I.hok p _ h;exact⟨its,n,r,e,z⟩
variable{pins:ln}{σ:St}{H:Hp}{s:Shared}{ys:l0}{its its':i0}
def Inv.lstUpd{p:Addr}{D:Nat}{f:Obj->Obj}(I:Inv X pins σ H s)(h:H p=some (.lst xs))(R:s.heap.get? p=some { cls:=.type "list",data:=.seq its.toArray n })(J:f { cls:=.type "list",data:=.seq its.toArray n }={ cls:=.type "list",data:=.seq its'.toArray D })(r:Vals ys its')(U:ys.length<=sizeLine)(t:Nat) :
  Inv X pins σ (upd H p (.lst ys)) { s with heap:=s.heap.update p f,toks:=t }:=by
 have e:(s.heap.update p f).get? p=some { cls:=.type "list",data:=.seq its'.toArray D }:=by
  rw[f8 f R (by rw[J] <;> rfl),J]
 refine I.write (x:=p) (e:=p) (by rw[h];trivial) (.inl rfl) (λb u V q=>(cr _ _ (Ne.symm V)).trans q) ⟨_,e⟩ ?_;exact⟨U,its',D,r,e⟩
def z6s:V->V->V->Hp->(Hp->Prop)->Prop:=λo i v H Q=>∃p xs k j,o=.ref p/\i=.int k/\H p=some (.lst xs)/\ixN xs.length k=some j/\Q (upd H p (.lst (xs.set j v)))
theorem y8:PSet X z6s:=by
 intro pins s σ H o i v f g u Q I ro b c h;obtain⟨p,xs,k,j,rfl,rfl,U,d,q⟩:=h;cases ro;obtain⟨t,rfl⟩:=b;obtain⟨its,n,r,D,e⟩:=I.lst U;obtain⟨h1,h2,V,Y⟩:=zpo d;have J:=r.length;have l:=yr;have Z:Inv X pins σ (upd H p (.lst (xs.set j v))) { s with heap:=s.heap.update p (Obj.mapSeq (·.setIfInBounds j u)) } :=
  I.lstUpd U D (zvr its n j u) (r.set c j) (by rw[dq];exact e) s.toks
 by_cases a:0<=k
 ·have R:k.toNat=j:=by
   rw[seqIndex_of a Y] at h1;exact bn h1
  exact PySem.W.ki_setAt D a (by lia) (by rw[bg,<-J];exact Y) (by rw[R];exact⟨_,Z,q⟩)
 ·have R:(k+(its.toArray.size:Int)).toNat=j:=by
   rw[seqIndex_neg (by lia) V] at h1;rw[bg,<-J];exact bn h1
  exact PySem.W.ki_setBack D (by lia) (by rw[bg,<-J];exact V) (by lia) (by rw[R];exact⟨_,Z,q⟩)
theorem zre(lo hi:la)(n:Nat):(sliceBounds lo hi none n).1=((HT.sIx n 0 lo:Nat):Int)/\(sliceBounds lo hi none n).2.1=((HT.sIx n n hi:Nat):Int)/\(sliceBounds lo hi none n).2.2=1:=by
 refine⟨?_,?_,rfl⟩
 ·cases lo with
  | none=>simp[sliceBounds,HT.sIx]
  | some i =>
    simp only[sliceBounds,HT.sIx,Option.getD_none,show(1:Int) > 0 by decide,if_true];by_cases h:i<0
    ·simp only[h,if_true] <;> lia
    ·simp only[h,if_false] <;> lia
 ·cases hi with
  | none=>simp[sliceBounds,HT.sIx]
  | some i =>
    simp only[sliceBounds,HT.sIx,Option.getD_none,show(1:Int) > 0 by decide,if_true];by_cases h:i<0
    ·simp only[h,if_true] <;> lia
    ·simp only[h,if_false] <;> lia
def zpp(its:i0)(lo hi:la):slicePick its.toArray lo hi none=((its.drop (HT.sIx its.length 0 lo)).take (HT.sIx its.length its.length hi-HT.sIx its.length 0 lo)).toArray:=by
 obtain⟨h1,h2,D⟩:=zre lo hi its.toArray.size;unfold slicePick;rw[h1,h2,D];simp only[sliceRange_one,pick_run,bg] <;> rfl
def rSlL(K:ll):V->la->la->Hp->VK->Prop:=λx lo hi H Q=>∃a xs,x=.ref a/\SqL K H a xs/\∀p,H p=none->Q (.ref p) (upd H p (.lst (cutV xs lo hi)))
theorem z3h:SlR X (rSlL X.K):=by
 intro pins s σ H x v vl vu lo hi sl Q I R U pl V h;obtain⟨a,xs,rfl,Y,q⟩:=h;cases R;obtain⟨its,r,J,Z⟩:=I.list Y;have D:=r.length;refine⟨"list",_,slot_list_getitem.lookup,J.isList.typeIs,?_⟩;refine wpAny_getItem_list_slice J.isList U pl V .none (by simp) ?_ (by rw[bg] <;> lia);rw[zpp,<-D];refine⟨.ref s.heap.objs.size,_,I.laid (t':=s.toks) (o:=.lst (cutV xs lo hi)) (λb c q=>aq _ q) (bw _) ?_,rfl,q _ (I.hok.fresh (bw _))⟩;exact⟨cy (znq xs lo hi) Z,_,0,(r.drop (HT.sIx xs.length 0 lo)).take (HT.sIx xs.length xs.length hi-HT.sIx xs.length 0 lo),cq _ rfl⟩
theorem zjg:ph X (.builtin "len") (λxs H Q=>∃p ys,xs=[.ref p]/\(SqL X.K H p ys\/SqT X.K H p ys)/\Q (.int ys.length) H):=by
 intro pins s σ H xs us Q I r h;obtain⟨p,ys,rfl,hq,q⟩:=h;obtain⟨u,rfl,R⟩:=ww r;cases R;have V:=yr;rcases hq with hq | hq
 ·obtain⟨its,J,pl,U⟩:=I.list hq
  have D:=J.length;exact Calls.call_len_list pl.isList (by simp only[bg] <;> lia) ⟨.int ys.length,H,I.tok _,⟨s.toks+1,by rw[bg,D]⟩,q⟩
 ·obtain⟨its,J,pl,U⟩:=I.tuple hq
  have D:=J.length;exact len_tuple pl (by simp only[bg] <;> lia) ⟨.int ys.length,H,I.tok _,⟨s.toks+1,by rw[bg,D]⟩,q⟩
theorem zmn:ph X (.type "list") (λxs H Q=>∃p ys,xs=[.ref p]/\(SqL X.K H p ys\/SqT X.K H p ys)/\∀l,H l=none->Q (.ref l) (upd H l (.lst ys))):=by
 intro pins s σ H xs us Q I r h;obtain⟨p,ys,rfl,hq,q⟩:=h;obtain⟨u,rfl,c⟩:=ww r;cases c;have R:∀(its:i0),Vals ys its->ys.length<=sizeLine->∀(h':Heap) (D:Nat),(∀b o',s.heap.get? b=some o'->h'.get? b=some o') ->
   h'.get? s.heap.objs.size=some { cls:=.type "list",dict:=none,data:=.seq its.toArray D,slots:=#[] }->EP X pins σ Q (.ref s.heap.objs.size) { s with heap:=h' }:=λits J U h' D kp e =>
  ⟨.ref s.heap.objs.size,_,I.laid (t':=s.toks) kp (bw _) (show ObjOk X.prog X.w _ h' _ (.lst ys) from⟨U,its,D,J,e⟩),rfl,q _ (I.hok.fresh (bw _))⟩
 rcases hq with hq | hq
 ·obtain⟨its,J,pl,U⟩:=I.list hq
  have V:=J.length;obtain⟨o,Y,Z,n,a⟩:=pl.isList;exact call_list_seq p (.inl rfl) Y Z a (λh' D kp e=>R its J U h' D kp e) (by simp only[bg] <;> lia)
 ·obtain⟨its,J,pl,U⟩:=I.tuple hq
  have V:=J.length;obtain⟨o,Y,Z,n,a⟩:=pl;exact call_list_seq p (.inr rfl) Y Z a (λh' D kp e=>R its J U h' D kp e) (by simp only[bg] <;> lia)
theorem zpq:ph X (.type "tuple") (λxs H Q=>∃p ys,xs=[.ref p]/\((SqL X.K H p ys/\∀l,H l=none->Q (.ref l) (upd H l (.tup ys)))\/(SqT X.K H p ys/\Q (.ref p) H))):=by
 intro pins s σ H xs us Q I r h;obtain⟨p,ys,rfl,h⟩:=h;obtain⟨u,rfl,Y⟩:=ww r;cases Y;rcases h with⟨D,q⟩ | ⟨D,q⟩
 ·obtain⟨its,J,pl,R⟩:=I.list D
  have U:=J.length;refine call_tuple_list pl.isList (λh' kp=>?_) (by simp only[bg] <;> lia);have V:Inv X pins σ H { s with heap:=h' }:=I.kept (t':=s.toks) kp;have Z:Inv X pins σ (upd H h'.objs.size (.tup ys)) { s with heap:=h'.push { cls:=.type "tuple",data:=.seq its.toArray } } :=
   V.laid (t':=s.toks) (λb o e=>aq _ e) (bw _) (show ObjOk X.prog X.w _ _ _ (.tup ys) from⟨R,its,J,IsTup.new _ _⟩)
  exact⟨.ref h'.objs.size,_,Z,rfl,q _ (V.hok.fresh (bw _))⟩
 ·obtain⟨its,J,pl,R⟩:=I.tuple D
  exact call_tuple_same pl ⟨.ref p,H,I,rfl,q⟩
def tyV(K:ll)(T:String)(x:V)(H:Hp):Prop:=match x with
 | .str _=>T = "str"
 | .int _=>T = "int"
 | .ref p=>(T = "list"/\∃xs,SqL K H p xs)\/(T = "tuple"/\∃o,K.lookup p=some o/\o.cls=.type "tuple"/\o.dict=none) \/
    (T = "dict"/\((∃D,H p=some (.dK D))\/∃D,H p=some (.dT D)))\/(T = "set"/\∃S n,H p=some (.set S n))
 | _=>False
variable{T:String}{x:V}
def z12{v:Value}(I:Inv X pins σ H s)(r:RelV x v)(J:tyV X.K T x H) :
  s.TypeIs v T/\∀a,v=.ref a->∃Y,s.heap.get? a=some Y/\Y.dict=none:=by
 cases x with
 | str z =>
   obtain⟨t,rfl⟩:=r;cases (show T = "str" from J);exact⟨typeIs_str s z t,λ_ e=>nomatch e⟩
 | int i =>
   obtain⟨t,rfl⟩:=r;cases (show T = "int" from J);exact⟨typeIs_int s i t,λ_ e=>nomatch e⟩
 | ref p =>
   cases r;rcases J with⟨rfl,xs,Z⟩ | ⟨rfl,o,D,hc,R⟩ | ⟨rfl,D⟩ | ⟨rfl,S,n,D⟩
   ·obtain⟨its,_,pl,_⟩:=I.list Z
    refine⟨pl.isList.typeIs,λa e=>?_⟩;cases e;obtain⟨o,n,e,c,R,_⟩:=pl;exact⟨o,e,R⟩
   ·refine⟨⟨o,I.kIn p o D,hc⟩,λa e=>?_⟩
    cases e;exact⟨o,I.kIn _ o D,R⟩
   ·have z:∃o,s.heap.get? p=some o/\o.ExactDict:=by
     rcases D with⟨U,D⟩ | ⟨U,D⟩
     ·obtain⟨_,_,_,_,o,_,_,e,ex,_⟩:=I.hok p _ D
      exact⟨o,e,ex⟩
     ·obtain⟨_,_,_,_,o,_,_,e,ex,_⟩:=I.hok p _ D
      exact⟨o,e,ex⟩
    obtain⟨o,e,ex⟩:=z;refine⟨⟨o,e,ex.1⟩,λa V=>?_⟩;cases V;exact⟨o,e,ex.2.1⟩
   ·obtain⟨o,_,_,_,e,ex,_⟩:=I.hok p _ D
    refine⟨⟨o,e,ex.1⟩,λa V=>?_⟩;cases V;exact⟨o,e,ex.2.1⟩
 | _=>exact False.elim J
def tBM0(K:ll)(T:String)(r:V->l0->Hp->VK->Prop)(to:TE):TE:=λσ H Q=>to σ H λx H1=>tyV K T x H1/\r x [] H1 Q
def tBM(K:ll)(T:String)(r:V->l0->Hp->VK->Prop)(to:TE)(t:TA):TE:=λσ H Q=>to σ H λx H1=>tyV K T x H1/\t σ H1 λxs H2=>r x xs H2 Q
variable{r:V->l0->Hp->VK->Prop}{o:Expr}{to:TE}{name:Str}{apos cpos:Pos}{id:String}
def z13(Z:PlainAttrs T)(R:Slot T name id)(U:typeOf (.builtin id)=pure (.type "method_descriptor"))(a:MtR X id r)(b:PE X o to)(D:attributeBase o name X.env (eval o X.env)=eval o X.env:=by rfl)(J:(apos.endLine==cpos.line)=true:=by rfl):PE X (.Call (.Attribute o name apos) [] [] cpos) (tBM0 X.K T r to):=by
 intro pins s σ H Q I h;refine wpAny_Call_method0_late D J (thn (b pins s σ H _ I h) λv c d=>?_);obtain⟨x,H1,V,Y,e,f⟩:=d;obtain⟨h1,h2⟩:=z12 V Y e;exact⟨T,id,Z,R,U,h1,h2,Calls.callWith_builtin rfl (PySem.evalArgs_none (a pins c σ H1 x [] v [] Q V Y .nil f))⟩
variable{es:k8}{t:TA}
def zw0(b:PlainAttrs T)(U:Slot T name id)(Y:typeOf (.builtin id)=pure (.type "method_descriptor"))(c:MtR X id r)(d:PE X o to)(f:PA X (e::es) t)(J:attributeBase o name X.env (eval o X.env)=eval o X.env:=by rfl)(V:((backTo cpos (starEach (e::es) X.env)).all (λx=>!x.1) && (backToKw cpos (keywordEach [] X.env)).all (λx=>x.1.isSome)
   && decide ((e::es).length+([]:List Keyword).length+(if ([]:List Keyword).isEmpty then 0 else 1)<30))=true:=by rfl)(R:(apos.endLine==cpos.line)=true:=by rfl)(g:starEach (e::es) X.env=(false,eval e X.env)::starEach es X.env:=by rfl)(D:(backTo cpos (starEach es X.env)).any (·.1)=false:=by rfl) :
  PE X (.Call (.Attribute o name apos) (e::es) [] cpos) (tBM X.K T r to t):=by
 intro pins s σ H Q I h;refine wpAny_Call_method_late J V R rfl (thn (d pins s σ H _ I h) λv i j=>?_);obtain⟨x,H1,Z,a,k,l⟩:=j;obtain⟨h1,h2⟩:=z12 Z a k;refine⟨T,id,b,U,Y,h1,h2,?_⟩;have hA:=f cpos pins i σ H1 _ Z l;rw[g] at hA ⊢;refine Calls.callWith_builtin (by show(false || (backTo cpos (starEach es X.env)).any (·.1))=false;rw[D] <;> rfl) (Calls.evalArgs_plain ?_);exact thn hA λus s2 ⟨vs,H2,I2,r2,q2⟩=>c pins s2 σ H2 x vs v us Q I2 a r2 q2
def MtM(X:Cx)(id:String)(r:V->l0->Hp->VK->Prop):Prop :=
 ∀(pins:ln) (s:Shared) (σ:St) (H:Hp) (x:V) (xs:l0) (v:Value) (us:i0) (Q:VK),Inv X pins σ H s->RelV x v->Vals xs us->r x xs H Q ->
  wpAny (model X.prog X.w) X.A (call (.builtin id) (v::us)) (EP X pins σ Q) X.xe s
def VInv:l0->i0->Prop
 | [],us=>us=[]
 | x::xs,us=>∃u t,us=u::t/\RelV x u/\Vals xs t
def Vals.inv(h:Vals xs us):VInv xs us:=by
 cases h with
 | nil=>exact rfl
 | cons r t=>exact⟨_,_,rfl,r,t⟩
def Vals.one(h:Vals [x] us):∃u,us=[u]/\RelV x u:=by
 obtain⟨u,t,e,r,q⟩:=h.inv;exact⟨u,(show t=[] from q.inv) ▸ e,r⟩
def Vals.two{y:V}(h:Vals [x,y] us):∃u v,us=[u,v]/\RelV x u/\RelV y v:=by
 obtain⟨u,t,e,r,q⟩:=h.inv;obtain⟨v,f,q⟩:=q.one;exact⟨u,v,f ▸ e,r,q⟩
def Vals.zero:∀ {us:i0},Vals [] us->us=[]
 | _,.nil=>rfl
def Vals.dropLast(h:Vals xs us):Vals xs.dropLast us.dropLast:=by
 induction h with
 | nil=>exact .nil
 | cons r t ih =>
   cases t with
   | nil=>exact .nil
   | cons q t'=>exact .cons r ih
def Vals.eraseIdx:∀ {xs:l0} {us:i0} (i:Nat),Vals xs us->Vals (xs.eraseIdx i) (us.eraseIdx i)
 | _,_,_,.nil=>.nil
 | _,_,0,.cons _ t=>t
 | _,_,i+1,.cons r t=>.cons r (Vals.eraseIdx i t)
def Vals.rep{xs:l0}{us:i0}(h:Vals xs us):∀k:Nat,Vals (List.replicate k xs).flatten (List.replicate k us).flatten
 | 0=>.nil
 | k+1=>by
   rw[gq,gq,db,db];exact Vals.append h (Vals.rep h k)
theorem zvs(l:List α):l.eraseIdx (l.length-1)=l.dropLast:=by
 induction l with
 | nil=>rfl
 | cons a r ih =>
   cases r with
   | nil=>rfl
   | cons b r =>
     have e:(a::b::r).length-1=((b::r).length-1)+1:=by
      have h1:(a::b::r).length=r.length+2:=rfl;have h2:(b::r).length=r.length+1:=rfl
      lia
     rw[e,List.eraseIdx_cons_succ,ih];all_goals rfl
def zrf{α:Type}:∀(l:List α) (i:Nat),(l.eraseIdx i).length<=l.length
 | [],_=>bw _
 | _::_,0=>m4 _
 | _::r,i+1=>Nat.succ_le_succ (zrf r i)
def zrg(its:i0):∀(k:Nat) (D:i0),
  List.foldl (λI J=>I++J) D.toArray (List.replicate k its.toArray)=(D++(List.replicate k its).flatten).toArray
 | 0,D=>by simp
 | k+1,D=>by
   have e:D.toArray++its.toArray=(D++its).toArray:=by simp
   have R:(D++its)++(List.replicate k its).flatten=D++(List.replicate (k+1) its).flatten:=by
    rw[gq,db,d5]
   rw[<-R,<-zrg its k (D++its),<-e,gq,List.foldl_cons]
variable{t':Nat}{l:Addr}
def Inv.lset{f:lx->lx}(I:Inv X pins σ H s)(D:H l=some (.lst xs))(e:s.heap.get? l=some { cls:=.type "list",data:=.seq its.toArray n })(J:f its.toArray=its'.toArray)(R:Vals ys its')(U:ys.length<=sizeLine) :
  Inv X pins σ (upd H l (.lst ys)) { s with heap:=s.heap.update l (Obj.mapSeq f),toks:=t' }:=by
 have q:=PySem.IsL.update e f;rw[J] at q;refine I.write (x:=l) (e:=l) (by rw[D];exact trivial) (.inl rfl) (λZ u V Y=>(cr s.heap (Obj.mapSeq f) (Ne.symm V)).trans Y) ⟨_,q⟩ ?_;exact⟨U,its',_,R,q⟩
def Inv.lnew(I:Inv X pins σ H s)(D:Vals ys its)(J:ys.length<=sizeLine) :
  Inv X pins σ (upd H s.heap.objs.size (.lst ys)) { s with heap:=s.heap.push { cls:=.type "list",data:=.seq its.toArray },toks:=t' } :=
 I.laid (λ_ _ q=>aq _ q) (bw _) ⟨J,its,0,D,cq _ rfl⟩
def Inv.fresh(I:Inv X pins σ H s):H s.heap.objs.size=none:=I.hok.fresh (bw _)
def Inv.lstM(I:Inv X pins σ H s)(D:H l=some (.lst xs)):xs.length<=sizeLine/\∃(its:i0) (n:Nat),Vals xs its/\xs.length=its.length/\s.heap.get? l=some { cls:=.type "list",data:=.seq its.toArray n }:=by
 obtain⟨z,its,n,r,e⟩:=I.hok l _ D;exact⟨z,its,n,r,r.length,e⟩
theorem zt6(h:n<=sizeLine):Builtin.List.listTooLong n=false:=by
 unfold Builtin.List.listTooLong;exact decide_eq_false (by lia)
def z3i:V->l0->Hp->VK->Prop:=λx vs H Q=>∃l xs y,x=.ref l/\vs=[y]/\H l=some (.lst xs)/\xs.length<sizeLine/\Q .non (upd H l (.lst (xs++[y])))
theorem zrh:MtM X "list.append" z3i:=by
 intro pins s σ H x vs v us Q I J R h;obtain⟨l,xs,y,rfl,rfl,D,V,q⟩:=h;cases J;obtain⟨u,rfl,U⟩:=R.one;obtain⟨z,its,n,r,Y,e⟩:=I.lstM D;refine call_meets F.slot_list_append ⟨_,e,rfl⟩ F.entry_list_append (F.args_list_append_2 _ _) (PySem.list_append l its.toArray n u (by rw[bg];lia)) ⟨e,?_⟩;refine⟨.non,_,I.lset (its':=its++[u]) D e (by simp) (r.append (.cons U .nil)) ?_,rfl,q⟩;rw[am,io]
 lia
def z3j:V->l0->Hp->VK->Prop:=λx vs H Q=>∃l b xs D,x=.ref l/\vs=[.ref b]/\H l=some (.lst xs)/\H b=some (.lst D)/\xs.length+D.length<=sizeLine/\Q .non (upd H l (.lst (xs++D)))
theorem zw1:MtM X "list.extend" z3j:=by
 intro pins s σ H x vs v us Q I V Y h;obtain⟨l,b,xs,g,rfl,rfl,U,Z,i,q⟩:=h;cases V;obtain⟨u,rfl,a⟩:=Y.one;cases a;obtain⟨z,its,n,r,j,e⟩:=I.lstM U;obtain⟨k,D,n2,c,d,f⟩:=I.lstM Z;have R:its.toArray.size+D.toArray.size<=sizeLine:=by rw[bg,bg];lia
 have J:¬(!its.toArray.isEmpty && Builtin.List.listTooLong (its.toArray.size+D.toArray.size))=true:=by
  rw[zt6 R,Bool.and_false];exact cj
 refine call_meets F.slot_list_extend ⟨_,e,rfl⟩ F.entry_list_extend (F.args_list_extend_2 _ _)
  (AutoSeq1.list_extend_list_list_0 l its.toArray n b D.toArray n2 J (by rw[bg];lia) (by lia)) ⟨e,f,?_⟩
 refine⟨.non,_,I.lset (its':=its++D) U e (by simp) (r.append c) ?_,rfl,q⟩;rw[am]
 lia
def rPop:V->l0->Hp->VK->Prop:=λx vs H Q=>∃l xs y,x=.ref l/\vs=[]/\H l=some (.lst xs)/\xs[xs.length-1]?=some y/\Q y (upd H l (.lst xs.dropLast))
theorem z14:MtM X "list.pop" rPop:=by
 intro pins s σ H x vs v us Q I U V h;obtain⟨l,xs,y,rfl,rfl,R,Y,q⟩:=h;cases U;have D:=V.zero;subst D;obtain⟨z,its,n,r,Z,e⟩:=I.lstM R;obtain⟨u,a,b⟩:=r.get Y;have J:its.toArray[its.toArray.size-1]?=some u:=by
  show its.toArray[its.length-1]?=some u;rw[<-Array.getElem?_toList,<-Z];exact a
 refine call_meets F.slot_list_pop ⟨_,e,rfl⟩ F.entry_list_pop (F.args_list_pop_1 _) (MeetsSeq.list_pop_last l its.toArray n u J (by rw[bg];lia)) ⟨e,?_⟩;refine⟨y,_,I.lset (its':=its.dropLast) R e ?_ r.dropLast ?_,b,q⟩
 ·show its.toArray.eraseIdxIfInBounds (its.toArray.size-1)=its.dropLast.toArray
  rw[bg,qt,zvs]
 ·rw[List.length_dropLast]
  lia
def z6t:V->l0->Hp->VK->Prop:=λx vs H Q=>∃l xs i k y,x=.ref l/\vs=[.int i]/\H l=some (.lst xs)/\-(2 ^ 63)<=i/\i<2 ^ 63/\seqIndex? i xs.length=some k/\xs[k]?=some y/\Q y (upd H l (.lst (xs.eraseIdx k)))
theorem zzp:MtM X "list.pop" z6t:=by
 intro pins s σ H x vs v us Q I R U h;obtain⟨l,xs,i,k,y,rfl,rfl,J,h1,h2,V,Y,q⟩:=h;cases R;obtain⟨u,rfl,Z⟩:=U.one;obtain⟨t,rfl⟩:=Z;obtain⟨z,its,n,r,a,e⟩:=I.lstM J;obtain⟨w,b,D⟩:=r.get Y;refine call_meets F.slot_list_pop ⟨_,e,rfl⟩ F.entry_list_pop (F.args_list_pop_2 _ _)
  (MeetsSeq.list_pop_at l its.toArray n i t k w (fitsIndex_both h1 h2) (by rw[bg,<-a];exact V) (by rw[<-Array.getElem?_toList];exact b) (by rw[bg];lia)) ⟨e,?_⟩
 refine⟨y,_,I.lset (its':=its.eraseIdx k) J e ?_ (r.eraseIdx k) ?_,D,q⟩
 ·show its.toArray.eraseIdxIfInBounds k=(its.eraseIdx k).toArray
  rw[qt]
 ·have:=zrf xs k
  lia
def rRep:R2:=λx y H Q=>∃l k xs,x=.ref l/\y=.int k/\H l=some (.lst xs)/\-(2 ^ 63)<=k/\k<2 ^ 63/\xs.length*k.toNat<=sizeLine /\
 ∀p,H p=none->Q (.ref p) (upd H p (.lst (List.replicate k.toNat xs).flatten))
def z3k(xs:List α)(k:Nat):(List.replicate k xs).flatten.length=k*xs.length:=by
 induction k with
 | zero=>simp
 | succ k ih=>rw[gq,db,am,ih,Nat.succ_mul,Nat.add_comm]
theorem z6u:OpR X (binaryOp .Mult) rRep:=by
 intro pins s σ H x y v u Q I d f h;obtain⟨l,k,xs,rfl,rfl,g,h1,h2,c,q⟩:=h;cases d;obtain⟨t,rfl⟩:=f;obtain⟨z,its,n,r,i,e⟩:=I.lstM g;have J:its.toArray.size*k.toNat<=sizeLine:=by rw[bg,<-i];exact c
 have R:¬its.toArray.size*k.toNat > (2 ^ 63-1) / 8:=by
  have:(sizeLine:Nat)<=(2 ^ 63-1) / 8:=by decide
  lia
 have V:¬(!Builtin.List.listFitsIndex k)=true:=by
  rw[fitsIndex_both h1 h2];exact cj
 have D:¬Builtin.List.listTooLong (its.toArray.size*k.toNat)=true:=by
  rw[zt6 J];exact cj
 have Y:List.foldl (λZ b=>Z++b) #[] (List.replicate (if its.toArray.isEmpty=true then 0 else k.toNat) its.toArray)=(List.replicate k.toNat its).flatten.toArray:=by
  have j:∀m:Nat,List.foldl (λZ b=>Z++b) #[] (List.replicate m its.toArray)=(List.replicate m its).flatten.toArray:=λm=>by
   have:=zrg its m [];rw[uk] at this;exact this
  rw[j];cases its with
  | nil=>simp
  | cons a r'=>rw[if_neg (by simp)]
 refine wpAny_binaryOp_repeat_ref (T:="list") (U:="int") (by decide) ⟨_,e,rfl⟩ (λs'=>typeIs_int s' k t) noFill_list_mul F.fills_int_mul F.slot_int_rmul repeat_list F.slot_int_index.lookup
  (call_meets F.slot_int_rmul (typeIs_int s k t) F.entry_int_rmul (F.args_int_rmul_2 _ _) (int___rmul___int_list k t l its.toArray n)
    ⟨e,rfl,⟨_,e,rfl⟩,call_meets F.slot_list_mul ⟨_,e,rfl⟩ F.entry_list_mul (F.args_list_mul_2 _ _) (AutoListH.list___mul___list_int_3 l its.toArray n k t V R D) ⟨e,?_⟩⟩)
 rw[Y];exact⟨.ref _,_,I.lnew (t':=s.toks) (r.rep k.toNat) (by rw[z3k,Nat.mul_comm];exact c),rfl,q _ I.fresh⟩
end L2
namespace Att
open PySem PySem.W PySem.Calls PyProof.Rows
variable{P:Params}{h:Heap}
def zns:∀(D:k4) (vs:i0),WellAll P h vs (D.map WData.int)->IntsAre vs D:=by
 intro D;induction D with
 | nil =>
   intro vs w;rw[dc] at w;cases w;exact .nil
 | cons n D ih =>
   intro vs w;rw[bz] at w;cases w with
   | cons a b =>
     cases a;exact .cons _ _ (ih _ b)
variable{l:OpenLaw}{n:Nat}
theorem zw2(c:l.most=some n){args:List WData}{I:i0}(J:l.row.toRowW.claim.pre args=true)(Y:WellAll P h I args) :
  ∃a vs D,I=[Value.ref a]/\args=[WData.list (D.map WData.int)]/\h.get? a=some { cls:=.type "list",data:=.seq vs.toArray }/\IntsAre vs D/\D.length<=n:=by
 have Z:WShape.hasAll [] args [.list .int]=true:=(pre_splitW J).1;have b:l.pre.holds [] { args:=args }=true:=(pre_splitW J).2;obtain⟨d,r,rfl,h1,h2⟩:=hasAllW_cons Z;obtain rfl:=hasAllW_nil h2;obtain⟨xs,rfl,e⟩:=hasW_list h1;obtain⟨D,rfl⟩:=items_int e;have R:D.length<=n:=by
  unfold OpenLaw.pre at b;have U:(WTm.not (.lt (.lit (.int (n:Int))) (.len (.arg 0)))).holds [] { args:=[.list (D.map .int)] }=true:=by
   have U:=(holds_andW b).1;rw[c] at U;exact U
  have V:=condW_of U (w_not (w_lt w_lit (w_len_list (w_arg rfl))));rw[af] at V;refine lr λq=>?_;have f:(n:Int)<((D.length:Nat):Int):=by lia
  first
   | (rw[decide_eq_true f] at V;exact absurd V (by decide))
   | (simp at V;lia)
 cases Y with
 | cons w1 w2 =>
   cases w2;cases w1 with
   | list ho hall=>exact⟨_,_,D,rfl,rfl,ho,zns D _ hall,R⟩
def zw3(l:OpenLaw)(args:List WData):l.row.toRowW.claim.post args (.bool true) args=true :=
 postW_of (r:=l.row.toRowW) (X:=(true==true))
  (show WShape.has [] (.bool true) .bool=true by first | rfl | decide | simp[WShape.has,WShape.arms,WShape.armsAll])
  (show(WTm.eq .res (.lit (.bool true))).value [] { args:=args,res:=some (.bool true),after:=args }=some (.bool (true==true)) from w_eq_bool (w_res rfl) w_lit) rfl
def attach_call{q:Program}{I:ik}{m:(Str->ka)->Heap->Prop}{p:World->Heap->Prop}{d:DefRec}(v:l.most=some n)(e:d.params.defaults=[])(call:∀(w:World) (s₀ D:Shared) (mg g:Str->ka) (fa:Addr) (o:Obj) (h b J:Value) (a:Addr) (vs:i0) (c:k4),
   Ground q I [] m w s₀ mg g D.heap->p w D.heap ->
   D.heap.get? fa=some o->o.data=.func (docDef d.name d.params d.body d.scope h b J)->D.heap.CodeRec b d.name->mg d.name=some (.ref fa) ->
   D.heap.get? a=some { cls:=.type "list",data:=.seq vs.toArray }->IntsAre vs c->c.length<=n->D.gens=#[] ->
   codeAny (model l.prog w) callerA (.call (.ref fa) ⟨[.ref a],[]⟩) (λr s'=>r=.ok (.ret (.bool true))/\OldK D.heap s'.heap/\s'.os=D.os/\AllBare s'.gens) D) :
  WalkO q I m p l.row.toRowW d [] (λf vs=>PySem.call f vs):=by
 intro w s₀ D mg g G Y fa o h b J x kV y z i s j A args t as U u B k C;obtain rfl:x=.none:=Dflts.none s e;obtain rfl:kV=.none:=Dflts.noKw s;obtain⟨a,vs,c,rfl,rfl,V,R,Z⟩:=zw2 v U k;refine enter_call (codeAny_mono (call w s₀ D mg g fa o h b J a vs c G Y y (fd_plain z) i j V R Z A) λr s' E=>?_);obtain⟨rfl,h2,F,H⟩:=E;exact⟨.inl ⟨.bool true,.bool true,[],rfl,λ_=>rfl,.bool true,zw3 l _,λ_=>⟨List.Pairwise.nil,λ_ K=>(nomatch K)⟩⟩,h2,F,H⟩
end Att
namespace L2
open PySem PySem.Spec PyProof.Rows
def zri:∀ {vs:i0} {D:k4},IntsAre vs D->Vals (D.map V.int) vs
 | _,_,.nil=>.nil
 | _,_,.cons n t h=>.cons ⟨t,rfl⟩ (zri h)
def Only(H:Hp):Prop:=∀b,H b=none\/∃o xs,H b=some (.frz o (.lst xs))
variable{K:ll}{k:Nat}{a:Addr}{x:Str}{vs:i0}
def zzq{P:Program}{w:World}{mg B:Str->ka}{CX:CXT}{fa:Addr}{fd:FuncData}{sp:Sp}{D:Shared}{Z:k4}(M:K.In D.heap)(c:D.heap.Ns mainGlobals mg)(J:D.heap.Ns builtinsNs B)(C:∀x:Str,x ≠ "__name__"->B x=bootBuiltins x)(f:D.heap.NoLimit)(T:D.gens=#[])(A:D.heap.get? a=some { cls:=.type "list",data:=.seq vs.toArray })(hi:IntsAre vs Z)(N:Z.length<=sizeLine)(W:Room k callerA)(F:∀base:Heap,K.In base->base.Ns mainGlobals mg->FnOk P w K mg base CX k fa fd [x] sp)(Y:∀(s:Shared) (u:Value),BindsTo s fd ⟨[u],[]⟩ [(x,u)])(E:∀H:Hp,Only H->SqL K H a (Z.map V.int)->sp [.ref a] H (λv _=>v=.bl true) λ_ _ _=>False)(G:∀H e s',CX [] H D (λ_ _ _=>False) e s'->False) :
  codeAny (model P w) callerA (.call (.ref fa) ⟨[.ref a],[]⟩) (λr s'=>r=.ok (.ret (.bool true))/\OldK D.heap s'.heap/\s'.os=D.os/\AllBare s'.gens) D:=by
 have O:=zri hi;have g:=hi.length;have U:∀H:Hp,Only H->SqL K H a (Z.map V.int)->HOk P w H D.heap->(∀b,H b≠none->b=a)->(H a≠none->K.lookup a=none) ->
   codeAny (model P w) callerA (.call (.ref fa) ⟨[.ref a],[]⟩) (λr s'=>r=.ok (.ret (.bool true))/\OldK D.heap s'.heap/\s'.os=D.os/\AllBare s'.gens) D:=by
  intro H Q X i hA hK;have I:∀ {b:Addr} {o:Obj},D.heap.get? b=some o->H b=none->(hidT D.heap H).get? b=some o:=λe n=>zzd e n;have L:∀ {b:Addr} {o:Obj} {es:Array DictEntry} {j:Nat},D.heap.get? b=some o->o.data=.dict es j->H b=none:=λ{b o es j} e d=>by
   cases q:H b with
   | none=>rfl
   | some u =>
     have e':b=a:=hA b (by rw[q];simp);subst e';rw[A] at e;cases e;have d':Data.seq vs.toArray _=Data.dict es j:=d;cases d'
  have R:∀ {b:Addr} {m:Str->ka},D.heap.Ns b m->(hidT D.heap H).Ns b m:=λ{b m} ⟨o,es,j,e,d,r⟩=>⟨o,es,j,I e (L e d),d,r⟩;have l:K.In (hidT D.heap H):=λb o e=>I (M b o e) (by
   cases q:H b with
   | none=>rfl
   | some u =>
     have e':b=a:=hA b (by rw[q];simp);subst e';rw[hK (by rw[q];simp)] at e;cases e)
  have hM:Mod K mg (hidT D.heap H):=⟨l,R c,⟨B,R J,C⟩,let ⟨mc,h1,h2⟩:=f;⟨mc,R h1,h2⟩⟩;have e0:Env0 P w K mg (hidT D.heap H) callerA [] D H:=⟨rfl,hM,λb o e=>z2z e,Nat.le_of_eq (zwe _ _),trivial,λb J=>absurd (show b∈([]:kb) from J) (by simp),i,.of_eq T⟩;refine codeAny_mono ((F _ l (R c)).run callerA [] D H ⟨[.ref a],[]⟩ [.ref a] [.ref a] _ _ W e0 (Y D (.ref a)) (.cons rfl .nil) (E H Q X)) λr s' h=>?_;cases r with
  | error e=>exact(G H e s' h).elim
  | ok fl =>
    cases fl with
    | next=>exact False.elim h
    | brk=>exact False.elim h
    | cont=>exact False.elim h
    | ret u =>
      obtain⟨v,H',os,p,un,t,r',q⟩:=h;have q':v=.bl true:=q;subst q';obtain rfl:u=Value.bool true:=r';refine⟨rfl,OldK.of_keep λb o e=>?_,os,p⟩;cases q:H b with
      | none=>exact un.keep b o e q (by intro z;exact absurd (show b∈([]:kb) from z) (by simp)) (by simp)
      | some u =>
        rcases Q b with z | ⟨ob,xs,z⟩
        ·rw[q] at z;cases z
        ·have z2:=un.frzs b ob _ z
         obtain⟨S,_⟩:=i b _ z;obtain⟨e2,_⟩:=t b _ z2;rw[e] at S;cases S;exact e2
 cases hk:K.lookup a with
 | some o =>
   have e:=M a o hk;rw[A] at e;cases e;refine U (λ_=>none) (λ_=>.inl rfl) (.inr ⟨_,vs.toArray,_,hk,rfl,rfl,rfl,by rw[bg,g];exact N,by simpa using O⟩) (λb u z=>by have y:(none:Option HO)=some u:=z;cases y) (λb z=>absurd rfl z) λz=>absurd rfl z
 | none =>
   refine U (λb=>if b=a then some (.frz { cls:=.type "list",data:=.seq vs.toArray } (.lst (Z.map V.int))) else none) (λb=>?_) (.inl (.inr ⟨{ cls:=.type "list",data:=.seq vs.toArray },if_pos rfl⟩)) (λb u z=>?_) (λb z=>?_) λ_=>hk
   ·by_cases J:b=a
    ·exact .inr ⟨_,_,if_pos J⟩
    ·exact .inl (if_neg J)
   ·by_cases J:b=a
    ·have y:=(if_pos J).symm.trans z
     cases y;subst J;exact⟨A,by rw[af];exact N,vs,_,O,A⟩
    ·have y:=(if_neg J).symm.trans z
     cases y
   ·by_cases J:b=a
    ·exact J
    ·exact absurd (if_neg J) z
variable{l:Addr}{d:D}
def z3l{l:PySem.W.OpenLaw}{n:Nat}{q:Program}{I:ik}{y:(Str->ka)->Heap->Prop}{r:World->Heap->Prop}{d:DefRec}{K:Params->ll}{CX:World->CXT}{sp:World->Sp}(z:l.most=some n)(c:n<=sizeLine)(i:d.params.defaults=[])(A:Room k callerA)(B:∀(w:World) (h:Heap),r w h->(K w.params).In h)(F:∀(w:World) (mg:Str->ka) (fa:Addr) (h:Heap),(K w.params).In h->h.Ns mainGlobals mg->mg d.name=some (.ref fa) ->
   ∃fd:FuncData,(∀(s:Shared) (u:Value),BindsTo s fd ⟨[u],[]⟩ [(x,u)]) /\
    ∀base:Heap,(K w.params).In base->base.Ns mainGlobals mg->FnOk l.prog w (K w.params) mg base (CX w) k fa fd [x] (sp w))(j:∀(w:World) (H:Hp) (a:Addr) (Z:k4),Z.length<=n->Only H->SqL (K w.params) H a (Z.map V.int)->sp w [.ref a] H (λv _=>v=.bl true) λ_ _ _=>False)(m:∀(w:World) (H:Hp) (s:Shared) (e:Value) (s':Shared),CX w [] H s (λ_ _ _=>False) e s'->False) :
  PySem.W.WalkO q I y r l.row.toRowW d [] (λf vs=>PySem.call f vs):=by
 refine Att.attach_call z i λw s₀ R mg Q fa o S X C a vs Z G Y ho hd E p U J D L=>?_;have t:=B w _ Y;obtain⟨fd,M,N⟩:=F w mg fa _ t G.T.g p;exact zzq t G.T.g G.T.b G.T.builtins G.T.nolimit L U J (cy D c) A N M (λH O P=>j w H a Z D O P) λH e s'=>m w H R e s'
def uv(s:Stmt):Arguments:=match s with
 | .FunctionDef _ a _ _ _ _ _ _ _ _=>a
 | _=>{ posonlyargs:=[],args:=[],vararg:=none,kwonlyargs:=[],kw_defaults:=[],kwarg:=none,defaults:=[] }
def l7(s:Stmt):List Stmt:=match s with
 | .FunctionDef _ _ b _ _ _ _ _ _ _=>b
 | _=>[]
def f9(s:Stmt):Scope:=match s with
 | .FunctionDef _ _ _ _ _ _ sc _ _ _=>sc
 | _=>{ kind:=.function,names:=[],isGenerator:=false,isCoroutine:=false }
abbrev CX0:CXT:=λ_ _ _ _ _ _=>False
abbrev E0:XK:=λ_ _ _=>False
variable{X:Cx}
def zzr:zwx CX0 X E0:=λ_ _ _ _ _ _ _ h=>h.elim
structure Fun (K:ll) (x qual:Str) (st:Stmt) (f:Addr) (fd:FuncData):Prop where
 ex:∃(oc:Value) (od:Option Addr) (kV doc pm:Value) (an:Option Addr) (cdv ct:Value) (osl:Array ka),
  fd=PySem.W.fnOf x qual (uv st) (l7 st) (f9 st) .none kV doc pm an cdv ct/\K.lookup f=some ⟨oc,od,.func fd,osl⟩/\PySem.W.codeIn K cdv qual=true
 kp:PySem.W.keepIn K (.ref f)=true
variable{f:FE}
def zw4{qual:Str}{st:Stmt}{f:Addr}{oc:Value}{od an:Option Addr}{osl:Array ka}{kV D I cdv ct:Value}(l:K.lookup f=some ⟨oc,od,.func (PySem.W.fnOf x qual (uv st) (l7 st) (f9 st) .none kV D I an cdv ct),osl⟩)(c:PySem.W.codeIn K cdv qual=true)(k:PySem.W.keepIn K (.ref f)=true):Fun K x qual st f (PySem.W.fnOf x qual (uv st) (l7 st) (f9 st) .none kV D I an cdv ct):=⟨⟨oc,od,kV,D,I,an,cdv,ct,osl,rfl,l,c⟩,k⟩
def Same(H H':Hp):Prop:=∀b o,H b=some o->H' b=some o
def Same.refl(H:Hp):Same H H:=λ_ _ h=>h
variable{H H1 H2:Hp}
def Same.trans(a:Same H H1)(b:Same H1 H2):Same H H2:=λc o h=>b c o (a c o h)
variable{H':Hp}
def Same.free(e:Same H H')(h:H' l=Option.none):H l=Option.none:=by
 cases q:H l with
 | none=>rfl
 | some o =>
   rw[e l o q] at h;cases h
def zk2{env:Env}:∀(names:List (Str×NameKind)) (D:List (Str×Addr)),
  (∀y∈names,y.2=.free->∃c,env.cells.lookup y.1=some c)->(∀y c,D.lookup y=some c->env.cells.lookup y=some c) ->
  ∃cl,(forIn names D λ(x:Str×NameKind) (cs:List (Str×Addr))=>if (x.2==NameKind.free)=true then(do let c <-cellOf env x.1;pure (ForInStep.yield ((x.1,c)::cs)):Sem _) else pure (ForInStep.yield cs))=pure cl /\
   (∀y c,cl.lookup y=some c->env.cells.lookup y=some c)/\(∀y c,D.lookup y=some c->∃J,cl.lookup y=some J)/\∀y∈names,y.2=.free->∃c,cl.lookup y.1=some c
 | [],D,_,ha=>⟨D,rfl,ha,λy c e=>⟨c,e⟩,λ_ h=>nomatch h⟩
 | (n,k)::r,D,hn,ha=>by
   by_cases U:k=.free
   ·subst U
    obtain⟨c,Y⟩:=hn (n,.free) bu rfl;obtain⟨cl,e,h1,h2,V⟩:=zk2 r ((n,c)::D) (λy hy=>hn y (ay _ hy)) (λy J e=>by
     rw[cz] at e;cases hq:y==n with
     | true=>rw[hq] at e;cases e;rw[eq_of_beq hq];exact Y
     | false=>rw[hq] at e;exact ha y J e)
    have I:List.lookup n ((n,c)::D)=some c:=by simp[cz]
    refine⟨cl,?_,h1,λy J e'=>?_,λy hy R=>?_⟩
    ·rw[List.forIn_cons]
     have Z:cellOf env n=pure c:=by unfold cellOf;rw[Y]
     simp only[beq_self_eq_true,if_true,Z,pure_bind];exact e
    ·cases hq:y==n with
     | true=>rw[eq_of_beq hq];exact h2 n c I
     | false=>exact h2 y J (by rw[cz,hq];exact e')
    ·rcases b8.mp hy with rfl | hy
     ·exact h2 n c I
     ·exact V y hy R
   ·obtain⟨cl,e,h1,h2,V⟩:=zk2 r D (λy hy=>hn y (ay _ hy)) ha
    refine⟨cl,?_,h1,h2,λy hy R=>?_⟩
    ·rw[List.forIn_cons]
     have a:(k==NameKind.free)=false:=by cases k <;> first | rfl | exact absurd rfl U
     simp only[a,bx,if_false,pure_bind];exact e
    ·rcases b8.mp hy with rfl | hy
     ·exact absurd R U
     ·exact V y hy R
variable{sc:Scope}{env:DE0}
def zo3{env:Env}(h:∀y∈sc.names,y.2=.free->∃c,env.cells.lookup y.1=some c) :
  ∃cl,closureFor sc env=pure cl/\(∀y c,cl.lookup y=some c->env.cells.lookup y=some c)/\∀y∈sc.names,y.2=.free->∃c,cl.lookup y.1=some c:=by
 obtain⟨cl,e,h1,_,D⟩:=zk2 (env:=env) sc.names [] h (λy c e=>by simp at e);refine⟨cl,?_,h1,D⟩;unfold closureFor;rw[show(pure cl:Sem _)=(pure cl >>= λcs=>pure cs) by rw[pure_bind],<-e]
def zeb{env:Env}:∀ {names:List (Str×NameKind)} {x:Str} {k:NameKind},
  (names.map λ(n,k)=>if (k==NameKind.free && env.scope.kind==.function && env.kindOf n==some .cell) then(n,NameKind.cell) else(n,k)).lookup x=some k ->
  names.lookup x=some k\/(names.lookup x=some .free/\k=.cell)
 | (n,k0)::r,x,k,h=>by
   have I:=@zeb env r x k;have h:List.lookup x ((if (k0==NameKind.free && env.scope.kind==.function && env.kindOf n==some .cell)=true then(n,NameKind.cell) else(n,k0))::_)=_:=h;cases hx:x==n with
   | true =>
     by_cases D:(k0==NameKind.free && env.scope.kind==.function && env.kindOf n==some .cell)=true
     ·rw[if_pos D] at h
      simp only[cz,hx] at h ⊢;simp only[dw,beq_iff_eq] at D;cases h;exact .inr ⟨by rw[D.1.1],rfl⟩
     ·rw[if_neg D] at h
      simp only[cz,hx] at h ⊢;exact .inl h
   | false =>
     by_cases D:(k0==NameKind.free && env.scope.kind==.function && env.kindOf n==some .cell)=true
     ·rw[if_pos D] at h
      simp only[cz,hx] at h ⊢;exact I h
     ·rw[if_neg D] at h
      simp only[cz,hx] at h ⊢;exact I h
def zc1{env:Env}:∀ {names:List (Str×NameKind)} {x:Str},names.lookup x=some .free ->
  (names.map λ(n,k)=>if (k==NameKind.free && env.scope.kind==.function && env.kindOf n==some .cell) then(n,NameKind.cell) else(n,k)).lookup x=some .cell \/
  (names.map λ(n,k)=>if (k==NameKind.free && env.scope.kind==.function && env.kindOf n==some .cell) then(n,NameKind.cell) else(n,k)).lookup x=some .free
 | (n,k0)::r,x,h=>by
   have I:=@zc1 env r x;show List.lookup x ((if (k0==NameKind.free && env.scope.kind==.function && env.kindOf n==some .cell)=true then(n,NameKind.cell) else(n,k0))::_)=_\/List.lookup x ((if (k0==NameKind.free && env.scope.kind==.function && env.kindOf n==some .cell)=true then(n,NameKind.cell) else(n,k0))::_)=_;cases hx:x==n with
   | true =>
     simp only[cz,hx] at h;cases h;by_cases D:(NameKind.free==NameKind.free && env.scope.kind==.function && env.kindOf n==some .cell)=true
     ·rw[if_pos D];simp only[cz,hx];exact .inl trivial
     ·rw[if_neg D];simp only[cz,hx];exact .inr trivial
   | false =>
     simp only[cz,hx] at h;by_cases D:(k0==NameKind.free && env.scope.kind==.function && env.kindOf n==some .cell)=true
     ·rw[if_pos D];simp only[cz,hx];exact I h
     ·rw[if_neg D];simp only[cz,hx];exact I h
def jd(X:Cx)(x:Str)(N':ik)(sc:Scope)(cl:List (Str×Addr))(C:Addr)(s₂:Shared)(H₂:Hp)(fp:kb):Cx :=
 { X with N:=x::N',s₀:=s₂,H₀:=H₂,env:=compEnvC sc cl C X.env,outer:=X.stack,stack:=X.stack,ex:=fp,fn:=λ_=>false,pn:=[],xe:=λ_ _=>False }
def PIfs(X:Cx)(ifs:k8)(tt:TT):Prop :=
 ∀(pins:ln) (s:Shared) (σ:St) (H:Hp) (Q:Bool->Hp->Prop),Inv X pins σ H s->tt σ H Q ->
  wpAny (model X.prog X.w) X.A (forIn ifs true λc r=>if r=true then do let ok <-isTrue c X.env (eval c X.env);pure (ForInStep.yield ok) else pure (ForInStep.yield r)) (TP X pins σ Q) X.xe s
def tYes:TT:=λ_ H Q=>Q true H
def zzs:PIfs X [] tYes:=λ_ _ _ H _ I h=>wpAny_tests_nil ⟨H,I,h⟩
def zzt{c:Expr}{D:TT}(h:PT X c D):PIfs X [c] D:=λpins s σ H Q I q=>wpAny_tests_one (h pins s σ H Q I q)
def yg(wi:TI)(ix:kf)(tt:TT)(te:TE):TE:=λσ H Q=>wi σ H λJ H1=>∃W:Nat->Nat->Hp->l0->Prop,(∃m,W 0 m H1 [])/\∀i m H ys,W i m H ys ->
 (J.stop i H/\ys.length<=sizeLine/\∀D,H D=none->Q (.ref D) (upd H D (.lst ys))) \/
 (J.go i H/\∀x H',J.yld i H x H'->tt (some x::ix.map (λj=>σ.getD j none)) H' λb H2 =>
   if b=true then te (some x::ix.map (λj=>σ.getD j none)) H2 λv R=>ys.length<sizeLine/\∃I,I<m/\W (i+1) I R (ys++[v]) else ∃I,I<m/\W (i+1) I H2 ys)
abbrev lobj(ys:i0):Obj:={ cls:=.type "list",data:=.seq ys.toArray ys.length }
variable{pins:ln}{σ:St}{s2:Shared}{fp:kb}{cl:List (Str×Addr)}{h₁:Heap}{m₁:Str->ka}{ix:kf}{N':ik}
def zw5{tk:Nat}(r:N'=ix.map λi=>X.N.getD i ("" : Str))(K:sc.kind=.function)(V:∀y∈sc.names,y.2≠.cell)(Y:∀y∈sc.names,y.2=.free->X.env.kindOf y.1=some .cell\/X.env.kindOf y.1=some .free)(s:∀y∈N',sc.names.lookup y=some .free)(h1:∀y c,cl.lookup y=some c->X.env.cells.lookup y=some c)(H:∀y∈sc.names,y.2=.free->∃c,cl.lookup y.1=some c)(I:Inv X pins σ H2 s2)(n:∀b∈fp,FpOk X pins H2 b)(t:∀b∈fp,∃o,s2.heap.get? b=some o)(U:∀b o,s2.heap.get? b=some o->h₁.get? b=some o)(A:h₁.Ns (s2.heap.objs.size+1) m₁)(L:h₁.get? s2.heap.objs.size=some (lobj [])) :
  Inv (jd X x N' sc cl (s2.heap.objs.size+1) s2 H2 fp) [(s2.heap.objs.size,lobj [])] (none::ix.map (λj=>σ.getD j none)) H2 { s2 with heap:=h₁,toks:=tk }:=by
 have B:∀b∈fp,b<s2.heap.objs.size:=λb R=>by obtain⟨o,e⟩:=t b R;exact bi e
 have a:∀b,s2.heap.objs.size<=b->b∉frs X.stack:=λb R z=>by
  rcases b8.mp (I.stkSub b z) with e | z
  ·exact absurd (bh I.lt (e ▸ R)) (fz _)
  ·exact I.nofs R z
 refine⟨⟨I.ok.mod,K,I.ok.glob,I.ok.blt,m4 _,λy z c J D=>I.ok.inj y z c (h1 _ _ J) (h1 _ _ D),λy M=>?_,λy c z _=>(by cases z),I.ok.hd,I.ok.frames,.inl rfl,λb R=>⟨?_,λy c e=>?_⟩,I.bs,cy I.ok.bsz I.sz,λb o e R=>?_,λb R z=>?_,I.stack,I.stkFree⟩,
  rfl,I.bare,Un.kept U,⟨m₁,A,λi y v J D W=>?_⟩,λy c e=>?_,I.hok.fresh (m4 _),λy c e=>I.freeC y c (h1 y c e),λp C=>?_,I.hok.kept U,?_⟩
 ·have E:(relabel sc X.env).names.lookup y=some .cell\/(relabel sc X.env).names.lookup y=some .free:=M
  have O:sc.names.lookup y=some .free:=by
   rcases E with q | q
   ·rcases zeb q with q | ⟨q,_⟩
    ·exact absurd rfl (V _ (eg q))
    ·exact q
   ·rcases zeb q with q | ⟨_,q⟩
    ·exact q
    ·cases q
  exact H (y,.free) (eg O) rfl
 ·exact cf (gh (B b R))
 ·exact(n b R).2.2.2.2.1 y c (h1 y c e)
 ·rcases(n b R).2.2.2.1 with z | z
  ·exact I.ok.noex b o e z
  ·exact absurd (bh (bi e) (cy I.ok.bsz z)) (fz _)
 ·have z:b∈frs X.stack:=z
  rcases b8.mp (I.stkSub b z) with e | z
  ·exact(n b R).2.1 e
  ·exact(n b R).2.2.1 z
 ·cases i with
  | zero=>simp at D
  | succ j =>
    have J:N'[j]?=some y:=by simpa[jd] using J
    have D:(ix.map (λj=>σ.getD j none))[j]?=some (some v):=by simpa using D
    rw[r,bj] at J;rw[bj] at D;cases q:ix[j]? with
    | none=>rw[q] at J;cases J
    | some k =>
      rw[q] at J D;have J:X.N.getD k "" = y:=bn J;have D:σ.getD k none=some v:=bn D;have d:σ[k]?=some (some v):=by
       rw[ci] at D;cases q2:σ[k]? with
       | none=>rw[q2] at D;cases D
       | some z=>rw[q2] at D;rw[show z=some v from D]
      have f:k<X.N.length:=by rw[<-I.len];exact(aj.mp d).1
      have F:X.N[k]?=some y:=by
       rw[ci,aw f] at J;rw[aw f];exact congrArg some J
      have G:y∈N':=by
       rw[r,<-J];exact fq.mpr ⟨k,bf q,rfl⟩
      have Z:=s y G;have g:=Y (y,.free) (eg Z) rfl;have h:Vis X.env.scope y:=by
       rcases g with z | z
       ·exact .inr (.inl z)
       ·exact .inr (.inr z)
      obtain⟨m,hn,P⟩:=I.loc;obtain⟨u,Q,S⟩:=P k y v F d h;refine⟨u,Q,.inr ⟨?_,?_⟩⟩
      ·exact zc1 Z
      ·rcases S with⟨z,_⟩ | ⟨_,c,hc,hcv⟩
       ·rcases g with w | w <;> rw[show X.env.kindOf y=_ from w] at z <;> cases z
       ·obtain⟨T,l⟩:=H (y,.free) (eg Z) rfl
        have:=h1 y T l;rw[hc] at this;cases this;exact⟨c,l,hcv.keeps U⟩
 ·obtain⟨v,q⟩:=I.cell y c (h1 y c e)
  exact⟨v,q.keeps U⟩
 ·have C:p∈[(s2.heap.objs.size,lobj [])]:=C
  rw[cw.mp C];exact⟨L,I.hok.fresh (bw _),cf (fo _),a _ (bw _),λv z=>by cases z⟩
 ·simp[jd,r]
variable{ys:l0}{y:Str}
def Vals.snoc{y:V}{u:Value}(h:Vals ys vs)(r:RelV y u):Vals (ys++[y]) (vs++[u]):=Vals.append h (.cons r .nil)
def zw6(vs:i0)(u:Value):({ cls:=.type "list",data:=.seq (vs.toArray.push u) (vs.length+1) }:Obj)=lobj (vs++[u]):=LCg.lst_snoc vs u
def zt7{f:St}{V:Shared}{h':Heap}(I:Inv X pins σ H2 s2)(j:∀b∈fp,FpOk X pins H2 b)(k:∀b∈fp,∃o,s2.heap.get? b=some o)(J:Inv (jd X x N' sc cl (s2.heap.objs.size+1) s2 H2 fp) [(s2.heap.objs.size,lobj vs)] f H' V)(l:Vals ys vs)(m:ys.length<=sizeLine)(a:Heap.SameBut (s2.heap.objs.size+1) V.heap h') :
  Inv X pins σ (upd H' s2.heap.objs.size (.lst ys)) { V with heap:=h' }:=by
 have i:=J.pin (s2.heap.objs.size,lobj vs) (cb _ bu);have Y:H' s2.heap.objs.size=none:=i.2.1;have Z:H' (s2.heap.objs.size+1)=none:=J.free;have R:Un (frs X.stack) fp H2 H' s2.heap V.heap:=J.base;have d:∀b o,s2.heap.get? b=some o->b≠s2.heap.objs.size/\b≠s2.heap.objs.size+1:=λb o e=>by
  have:=bi e;exact⟨cf this,cf (gh this)⟩
 have f2:∀b,s2.heap.objs.size<=b->H2 b=none:=λb D=>I.hok.fresh D;have g:∀b o,H2 b=some o->b≠s2.heap.objs.size:=λb o e z=>by rw[z,f2 _ (bw _)] at e;cases e
 have p:Un (frs X.stack) fp H2 (upd H' s2.heap.objs.size (.lst ys)) s2.heap h':=by
  refine⟨λb o e n D U=>(a.2 b (d b o e).2).trans (R.keep b o e n D U),λb o e n D U=>?_,λb o e n U=>?_,λb o e U=>?_,λb xs e=>?_,λb o u e=>?_,λb ps e=>?_⟩
  ·obtain⟨sl,q⟩:=R.slot b o e n D U
   exact⟨sl,(a.2 b (d b o e).2).trans q⟩
  ·rw[gx (d b o e).1];exact R.free b o e n U
  ·obtain⟨o',q⟩:=R.there b o e U
   exact⟨o',(a.2 b (d b o e).2).trans q⟩
  ·rw[gx (g b _ e)];exact R.tups b xs e
  ·rw[gx (g b _ e)];exact R.frzs b o u e
  ·rw[gx (g b _ e)];exact R.tbls b ps e
 have kk:∀b u,b≠s2.heap.objs.size+1->V.heap.get? b=some u->h'.get? b=some u:=λb u D q=>(a.2 b D).trans q;have h:HOk X.prog X.w (upd H' s2.heap.objs.size (.lst ys)) h':=λb u e=>by
  by_cases D:b=s2.heap.objs.size
  ·subst D
   rw[kl] at e;cases e;exact⟨m,vs,vs.length,l,kk _ _ (cf (fo _)) i.1⟩
  ·rw[gx D] at e
   have r:b≠s2.heap.objs.size+1:=λz=>by rw[z,Z] at e;cases e
   refine(J.hok b u e).stay (λc v hc q=>kk c v ?_ q) (λc q=>?_) λc xs q=>?_
   ·rcases hc with rfl | hc
    ·exact r
    ·intro z;rw[z,Z] at hc;cases hc
   ·rw[gx (λz=>by rw[z,Y] at q;cases q)];exact q
   ·rw[gx (λz=>by rw[z,Y] at q;cases q)];exact q
 refine I.call' (s':={ V with heap:=h' }) (ch:=fp) J.os p h J.bare λb D=>?_;obtain⟨_,s,_,t,y,A⟩:=j b D;exact⟨t,s,y,A⟩
variable{Q:Unit->Shared->Prop}{W:Addr->Prop}{Cm:Cx->Prop}{px pos:Pos}{iter elt:Expr}{ifs:k8}{tt:TT}{te:TE}
theorem zrj{it:Addr}{G:Nat->Heap->Prop}{J:It}{Q:VK}{R:Result->Shared->Prop}{m0:Nat}{W:Nat->Nat->Hp->l0->Prop}(hc:∀cl C s₂ H₂ fp pins σ,Inv X pins σ H₂ s₂->(∀b∈fp,FpOk X pins H₂ b)->Cm (jd X x N' sc cl C s₂ H₂ fp))(a5:∀cl C s₂ H₂ fp,Cm (jd X x N' sc cl C s₂ H₂ fp)->PIfs (jd X x N' sc cl C s₂ H₂ fp) ifs tt)(a6:∀cl C s₂ H₂ fp,Cm (jd X x N' sc cl C s₂ H₂ fp)->PE (jd X x N' sc cl C s₂ H₂ fp) elt te)(hN:N'=ix.map λi=>X.N.getD i ("" : Str))(a7:(x::N').Nodup)(hk:sc.kind=.function)(hx:sc.names.lookup x=some .local)(L:∀y∈sc.names,y.2≠.cell)(a4:∀y∈sc.names,y.2=.local->sc.names.lookup y.1=some .local)(M:∀y∈sc.names,y.2=.free->X.env.kindOf y.1=some .cell\/X.env.kindOf y.1=some .free)(a8:∀y∈N',sc.names.lookup y=some .free)(h1:∀y c,cl.lookup y=some c->X.env.cells.lookup y=some c)(h3:∀y∈sc.names,y.2=.free->∃c,cl.lookup y.1=some c)(g:Inv X pins σ H2 s2)(T:wx Cm X.prog X.w X.K (.Name x px) J fp it G)(aa:G 0 s2.heap)(f2:∀b∈fp,FpOk X pins H2 b)(w0:W 0 m0 H2 [])(turn:∀i m H ys,W i m H ys ->
   (J.stop i H/\ys.length<=sizeLine/\∀D,H D=none->Q (.ref D) (upd H D (.lst ys))) \/
   (J.go i H/\∀x H',J.yld i H x H'->tt (some x::ix.map (λj=>σ.getD j none)) H' λb H2 =>
     if b=true then te (some x::ix.map (λj=>σ.getD j none)) H2 λv H3=>ys.length<sizeLine/\∃h,h<m/\W (i+1) h H3 (ys++[v]) else ∃h,h<m/\W (i+1) h H2 ys))(ab:∀b o,s2.heap.get? b=some o->h₁.get? b=some o)(k:h₁.Ns (s2.heap.objs.size+1) m₁)(ag:h₁.get? s2.heap.objs.size=some (lobj []))(hR:∀S B ys vs l,Inv (jd X x N' sc cl (s2.heap.objs.size+1) s2 H2 fp) [(s2.heap.objs.size,lobj vs)] l B S->Vals ys vs->ys.length<=sizeLine->(∀D,B D=none->Q (.ref D) (upd B D (.lst ys)))->R (.ok .next) S) :
  codeAny (model X.prog X.w) X.A (.compStart (.ListComp elt [⟨.Name x px,iter,ifs,0⟩] sc pos) 0 (.ref it) (.ref s2.heap.objs.size) (compEnvC sc cl (s2.heap.objs.size+1) X.env)) R { s2 with heap:=h₁,toks:=s2.toks+([]:List (Str×Value)).length }:=by
 have al:∀b∈fp,∃o,s2.heap.get? b=some o:=λb I=>by obtain⟨o,e,_⟩:=T.obj _ _ aa b I;exact⟨o,e⟩
 have O:∀b∈fp,b<s2.heap.objs.size:=λb I=>by obtain⟨o,e⟩:=al b I;exact bi e
 have I3:=zw5 (x:=x) (tk:=s2.toks+([]:List (Str×Value)).length) hN hk L M a8 h1 h3 g f2 al ab k ag;have an:G 0 h₁:=T.keep _ _ _ aa λb I o e=>ab b o e;generalize Y:jd X x N' sc cl (s2.heap.objs.size+1) s2 H2 fp=X' at I3;have eP:X'.prog=X.prog:=by rw[<-Y];rfl
 have eW:X'.w=X.w:=by rw[<-Y];rfl
 have eK:X'.K=X.K:=by rw[<-Y];rfl
 have eA:X'.A=X.A:=by rw[<-Y];rfl
 have E:X'.env=compEnvC sc cl (s2.heap.objs.size+1) X.env:=by rw[<-Y];rfl
 have eC:Cm X':=by rw[<-Y];exact hc _ _ _ _ _ _ _ g f2
 have ap:X'.pn=[]:=by rw[<-Y];rfl
 have ar:X'.xe=λ_ _=>False:=by rw[<-Y];rfl
 have a0:X'.fs=frs X.stack:=by rw[<-Y];rfl
 have a9:X'.ex=fp:=by rw[<-Y];rfl
 have eN:X'.N=x::N':=by rw[<-Y];rfl
 have eS:X'.s₀=s2:=by rw[<-Y];rfl
 have ba:∀b∈fp,b∉frs X.stack:=λb I z=>by
  rcases b8.mp (g.stkSub b z) with e | z
  ·exact(f2 b I).2.1 e
  ·exact(f2 b I).2.2.1 z
 have a1:s2.heap.objs.size∉frs X.stack:=λz=>by
  rcases b8.mp (g.stkSub _ z) with e | z
  ·exact absurd (e ▸ g.lt) (fz _)
  ·exact g.nofs (bw _) z
 have a:∀ {H':Hp} {vs:i0},(∀b∈fp,H' b=none)->∀b∈fp,FpOk X' [(s2.heap.objs.size,lobj vs)] H' b:=λ{H' vs} hn b I=>by
  refine⟨hn b I,?_,?_,.inl (by rw[a9];exact I),λy c e=>?_,λp s=>?_⟩
  ·rw[E];exact cf (gh (O b I))
  ·rw[a0];exact ba b I
  ·rw[E] at e;exact(f2 b I).2.2.2.2.1 y c (h1 y c e)
  ·rw[ap] at s
   rw[cw.mp (show p∈[(s2.heap.objs.size,lobj vs)] from s)];exact l9 (O b I)
 have loop:∀U:Shared,U={ s2 with heap:=h₁,toks:=s2.toks+([]:List (Str×Value)).length } ->
   codeAny (model X.prog X.w) X.A (.compLoop (.ListComp elt [⟨.Name x px,iter,ifs,0⟩] sc pos) 0 (.ref it) (.ref s2.heap.objs.size) (compEnvC sc cl (s2.heap.objs.size+1) X.env))
    (R) U:=by
  rintro U rfl;refine codeAny_compLoop_tests (λn s'=>∃i Z H' ys vs,Inv X' [(s2.heap.objs.size,lobj vs)] (Z::ix.map (λj=>σ.getD j none)) H' s'/\Vals ys vs/\G i s'.heap/\(∀b∈fp,H' b=none)/\W i n H' ys) ?_ m0
   ⟨0,none,H2,[],[],I3,.nil,an,λb I=>(f2 b I).1,w0⟩
  rintro n s4 ⟨i,Z,B,ys,vs,I4,hv4,st4,fr4,w4⟩;rcases turn i n B ys w4 with⟨a2,hl,qn⟩ | ⟨go,step⟩
  ·have D:=T.done X' eP eW eK eC i _ s4 _ B (notedBy (model X.prog X.w) X.A (compEnvC sc cl (s2.heap.objs.size+1) X.env) λe s'=>R (.error e) s') I4 (a fr4) st4 a2
   rw[eA] at D;refine thn D λr S t=>?_;obtain⟨hr,I5⟩:=t;subst hr;exact hR S B ys vs _ (Y ▸ I5) hv4 hl qn
  ·have D:=T.item X' eP eW eK eC i _ s4 _ B (notedBy (model X.prog X.w) X.A (compEnvC sc cl (s2.heap.objs.size+1) X.env) λe s'=>R (.error e) s') I4 (a fr4) st4 go
   rw[eA] at D;refine thn D λr S t=>?_;obtain⟨u,hr,h5⟩:=t;subst hr;have bb:wpAny (model X.prog X.w) X.A (letOwnedTupleGo (.Name x px) (.ref it) u >>= λ_=>assign (.Name x px) (compEnvC sc cl (s2.heap.objs.size+1) X.env) u) (λ_ s₂ =>
     wpAny (model X.prog X.w) X.A (forIn ifs true λc r=>if r=true then do let ok <-isTrue c (compEnvC sc cl (s2.heap.objs.size+1) X.env) (eval c (compEnvC sc cl (s2.heap.objs.size+1) X.env));pure (ForInStep.yield ok) else pure (ForInStep.yield r)) (λok U =>
      if ok=true then wpAny (model X.prog X.w) X.A (eval elt (compEnvC sc cl (s2.heap.objs.size+1) X.env)) (λx a3 =>
       wpAny (model X.prog X.w) X.A (call (.builtin "list.append") [.ref s2.heap.objs.size,x]) (λ_ F=>∃m,m<n/\∃i Z H' ys vs,Inv X' [(s2.heap.objs.size,lobj vs)] (Z::ix.map (λj=>σ.getD j none)) H' F/\Vals ys vs/\G i F.heap/\(∀b∈fp,H' b=none)/\W i m H' ys)
        (notedBy (model X.prog X.w) X.A (compEnvC sc cl (s2.heap.objs.size+1) X.env) λe s'=>R (.error e) s') a3)
       (notedBy (model X.prog X.w) X.A (compEnvC sc cl (s2.heap.objs.size+1) X.env) λe s'=>R (.error e) s') U
      else ∃m,m<n/\∃i Z H' ys vs,Inv X' [(s2.heap.objs.size,lobj vs)] (Z::ix.map (λj=>σ.getD j none)) H' U/\Vals ys vs/\G i U.heap/\(∀b∈fp,H' b=none)/\W i m H' ys)
      (notedBy (model X.prog X.w) X.A (compEnvC sc cl (s2.heap.objs.size+1) X.env) λe s'=>R (.error e) s') s₂)
     (notedBy (model X.prog X.w) X.A (compEnvC sc cl (s2.heap.objs.size+1) X.env) λe s'=>R (.error e) s') S:=by
    refine wpAny_bind (thn h5 λ_ s6 t=>?_);obtain⟨z,H6,I6,r6,y6,P,bd⟩:=t;have be:=I6.pinned (a bd) (T.obj _ _ P);have q6:=step z H6 y6;refine wpAny_assign_Name (?_:wpAny _ _ (storeName (compEnvC sc cl (s2.heap.objs.size+1) X.env) x u) _ _ s6);rw[<-E];refine zm5 (i:=0) be (by rw[eN];exact a7) (by rw[eN];rfl) (.inl (by rw[E];exact lookup_relabel_local hx)) r6 (λs7 I7=>?_) (.inr (by rw[E];exact lookup_relabel_local hx));have t7:=(Y ▸ a5 cl (s2.heap.objs.size+1) s2 H2 fp (hc _ _ _ _ _ _ _ g f2):PIfs X' ifs tt) _ s7 _ H6 _ I7 q6;rw[eP,eW,eA] at t7;refine wpAny_mono t7 (λb s8 t=>?_) (λe s' z=>by rw[ar] at z;exact z.elim);obtain⟨H8,I8,q8⟩:=t;have f:∀ {s':Shared} {H':Hp} {l:St},Inv X' ([(s2.heap.objs.size,lobj vs)]++zq8 fp s6.heap) l H' s'->G (i+1) s'.heap/\∀b∈fp,H' b=none:=λ{s' H' l} J'=>by
     refine⟨T.keep _ _ _ P λb I o e=>(J'.pin (b,o) (cb _ (cb _ (zke I e)))).1,λb I=>?_⟩;obtain⟨o,e,d⟩:=T.obj _ _ P b I;exact(J'.pin (b,o) (cb _ (cb _ (zke I e)))).2.1
    cases b with
    | false =>
      rw[if_neg cj] at q8 ⊢;obtain⟨h,hm,w8⟩:=q8;obtain⟨k1,k2⟩:=f I8;exact⟨h,hm,i+1,some z,H8,ys,vs,I8.unpinned,hv4,k1,k2,w8⟩
    | true =>
      rw[if_pos rfl] at q8 ⊢;have t8:=(Y ▸ a6 cl (s2.heap.objs.size+1) s2 H2 fp (hc _ _ _ _ _ _ _ g f2):PE X' elt te) _ s8 _ H8 _ I8 q8;rw[eP,eW,eA] at t8;refine wpAny_mono t8 (λv s9 t=>?_) (λe s' z=>by rw[ar] at z;exact z.elim);obtain⟨y,H9,I9,r9,bo,h,hm,w9⟩:=t;have pD:=I9.pin (s2.heap.objs.size,lobj vs) (cb _ (dy _ bu));obtain⟨k1,k2⟩:=f I9;have bp:=hv4.length;refine append_at (D:=s2.heap.objs.size) (its:=vs.toArray) (n:=vs.length) pD.1 (λh' sb hD=>?_) (by rw[bg];lia);have bk:Inv X' [] (some z::ix.map (λj=>σ.getD j none)) H9 s9:=I9.pins_of λp s=>nomatch s;have cne:∀y c,X'.env.cells.lookup y=some c->c≠s2.heap.objs.size:=λy c e=>by
       rw[E] at e;obtain⟨v',q⟩:=g.cell y c (h1 y c e);exact cf q.lt
      have bl:Inv X' [] (some z::ix.map (λj=>σ.getD j none)) H9 { s9 with heap:=h' }:=bk.turned (t':=s9.toks) (it:=s2.heap.objs.size) (λb o I e=>(sb.2 b I).trans e) pD.2.1 (by rw[E];exact cf (fo _)) (.inr (by rw[eS];exact bw _)) cne (λp s=>by rw[ap] at s;exact nomatch s);have bm:Inv X' [(s2.heap.objs.size,lobj (vs++[v]))] (some z::ix.map (λj=>σ.getD j none)) H9 { s9 with heap:=h' }:=bl.pins_of λp s=>by
       rw[cw.mp s];exact⟨hD.trans (congrArg some (zw6 vs v)),pD.2.1,by rw[E];exact cf (fo _),by rw[a0];exact a1,λv' z'=>by cases z'⟩
      exact⟨h,hm,i+1,some z,H9,ys++[y],vs++[v],bm,hv4.snoc r9,T.keep _ _ _ k1 (λb I o e=>(sb.2 b (cf (O b I))).trans e),k2,w9⟩
   exact bb
 exact codeAny_compStart_list (loop _ rfl) (T.self X.A 0 _ _ _ an (loop _ rfl))
variable{h:Heap}
def Heap.SameBut.rf(e:∃o,h.get? a=some o):Heap.SameBut a h h:=by
 first | exact⟨rfl,λ_ _=>rfl⟩ | exact⟨e,λ_ _=>rfl⟩
structure zw7 (X:Cx) (x:Str) (N':ik) (ix:kf) (sc:Scope):Prop where
 nm:N'=ix.map λi=>X.N.getD i ("" : Str)
 nd:(x::N').Nodup
 kind:sc.kind=.function
 hx:sc.names.lookup x=some .local
 cell:∀y∈sc.names,y.2≠.cell
 names:∀y∈sc.names,y.2=.local->sc.names.lookup y.1=some .local
 free:∀y∈sc.names,y.2=.free->X.env.kindOf y.1=some .cell\/X.env.kindOf y.1=some .free
 fv:∀y∈N',sc.names.lookup y=some .free
variable{wi:TI}
def zpr(c:zw7 X x N' ix sc)(p:∀cl C s₂ H₂ fp pins σ,Inv X pins σ H₂ s₂->(∀b∈fp,FpOk X pins H₂ b)->Cm (jd X x N' sc cl C s₂ H₂ fp))(hi:PIC Cm X (.Name x px) iter wi)(Z:∀cl C s₂ H₂ fp,Cm (jd X x N' sc cl C s₂ H₂ fp)->PIfs (jd X x N' sc cl C s₂ H₂ fp) ifs tt)(a:∀cl C s₂ H₂ fp,Cm (jd X x N' sc cl C s₂ H₂ fp)->PE (jd X x N' sc cl C s₂ H₂ fp) elt te)(q:∀v,foldedSetIterable iter X.env v=pure v:=by intro _;rfl) :
  PE X (.ListComp elt [⟨.Name x px,iter,ifs,0⟩] sc pos) (yg wi ix tt te):=by
 intro pins s σ H Q I h;obtain⟨cl,d,h1,r⟩:=zo3 (sc:=sc) (env:=X.env) (λy f t=>I.ok.has y.1 (c.free y f t));rw[eval_ListComp];refine wpAny_comprehension_free (use:=none) rfl q d c.kind c.names (thn (hi pins s σ H _ I h) λv L u=>thn u λw s2 h2=>?_);obtain⟨it,fp,M,J,H2,rfl,n,T,U,f2,W,⟨N,z⟩,turn⟩:=h2;refine wpAny_newObj_type (wpAny_newFunctionEnv c.cell (by intro y f;simp at f) (λh₁ R D=>?_) c.kind);dsimp only at R D ⊢;have V:(s2.heap.push { cls:=.type "list",dict:=none,data:=.seq ([]:i0).toArray }).objs.size=s2.heap.objs.size+1:=jc ..;rw[V] at R D ⊢;have g:∀b o,s2.heap.get? b=some o->h₁.get? b=some o:=λb o e=>D.extBut b o (cf (gh (bi e))) (aq _ (aq _ e));have Y:h₁.get? s2.heap.objs.size=some (lobj []):=D.extBut _ _ (cf (fo _)) (aq _ (cq _ rfl));have i:∀b∈fp,∃o,s2.heap.get? b=some o:=λb A=>by obtain⟨o,e,_⟩:=T.obj _ _ U b A;exact⟨o,e⟩
 refine zrj p Z a c.nm c.nd c.kind c.hx c.cell c.names c.free c.fv h1 r n T U f2 z turn g R Y λO P ys vs B j k E F=>?_;obtain⟨G,l,_⟩:=j.loc;refine⟨G,l,λh' K=>?_⟩;have m:=(j.pin (s2.heap.objs.size,lobj vs) (cb _ bu)).2.1;exact⟨.ref s2.heap.objs.size,_,zt7 n f2 i j k E K,rfl,F _ m⟩
variable{i:Nat}
def zps{py spos:Pos}(c:zw7 X x N' ix sc)(hc:∀cl C s₂ H₂ fp pins σ,Inv X pins σ H₂ s₂->(∀b∈fp,FpOk X pins H₂ b)->Cm (jd X x N' sc cl C s₂ H₂ fp))(l:X.N.Nodup)(n:X.N[i]?=some y)(q:Loc X.env.scope y)(hi:PIC Cm X (.Name x px) iter wi)(r:∀cl C s₂ H₂ fp,Cm (jd X x N' sc cl C s₂ H₂ fp)->PIfs (jd X x N' sc cl C s₂ H₂ fp) ifs tt)(t:∀cl C s₂ H₂ fp,Cm (jd X x N' sc cl C s₂ H₂ fp)->PE (jd X x N' sc cl C s₂ H₂ fp) elt te)(u:swapsWith (.ListComp elt [⟨.Name x px,iter,ifs,0⟩] sc pos) (some (.Name y py)) spos.line X.env=pure true)(w:X.fn y=true\/X.env.scope.names.lookup y=some .local:=by first | exact .inl rfl | exact .inr rfl | assumption)(hs:∀v,foldedSetIterable iter X.env v=pure v:=by intro _;rfl) :
  PS X (.Assign [.Name y py] (.ListComp elt [⟨.Name x px,iter,ifs,0⟩] sc pos) spos) (tAsg (yg wi ix tt te) (nz i)):=by
 intro pins s σ H Dn I h;have h:yg wi ix tt te σ H λv H1=>Dn.nx (σ.set i (some v)) H1:=h;obtain⟨cl,B,h1,h3⟩:=zo3 (sc:=sc) (env:=X.env) (λy E w=>I.ok.has y.1 (c.free y E w));rw[exec_Assign_Name_used _ _ _ _ u];refine wpAny_bind (wpAny_standAt (wpAny_bind ?_));show wpAny _ X.A (do let _ <-comprehension (.ListComp elt [⟨.Name x px,iter,ifs,0⟩] sc pos) sc X.env _ (newList []) false (eval iter X.env) (some (assign (.Name y py) X.env))) _ _ s;refine wpAny_bind (wpAny_mono (wpAny_comprehension_free (use:=some (assign (.Name y py) X.env)) (Q:=λ_ s'=>SP X pins Dn .next s') rfl hs B c.kind c.names
  (thn (hi pins s σ H _ I h) λv s1 g1=>thn g1 λaa s2 h2=>?_)) (λ_ s' hq=>wpAny_pure (wpAny_pure hq)) λ_ _ e=>e)
 obtain⟨it,fp,tn,J,H2,rfl,Y,T,Z,f2,W,⟨m0,w0⟩,turn⟩:=h2;refine wpAny_newObj_type (wpAny_newFunctionEnv c.cell (by intro y E;simp at E) (λh₁ R D=>?_) c.kind);dsimp only at R D ⊢;have d:(s2.heap.push { cls:=.type "list",dict:=none,data:=.seq ([]:i0).toArray }).objs.size=s2.heap.objs.size+1:=jc ..;rw[d] at R D ⊢;have F:∀b o,s2.heap.get? b=some o->h₁.get? b=some o:=λb o e=>D.extBut b o (cf (gh (bi e))) (aq _ (aq _ e));have f:h₁.get? s2.heap.objs.size=some (lobj []):=D.extBut _ _ (cf (fo _)) (aq _ (cq _ rfl));have G:∀b∈fp,∃o,s2.heap.get? b=some o:=λb K=>by obtain⟨o,e,_⟩:=T.obj _ _ Z b K;exact⟨o,e⟩
 refine zrj (Q:=λv H1=>Dn.nx (σ.set i (some v)) H1) hc r t c.nm c.nd c.kind c.hx c.cell c.names c.free c.fv h1 h3 Y T Z f2 w0 turn F R f λg S ys vs ab j L hl qn=>?_;obtain⟨m5,U,_⟩:=j.loc;have U:g.heap.Ns (s2.heap.objs.size+1) m5:=U;have M:=(j.pin (s2.heap.objs.size,lobj vs) (cb _ bu)).2.1;have oC:∃o,g.heap.get? (s2.heap.objs.size+1)=some o:=let ⟨o,_,_,e,_⟩:=U;⟨o,e⟩;have I6:Inv X pins σ (upd S s2.heap.objs.size (.lst ys)) { g with heap:=g.heap }:=zt7 Y f2 G j L hl (Heap.SameBut.rf oC);show wpAny _ X.A (assign (.Name y py) X.env (.ref s2.heap.objs.size)) _ _ g;have HC:upd S s2.heap.objs.size (.lst ys) (s2.heap.objs.size+1)=none:=by rw[gx (l9 (fo _))];exact j.free
 have V:∀a o,s2.heap.get? a=some o->s2.heap.objs.size+1≠a:=λa o e=>l9 (gh (bi e));have oL:∃o,s2.heap.get? X.env.locals=some o:=let ⟨m,hn,_⟩:=Y.loc;let ⟨o,_,_,e,_⟩:=hn;⟨o,e⟩;have cL:s2.heap.objs.size+1≠X.env.locals:=let ⟨o,e⟩:=oL;V _ o e;have cC:∀z k,X.env.cells.lookup z=some k->k≠s2.heap.objs.size+1:=λz k e=>by
  obtain⟨v',o,e',_⟩:=Y.cell z k e;exact Ne.symm (V _ o e')
 refine wpAny_assign_Name (znk (v:=.ref s2.heap.objs.size) I6 l n q rfl (λs7 I7 zq=>?_) w);obtain⟨a,sb,ha⟩:=zq;have O:s2.heap.objs.size+1≠a:=by
  rcases ha with rfl | ha
  ·exact cL
  ·exact Ne.symm (cC _ _ ha)
 refine⟨m5,U.sameBut sb O,λh' P=>?_⟩;refine⟨_,_,I7.turned (t':=s7.toks) (it:=s2.heap.objs.size+1) (λb o K e=>(P.2 b K).trans e) HC cL (.inr ?_) cC (λp hp=>?_),qn _ M⟩
 ·exact qh Y.sz
 ·exact Ne.symm (V _ _ (Y.pin p hp).1)
def z3m(X:Cx)(xs N':ik)(sc:Scope)(cl:List (Str×Addr))(C:Addr)(s₂:Shared)(H₂:Hp)(fp:kb):Cx :=
 { X with N:=xs++N',s₀:=s₂,H₀:=H₂,env:=compEnvC sc cl C X.env,outer:=X.stack,stack:=X.stack,ex:=fp,fn:=λ_=>false,pn:=[],xe:=λ_ _=>False }
structure z9l (X:Cx) (xs N':ik) (ix:kf) (sc:Scope):Prop where
 nm:N'=ix.map λi=>X.N.getD i ("" : Str)
 nd:(xs++N').Nodup
 kind:sc.kind=.function
 hx:∀y∈xs,sc.names.lookup y=some .local
 cell:∀y∈sc.names,y.2≠.cell
 names:∀y∈sc.names,y.2=.local->sc.names.lookup y.1=some .local
 free:∀y∈sc.names,y.2=.free->X.env.kindOf y.1=some .cell\/X.env.kindOf y.1=some .free
 fv:∀y∈N',sc.names.lookup y=some .free
inductive D where
 | non | bl (b:Bool) | int (i:Int) | str (s:Str) | tup (ds:List D) | lst (ds:List D)
 | dct (ks:k4) (ds:List D)
 | exc (a:Addr)
abbrev mu:=List D
abbrev mv:=Option D
inductive Im where
 | t (vs:l0) | d (kvs:List (Key×V))
@[reducible] noncomputable def Im.out:Im->HO | .t vs=>.tup vs | .d kvs=>.dK kvs
def dkv(ks:k4)(vs:l0):List (Key×V):=ks.zipWith (λk v=>(Sum.inl k,v)) vs
def KL(K:ll)(a:Addr)(xs:l0):Prop :=
 ∃(o:Obj) (its:lx) (n:Nat),K.lookup a=some o/\o.cls=.type "list"/\o.dict=none/\o.data=.seq its n/\its.size<=sizeLine/\Vals xs its.toList
mutual
inductive Rep (K:ll) (H:Hp) (O:Addr->Prop):D->V->Prop
 | non:Rep K H O .non .non
 | bl (b:Bool):Rep K H O (.bl b) (.bl b)
 | int (i:Int):Rep K H O (.int i) (.int i)
 | str (s:Str):Rep K H O (.str s) (.str s)
 | tup {a:Addr} {vs:l0} {ds:mu}:H a=some (.tup vs)->Reps K H O ds vs->Rep K H O (.tup ds) (.ref a)
 | lst {a:Addr} {vs:l0} {ds:mu}:O a->Rd H a (.lst vs)->Reps K H O ds vs->Rep K H O (.lst ds) (.ref a)
 | klst {a:Addr} {vs:l0} {ds:mu}:KL K a vs->Reps K H O ds vs->Rep K H O (.lst ds) (.ref a)
 | dct {a:Addr} {ks:k4} {vs:l0} {ds:mu}:H a=some (.dK (dkv ks vs))->Reps K H O ds vs->Rep K H O (.dct ks ds) (.ref a)
 | exc (a:Addr):Rep K H O (.exc a) (.ref a)
inductive Reps (K:ll) (H:Hp) (O:Addr->Prop):mu->l0->Prop
 | nil:Reps K H O [] []
 | cons {d:D} {v:V} {ds:mu} {vs:l0}:Rep K H O d v->Reps K H O ds vs->Reps K H O (d::ds) (v::vs)
end
variable{vs:l0}{ds:mu}{O:Addr->Prop}
def Reps.ind{P:mu->l0->Prop}(n:P [] [])(c:∀ {d v ds vs},Rep K H O d v->Reps K H O ds vs->P ds vs->P (d::ds) (v::vs)):Reps K H O ds vs->P ds vs :=
 Reps.rec (motive_1:=λ_ _ _=>True) (motive_2:=λds vs _=>P ds vs) ⟨⟩ (λ_=>⟨⟩) (λ_=>⟨⟩) (λ_=>⟨⟩) (λ_ _ _=>⟨⟩) (λ_ _ _ _=>⟨⟩) (λ_ _ _=>⟨⟩) (λ_ _ _=>⟨⟩) (λ_=>⟨⟩) n λr t _=>c r t
variable{v:V}{O':Addr->Prop}
def Rep.mono(D:∀a (u:Im),H a=some u.out->H' a=some u.out)(I:∀a vs,O a->Rd H a (.lst vs)->O' a/\Rd H' a (.lst vs)):Rep K H O d v->Rep K H' O' d v :=
 Rep.rec (motive_1:=λd v _=>Rep K H' O' d v) (motive_2:=λds vs _=>Reps K H' O' ds vs) .non .bl .int .str (λh _=>.tup (D _ (.t _) h)) (λo h _=>.lst (I _ _ o h).1 (I _ _ o h).2) (λh _=>.klst h) (λh _=>.dct (D _ (.d _) h)) .exc .nil λ_ _=>.cons
def Reps.mono(I:∀a (u:Im),H a=some u.out->H' a=some u.out)(J:∀a vs,O a->Rd H a (.lst vs)->O' a/\Rd H' a (.lst vs)){ds:mu}{vs:l0}:Reps K H O ds vs->Reps K H' O' ds vs:=Reps.ind .nil λr _=>.cons (r.mono I J)
def Reps.length{ds:mu}{vs:l0}:Reps K H O ds vs->ds.length=vs.length:=Reps.ind (P:=λds vs=>ds.length=vs.length) rfl λ_ _=>congrArg Nat.succ
def Reps.get(h:Reps K H O ds vs):ds[i]?=some d->∃v,vs[i]?=some v/\Rep K H O d v :=
 Reps.ind (P:=λds vs=>∀ {i:Nat},ds[i]?=some d->∃v,vs[i]?=some v/\Rep K H O d v) nofun (λr _ q i e=>match i with
  | 0=>⟨_,rfl,bn e ▸ r⟩
  | i+1=>q (i:=i) e) h
def Reps.append{es:mu}{ws:l0}(h:Reps K H O ds vs)(s:Reps K H O es ws):Reps K H O (ds++es) (vs++ws):=Reps.ind (P:=λds vs=>Reps K H O (ds++es) (vs++ws)) s (λr _=>.cons r) h
def Reps.take{ds:mu}{vs:l0}(n:Nat)(h:Reps K H O ds vs):Reps K H O (ds.take n) (vs.take n) :=
 Reps.ind (P:=λds vs=>∀n,Reps K H O (ds.take n) (vs.take n)) (λn=>by cases n <;> exact .nil) (λr _ q n=>by cases n;exact .nil;exact .cons r (q _)) h n
def Reps.drop{ds:mu}{vs:l0}(n:Nat)(h:Reps K H O ds vs):Reps K H O (ds.drop n) (vs.drop n) :=
 Reps.ind (P:=λds vs=>∀n,Reps K H O (ds.drop n) (vs.drop n)) (λn=>by cases n <;> exact .nil) (λr t q n=>by cases n;exact .cons r t;exact q _) h n
def Reps.set{d:D}{v:V}(r:Rep K H O d v){ds:mu}{vs:l0}(i:Nat)(h:Reps K H O ds vs):Reps K H O (ds.set i d) (vs.set i v) :=
 Reps.ind (P:=λds vs=>∀i,Reps K H O (ds.set i d) (vs.set i v)) (λ_=>.nil) (λp t q n=>by cases n;exact .cons r t;exact .cons p (q _)) h i
def Reps.eraseIdx{ds:mu}{vs:l0}(i:Nat)(h:Reps K H O ds vs):Reps K H O (ds.eraseIdx i) (vs.eraseIdx i) :=
 Reps.ind (P:=λds vs=>∀i,Reps K H O (ds.eraseIdx i) (vs.eraseIdx i)) (λ_=>.nil) (λp t q n=>by cases n;exact t;exact .cons p (q _)) h i
def Reps.dropLast(h:Reps K H O ds vs):Reps K H O ds.dropLast vs.dropLast:=by
 rw[jx,jx,h.length];exact h.take _
def Rep.int_{i:Int}(h:Rep K H O (.int i) v):v=.int i:=by cases h;rfl
def Rep.bl_{i:Bool}(h:Rep K H O (.bl i) v):v=.bl i:=by cases h;rfl
def Rep.str_{i:Str}(h:Rep K H O (.str i) v):v=.str i:=by cases h;rfl
def Rep.exc_(h:Rep K H O (.exc a) v):v=.ref a:=by cases h;rfl
def Rep.non_(h:Rep K H O .non v):v=.non:=by cases h;rfl
def Rep.tup_(h:Rep K H O (.tup ds) v):∃a vs,v=.ref a/\H a=some (.tup vs)/\Reps K H O ds vs:=by cases h with | tup a b=>exact⟨_,_,rfl,a,b⟩
def LsOk(K:ll)(H:Hp)(O:Addr->Prop)(a:Addr)(vs:l0):Prop:=(O a/\Rd H a (.lst vs))\/KL K a vs
def LsOk.sq(h:LsOk K H O a vs):SqL K H a vs:=h.elim (λz=>.inl z.2) .inr
def Rep.lst_(h:Rep K H O (.lst ds) v):∃a vs,v=.ref a/\LsOk K H O a vs/\Reps K H O ds vs:=by
 cases h with
 | lst o a b=>exact⟨_,_,rfl,.inl ⟨o,a⟩,b⟩
 | klst a b=>exact⟨_,_,rfl,.inr a,b⟩
inductive Mo where
 | l (vs:l0) | i (C dx:Addr) (fs:List (Str×V))
@[reducible] noncomputable def Mo.out:Mo->HO | .l vs=>.lst vs | .i C dx fs=>.ins C dx fs
inductive Pt where
 | d (d:D) | o (ds:mu)
abbrev mx:=List Pt
inductive AK where
 | ls | ins (b:Bool) (c:Str) (fs:ik)
inductive Sl where
 | sh (d:D) | ow (ds:mu) | o2 (dss:List mu) | ag (k:AK) (r:Option Nat) (ps:mx) | al (r j:Nat) | ro (k:AK) (ps:mx)
abbrev nb:=Option Sl
structure Gd where
 g:Addr->Prop
 r:Nat->kb
instance:CoeFun Gd (λ_=>Addr->Prop):=⟨Gd.g⟩
abbrev gd(g:Addr->Prop):Gd:=⟨g,λ_=>[]⟩
abbrev DE0:=List nb
def Ow(G:Gd)(W:Addr->Prop):Addr->Prop:=λa=>G a/\¬W a
def Inn(K:ll)(G:Gd)(W:Addr->Prop)(H:Hp)(dss:List mu)(ls:kb):Prop :=
 ls.length=dss.length/\∀(j:Nat) (ds:mu) (a:Addr),dss[j]?=some ds->ls[j]?=some a->W a/\∃vs,H a=some (.lst vs)/\Reps K H (Ow G W) ds vs
inductive PtsOk (K:ll) (G:Gd) (W:Addr->Prop) (H:Hp):mx->kb->l0->Prop
 | nil:PtsOk K G W H [] [] []
 | d {d:D} {v:V} {ps:mx} {as:kb} {us:l0}:Rep K H (Ow G W) d v->PtsOk K G W H ps as us->PtsOk K G W H (.d d::ps) as (v::us)
 | o {ds:mu} {a:Addr} {vs:l0} {ps:mx} {as:kb} {us:l0}:W a->H a=some (.lst vs)->Reps K H (Ow G W) ds vs->PtsOk K G W H ps as us->PtsOk K G W H (.o ds::ps) (a::as) (.ref a::us)
inductive PtsRo (K:ll) (G:Gd) (W:Addr->Prop) (H:Hp):mx->l0->Prop
 | nil:PtsRo K G W H [] []
 | d {d:D} {v:V} {ps:mx} {us:l0}:Rep K H (Ow G W) d v->PtsRo K G W H ps us->PtsRo K G W H (.d d::ps) (v::us)
 | o {ds:mu} {a:Addr} {vs:l0} {ps:mx} {us:l0}:¬W a->H a=some (.lst vs)->Reps K H (Ow G W) ds vs->PtsRo K G W H ps us->PtsRo K G W H (.o ds::ps) (.ref a::us)
def AkOk(K:ll)(H:Hp):AK->Addr->l0->Prop
 | .ls,p,us=>H p=some (.lst us)
 | .ins _ c fs,p,us=>∃C dx,PySem.W.nsIn K mainGlobals c=some (some (.ref C))/\H p=some (.ins C dx (fs.zip us))/\fs.length=us.length
def Lab:AK->kb->Addr->kb->Prop
 | .ins true _ _,l,p,_=>l=[p]
 | _,l,p,as=>l=p::as
inductive OwOk (K:ll) (G:Gd) (W:Addr->Prop) (H:Hp) (ds:mu) (v:V):Prop
 | mk (l:Addr) (vs:l0) (e:v=.ref l) (w:W l) (h:H l=some (.lst vs)) (r:Reps K H (Ow G W) ds vs):OwOk K G W H ds v
inductive O2Ok (K:ll) (G:Gd) (W:Addr->Prop) (H:Hp) (dss:List mu) (v:V):Prop
 | mk (l:Addr) (ls:kb) (e:v=.ref l) (w:W l) (h:H l=some (.lst (ls.map V.ref))) (n:(l::ls).Nodup) (r:Inn K G W H dss ls):O2Ok K G W H dss v
inductive AgOk (K:ll) (G:Gd) (W:Addr->Prop) (H:Hp) (k:AK) (r:Option Nat) (ps:mx) (v:V):Prop
 | mk (p:Addr) (as:kb) (us:l0) (e:v=.ref p) (w:W p) (n:(p::as).Nodup) (l:∀n,r=some n->Lab k (G.r n) p as) (h:AkOk K H k p us) (q:PtsOk K G W H ps as us):AgOk K G W H k r ps v
def SlOk(K:ll)(G:Gd)(W:Addr->Prop)(H:Hp):Sl->V->Prop
 | .sh d,v=>Rep K H (Ow G W) d v
 | .ow ds,v=>OwOk K G W H ds v
 | .o2 dss,v=>O2Ok K G W H dss v
 | .ag k r ps,v=>AgOk K G W H k r ps v
 | .al r j,v=>∃p as a,G.r r=p::as/\as[j]?=some a/\v=.ref a
 | .ro k ps,v=>∃(p:Addr) (us:l0),v=.ref p/\¬W p/\AkOk K H k p us/\PtsRo K G W H ps us
def zzu:mx->l0->Addr->Prop:=λps us a=>∃(j:Nat) (ds:mu),ps[j]?=some (.o ds)/\us[j]?=some (.ref a)
def AkH(H:Hp):AK->Addr->l0->Prop
 | .ls,p,us=>H p=some (.lst us)
 | .ins _ _ fs,p,us=>fs.length=us.length/\∃C dx,H p=some (.ins C dx (fs.zip us))
def Owns(H:Hp):Sl->V->Addr->Prop
 | .sh _,_,_=>False
 | .ow _,v,a=>v=.ref a
 | .o2 _,v,a=>v=.ref a\/∃(l:Addr) (ls:kb),v=.ref l/\H l=some (.lst (ls.map V.ref))/\a∈ls
 | .ag k _ ps,v,a=>v=.ref a\/∃(p:Addr) (us:l0),v=.ref p/\AkH H k p us/\zzu ps us a
 | .al _ _,_,_=>False
 | .ro _ _,_,_=>False
structure Ok (K:ll) (G:Gd) (H0:Hp) (W:Addr->Prop) (env:DE0) (σ:St) (H:Hp):Prop where
 stay:Same H0 H
 good:∀a,H0 a=none->G a
 wl:∀l,W l->H0 l=none/\∃m:Mo,H l=some m.out
 slot:∀(i:Nat) (s:Sl),env[i]?=some (some s)->∃v,σ[i]?=some (some v)/\SlOk K G W H s v
 uniq:∀(i j:Nat) (s s':Sl) (v v':V) (a:Addr),env[i]?=some (some s)->env[j]?=some (some s')->σ[i]?=some (some v)->σ[j]?=some (some v')->Owns H s v a->Owns H s' v' a->i=j
 len:env.length=σ.length
variable{ls:kb}
def wg{D:kb}(h:ls.map V.ref=D.map V.ref):ls=D:=by
 induction ls generalizing D with
 | nil=>cases D with | nil=>rfl | cons b r=>cases h
 | cons a t ih=>cases D with | nil=>cases h | cons b r=>simp[List.cons.injEq,V.ref.injEq] at h;rw[h.1,ih h.2]
variable{G:Gd}{ps:mx}{as:kb}{us:l0}
def PtsOk.own(h:PtsOk K G W H ps as us)(ha:a∈as):W a/\∃vs,H a=some (.lst vs):=by
 induction h with
 | nil=>cases ha
 | d _ _ ih=>exact ih ha
 | o hW hl _ _ ih =>
   rcases b8.mp ha with rfl | ha
   ·exact⟨hW,_,hl⟩
   ·exact ih ha
def PtsOk.parts_iff(h:PtsOk K G W H ps as us):zzu ps us a↔a∈as:=by
 induction h with
 | nil=>exact⟨λ⟨j,ds,e,_⟩=>by simp at e,λz=>by cases z⟩
 | d _ _ ih =>
   rw[<-ih];constructor
   ·rintro⟨j,ds,I,D⟩
    cases j with
    | zero=>simp at I
    | succ j=>exact⟨j,ds,by simpa using I,by simpa using D⟩
   ·rintro⟨j,ds,I,D⟩
    exact⟨j+1,ds,by simpa using I,by simpa using D⟩
 | o _ _ _ _ ih =>
   rw[b8,<-ih];constructor
   ·rintro⟨j,ds,I,D⟩
    cases j with
    | zero=>simp at D;exact .inl D.symm
    | succ j=>exact .inr ⟨j,ds,by simpa using I,by simpa using D⟩
   ·rintro(rfl | ⟨j,ds,I,D⟩)
    ·exact⟨0,_,rfl,rfl⟩
    ·exact⟨j+1,ds,by simpa using I,by simpa using D⟩
variable{G':Gd}{W':Addr->Prop}
protected def PtsOk.step(h:PtsOk K G W H ps as us)(k:∀a vs,a∈as->H a=some (.lst vs)->W' a/\H' a=some (.lst vs))(r:∀d v,Rep K H (Ow G W) d v->Rep K H' (Ow G' W') d v)(D:∀ds vs,Reps K H (Ow G W) ds vs->Reps K H' (Ow G' W') ds vs):PtsOk K G' W' H' ps as us:=by
 induction h with
 | nil=>exact .nil
 | d q _ ih=>exact .d (r _ _ q) (ih k)
 | o hW hl q _ ih =>
   obtain⟨I,J⟩:=k _ _ bu hl;exact .o I J (D _ _ q) (ih λa vs R=>k a vs (ay _ R))
protected def PtsRo.step(h:PtsRo K G W H ps us)(k:∀a vs,¬W a->H a=some (.lst vs)->¬W' a/\H' a=some (.lst vs))(r:∀d v,Rep K H (Ow G W) d v->Rep K H' (Ow G' W') d v)(D:∀ds vs,Reps K H (Ow G W) ds vs->Reps K H' (Ow G' W') ds vs):PtsRo K G' W' H' ps us:=by
 induction h with
 | nil=>exact .nil
 | d q _ ih=>exact .d (r _ _ q) ih
 | o hW hl q _ ih=>obtain⟨I,J⟩:=k _ _ hW hl;exact .o I J (D _ _ q) ih
variable{j:Nat}
def PtsRo.get(h:PtsRo K G W H ps us)(e:ps[j]?=some (.o ds)):∃a vs,us[j]?=some (.ref a)/\¬W a/\H a=some (.lst vs)/\Reps K H (Ow G W) ds vs:=by
 induction h generalizing j with
 | nil=>simp at e
 | d _ _ ih =>
   cases j with
   | zero=>simp at e
   | succ j=>obtain⟨a,vs,h1,h2⟩:=ih (j:=j) (by simpa using e);exact⟨a,vs,by simpa using h1,h2⟩
 | @o _ a vs _ _ hW hl r _ ih =>
   cases j with
   | zero=>simp at e;subst e;exact⟨a,vs,rfl,hW,hl,r⟩
   | succ j=>obtain⟨a,vs,h1,h2⟩:=ih (j:=j) (by simpa using e);exact⟨a,vs,by simpa using h1,h2⟩
def PtsRo.getD(h:PtsRo K G W H ps us)(e:ps[j]?=some (.d d)):∃v,us[j]?=some v/\Rep K H (Ow G W) d v:=by
 induction h generalizing j with
 | nil=>simp at e
 | d q _ ih =>
   cases j with
   | zero=>simp at e;subst e;exact⟨_,rfl,q⟩
   | succ j=>obtain⟨a,h1,h2⟩:=ih (j:=j) (by simpa using e);exact⟨a,by simpa using h1,h2⟩
 | o _ _ _ _ ih =>
   cases j with
   | zero=>simp at e
   | succ j=>obtain⟨a,h1,h2⟩:=ih (j:=j) (by simpa using e);exact⟨a,by simpa using h1,h2⟩
variable{k:AK}{p:Addr}
theorem xj{D:l0}(h:AkOk K H k p us)(h':AkH H k p D):D=us:=by
 cases k with
 | ls=>have h:H p=_:=h;have h':H p=_:=h';rw[h] at h';cases h';rfl
 | ins b c fs =>
   obtain⟨C,dx,_,I,R⟩:=h;obtain⟨l',U,J,e⟩:=h';rw[I] at e;have e:fs.zip us=fs.zip D:=by injection e with e;injection e
   have:=congrArg (List.map Prod.snd) e;rw[sg (by lia),sg (by lia)] at this;exact this.symm
protected def AkOk.o{K:ll}{H:Hp}{k:AK}{p:Addr}{us:l0}(h:AkOk K H k p us):AkH H k p us:=by
 cases k with
 | ls=>exact h
 | ins b c fs=>obtain⟨C,dx,_,D,I⟩:=h;exact⟨I,C,dx,D⟩
def AkOk.mo(h:AkOk K H k p us):∃m:Mo,H p=some m.out/\∀H',H' p=some m.out->AkOk K H' k p us:=by
 cases k with
 | ls=>exact⟨.l us,h,λH' e=>e⟩
 | ins b c fs=>obtain⟨C,dx,D,I,J⟩:=h;exact⟨.i C dx (fs.zip us),I,λH' e=>⟨C,dx,D,e,J⟩⟩
variable{s:Sl}
def SlOk.owns(h:SlOk K G W H s v)(o:Owns H s v a):W a:=by
 cases s with
 | sh d=>exact o.elim
 | ow ds=>obtain⟨l,vs,e,D,_⟩:=h;rw[show v=.ref a from o] at e;cases e;exact D
 | o2 dss =>
   obtain⟨l,ls,e,D,U,V,hi⟩:=h;rcases o with o | ⟨l',ls',e',hl',ha⟩
   ·rw[o] at e;cases e;exact D
   ·rw[e] at e';cases e'
    rw[U] at hl';have:=wg (by simpa using hl');subst this;obtain⟨j,J,Y⟩:=ja ha;have I:j<dss.length:=by rw[<-hi.1];exact J
    exact(hi.2 j dss[j] a (by simp[I]) (by simp[J,Y])).1
 | ag k r ps =>
   obtain⟨p,as,us,e,D,V,b,Z,R⟩:=h;rcases o with o | ⟨p',us',e',hk',ha⟩
   ·rw[o] at e;cases e;exact D
   ·rw[e] at e';cases e'
    rw[xj Z hk'] at ha;exact(R.own (R.parts_iff.mp ha)).1
 | al _ _=>exact o.elim
 | ro _ _=>exact o.elim
def SlOk.back(h:SlOk K G W H s v)(k:∀l,v=.ref l->W l->∀m:Mo,H l=some m.out->H' l=some m.out)(o:Owns H' s v a):Owns H s v a:=by
 cases s with
 | sh d=>exact o.elim
 | ow ds=>exact o
 | o2 dss =>
   obtain⟨l,ls,e,D,I,R,hi⟩:=h;rcases o with o | ⟨l',ls',e',hl',ha⟩
   ·exact .inl o
   ·rw[e] at e';cases e'
    rw[k l e D (.l _) I] at hl';have:=wg (by simpa using hl');subst this;exact .inr ⟨l,ls,e,I,ha⟩
 | ag q r ps =>
   obtain⟨p,as,us,e,D,R,Y,J,Z⟩:=h;rcases o with o | ⟨p',us',e',hk',ha⟩
   ·exact .inl o
   ·rw[e] at e';cases e'
    obtain⟨m,U,V⟩:=J.mo;rw[xj (V H' (k p e D m U)) hk'] at ha;exact .inr ⟨p,us,e,J.o,ha⟩
 | al _ _=>exact o.elim
 | ro _ _=>exact o.elim
structure Step (W:Addr->Prop) (H:Hp) (W':Addr->Prop) (H':Hp):Prop where
 keep:∀b o,H b=some o->¬W b->H' b=some o
 ws:∀l,W' l->W l\/H l=none
def Step.refl:Step W H W H:=⟨λ_ _ e _=>e,λ_ h=>.inl h⟩
def Step.trans{W1 D:Addr->Prop}(a:Step W H W1 H1)(b:Step W1 H1 D H2):Step W H D H2 where
 keep:=λc o e n=>b.keep c o (a.keep c o e n) λz=>(a.ws c z).elim n λq=>by rw[q] at e;cases e
 ws:=λl h=>by
  rcases b.ws l h with z | z
  ·exact a.ws l z
  ·by_cases n:W l
   ·exact .inl n
   ·cases e:H l with
    | none=>exact .inr rfl
    | some o=>rw[a.keep l o e n] at z;cases z
def Step.same(h:Same H H'):Step W H W H':=⟨λb o e _=>h b o e,λ_ h=>.inl h⟩
variable{H0:Hp}
def Ok.wkeep(ok:Ok K G H0 W env σ H)(st:Step W H W' H'):∀b o,H b=some o->(∀m:Mo,o≠m.out)->H' b=some o:=λb o e n =>
 st.keep b o e λz=>by obtain⟨_,m,q⟩:=ok.wl b z;rw[e] at q;exact n m (bn q)
def Rd.keep{u:HO}(h:Rd H a u)(k:∀o,H a=some o->H' a=some o):Rd H' a u:=by
 rcases h with h | ⟨o,h⟩
 ·exact .inl (k _ h)
 ·exact .inr ⟨o,k _ h⟩
def Ok.tstep(ok:Ok K G H0 W env σ H)(st:Step W H W' H'):∀a vs,H a=some (.tup vs)->H' a=some (.tup vs):=λ_ _ h=>ok.wkeep st _ _ h λm z=>by cases m <;> cases z
def Ok.istep(ok:Ok K G H0 W env σ H)(st:Step W H W' H'):∀a (u:Im),H a=some u.out->H' a=some u.out:=λ_ u h=>ok.wkeep st _ _ h λm z=>by cases u <;> cases m <;> cases z
def Ok.lstep(ok:Ok K G H0 W env σ H)(st:Step W H W' H'):∀a vs,Ow G W a->Rd H a (.lst vs)->Ow G W' a/\Rd H' a (.lst vs):=λa vs o h=>by
 refine⟨⟨o.1,λz=>?_⟩,h.keep λu e=>st.keep a u e o.2⟩;rcases st.ws a z with q | q
 ·exact o.2 q
 ·rcases h with h | ⟨_,h⟩ <;> rw[q] at h <;> cases h
def Ok.lsstep(ok:Ok K G H0 W env σ H)(st:Step W H W' H')(h:LsOk K H (Ow G W) a vs):LsOk K H' (Ow G W') a vs:=h.elim (λz=>.inl (ok.lstep st a vs z.1 z.2)) .inr
def Ok.rep(ok:Ok K G H0 W env σ H)(st:Step W H W' H')(r:Rep K H (Ow G W) d v):Rep K H' (Ow G W') d v:=r.mono (ok.istep st) (ok.lstep st)
def Ok.reps(ok:Ok K G H0 W env σ H)(st:Step W H W' H'){d:mu}{v:l0}(r:Reps K H (Ow G W) d v):Reps K H' (Ow G W') d v:=r.mono (ok.istep st) (ok.lstep st)
def Ok.slstep(ok:Ok K G H0 W env σ H)(st:Step W H W' H')(h:SlOk K G W H s v)(k:∀a (m:Mo),Owns H s v a->H a=some m.out->W' a/\H' a=some m.out):SlOk K G W' H' s v:=by
 cases s with
 | sh d=>exact ok.rep st h
 | ow ds =>
   obtain⟨l,vs,e,I,R,r⟩:=h;obtain⟨h1,h2⟩:=k l (.l vs) e R;exact⟨l,vs,e,h1,h2,ok.reps st r⟩
 | o2 dss =>
   obtain⟨l,ls,e,I,R,Z,hi⟩:=h;obtain⟨h1,h2⟩:=k l (.l _) (.inl e) R;have g:∀a vs,a∈ls->H a=some (.lst vs)->W' a/\H' a=some (.lst vs):=λa vs J D=>k a (.l vs) (.inr ⟨l,ls,e,R,J⟩) D;refine⟨l,ls,e,h1,h2,Z,hi.1,λj ds a i D=>?_⟩;obtain⟨_,vs,J,t⟩:=hi.2 j ds a i D;obtain⟨k1,k2⟩:=g a vs (bf D) J;exact⟨k1,vs,k2,ok.reps st t⟩
 | ag q r ps =>
   obtain⟨p,as,us,e,I,Z,u,U,V⟩:=h;obtain⟨m,Y,b⟩:=U.mo;obtain⟨h1,h2⟩:=k p m (.inl e) Y;exact⟨p,as,us,e,h1,Z,u,b H' h2,V.step (λa vs J D=>k a (.l vs) (.inr ⟨p,us,e,U.o,V.parts_iff.mpr J⟩) D) (λ_ _ r=>ok.rep st r) λ_ _ r=>ok.reps st r⟩
 | al _ _=>exact h
 | ro q ps =>
   obtain⟨p,us,e,I,U,V⟩:=h;have c:∀a o,¬W a->H a=some o->¬W' a:=λa o n e z=>(st.ws a z).elim n λy=>by rw[y] at e;cases e
   obtain⟨m,Y,b⟩:=U.mo;exact⟨p,us,e,c p _ I Y,b H' (st.keep p _ Y I),V.step (λa vs f D=>⟨c a _ f D,st.keep a _ D f⟩) (λ_ _ r=>ok.rep st r) λ_ _ r=>ok.reps st r⟩
def Ok.same(ok:Ok K G H0 W env σ H)(s:Same H H'):Ok K G H0 W env σ H':=by
 have st:Step W H W H':=Step.same s;have bk:∀ {i:Nat} {sl:Sl} {v:V} {a:Addr},env[i]?=some (some sl)->σ[i]?=some (some v)->Owns H' sl v a->Owns H sl v a:=λ{i sl v a} e I o=>by
  obtain⟨c,D,h⟩:=ok.slot i sl e;rw[I] at D;cases D;exact h.back (λl _ _ vs q=>s l _ q) o
 refine⟨ok.stay.trans s,ok.good,λl h=>?_,λi sl e=>?_,λi j U s2 v1 v2 a I D J R Y Z=>ok.uniq i j U s2 v1 v2 a I D J R (bk I J Y) (bk D R Z),ok.len⟩
 ·obtain⟨a,vs,b⟩:=ok.wl l h
  exact⟨a,vs,s _ _ b⟩
 ·obtain⟨v,I,h⟩:=ok.slot i sl e
  exact⟨v,I,ok.slstep st h λa vs o D=>⟨h.owns o,s _ _ D⟩⟩
def nn{o:HO}(h:H a=none):Same H (upd H a o):=λb u e=>by rw[gx (o5 e h)];exact e
def addW(W:Addr->Prop)(l:Addr):Addr->Prop:=λa=>W a\/a=l
def Ok.fresh0(ok:Ok K G H0 W env σ H)(s:Same H H')(D:H l=none)(I:H' l=some (.lst vs)) :
  ¬W l/\H0 l=none/\Ok K G H0 (addW W l) env σ H'/\Step W H (addW W l) H':=by
 have R:H0 l=none:=ok.stay.free D;have U:¬W l:=λz=>by obtain⟨_,vs,q⟩:=ok.wl l z;rw[D] at q;cases q
 have st:Step W H (addW W l) H':=⟨λb o e _=>s b o e,λa z=>z.elim .inl λq=>.inr (by rw[q];exact D)⟩;have J:=ok.same s;refine⟨U,R,⟨ok.stay.trans s,ok.good,λa z=>?_,λi sl e=>?_,J.uniq,ok.len⟩,st⟩
 ·rcases z with z | rfl
  ·obtain⟨q,us,b⟩:=ok.wl a z
   exact⟨q,us,s _ _ b⟩
  ·exact⟨R,.l vs,I⟩
 ·obtain⟨v,V,h⟩:=ok.slot i sl e
  exact⟨v,V,ok.slstep st h λa vs o Y=>⟨.inl (h.owns o),s _ _ Y⟩⟩
def Ok.fresh(ok:Ok K G H0 W env σ H)(s:Same H H')(D:H l=none)(I:H' l=some (.lst vs))(r:Reps K H' (λa=>(Ow G W a\/H a=none)/\a≠l) ds vs) :
  ¬W l/\H0 l=none/\Ok K G H0 (addW W l) env σ H'/\Reps K H' (Ow G (addW W l)) ds vs/\Step W H (addW W l) H':=by
 have R:H0 l=none:=ok.stay.free D;have U:¬W l:=λz=>by obtain⟨_,vs,q⟩:=ok.wl l z;rw[D] at q;cases q
 have st:Step W H (addW W l) H':=⟨λb o e _=>s b o e,λa z=>z.elim .inl λq=>.inr (by rw[q];exact D)⟩;have V:∀a,W a->H a≠none:=λa z q=>by obtain⟨_,vs,e⟩:=ok.wl a z;rw[q] at e;cases e
 have J:=ok.same s;refine⟨U,R,⟨ok.stay.trans s,ok.good,λa z=>?_,λi sl e=>?_,J.uniq,ok.len⟩,r.mono (λ_ _ h=>h) λa us o h=>⟨⟨?_,?_⟩,h⟩,st⟩
 ·rcases z with z | rfl
  ·obtain⟨q,us,b⟩:=ok.wl a z
   exact⟨q,us,s _ _ b⟩
  ·exact⟨R,.l vs,I⟩
 ·obtain⟨v,Y,h⟩:=ok.slot i sl e
  exact⟨v,Y,ok.slstep st h λa vs o Z=>⟨.inl (h.owns o),s _ _ Z⟩⟩
 ·rcases o.1 with q | q
  ·exact q.1
  ·exact ok.good a (ok.stay.free q)
 ·rintro(z | z)
  ·rcases o.1 with q | q
   ·exact q.2 z
   ·exact V a z q
  ·exact o.2 z
def Ok.noOwn(ok:Ok K G H0 W env σ H)(I:¬W l):∀(j:Nat) (s:Sl) (v:V),env[j]?=some (some s)->σ[j]?=some (some v)->¬Owns H s v l:=λj s v e J o=>by
 obtain⟨R,D,h⟩:=ok.slot j s e;rw[J] at D;cases D;exact I (h.owns o)
variable{α:Type}
def zpt{N:List α}(D:N.Nodup){x:α}(a:N[i]?=some x)(b:N[j]?=some x):i=j:=by
 obtain⟨h1,I⟩:=aj.mp a;obtain⟨h2,J⟩:=aj.mp b;exact(List.getElem_inj D).mp (I.trans J.symm)
theorem oy{xs:List α}{x y:α}(h:(xs.set i x)[j]?=some y):(i=j/\y=x/\i<xs.length)\/(i≠j/\xs[j]?=some y):=by
 by_cases D:i=j
 ·subst D
  by_cases hi:i<xs.length
  ·rw[d8 hi] at h;cases h;exact .inl ⟨rfl,rfl,hi⟩
  ·rw[ce (by rw[dq];lia)] at h;cases h
 ·rw[dh D] at h;exact .inr ⟨D,h⟩
def Ok.put(ok:Ok K G H0 W env σ H)(h:SlOk K G W H s v)(b:∀(j:Nat) (s':Sl) (c:V) (a:Addr),env[j]?=some (some s')->σ[j]?=some (some c)->Owns H s v a->¬Owns H s' c a) :
  Ok K G H0 W (env.set i (some s)) (σ.set i (some v)) H:=by
 refine⟨ok.stay,ok.good,ok.wl,λj sl e=>?_,λj k d s2 v1 v2 a U f D I Y Z=>?_,by rw[dq,dq,ok.len]⟩
 ·rcases oy e with⟨rfl,q,hi⟩ | ⟨hj,q⟩
  ·cases q
   exact⟨v,d8 (by rw[<-ok.len];exact hi),h⟩
  ·obtain⟨u,U,r⟩:=ok.slot j sl q
   exact⟨u,by rw[dh hj];exact U,r⟩
 ·rcases oy U with⟨a1,b1,c1⟩ | ⟨a1,b1⟩ <;> rcases oy f with⟨J,R,g⟩ | ⟨J,R⟩
  ·rw[<-a1,<-J]
  ·subst a1
   cases b1;rw[d8 (by rw[<-ok.len];exact c1)] at D;cases D;rw[dh J] at I;exact absurd Z (b k s2 v2 a R I Y)
  ·subst J
   cases R;rw[d8 (by rw[<-ok.len];exact g)] at I;cases I;rw[dh a1] at D;exact absurd Y (b j d v1 a b1 D Z)
  ·rw[dh a1] at D
   rw[dh J] at I;exact ok.uniq j k d s2 v1 v2 a b1 R D I Y Z
def Ok.set(ok:Ok K G H0 W env σ H)(r:Rep K H (Ow G W) d v):Ok K G H0 W (env.set i (some (.sh d))) (σ.set i (some v)) H :=
 ok.put (s:=.sh d) r λ_ _ _ _ _ _ o=>o.elim
def Ok.setO(ok:Ok K G H0 W env σ H)(D:W l)(I:H l=some (.lst vs))(r:Reps K H (Ow G W) ds vs)(J:∀(j:Nat) (s:Sl) (v:V),env[j]?=some (some s)->σ[j]?=some (some v)->¬Owns H s v l) :
  Ok K G H0 W (env.set i (some (.ow ds))) (σ.set i (some (.ref l))) H :=
 ok.put (s:=.ow ds) ⟨l,vs,rfl,D,I,r⟩ λj s' R a e U o=>by
  have:l=a:=by have o:V.ref l=V.ref a:=o;simpa using o
  subst this;exact J j s' R e U
def Ok.let(ok:Ok K G H0 W env σ H)(e:env[i]?=some (some s))(V:σ[i]?=some (some v))(W':Addr->Prop)(I:∀a,W' a↔W a/\¬Owns H s v a)(r:Rep K H (Ow G W') d v) :
  Step W H W' H/\Ok K G H0 W' (env.set i (some (.sh d))) σ H:=by
 have st:Step W H W' H:=⟨λb o q _=>q,λa z=>.inl ((I a).mp z).1⟩;refine⟨st,⟨ok.stay,ok.good,λa z=>ok.wl a ((I a).mp z).1,λj sl q=>?_,λj k f s2 v1 v2 a g J l m Y Z=>?_,by rw[dq,ok.len]⟩⟩
 ·rcases oy q with⟨rfl,D,_⟩ | ⟨hj,D⟩
  ·cases D
   exact⟨v,V,r⟩
  ·obtain⟨u,c,h⟩:=ok.slot j sl D
   exact⟨u,c,ok.slstep st h λa vs o J=>⟨(I a).mpr ⟨h.owns o,λz=>hj (ok.uniq i j s sl v u a e D V c z o)⟩,J⟩⟩
 ·rcases oy g with⟨_,R,_⟩ | ⟨a1,R⟩
  ·cases R;exact Y.elim
  ·rcases oy J with⟨_,U,_⟩ | ⟨a2,U⟩
   ·cases U;exact Z.elim
   ·exact ok.uniq j k f s2 v1 v2 a R U l m Y Z
def Ok.share(ok:Ok K G H0 W env σ H)(e:env[i]?=some (some (.ow ds))) :
  ∃W' v,σ[i]?=some (some v)/\Step W H W' H/\Ok K G H0 W' (env.set i (some (.sh (.lst ds)))) σ H/\Rep K H (Ow G W') (.lst ds) v:=by
 obtain⟨v,I,l,vs,rfl,R,U,r⟩:=ok.slot i _ e;have J:Rep K H (Ow G λa=>W a/\¬Owns H (.ow ds) (.ref l) a) (.lst ds) (.ref l) :=
  .lst ⟨ok.good l (ok.wl l R).1,λz=>z.2 rfl⟩ (.inl U) (r.mono (λ_ _ h=>h) λa us o h=>⟨⟨o.1,λz=>o.2 z.1⟩,h⟩)
 obtain⟨st,D⟩:=ok.let e I _ (λa=>Iff.rfl) J;exact⟨_,.ref l,I,st,D,J⟩
def zpu:∀ {dss:List mu} {ls:kb},Inn K G W H dss ls->(∀a,a∈ls->W a->G a/\¬W' a)->(∀ds vs,Reps K H (Ow G W) ds vs->Reps K H (Ow G W') ds vs)->Reps K H (Ow G W') (dss.map D.lst) (ls.map V.ref)
 | [],[],_,_,_=>.nil
 | ds::dss,a::ls,h,g,r=>by
   obtain⟨R,vs,U,Y⟩:=h.2 0 ds a rfl rfl;refine .cons (.lst (g a bu R) (.inl U) (r _ _ Y)) (zpu (dss:=dss) (ls:=ls) ⟨Nat.succ.inj h.1,λj ds' I Z b=>h.2 (j+1) ds' I (by simpa using Z) (by simpa using b)⟩ (λI J=>g I (ay _ J)) r)
variable{dss:List mu}
def Ok.share2(ok:Ok K G H0 W env σ H)(e:env[i]?=some (some (.o2 dss))) :
  ∃W' v,σ[i]?=some (some v)/\Step W H W' H/\Ok K G H0 W' (env.set i (some (.sh (.lst (dss.map D.lst))))) σ H/\Rep K H (Ow G W') (.lst (dss.map D.lst)) v:=by
 obtain⟨v,J,l,ls,rfl,V,R,b,hi⟩:=ok.slot i _ e;have U:Rep K H (Ow G λa=>W a/\¬Owns H (.o2 dss) (.ref l) a) (.lst (dss.map D.lst)) (.ref l) :=
  .lst ⟨ok.good l (ok.wl l V).1,λz=>z.2 (.inl rfl)⟩ (.inl R) (zpu hi (λa Y Z=>⟨ok.good a (ok.wl a Z).1,λz=>z.2 (.inr ⟨l,ls,rfl,R,Y⟩)⟩) λds vs r=>r.mono (λ_ _ h=>h) λa us o h=>⟨⟨o.1,λz=>o.2 z.1⟩,h⟩)
 obtain⟨st,I⟩:=ok.let e J _ (λa=>Iff.rfl) U;exact⟨_,.ref l,J,st,I,U⟩
def Ok.chg(ok:Ok K G H0 W env σ H){s':Sl}(J:Mo)(e:env[i]?=some (some s))(g:σ[i]?=some (some v))(w:Owns H s v a)(x:SlOk K G W (upd H a J.out) s' v)(r:∀b,Owns (upd H a J.out) s' v b->Owns H s v b):Ok K G H0 W (env.set i (some s')) σ (upd H a J.out)/\Step W H W (upd H a J.out):=by
 have Z:W a:=by obtain⟨M,c,h⟩:=ok.slot i s e;rw[g] at c;cases c;exact h.owns w
 have st:Step W H W (upd H a J.out):=⟨λb o q n=>by rw[gx (λz:b=a=>n (by rw[z];exact Z))];exact q,λb z=>.inl z⟩;have t:∀ {j:Nat} {sl:Sl} {u:V} {b:Addr},i≠j->env[j]?=some (some sl)->σ[j]?=some (some u)->Owns H sl u b->b≠a:=λ{j sl u b} hj q D o z=>by
  subst z;exact hj (ok.uniq i j s sl v u b e q g D w o)
 have bk:∀ {j:Nat} {sl:Sl} {u:V} {b:Addr},i≠j->env[j]?=some (some sl)->σ[j]?=some (some u)->Owns (upd H a J.out) sl u b->Owns H sl u b:=λ{j sl u b} hj q D o=>by
  obtain⟨N,R,h⟩:=ok.slot j sl q;rw[D] at R;cases R;cases sl with
  | sh d=>exact o.elim
  | ow ds=>exact o
  | o2 dss=>exact h.back (λl U _ vs Y=>by rw[gx (t hj q D (.inl U))];exact Y) o
  | ag k p ps=>exact h.back (λl U _ vs Y=>by rw[gx (t hj q D (.inl U))];exact Y) o
  | al _ _=>exact o.elim
  | ro _ _=>exact o.elim
 refine⟨⟨λb o q=>?_,ok.good,λb z=>?_,λj sl q=>?_,λj k O s2 v1 v2 b D R U Y y o2=>?_,by rw[dq,ok.len]⟩,st⟩
 ·rw[gx (λz=>by rw[z,(ok.wl a Z).1] at q;cases q)];exact ok.stay b o q
 ·obtain⟨q,us,r⟩:=ok.wl b z
  by_cases h:b=a
  ·exact⟨q,J,by rw[h,kl]⟩
  ·exact⟨q,us,by rw[gx h];exact r⟩
 ·rcases oy q with⟨rfl,I,_⟩ | ⟨hj,I⟩
  ·cases I
   exact⟨v,g,x⟩
  ·obtain⟨u,c,h⟩:=ok.slot j sl I
   exact⟨u,c,ok.slstep st h λb vs o R=>⟨h.owns o,by rw[gx (t hj I c o)];exact R⟩⟩
 ·have back:∀ {m:Nat} {sl:Sl} {u:V},(env.set i (some s'))[m]?=some (some sl)->σ[m]?=some (some u)->Owns (upd H a J.out) sl u b->∃f,env[m]?=some (some f)/\Owns H f u b:=λ{m sl u} q D o=>by
   rcases oy q with⟨rfl,I,_⟩ | ⟨hj,I⟩
   ·cases I
    rw[g] at D;cases D;exact⟨s,e,r b o⟩
   ·exact⟨sl,I,bk hj I D o⟩
  obtain⟨A,B,C⟩:=back D U y;obtain⟨E,F,L⟩:=back R Y o2;exact ok.uniq j k A E v1 v2 b B F U Y C L
variable{ds':mu}{vs':l0}
def Ok.turn(ok:Ok K G H0 W env σ H)(e:env[i]?=some (some (.ow ds)))(I:σ[i]?=some (some (.ref l)))(r:Reps K H (Ow G W) ds' vs') :
  Ok K G H0 W (env.set i (some (.ow ds'))) σ (upd H l (.lst vs'))/\Step W H W (upd H l (.lst vs')):=by
 obtain⟨v,D,l',vs,rfl,J,R,_⟩:=ok.slot i _ e;rw[I] at D;cases D;have st:Step W H W (upd H l (.lst vs')):=⟨λb o q n=>by rw[gx (λz:b=l=>n (by rw[z];exact J))];exact q,λb z=>.inl z⟩;exact ok.chg (.l vs') e I (show Owns H (.ow ds) (.ref l) l from rfl) ⟨l,vs',rfl,J,kl,ok.reps st r⟩ λb o=>o
def Ok.turn2(ok:Ok K G H0 W env σ H)(e:env[i]?=some (some (.o2 dss)))(p:σ[i]?=some (some (.ref l)))(U:H l=some (.lst (ls.map V.ref)))(t:dss[j]?=some ds)(Y:ls[j]?=some a)(r:Reps K H (Ow G W) ds' vs'):Ok K G H0 W (env.set i (some (.o2 (dss.set j ds')))) σ (upd H a (.lst vs'))/\Step W H W (upd H a (.lst vs')):=by
 obtain⟨v,D,l',c,rfl,u,I,d,hi⟩:=ok.slot i _ e;rw[p] at D;cases D;rw[U] at I;have:=wg (by simpa using I);subst this;have s:a∈ls:=bf Y;have J:W a:=(hi.2 j ds a t Y).1;have st:Step W H W (upd H a (.lst vs')):=⟨λb o q n=>by rw[gx (λz:b=a=>n (by rw[z];exact J))];exact q,λb z=>.inl z⟩;have f:l≠a:=λz=>by subst z;exact(b7.mp d).1 s
 have R:upd H a (.lst vs') l=some (.lst (ls.map V.ref)):=by rw[gx f];exact U
 refine ok.chg (.l vs') e p (.inr ⟨l,ls,rfl,U,s⟩) ⟨l,ls,rfl,u,R,d,by rw[dq];exact hi.1,λk es b w Z=>?_⟩ λb o=>?_
 ·rcases oy w with⟨rfl,z,_⟩ | ⟨hk,q'⟩
  ·cases z
   rw[Y] at Z;cases Z;exact⟨J,vs',kl,ok.reps st r⟩
  ·obtain⟨g,us,h,x⟩:=hi.2 k es b q' Z
   refine⟨g,us,?_,ok.reps st x⟩;have m:b≠a:=λz=>hk (by
    subst z;exact zpt (b7.mp d).2 Y Z)
   rw[gx m];exact h
 ·rcases o with o | ⟨l',c,z,q,h⟩
  ·exact .inl o
  ·cases z
   rw[R] at q;have:=wg (by simpa using q);subst this;exact .inr ⟨l,ls,rfl,U,h⟩
def PtsOk.get(h:PtsOk K G W H ps as us)(e:ps[j]?=some (.o ds)):∃a vs,us[j]?=some (.ref a)/\a∈as/\W a/\H a=some (.lst vs)/\Reps K H (Ow G W) ds vs:=by
 induction h generalizing j with
 | nil=>simp at e
 | d _ _ ih =>
   cases j with
   | zero=>simp at e
   | succ j=>obtain⟨a,vs,h1,h2⟩:=ih (j:=j) (by simpa using e);exact⟨a,vs,by simpa using h1,h2⟩
 | @o _ a vs _ _ _ hW hl r _ ih =>
   cases j with
   | zero=>simp at e;subst e;exact⟨a,vs,rfl,bu,hW,hl,r⟩
   | succ j=>obtain⟨a,vs,h1,h2,D⟩:=ih (j:=j) (by simpa using e);exact⟨a,vs,by simpa using h1,ay _ h2,D⟩
def PtsOk.getD(h:PtsOk K G W H ps as us)(e:ps[j]?=some (.d d)):∃v,us[j]?=some v/\Rep K H (Ow G W) d v:=by
 induction h generalizing j with
 | nil=>simp at e
 | d q _ ih =>
   cases j with
   | zero=>simp at e;subst e;exact⟨_,rfl,q⟩
   | succ j=>obtain⟨a,h1,h2⟩:=ih (j:=j) (by simpa using e);exact⟨a,by simpa using h1,h2⟩
 | o _ _ _ _ ih =>
   cases j with
   | zero=>simp at e
   | succ j=>obtain⟨a,h1,h2⟩:=ih (j:=j) (by simpa using e);exact⟨a,by simpa using h1,h2⟩
def PtsOk.set(st:Step W H W (upd H a (.lst vs')))(ok:Ok K G H0 W env σ H)(h:PtsOk K G W H ps as us)(I:as.Nodup)(e:ps[j]?=some (.o ds))(D:us[j]?=some (.ref a))(r:Reps K H (Ow G W) ds' vs') :
  PtsOk K G W (upd H a (.lst vs')) (ps.set j (.o ds')) as us:=by
 induction h generalizing j with
 | nil=>simp at e
 | d q t ih =>
   cases j with
   | zero=>simp at e
   | succ j=>exact .d (ok.rep st q) (ih I (by simpa using e) (by simpa using D))
 | @o es b vs ps' as' us' hW hl q t ih =>
   cases j with
   | zero =>
     simp at D;subst D;refine .o hW kl (ok.reps st r) (t.step (λb vs J D=>⟨(t.own J).1,?_⟩) (λ_ _ r=>ok.rep st r) λ_ _ r=>ok.reps st r);rw[gx (λz:b=_=>by subst z;exact(b7.mp I).1 J)];exact D
   | succ j =>
     have R:a∈as':=t.parts_iff.mp ⟨j,ds,e,D⟩;have U:b≠a:=λz=>by subst z;exact(b7.mp I).1 R
     exact .o hW (by rw[gx U];exact hl) (ok.reps st q) (ih (b7.mp I).2 e D)
variable{b:Expr}
def zw8{b:Addr}(e:ps[j]?=some (.o ds))(h:zzu (ps.set j (.o ds')) us b):zzu ps us b:=by
 obtain⟨i,es,h1,h2⟩:=h;rcases oy h1 with⟨rfl,_,_⟩ | ⟨_,z⟩
 ·exact⟨j,ds,e,h2⟩
 ·exact⟨i,es,z,h2⟩
variable{r:Option Nat}
def Ok.turnP(ok:Ok K G H0 W env σ H)(e:env[i]?=some (some (.ag k r ps)))(h:σ[i]?=some (some (.ref p)))(J:AkOk K H k p us)(R:ps[j]?=some (.o ds))(U:us[j]?=some (.ref a))(t:Reps K H (Ow G W) ds' vs') :
  Ok K G H0 W (env.set i (some (.ag k r (ps.set j (.o ds'))))) σ (upd H a (.lst vs'))/\Step W H W (upd H a (.lst vs')):=by
 obtain⟨v,D,p',as,V,rfl,u,Y,w,Z,c⟩:=ok.slot i _ e;rw[h] at D;cases D;have:=xj Z J.o;subst this;have s:a∈as:=c.parts_iff.mp ⟨j,ds,R,U⟩;have d:=(c.own s).1;have st:Step W H W (upd H a (.lst vs')):=⟨λb o q n=>by rw[gx (λz:b=a=>n (by rw[z];exact d))];exact q,λb z=>.inl z⟩;have f:p≠a:=λz=>by subst z;exact(b7.mp Y).1 s
 have g:=PtsOk.set st ok c (b7.mp Y).2 R U t;obtain⟨m,x,y⟩:=J.mo;have I:AkOk K (upd H a (.lst vs')) k p us:=y _ (by rw[gx f];exact x);refine ok.chg (.l vs') e h (.inr ⟨p,us,rfl,J.o,j,ds,R,U⟩) ⟨p,as,us,rfl,u,Y,w,I,g⟩ λb o=>?_;rcases o with o | ⟨p',V,z,q,hb⟩
 ·exact .inl o
 ·cases z
  rw[xj I q] at hb;exact .inr ⟨p,us,rfl,J.o,zw8 R hb⟩
def Ok.turnD(ok:Ok K G H0 W env σ H){d':D}{I:V}(e:env[i]?=some (some (.ag .ls r ps)))(s:σ[i]?=some (some (.ref p)))(u:H p=some (.lst us))(x:ps[j]?=some (.d d))(y:Rep K H (Ow G W) d' I) :
  Ok K G H0 W (env.set i (some (.ag .ls r (ps.set j (.d d'))))) σ (upd H p (.lst (us.set j I)))/\Step W H W (upd H p (.lst (us.set j I))):=by
 obtain⟨v,U,p',as,R,rfl,Z,w,A,J,f⟩:=ok.slot i _ e;rw[s] at U;cases U;have J:H p=some (.lst R):=J;rw[u] at J;cases J;have st:Step W H W (upd H p (.lst (us.set j I))):=⟨λb o q n=>by rw[gx (λz:b=p=>n (by rw[z];exact Z))];exact q,λb z=>.inl z⟩;have g:=ok.rep st y;have k:PtsOk K G W (upd H p (.lst (us.set j I))) ps as us:=f.step (λb vs a B=>⟨(f.own a).1,by rw[gx (λz:b=p=>by subst z;exact(b7.mp w).1 a)];exact B⟩) (λ_ _ r=>ok.rep st r) λ_ _ r=>ok.reps st r;have go:∀ {c:mx} {bs:kb} {ws:l0} (m:Nat),PtsOk K G W (upd H p (.lst (us.set j I))) c bs ws->c[m]?=some (.d d)->PtsOk K G W (upd H p (.lst (us.set j I))) (c.set m (.d d')) bs (ws.set m I):=by
  intro c bs ws m h;induction h generalizing m with
  | nil=>intro e;simp at e
  | d q t ih =>
    intro e;cases m with
    | zero=>exact .d g t
    | succ m=>exact .d q (ih m (by simpa using e))
  | o Z hl q t ih =>
    intro e;cases m with
    | zero=>simp at e
    | succ m=>exact .o Z hl q (ih m (by simpa using e))
 have Y:=go j k x;refine ok.chg (.l (us.set j I)) e s (.inl rfl) ⟨p,as,us.set j I,rfl,Z,w,A,kl,Y⟩ λb o=>?_;rcases o with o | ⟨p',R,z,q,a⟩
 ·exact .inl o
 ·cases z
  have q:upd H p (.lst (us.set j I)) p=some (.lst R):=q;rw[kl] at q;cases q;exact .inr ⟨p,us,rfl,u,f.parts_iff.mpr (Y.parts_iff.mp a)⟩
structure At (X:Cx) (i:Nat) (x:Str):Prop where
 n:X.N[i]?=some x
 v:Vis X.env.scope x
 d:(x==("__debug__" : Str))=false
 c:(x==("__classdict__" : Str))=false
def At.pe(h:At X i x):PE X (.Name x pos) (tVar i):=z5t h.n h.v h.d h.c
structure To (X:Cx) (i:Nat) (x:Str):Prop where
 nd:X.N.Nodup
 n:X.N[i]?=some x
 l:Loc X.env.scope x
 f:X.fn x=true\/X.env.scope.names.lookup x=some .local
structure Bn (X:Cx) (x:Str):Prop where
 g:Gl X x
 m:X.mg x=none
structure Ats (N cs:ik) (X:Cx):Prop where
 n:X.N=N
 get:∀i x,N[i]?=some x->At X i x
 ck:∀u∈cs,X.env.kindOf u=some .cell\/X.env.kindOf u=some .free
structure Tos (N:ik) (X:Cx):Prop where
 to:∀i x,N[i]?=some x->To X i x
variable{N cs:ik}
protected def Ats.a(h:Ats N cs X)(e:N[i]?=some x):At X i x:=h.get i x e
protected def Tos.t(h:Tos N X)(e:N[i]?=some x):To X i x:=h.to i x e
def Ats.nox(h:Ats N cs X):Ats N cs X.nox:=⟨h.n,λi x e=>let z:=h.get i x e;⟨z.n,z.v,z.d,z.c⟩,h.ck⟩
def Tos.nox(h:Tos N X):Tos N X.nox:=⟨λi x e=>let z:=h.to i x e;⟨z.nd,z.n,z.l,z.f⟩⟩
def okN(x:Str):Bool:=!(x==("__debug__" : Str)) && !(x==("__classdict__" : Str))
def t6(h:okN x=true):(x==("__debug__" : Str))=false/\(x==("__classdict__" : Str))=false:=by
 unfold okN at h;rwa [dw,lc,lc] at h
def vk{o:Option NameKind}{k:NameKind}(h:(o==some k)=true):o=some k:=by
 cases o with
 | none=>cases h
 | some a=>cases a <;> cases k <;> first | rfl | cases h
def subN(N:ik)(ix:kf):ik:=ix.map λi=>N.getD i ("" : Str)
def qv(N cs:ik)(ix:kf)(y:Str)(sc:Scope):Bool:=decide ((y::subN N ix).Nodup) && decide (sc.kind=.function) && (sc.names.lookup y==some .local) && decide (∀z∈sc.names,z.2≠.cell) && decide (∀z∈sc.names,z.2=.local->sc.names.lookup z.1=some .local) && decide (∀z∈sc.names,z.2=.free->z.1∈subN N ix) && (subN N ix).all (λu=>(sc.names.lookup u==some .free) && cs.elem u) && (y::subN N ix).all okN
def gl_d(h:X.env.scope.names.lookup x=some .globalImplicit):Gl X x:=h
variable{s:Shared}{C:Addr}
def z6v(h:sc.names.lookup x=some .local):Vis (jd X y N' sc cl C s H fp).env.scope x:=.inl (lookup_relabel_local h)
def z6w(h:sc.names.lookup x=some .free):Vis (jd X y N' sc cl C s H fp).env.scope x:=.inr (zc1 h)
def wb(hA:Ats N cs X)(h:qv N cs ix y sc=true):zw7 X y (subN N ix) ix sc:=by
 unfold qv at h;simp only[dw,decide_eq_true_eq,gv] at h;obtain⟨⟨⟨⟨⟨⟨⟨h1,h2⟩,I⟩,J⟩,R⟩,U⟩,D⟩,_⟩:=h;exact⟨by rw[hA.n];rfl,h1,h2,vk I,J,R,λz V Y=>hA.ck z.1 (List.mem_of_elem_eq_true (D z.1 (U z V Y)).2),λu Z=>vk (D u Z).1⟩
variable{s₂:Shared}{H₂:Hp}
def ud(h:qv N cs ix y sc=true):Ats (y::subN N ix) (subN N ix) (jd X y (subN N ix) sc cl C s₂ H₂ fp):=by
 unfold qv at h;simp only[dw,decide_eq_true_eq,gv] at h;obtain⟨⟨⟨⟨⟨⟨⟨h1,h2⟩,J⟩,U⟩,V⟩,Y⟩,D⟩,I⟩:=h;refine⟨rfl,λi x e=>⟨e,?_,(t6 (I x (bf e))).1,(t6 (I x (bf e))).2⟩,λu R=>?_⟩
 ·rcases b8.mp (bf e) with rfl | hm
  ·exact z6v (vk J)
  ·exact z6w (vk (D x hm).1)
 ·exact zc1 (env:=X.env) (vk (D u R).1)
abbrev FE:=DE0->Option (D×DE0)
abbrev FT:=DE0->Option (Bool×DE0)
abbrev FA:=DE0->Option (mu×DE0)
inductive DP (K:ll) (G:Gd) (H0:Hp) {β:Type} (f:DE0->Option (β×DE0)) (P:(Addr->Prop)->DE0->β->DE0->Prop) (σ:St) (H:Hp):Prop
 | mk (W:Addr->Prop) (env:DE0) (d:β) (env':DE0) (ok:Ok K G H0 W env σ H) (q:f env=some (d,env')) (k:P W env d env'):DP K G H0 f P σ H
def tD(K:ll)(G:Gd)(H0:Hp)(f:FE):TE:=λσ H Q=>DP K G H0 f (λW env d env' =>
 ∀W' v H',Step W H W' H'->Ok K G H0 W' env' σ H'->Rep K H' (Ow G W') d v->Q v H') σ H
def tDT(K:ll)(G:Gd)(H0:Hp)(f:FT):TT:=λσ H Q=>DP K G H0 f (λW env b env' =>
 ∀W' H',Step W H W' H'->Ok K G H0 W' env' σ H'->Q b H') σ H
def tDA(K:ll)(G:Gd)(H0:Hp)(f:FA):TA:=λσ H Q=>DP K G H0 f (λW env ds env' =>
 ∀W' vs H',Step W H W' H'->Ok K G H0 W' env' σ H'->Reps K H' (Ow G W') ds vs->Q vs H') σ H
def tDF(K:ll)(G:Gd)(H0:Hp)(f:FA):TE:=λσ H Q=>DP K G H0 f (λW env ds env' =>
 ∀W' l vs H',Step W H (addW W' l) H'->Ok K G H0 W' env' σ H'->Ok K G H0 (addW W' l) env' σ H'->¬W' l->H' l=some (.lst vs)->Reps K H' (Ow G (addW W' l)) ds vs->Q (.ref l) H') σ H
structure DEx (X:Cx) (G:Gd) (H0:Hp) (e:Expr) (f:FE):Prop where
 out:PE X e (tD X.K G H0 f)
structure DTx (X:Cx) (G:Gd) (H0:Hp) (e:Expr) (f:FT):Prop where
 out:PT X e (tDT X.K G H0 f)
structure DAx (X:Cx) (G:Gd) (H0:Hp) (es:k8) (f:FA):Prop where
 out:PA X es (tDA X.K G H0 f)
structure DFx (X:Cx) (G:Gd) (H0:Hp) (e:Expr) (f:FA):Prop where
 out:PE X e (tDF X.K G H0 f)
variable{e:Expr}{t:TE}
def PE.imp{t':TE}(h:PE X e t)(i:∀σ H Q,t' σ H Q->t σ H Q):PE X e t':=λpins s σ H Q I q=>h pins s σ H Q I (i σ H Q q)
def PT.imp{t t':TT}(h:PT X e t)(i:∀σ H Q,t' σ H Q->t σ H Q):PT X e t':=λpins s σ H Q I q=>h pins s σ H Q I (i σ H Q q)
def PA.imp{e:k8}{t t':TA}(h:PA X e t)(i:∀σ H Q,t' σ H Q->t σ H Q):PA X e t':=λpos pins s σ H Q I q=>h pos pins s σ H Q I (i σ H Q q)
@[simp] noncomputable def fVar(i:Nat):FE:=λe=>match e[i]? with
 | some (some (.sh d))=>some (d,e)
 | some (some (.ow ds))=>some (.lst ds,e.set i (some (.sh (.lst ds))))
 | some (some (.o2 dss))=>some (.lst (dss.map D.lst),e.set i (some (.sh (.lst (dss.map D.lst)))))
 | _=>none
@[simp] noncomputable def fC(d:D):FE:=λe=>some (d,e)
@[simp] noncomputable def fBin(op:D->D->mv)(f g:FE):FE:=λe=>(f e).bind λr=>(g r.2).bind λq=>(op r.1 q.1).map λd=>(d,q.2)
@[simp] noncomputable def fUn(op:D->mv)(f:FE):FE:=λe=>(f e).bind λr=>(op r.1).map λd=>(d,r.2)
@[simp] noncomputable def fAnd(f g:FT):FT:=λe=>(f e).bind λr=>if r.1=true then g r.2 else some (false,r.2)
@[simp] noncomputable def fOr(f g:FT):FT:=λe=>(f e).bind λr=>if r.1=true then some (true,r.2) else g r.2
@[simp] noncomputable def fNot(f:FT):FT:=λe=>(f e).map λr=>(!r.1,r.2)
@[simp] noncomputable def fTst(f:FE):FT:=λe=>(f e).bind λr=>match r.1 with | .bl b=>some (b,r.2) | _=>none
@[simp] noncomputable def ur(f g:FE):FE:=λe=>(f e).bind λr=>match r.1 with | .bl true=>g r.2 | .bl false=>some (.bl false,r.2) | _=>none
@[simp] noncomputable def z3n(f:FE):FE:=λe=>(f e).bind λr=>match r.1 with | .bl b=>some (.bl (!b),r.2) | _=>none
@[simp] noncomputable def fNil:FA:=λe=>some ([],e)
@[simp] noncomputable def ao(f:FE)(g:FA):FA:=λe=>(f e).bind λr=>(g r.2).bind λq=>some (r.1::q.1,q.2)
@[simp] noncomputable def fTup(g:FA):FE:=λe=>(g e).bind λr=>if r.1.length<=64 then some (.tup r.1,r.2) else none
@[simp] noncomputable def fu(g:FA):FA:=λe=>(g e).bind λr=>if r.1.length<=64 then some (r.1,r.2) else none
@[simp] noncomputable def fLst(g:FA):FE:=λe=>(g e).map λr=>(.lst r.1,r.2)
@[simp] noncomputable def gn:D->D->mv | .int i,.int j=>some (.int (i+j)) | _,_=>none
@[simp] noncomputable def dSub:D->D->mv | .int i,.int j=>some (.int (i-j)) | _,_=>none
def ly(i:Int):Prop:=-(2 ^ 64)<i/\i<2 ^ 64
noncomputable instance (i:Int):Decidable (ly i):=Classical.propDecidable _
def Few(n:Nat):Prop:=n<=2 ^ 20
noncomputable instance (n:Nat):Decidable (Few n):=Classical.propDecidable _
def Bnd(lo hi i:Int):Prop:=lo<=i/\i<hi
noncomputable instance (lo hi i:Int):Decidable (Bnd lo hi i):=Classical.propDecidable _
def dMul:D->D->mv | .int i,.int j=>if ly i\/ly j then some (.int (i*j)) else none | _,_=>none
def dMod:D->D->mv | .int i,.int j=>if 0<j then some (.int (i % j)) else none | _,_=>none
def dDiv:D->D->mv | .int i,.int j=>if Bnd 1 1073741824 j then some (.int (i / j)) else none | _,_=>none
@[simp] noncomputable def dNeg:D->mv | .int i=>some (.int (-i)) | _=>none
@[simp] noncomputable def dLt:D->D->mv | .int i,.int j=>some (.bl (decide (i<j))) | _,_=>none
@[simp] noncomputable def dLe:D->D->mv | .int i,.int j=>some (.bl (decide (i<=j))) | _,_=>none
@[simp] noncomputable def dGt:D->D->mv | .int i,.int j=>some (.bl (decide (j<i))) | _,_=>none
@[simp] noncomputable def dGe:D->D->mv | .int i,.int j=>some (.bl (decide (j<=i))) | _,_=>none
@[simp] noncomputable def dEq:D->D->mv
 | .int i,.int j=>some (.bl (decide (i=j))) | .str i,.str j=>some (.bl (decide (i=j))) | .bl i,.bl j=>some (.bl (decide (i=j))) | _,_=>none
@[simp] noncomputable def dNe:D->D->mv
 | .int i,.int j=>some (.bl (!decide (i=j))) | .str i,.str j=>some (.bl (!decide (i=j))) | .bl i,.bl j=>some (.bl (!decide (i=j))) | _,_=>none
@[simp] noncomputable def dIx:D->D->mv | .tup ds,.int i=>atI ds i | .lst ds,.int i=>atI ds i | _,_=>none
def OpD(X:Cx)(G:Gd)(H0:Hp)(r:R2)(op:D->D->mv):Prop :=
 ∀W env σ H x y d1 d2 d (Q:VK),Ok X.K G H0 W env σ H->Rep X.K H (Ow G W) d1 x->Rep X.K H (Ow G W) d2 y->op d1 d2=some d ->
  (∀v H',Step W H W H'->Ok X.K G H0 W env σ H'->Rep X.K H' (Ow G W) d v->Q v H')->r x y H Q
variable{r:R2}{op:D->D->mv}{g:FE}
def zzv(U:OpD X G H0 r op):∀σ H Q,tD X.K G H0 (fBin op f g) σ H Q->tOp r (tD X.K G H0 f) (tD X.K G H0 g) σ H Q:=by
 rintro σ H Q ⟨W,env,d,env',ok,e,k⟩;cases e1:f env with
 | none=>simp[e1] at e
 | some r1 =>
   cases e2:g r1.2 with
   | none=>simp[e1,e2] at e
   | some r2 =>
     have e:(op r1.1 r2.1).map (λd=>(d,r2.2))=some (d,env'):=by simpa[fBin,e1,e2] using e
     cases e3:op r1.1 r2.1 with
     | none=>rw[e3] at e;cases e
     | some d' =>
       rw[e3] at e;have V:(d',r2.2)=(d,env'):=bn e;cases V;refine⟨W,env,r1.1,r1.2,ok,e1,λW1 v1 H1 Y D p1=>⟨W1,r1.2,r2.1,r2.2,D,e2,λR v2 H2 s2 I p2=>?_⟩⟩;exact U R _ σ H2 v1 v2 _ _ _ Q I (D.rep s2 p1) p2 e3 λv Z a J b=>k R v Z ((Y.trans s2).trans a) J b
variable{a:Expr}{p:D->D->mv}
def xi{op:Operator}(D:OpR X (binaryOp op) r)(I:OpD X G H0 r p)(J:DEx X G H0 a f)(R:DEx X G H0 b g):DEx X G H0 (.BinOp a op b pos) (fBin p f g) :=
 ⟨(z25 D J.out R.out).imp (zzv I)⟩
def z15{op:CmpOp}(D:OpR X (compareOp op) r)(I:OpD X G H0 r p)(J:DEx X G H0 a f)(R:DEx X G H0 b g)(U:behindInMarks op b=false):DEx X G H0 (.Compare a [op] [b] pos) (fBin p f g) :=
 ⟨(z27 D J.out R.out U).imp (zzv I)⟩
def z6x(D:IxR X r)(I:OpD X G H0 r p)(J:DEx X G H0 a f)(R:DEx X G H0 b g)(U:uw b):DEx X G H0 (.Subscript a b pos) (fBin p f g) :=
 ⟨(wv D J.out R.out U).imp (zzv I)⟩
def z6y(h:∀σ H Q,tD X.K G H0 f σ H Q->t σ H Q):∀σ H Q,tDT X.K G H0 (fTst f) σ H Q->z6h t σ H Q:=by
 rintro σ H Q ⟨W,env,b,env',ok,e,k⟩;refine h σ H _ ?_;cases e1:f env with
 | none=>simp[e1] at e
 | some r1 =>
   obtain⟨d,D⟩:=r1;cases d with
   | bl b' =>
     have e:some (b',D)=some (b,env'):=by simpa[fTst,e1] using e
     cases e;exact⟨W,env,_,_,ok,e1,λW1 v1 H1 J I p1=>⟨_,p1.bl_,k W1 H1 J I⟩⟩
   | _=>simp[e1] at e
def yq{op:CmpOp}(D:OpR X (compareOp op) r)(I:OpD X G H0 r p)(J:DEx X G H0 a f)(R:DEx X G H0 b g)(U:behindInMarks op b=false):DTx X G H0 (.Compare a [op] [b] pos) (fTst (fBin p f g)) :=
 ⟨(z28 D J.out R.out U).imp (z6y (zzv I))⟩
variable{g:Int->Int->Int}
def od_I{C:Int->Int->Prop}(h:∀D I d,op D I=some d->∃i j,D=.int i/\I=.int j/\C i j/\d=.int (g i j)):OpD X G H0 (rI C λi j=>.int (g i j)) op:=by
 intro W env σ H x y D I d Q ok p1 p2 e k;obtain⟨i,j,rfl,rfl,J,rfl⟩:=h _ _ _ e;exact⟨i,j,p1.int_,p2.int_,J,k _ H Step.refl ok (.int _)⟩
def z6z(h:∀D I d,op D I=some d->∃i j,D=.int i/\I=.int j/\d=.int (g i j)):OpD X G H0 (rI0 λi j=>.int (g i j)) op:=by
 intro W env σ H x y D I d Q ok p1 p2 e k;obtain⟨i,j,rfl,rfl,rfl⟩:=h _ _ _ e;exact⟨i,j,p1.int_,p2.int_,k _ H Step.refl ok (.int _)⟩
variable{g:FE}
def zzw{g:Int->Int->Bool}(h:∀D I d,op D I=some d->∃i j,D=.int i/\I=.int j/\d=.bl (g i j)):OpD X G H0 (rI0 λi j=>.bl (g i j)) op:=by
 intro W env σ H x y D I d Q ok p1 p2 e k;obtain⟨i,j,rfl,rfl,rfl⟩:=h _ _ _ e;exact⟨i,j,p1.int_,p2.int_,k _ H Step.refl ok (.bl _)⟩
def z60:OpD X G H0 (rI0 λi j=>.int (i+j)) gn:=z6z λD I d e=>by
 cases D <;> try (cases e;done)
 all_goals cases I <;> first | (cases e;done) | exact⟨_,_,rfl,rfl,(bn e).symm⟩
def z61:OpD X G H0 (rI0 λi j=>.int (i-j)) dSub:=z6z λD I d e=>by
 cases D <;> try (cases e;done)
 all_goals cases I <;> first | (cases e;done) | exact⟨_,_,rfl,rfl,(bn e).symm⟩
def z62:OpD X G H0 (rI CMul λi j=>.int (i*j)) dMul:=od_I λD I d e=>by
 cases D <;> try (cases e;done)
 all_goals cases I <;> first
  | (cases e;done)
  | (rename_i i j
     by_cases h:ly i\/ly j
     ·simp only[dMul,if_pos h] at e;exact⟨_,_,rfl,rfl,h,(bn e).symm⟩
     ·simp only[dMul,if_neg h] at e;cases e)
def z63:OpD X G H0 (rI (λ_ j=>0<j) λi j=>.int (i % j)) dMod:=od_I λD I d e=>by
 cases D <;> try (cases e;done)
 all_goals cases I <;> first
  | (cases e;done)
  | (rename_i i j
     by_cases h:0<j
     ·simp only[dMod,if_pos h] at e;exact⟨_,_,rfl,rfl,h,(bn e).symm⟩
     ·simp only[dMod,if_neg h] at e;cases e)
theorem z64:OpD X G H0 (rI CDiv λi j=>.int (i / j)) dDiv:=od_I λD I d e=>by
 cases D <;> try (cases e;done)
 all_goals cases I <;> first
  | (cases e;done)
  | (rename_i i j
     by_cases h:Bnd 1 1073741824 j
     ·simp only[dDiv,if_pos h] at e;exact⟨_,_,rfl,rfl,⟨by have:=h.1;lia,h.2⟩,(bn e).symm⟩
     ·simp only[dDiv,if_neg h] at e;cases e)
def z9m:OpD X G H0 (rI0 λi j=>.bl (decide (i<j))) dLt:=zzw λD I d e=>by
 cases D <;> try (cases e;done)
 all_goals cases I <;> first | (cases e;done) | exact⟨_,_,rfl,rfl,(bn e).symm⟩
def z9n:OpD X G H0 (rI0 λi j=>.bl (decide (i<=j))) dLe:=zzw λD I d e=>by
 cases D <;> try (cases e;done)
 all_goals cases I <;> first | (cases e;done) | exact⟨_,_,rfl,rfl,(bn e).symm⟩
def z65:OpD X G H0 (rI0 λi j=>.bl (decide (j<i))) dGt:=zzw λD I d e=>by
 cases D <;> try (cases e;done)
 all_goals cases I <;> first | (cases e;done) | exact⟨_,_,rfl,rfl,(bn e).symm⟩
def z9o:OpD X G H0 (rI0 λi j=>.bl (decide (j<=i))) dGe:=zzw λD I d e=>by
 cases D <;> try (cases e;done)
 all_goals cases I <;> first | (cases e;done) | exact⟨_,_,rfl,rfl,(bn e).symm⟩
def z16(i j:Int):decide (V.int i=V.int j)=decide (i=j):=by simp
def z17(i j:Str):decide (V.str i=V.str j)=decide (i=j):=by simp
def z66(i j:Bool):decide (V.bl i=V.bl j)=decide (i=j):=by simp
def z67:OpD X G H0 rEq dEq:=by
 intro W env σ H x y D I d Q ok p1 p2 e k;cases D <;> try (cases e;done)
 all_goals cases I <;> first
  | (cases e;done)
  | (cases p1.int_;cases p2.int_;cases e;refine⟨rfl,?_⟩;rw[z16];exact k _ H Step.refl ok (.bl _))
  | (cases p1.str_;cases p2.str_;cases e;refine⟨rfl,?_⟩;rw[z17];exact k _ H Step.refl ok (.bl _))
  | (cases p1.bl_;cases p2.bl_;cases e;refine⟨rfl,?_⟩;rw[z66];exact k _ H Step.refl ok (.bl _))
def z9p:OpD X G H0 rNe dNe:=by
 intro W env σ H x y D I d Q ok p1 p2 e k;cases D <;> try (cases e;done)
 all_goals cases I <;> first
  | (cases e;done)
  | (cases p1.int_;cases p2.int_;cases e;refine⟨rfl,?_⟩;rw[z16];exact k _ H Step.refl ok (.bl _))
  | (cases p1.str_;cases p2.str_;cases e;refine⟨rfl,?_⟩;rw[z17];exact k _ H Step.refl ok (.bl _))
  | (cases p1.bl_;cases p2.bl_;cases e;refine⟨rfl,?_⟩;rw[z66];exact k _ H Step.refl ok (.bl _))
def yz{i:Int}(r:Reps K H O ds vs)(h:atI ds i=some d):∃v,atI vs i=some v/\Rep K H O d v:=by
 unfold atI at h ⊢;rw[<-r.length];cases q:ixN ds.length i with
 | none=>rw[q] at h;cases h
 | some j=>rw[q] at h;exact r.get h
def z9q:OpD X G H0 (rIx X.K) dIx:=by
 intro W env σ H x y J R d Q ok p1 p2 e k;cases J <;> first
  | (cases e;done)
  | (cases R <;> first
      | (cases e;done)
      | (cases p2
         first
          | (obtain⟨a, vs, rfl, h, r⟩ := p1.tup_
             obtain⟨v,D,I⟩:=yz r e;exact .inr (.inl ⟨a,vs,_,v,rfl,rfl,SqT.of h,D,k _ H Step.refl ok I⟩))
          | (obtain⟨a, vs, rfl, h, r⟩ := p1.lst_
             obtain⟨v,D,I⟩:=yz r e;exact .inl ⟨a,vs,_,v,rfl,rfl,h.sq,D,k _ H Step.refl ok I⟩)))
def j4(D:DEx X G H0 a f)(I:DEx X G H0 b g):DEx X G H0 (.BinOp a .Add b pos) (fBin gn f g):=xi z6a z60 D I
def j1(D:DEx X G H0 a f)(I:DEx X G H0 b g):DEx X G H0 (.BinOp a .Sub b pos) (fBin dSub f g):=xi z6b z61 D I
def oq(D:DEx X G H0 a f)(I:DEx X G H0 b g):DEx X G H0 (.BinOp a .Mult b pos) (fBin dMul f g):=xi z6c z62 D I
def nk(D:DEx X G H0 a f)(I:DEx X G H0 b g):DEx X G H0 (.BinOp a .Mod b pos) (fBin dMod f g):=xi z6d z63 D I
def t5(D:DEx X G H0 a f)(I:DEx X G H0 b g):DEx X G H0 (.BinOp a .FloorDiv b pos) (fBin dDiv f g):=xi z26 z64 D I
def z9r(D:DEx X G H0 a f)(I:DEx X G H0 b g):DEx X G H0 (.Compare a [.Gt] [b] pos) (fBin dGt f g):=z15 z6g z65 D I (vw _)
def z68(D:DEx X G H0 a f)(I:DEx X G H0 b g):DEx X G H0 (.Compare a [.Eq] [b] pos) (fBin dEq f g):=z15 z6f z67 D I (vw _)
def oa(D:DEx X G H0 a f)(I:DEx X G H0 b g):DTx X G H0 (.Compare a [.Lt] [b] pos) (fTst (fBin dLt f g)):=yq z9g z9m D I (vw _)
def z69(D:DEx X G H0 a f)(I:DEx X G H0 b g):DTx X G H0 (.Compare a [.LtE] [b] pos) (fTst (fBin dLe f g)):=yq z9h z9n D I (vw _)
def nh(D:DEx X G H0 a f)(I:DEx X G H0 b g):DTx X G H0 (.Compare a [.Gt] [b] pos) (fTst (fBin dGt f g)):=yq z6g z65 D I (vw _)
def yf(D:DEx X G H0 a f)(I:DEx X G H0 b g):DTx X G H0 (.Compare a [.GtE] [b] pos) (fTst (fBin dGe f g)):=yq z9i z9o D I (vw _)
def j5(D:DEx X G H0 a f)(I:DEx X G H0 b g):DTx X G H0 (.Compare a [.Eq] [b] pos) (fTst (fBin dEq f g)):=yq z6f z67 D I (vw _)
def pf(D:DEx X G H0 a f)(I:DEx X G H0 b g):DTx X G H0 (.Compare a [.NotEq] [b] pos) (fTst (fBin dNe f g)):=yq z9f z9p D I (vw _)
def kv(D:DEx X G H0 a f)(I:DEx X G H0 b g)(J:uw b:=by intro _ _;rfl):DEx X G H0 (.Subscript a b pos) (fBin dIx f g):=z6x zwz z9q D I J
def az{Nn Cn:ik}(an:Ats Nn Cn X)(J:Nn[i]?=some x:=by rfl):DEx X G H0 (.Name x pos) (fVar i):=⟨((an.a J).pe).imp λσ H Q R=>by
 obtain⟨W,env,d,env',ok,e,k⟩:=R;unfold fVar at e;cases q:env[i]? with
 | none=>rw[q] at e;cases e
 | some o =>
   cases o with
   | none=>rw[q] at e;cases e
   | some sl =>
     cases sl with
     | sh d' =>
       rw[q] at e;cases e;obtain⟨v,I,r⟩:=ok.slot i _ q;exact⟨v,I,k W v H Step.refl ok r⟩
     | ow ds =>
       rw[q] at e;cases e;obtain⟨W',v,I,st,D,r⟩:=ok.share q;exact⟨v,I,k W' v H st D r⟩
     | o2 dss =>
       rw[q] at e;cases e;obtain⟨W',v,I,st,D,r⟩:=ok.share2 q;exact⟨v,I,k W' v H st D r⟩
     | ag _ _ _=>rw[q] at e;cases e
     | al _ _=>rw[q] at e;cases e
     | ro _ _=>rw[q] at e;cases e⟩
def de_c(h:PE X e (tC v))(r:∀H O,Rep X.K H O d v):DEx X G H0 e (fC d):=⟨h.imp λσ H Q D=>by
 obtain⟨W,env,d',env',ok,q,k⟩:=D;cases q;exact k W v H Step.refl ok (r _ _)⟩
def b9{i:Int}:DEx X G H0 (.Constant (.int i) j pos) (fC (.int i)):=de_c yn λ_ _=>.int _
def ku{i:Bool}:DEx X G H0 (.Constant (.bool i) j pos) (fC (.bl i)):=de_c z86 λ_ _=>.bl _
def gm{i:Str}:DEx X G H0 (.Constant (.str i) j pos) (fC (.str i)):=de_c z1v λ_ _=>.str _
def t4(R:DEx X G H0 a f):DEx X G H0 (.UnaryOp .USub a pos) (fUn dNeg f):=⟨(z59 z1y R.out).imp λσ H Q U=>by
 obtain⟨W,env,d',env',ok,q,k⟩:=U;cases e1:f env with
 | none=>simp[e1] at q
 | some r =>
   obtain⟨d,I⟩:=r;cases d with
   | int i =>
     have q:some (D.int (-i),I)=some (d',env'):=by simpa[fUn,e1,dNeg] using q
     cases q;exact⟨W,env,_,_,ok,e1,λW1 v1 H1 V J p1=>⟨i,p1.int_,k W1 _ H1 V J (.int _)⟩⟩
   | _=>simp[e1] at q⟩
section
variable {X:Cx} {G:Gd} {H0:Hp} {a b c e:Expr} {es rest:k8} {f g:FE} {F:FA} {p q:FT} {pos:Pos}
structure DWx (X:Cx) (G:Gd) (H0:Hp) (e:Expr) (f:FT):Prop where
 out:PW X e (tDT X.K G H0 f)
def PW.imp{X:Cx}{e:Expr}{t t':TT}(h:PW X e t)(i:∀σ H Q,t' σ H Q->t σ H Q):PW X e t':=λw pins s σ H Q I q=>h w pins s σ H Q I (i σ H Q q)
def dt_w(h:DWx X G H0 e p):DTx X G H0 e p:=⟨PW.pt h.out⟩
def td(h:DTx X G H0 a p):DWx X G H0 (.BoolOp .And [a] pos) p:=⟨z21 h.out⟩
def lq(h:DTx X G H0 a p):DWx X G H0 (.BoolOp .Or [a] pos) p:=⟨z5v h.out⟩
def sw(h:DTx X G H0 a p)(h2:DWx X G H0 (.BoolOp .And (b::rest) pos) q):DWx X G H0 (.BoolOp .And (a::b::rest) pos) (fAnd p q):=⟨(z5w h.out h2.out).imp λσ H Q U=>by
 obtain⟨W,env,d,env',ok,e,k⟩:=U;cases e1:p env with
 | none=>simp[e1] at e
 | some r =>
   obtain⟨t,D⟩:=r;refine⟨W,env,t,D,ok,e1,λW1 H1 R I=>?_⟩;cases t with
   | true =>
     exact⟨W1,D,d,env',I,by simpa[fAnd,e1] using e,λV H2 s2 J=>k V H2 (R.trans s2) J⟩
   | false =>
     have e:some (false,D)=some (d,env'):=by simpa[fAnd,e1] using e
     cases e;exact k W1 H1 R I⟩
def lf(h:DTx X G H0 a p)(h2:DWx X G H0 (.BoolOp .Or (b::rest) pos) q):DWx X G H0 (.BoolOp .Or (a::b::rest) pos) (fOr p q):=⟨(z87 h.out h2.out).imp λσ H Q U=>by
 obtain⟨W,env,d,env',ok,e,k⟩:=U;cases e1:p env with
 | none=>simp[e1] at e
 | some r =>
   obtain⟨t,D⟩:=r;refine⟨W,env,t,D,ok,e1,λW1 H1 R I=>?_⟩;cases t with
   | false =>
     exact⟨W1,D,d,env',I,by simpa[fOr,e1] using e,λV H2 s2 J=>k V H2 (R.trans s2) J⟩
   | true =>
     have e:some (true,D)=some (d,env'):=by simpa[fOr,e1] using e
     cases e;exact k W1 H1 R I⟩
def ky(h:DTx X G H0 a p):DTx X G H0 (.UnaryOp .Not a pos) (fNot p):=⟨(z5x h.out).imp λσ H Q I=>by
 obtain⟨W,env,d,env',ok,e,k⟩:=I;cases e1:p env with
 | none=>simp[e1] at e
 | some r =>
   have e:some (!r.1,r.2)=some (d,env'):=by simpa[fNot,e1] using e
   cases e;exact⟨W,env,_,_,ok,e1,λW1 H1 J D=>k W1 H1 J D⟩⟩
def kg(h:DEx X G H0 a f)(D:∀whole,isTrue a X.env whole=(do let v <-whole;standAt a.pos;holding [v] (truthy v)):=by intro _;rfl):DTx X G H0 a (fTst f):=⟨(z5u h.out D).imp (z6y λ_ _ _ z=>z)⟩
def zt8{op:BoolOp}(h:DEx X G H0 a f):DEx X G H0 (.BoolOp op [a] pos) f:=⟨z5y h.out⟩
def zt9(h:DEx X G H0 a f)(h2:DEx X G H0 (.BoolOp .And (b::rest) pos) g):DEx X G H0 (.BoolOp .And (a::b::rest) pos) (ur f g):=⟨(z5z h.out h2.out).imp λσ H Q V=>by
 obtain⟨W,env,d,env',ok,e,k⟩:=V;cases e1:f env with
 | none=>simp[e1] at e
 | some r =>
   obtain⟨t,I⟩:=r;refine⟨W,env,t,I,ok,e1,λW1 v1 H1 U J p1=>?_⟩;cases t with
   | bl t =>
     refine⟨t,p1.bl_,?_⟩;cases t with
     | true =>
       exact⟨W1,I,d,env',J,by simpa[ur,e1] using e,λY v2 H2 s2 R p2=>k Y v2 H2 (U.trans s2) R p2⟩
     | false =>
       have e:some (D.bl false,I)=some (d,env'):=by simpa[ur,e1] using e
       cases e;exact k W1 _ H1 U J (.bl _)
   | _=>simp[e1] at e⟩
def z7a(h:DEx X G H0 a f):DEx X G H0 (.UnaryOp .Not a pos) (z3n f):=⟨(z50 h.out).imp λσ H Q R=>by
 obtain⟨W,env,d,env',ok,e,k⟩:=R;cases e1:f env with
 | none=>simp[e1] at e
 | some r =>
   obtain⟨t,I⟩:=r;refine⟨W,env,t,I,ok,e1,λW1 v1 H1 U J p1=>?_⟩;cases t with
   | bl t =>
     have e:some (D.bl (!t),I)=some (d,env'):=by simpa[z3n,e1] using e
     cases e;exact⟨t,p1.bl_,k W1 _ H1 U J (.bl _)⟩
   | _=>simp[e1] at e⟩
def cg  : DAx X G H0 [] fNil:=⟨pj.imp λσ H Q D=>by
 obtain⟨W,env,ds,env',ok,e,k⟩:=D;cases e;exact k W [] H Step.refl ok .nil⟩
def bc(R:DEx X G H0 e f)(U:DAx X G H0 es F)(V:starEach (e::es) X.env=(false,eval e X.env)::starEach es X.env:=by rfl):DAx X G H0 (e::es) (ao f F):=⟨(nc R.out U.out V).imp λσ H Q Y=>by
 obtain⟨W,env,ds,env',ok,q,k⟩:=Y;cases e1:f env with
 | none=>simp[e1] at q
 | some r =>
   obtain⟨d,D⟩:=r;cases e2:F D with
   | none=>simp[e1,e2] at q
   | some r2 =>
     have q:some (d::r2.1,r2.2)=some (ds,env'):=by simpa[ao,e1,e2] using q
     cases q;exact⟨W,env,d,D,ok,e1,λW1 v1 H1 Z I p1=>⟨W1,D,_,_,I,e2,λa vs H2 s2 J p2=>k a _ H2 (Z.trans s2) J (.cons (I.rep s2 p1) p2)⟩⟩⟩
def le64{n:Nat}(h:n<=64):n<=sizeLine:=cy h (by rw[sizeLine_eq];decide)
def kx{k1}(h:DAx X G H0 es F):DEx X G H0 (.Tuple es k1 pos) (fTup F):=⟨(z6k h.out).imp λσ H Q U=>by
 obtain⟨W,env,d,env',ok,q,k⟩:=U;cases e1:F env with
 | none=>simp[e1] at q
 | some r =>
   obtain⟨ds,I⟩:=r;by_cases R:ds.length<=64
   ·have q:some (D.tup ds,I)=some (d,env'):=by simpa[fTup,e1,R] using q
    cases q;refine⟨W,env,ds,_,ok,e1,λW1 vs H1 V J p1=>⟨by rw[<-p1.length];exact le64 R,λl Y=>?_⟩⟩;have sm:Same H1 (upd H1 l (.tup vs)):=nn Y;have st:Step W1 H1 W1 (upd H1 l (.tup vs)):=Step.same sm;exact k W1 _ _ (V.trans st) (J.same sm) (.tup kl (J.reps st p1))
   ·simp[e1,R] at q⟩
def vt{W:Addr->Prop}{env:DE0}{σ:St}{H:Hp}{l:Addr}{vs:l0}{ds:mu}(ok:Ok X.K G H0 W env σ H)(r:Reps X.K H (Ow G W) ds vs)(I:H l=none) :
  Step W H (addW W l) (upd H l (.lst vs))/\Ok X.K G H0 W env σ (upd H l (.lst vs))/\Ok X.K G H0 (addW W l) env σ (upd H l (.lst vs))/\¬W l/\upd H l (.lst vs) l=some (.lst vs)/\Reps X.K (upd H l (.lst vs)) (Ow G (addW W l)) ds vs:=by
 have sm:Same H (upd H l (.lst vs)):=nn I;obtain⟨h1,h2,J,R,U⟩:=ok.fresh (l:=l) (vs:=vs) (ds:=ds) sm I kl ((r.mono (O':=λa=>(Ow G W a\/H a=none)/\a≠l) (λ_ _ h=>sm _ _ h) λa us o h=>⟨⟨.inl o,λz=>by
  subst z;have h2:Rd H a (.lst us):=h;rcases h2 with h2 | ⟨_,h2⟩ <;> rw[I] at h2 <;> cases h2⟩,h.keep λo e=>sm _ o e⟩))
 exact⟨U,ok.same sm,J,h1,kl,R⟩
def ij(h:DAx X G H0 es F):DFx X G H0 (.List es pos) (fu F):=⟨(z11 h.out).imp λσ H Q R=>by
 obtain⟨W,env,d,env',ok,q,k⟩:=R;cases e1:F env with
 | none=>simp[e1] at q
 | some r =>
   obtain⟨ds,D⟩:=r;by_cases I:ds.length<=64
   ·have q:some (ds,D)=some (d,env'):=by simpa[fu,e1,I] using q
    cases q;refine⟨W,env,_,_,ok,e1,λW1 vs H1 U J p1=>⟨by rw[<-p1.length];exact le64 I,λl V=>?_⟩⟩;obtain⟨h1,h2,Y,Z,a,b⟩:=vt J p1 V;exact k W1 l vs _ (U.trans h1) h2 Y Z a b
   ·simp[e1,I] at q⟩
def fy(h:DFx X G H0 e F):DEx X G H0 e (fLst F):=⟨h.out.imp λσ H Q U=>by
 obtain⟨W,env,d,env',ok,q,k⟩:=U;cases e1:F env with
 | none=>simp[e1] at q
 | some r =>
   have q:some (D.lst r.1,r.2)=some (d,env'):=by simpa[fLst,e1] using q
   cases q;refine⟨W,env,_,_,ok,e1,λW1 l vs H1 R I J V Y Z=>k W1 _ H1 ⟨R.keep,λa z=>R.ws a (.inl z)⟩ I (.lst ⟨I.good l (J.wl l (.inr rfl)).1,V⟩ (.inl Y) (Z.mono (λ_ _ h=>h) λa us o h=>⟨⟨o.1,λz=>o.2 (.inl z)⟩,h⟩))⟩⟩
def Cal(P:Program)(w:World)(K:ll)(mg:Str->ka)(base:Heap)(CX:CXT)(x:Str)(k:Nat)(sp:Sp):Prop :=
 ∃fa fd ps,FnOk P w K mg base CX k fa fd ps sp/\mg x=some (.ref fa)/\PySem.W.keepIn K (.ref fa)=true/\Binds K fd ps []/\(x==("__debug__" : Str))=false
def dSp(K:ll)(m:mu->mv):Sp:=λvs H Q _=>∃O ds d,Reps K H O ds vs/\m ds=some d/\∀v H',Same H H'->Rep K H' (λa=>O a\/H a=none) d v->Q v H'
def fSp(K:ll)(m:mu->Option mu):Sp:=λvs H Q _=>∃O ds I,Reps K H O ds vs/\m ds=some I/\∀l us H',Same H H'->H l=none->H' l=some (.lst us)->Reps K H' (λa=>(O a\/H a=none)/\a≠l) I us->Q (.ref l) H'
@[simp] noncomputable def du(m:mu->mv)(F:FA):FE:=λe=>(F e).bind λr=>(m r.1).map λd=>(d,r.2)
@[simp] noncomputable def ip(m:mu->Option mu)(F:FA):FA:=λe=>(F e).bind λr=>(m r.1).map λd=>(d,r.2)
def z7b{m:mu->mv}{E:XK}:∀σ H Q,tD X.K G H0 (du m F) σ H Q->zww (dSp X.K m) [] E (tDA X.K G H0 F) σ H Q:=λσ H Q R=>by
 obtain⟨W,env,d,env',ok,q,k⟩:=R;cases e1:F env with
 | none=>simp[e1] at q
 | some r =>
   obtain⟨ds,J⟩:=r;cases e2:m ds with
   | none=>simp[e1,e2] at q
   | some d' =>
     have q:some (d',J)=some (d,env'):=by simpa[du,e1,e2] using q
     cases q;refine⟨W,env,ds,_,ok,e1,λW1 vs H1 U I p1=>?_⟩;show dSp X.K m (vs++[]) H1 Q E;rw[df];refine⟨Ow G W1,ds,_,p1,e2,λv H2 sm V=>?_⟩;refine k W1 v H2 (U.trans (Step.same sm)) (I.same sm) (V.mono (λ_ _ h=>h) λa us o h=>⟨?_,h⟩);rcases o with o | o
     ·exact o
     ·exact⟨I.good a (I.stay.free o),λz=>by obtain⟨_,us,q⟩:=I.wl a z;rw[o] at q;cases q⟩
def z3o{m:mu->Option mu}{E:XK}:∀σ H Q,tDF X.K G H0 (ip m F) σ H Q->zww (fSp X.K m) [] E (tDA X.K G H0 F) σ H Q:=λσ H Q U=>by
 obtain⟨W,env,d,env',ok,q,k⟩:=U;cases e1:F env with
 | none=>simp[e1] at q
 | some r =>
   obtain⟨ds,I⟩:=r;cases e2:m ds with
   | none=>simp[e1,e2] at q
   | some d' =>
     have q:some (d',I)=some (d,env'):=by simpa[ip,e1,e2] using q
     cases q;refine⟨W,env,ds,_,ok,e1,λW1 vs H1 V J p1=>?_⟩;show fSp X.K m (vs++[]) H1 Q E;rw[df];refine⟨Ow G W1,ds,_,p1,e2,λl us H2 sm Y R Z=>?_⟩;obtain⟨h1,h2,a,b,c⟩:=J.fresh sm Y R Z;exact k W1 l us H2 (V.trans c) (J.same sm) a h1 R b
variable {CX:CXT} {k:Nat} {fa:Addr} {fd:FuncData} {ps:ik} {m:mu->mv} {mF:mu->Option mu} {x:Str} {p':Pos} {E:XK}
def fx{jr:Nat}(c:Cal X.prog X.w X.K X.mg X.base CX0 x k (dSp X.K m))(R:Room jr X.A)(U:DAx X G H0 (e::es) F)(D:k<=jr:=by decide)(V:Gl X x:=by walk_at "g")(Y:starEach (e::es) X.env=(false,eval e X.env)::starEach es X.env:=by rfl)(I:(backTo pos (starEach es X.env)).any (·.1)=false:=by rfl) :
  DEx X G H0 (.Call (.Name x p') (e::es) [] pos) (du m F):=let ⟨_,_,_,Z,a,b,d,J⟩:=c;⟨(zpn Z (R.mono D) V a b d .nil zzr U.out J Y I).imp z7b⟩
def znv{jr:Nat}(c:Cal X.prog X.w X.K X.mg X.base CX0 x k (fSp X.K mF))(R:Room jr X.A)(U:DAx X G H0 (e::es) F)(D:k<=jr:=by decide)(V:Gl X x:=by walk_at "g")(Y:starEach (e::es) X.env=(false,eval e X.env)::starEach es X.env:=by rfl)(I:(backTo pos (starEach es X.env)).any (·.1)=false:=by rfl) :
  DFx X G H0 (.Call (.Name x p') (e::es) [] pos) (ip mF F):=let ⟨_,_,_,Z,a,b,d,J⟩:=c;⟨(zpn Z (R.mono D) V a b d .nil zzr U.out J Y I).imp z3o⟩
end
section
variable {X:Cx} {G:Gd} {H0:Hp} {a b c e:Expr} {es rest:k8} {f g:FE} {F:FA} {p q:FT} {pos p':Pos} {x:Str}
def uq(X:Cx)(G:Gd)(H0:Hp)(r:l0->Hp->VK->Prop)(op:mu->mv):Prop :=
 ∀W env σ H vs ds d (Q:VK),Ok X.K G H0 W env σ H->Reps X.K H (Ow G W) ds vs->op ds=some d ->
  (∀v H',Step W H W H'->Ok X.K G H0 W env σ H'->Rep X.K H' (Ow G W) d v->Q v H')->r vs H Q
def zw9(X:Cx)(G:Gd)(H0:Hp)(r:l0->Hp->VK->Prop)(op:mu->Option mu):Prop :=
 ∀W env σ H vs ds rs (Q:VK),Ok X.K G H0 W env σ H->Reps X.K H (Ow G W) ds vs->op ds=some rs ->
  (∀l us H',Step W H (addW W l) H'->Ok X.K G H0 W env σ H'->Ok X.K G H0 (addW W l) env σ H'->¬W l->H' l=some (.lst us)->Reps X.K H' (Ow G (addW W l)) rs us->Q (.ref l) H')->r vs H Q
def z7c{r:l0->Hp->VK->Prop}{op:mu->mv}(U:uq X G H0 r op):∀σ H Q,tD X.K G H0 (du op F) σ H Q->tCB r (tDA X.K G H0 F) σ H Q:=λσ H Q Y=>by
 obtain⟨W,env,d,env',ok,q,k⟩:=Y;cases e1:F env with
 | none=>simp[e1] at q
 | some z =>
   obtain⟨ds,I⟩:=z;cases e2:op ds with
   | none=>simp[e1,e2] at q
   | some d' =>
     have q:some (d',I)=some (d,env'):=by simpa[du,e1,e2] using q
     cases q;exact⟨W,env,ds,_,ok,e1,λW1 vs H1 Z J p1=>U W1 _ σ H1 vs ds _ Q J p1 e2 λv H2 s2 R p2=>k W1 v H2 (Z.trans s2) R p2⟩
def z7d{r:l0->Hp->VK->Prop}{op:mu->Option mu}(Y:zw9 X G H0 r op):∀σ H Q,tDF X.K G H0 (ip op F) σ H Q->tCB r (tDA X.K G H0 F) σ H Q:=λσ H Q Z=>by
 obtain⟨W,env,d,env',ok,q,k⟩:=Z;cases e1:F env with
 | none=>simp[e1] at q
 | some z =>
   obtain⟨ds,I⟩:=z;cases e2:op ds with
   | none=>simp[e1,e2] at q
   | some d' =>
     have q:some (d',I)=some (d,env'):=by simpa[ip,e1,e2] using q
     cases q;exact⟨W,env,ds,_,ok,e1,λW1 vs H1 a J p1=>Y W1 _ σ H1 vs ds _ Q J p1 e2 λl us H2 s2 R U b c e=>k W1 l us H2 (a.trans s2) R U b c e⟩
variable {id T:String} {r:l0->Hp->VK->Prop} {op:mu->mv} {opF:mu->Option mu}
def zm6(J:ph X (.builtin id) r)(R:uq X G H0 r op)(U:Gl X x)(V:X.mg x=none)(Y:bootBuiltins x=some (.builtin id))(Z:DAx X G H0 (e::es) F)(a:x ≠ "__name__":=by decide)(D:(x==("__debug__" : Str))=false:=by decide)(b:starEach (e::es) X.env=(false,eval e X.env)::starEach es X.env:=by rfl)(I:(backTo pos (starEach es X.env)).any (·.1)=false:=by rfl):DEx X G H0 (.Call (.Name x p') (e::es) [] pos) (du op F):=⟨(y9 J U V Y Z.out a D b I).imp (z7c R)⟩
def zua(J:ph X (.type T) r)(R:uq X G H0 r op)(U:Gl X x)(V:X.mg x=none)(Y:bootBuiltins x=some (.type T))(Z:DAx X G H0 (e::es) F)(a:x ≠ "__name__":=by decide)(D:(x==("__debug__" : Str))=false:=by decide)(b:starEach (e::es) X.env=(false,eval e X.env)::starEach es X.env:=by rfl)(I:(backTo pos (starEach es X.env)).any (·.1)=false:=by rfl):DEx X G H0 (.Call (.Name x p') (e::es) [] pos) (du op F):=⟨(znp J U V Y Z.out a D b I).imp (z7c R)⟩
def zzx(J:ph X (.type T) r)(R:zw9 X G H0 r opF)(U:Gl X x)(V:X.mg x=none)(Y:bootBuiltins x=some (.type T))(Z:DAx X G H0 (e::es) F)(a:x ≠ "__name__":=by decide)(D:(x==("__debug__" : Str))=false:=by decide)(b:starEach (e::es) X.env=(false,eval e X.env)::starEach es X.env:=by rfl)(I:(backTo pos (starEach es X.env)).any (·.1)=false:=by rfl):DFx X G H0 (.Call (.Name x p') (e::es) [] pos) (ip opF F):=⟨(znp J U V Y Z.out a D b I).imp (z7d R)⟩
def t0{K:ll}{H:Hp}{O:Addr->Prop}{d:D}{vs:l0}(h:Reps K H O [d] vs):∃v,vs=[v]/\Rep K H O d v:=by
 cases h with | cons r t=>cases t;exact⟨_,rfl,r⟩
def z3p{K:ll}{H:Hp}{O:Addr->Prop}{d d':D}{vs:l0}(h:Reps K H O [d,d'] vs):∃v I,vs=[v,I]/\Rep K H O d v/\Rep K H O d' I:=by
 cases h with | cons r t=>cases t with | cons r' t=>cases t;exact⟨_,_,rfl,r,r'⟩
@[simp] noncomputable def bLen:mu->mv | [.tup ds]=>some (.int ds.length) | [.lst ds]=>some (.int ds.length) | _=>none
def z7e:uq X G H0 (λxs H Q=>∃p ys,xs=[.ref p]/\(SqL X.K H p ys\/SqT X.K H p ys)/\Q (.int ys.length) H) bLen:=by
 intro W env σ H vs ds d Q ok r e k;unfold bLen at e;split at e
 ·rename_i ds
  cases e;obtain⟨v,rfl,D⟩:=t0 r;have r:=D;obtain⟨a,us,rfl,h,r⟩:=r.tup_;exact⟨a,us,rfl,.inr (SqT.of h),by rw[<-r.length];exact k _ H Step.refl ok (.int _)⟩
 ·rename_i ds
  cases e;obtain⟨v,rfl,D⟩:=t0 r;have r:=D;obtain⟨a,us,rfl,h,r⟩:=r.lst_;exact⟨a,us,rfl,.inl h.sq,by rw[<-r.length];exact k _ H Step.refl ok (.int _)⟩
 ·cases e
def xh(I:DAx X G H0 [e] F)(D:Bn X "len":=by walk_at "b")(J:starEach [e] X.env=(false,eval e X.env)::starEach [] X.env:=by rfl):DEx X G H0 (.Call (.Name "len" p') [e] [] pos) (du bLen F) :=
 zm6 zjg z7e D.g D.m wo I (by decide) (by decide) J rfl
@[simp] noncomputable def bInt:mu->mv | [.int i]=>some (.int i) | [.bl k]=>some (.int (if k then 1 else 0)) | _=>none
def z7f:uq X G H0 (λxs H Q=>(∃i,xs=[.int i]/\Q (.int i) H)\/∃k,xs=[.bl k]/\Q (.int (if k then 1 else 0)) H) bInt:=by
 intro W env σ H vs ds d Q ok r e k;unfold bInt at e;split at e
 ·cases e
  obtain⟨v,rfl,D⟩:=t0 r;have r:=D;exact .inl ⟨_,by rw[r.int_],k _ H Step.refl ok (.int _)⟩
 ·cases e
  obtain⟨v,rfl,D⟩:=t0 r;have r:=D;exact .inr ⟨_,by rw[r.bl_],k _ H Step.refl ok (.int _)⟩
 ·cases e
def zxa:bootBuiltins "int" = some (.type "int"):=by decide +kernel
def z3q(I:DAx X G H0 [e] F)(D:Bn X "int":=by walk_at "b")(J:starEach [e] X.env=(false,eval e X.env)::starEach [] X.env:=by rfl):DEx X G H0 (.Call (.Name "int" p') [e] [] pos) (du bInt F) :=
 zua zws z7f D.g D.m zxa I (by decide) (by decide) J rfl
@[simp] noncomputable def bMax:mu->mv | [.int i,.int j]=>some (.int (if j > i then j else i)) | _=>none
@[simp] noncomputable def bMin:mu->mv | [.int i,.int j]=>some (.int (if j<i then j else i)) | _=>none
def z7g:uq X G H0 (λxs H Q=>∃i j,xs=[.int i,.int j]/\Q (.int (if j > i then j else i)) H) bMax:=by
 intro W env σ H vs ds d Q ok r e k;unfold bMax at e;split at e
 ·cases e
  obtain⟨v,J,rfl,D,I⟩:=z3p r;have r:=D;exact⟨_,_,by rw[r.int_,I.int_],k _ H Step.refl ok (.int _)⟩
 ·cases e
def z7h:uq X G H0 (λxs H Q=>∃i j,xs=[.int i,.int j]/\Q (.int (if j<i then j else i)) H) bMin:=by
 intro W env σ H vs ds d Q ok r e k;unfold bMin at e;split at e
 ·cases e
  obtain⟨v,J,rfl,D,I⟩:=z3p r;have r:=D;exact⟨_,_,by rw[r.int_,I.int_],k _ H Step.refl ok (.int _)⟩
 ·cases e
def zxb(J:DAx X G H0 [a,b] F)(R:X.calm=true:=by rfl)(I:Bn X "max":=by walk_at "b")(U:starEach [a,b] X.env=(false,eval a X.env)::starEach [b] X.env:=by rfl)(D:(backTo pos (starEach [b] X.env)).any (·.1)=false:=by rfl):DEx X G H0 (.Call (.Name "max" p') [a,b] [] pos) (du bMax F) :=
 zm6 (zwq R) z7g I.g I.m boot_max J (by decide) (by decide) U D
def z7i(J:DAx X G H0 [a,b] F)(R:X.calm=true:=by rfl)(I:Bn X "min":=by walk_at "b")(U:starEach [a,b] X.env=(false,eval a X.env)::starEach [b] X.env:=by rfl)(D:(backTo pos (starEach [b] X.env)).any (·.1)=false:=by rfl):DEx X G H0 (.Call (.Name "min" p') [a,b] [] pos) (du bMin F) :=
 zm6 (zwr R) z7h I.g I.m boot_min J (by decide) (by decide) U D
def ints?:mu->Option k4
 | []=>some []
 | .int i::r=>(ints? r).map (i::·)
 | _::_=>none
def zm7:∀ {ds:mu} {I:k4},ints? ds=some I->ds=I.map D.int
 | [],I,h=>by cases h;rfl
 | .int i::r,I,h=>by
   unfold ints? at h;cases q:ints? r with
   | none=>rw[q] at h;cases h
   | some ms=>rw[q] at h;cases h;rw[zm7 q];rfl
 | .str _::_,_,h=>by cases h
def zxc(I:k4):ints? (I.map D.int)=some I:=by
 induction I with
 | nil=>rfl
 | cons n r ih=>show(ints? (r.map D.int)).map (n::·)=_;rw[ih];rfl
def zlo{K:ll}{H:Hp}{O:Addr->Prop}:∀ {I:k4} {vs:l0},Reps K H O (I.map D.int) vs->vs=I.map V.int
 | [],_,h=>by cases h;rfl
 | n::r,_,h=>by cases h with | cons a t=>rw[zlo t,a.int_];rfl
def zrl(Y:X.calm=true):ph X (.builtin "sum") (λxs H Q=>∃p,∃D:k4,xs=[.ref p]/\SqL X.K H p (D.map V.int)/\Q (.int D.sum) H):=by
 intro pins s σ H xs us Q I r h;obtain⟨p,D,rfl,Z,q⟩:=h;obtain⟨u,rfl,a⟩:=ww r;cases a;obtain⟨its,b,pl,e⟩:=I.list Z;have hi:IntsAre its D:=zvq b;have R:=pl.isList;obtain⟨xs,J⟩:=hi.allInts.items;rw[J] at R;refine sum_intListG (I.ok.hd Y) R λh' tk t' c=>⟨.int D.sum,H,I.kept c,⟨t',?_⟩,q⟩;have d:numsOf its=D:=hi.numsOf;have U:numsOf (intItems xs).toList=D:=by rw[<-J];exact d
 rw[nums_intItems] at U;rw[preSum_eq,ib (by simp),U]
def bSum:mu->mv | [.lst ds]=>(ints? ds).map λI=>.int I.sum | _=>none
def z7j:uq X G H0 (λxs H Q=>∃p,∃D:k4,xs=[.ref p]/\SqL X.K H p (D.map V.int)/\Q (.int D.sum) H) bSum:=by
 intro W env σ H vs ds d Q ok r e k;unfold bSum at e;split at e
 ·rename_i ds
  cases q:ints? ds with
  | none=>rw[q] at e;cases e
  | some D =>
    rw[q] at e;cases e;obtain⟨v,rfl,I⟩:=t0 r;have r:=I;obtain⟨a,us,rfl,h,r⟩:=r.lst_;rw[zm7 q] at r;rw[zlo r] at h;exact⟨a,D,rfl,h.sq,k _ H Step.refl ok (.int _)⟩
 ·cases e
def vq(I:DAx X G H0 [e] F)(J:X.calm=true:=by rfl)(D:Bn X "sum":=by walk_at "b")(R:starEach [e] X.env=(false,eval e X.env)::starEach [] X.env:=by rfl):DEx X G H0 (.Call (.Name "sum" p') [e] [] pos) (du bSum F) :=
 zm6 (zrl J) z7j D.g D.m boot_sum I (by decide) (by decide) R rfl
@[simp] noncomputable def oo:mu->Option mu | [.lst ds]=>some ds | [.tup ds]=>some ds | _=>none
def z3r:zw9 X G H0 (λxs H Q=>∃p ys,xs=[.ref p]/\(SqL X.K H p ys\/SqT X.K H p ys)/\∀l,H l=none->Q (.ref l) (upd H l (.lst ys))) oo:=by
 intro W env σ H vs ds Y Q ok r e k;unfold oo at e;split at e
 ·cases e
  obtain⟨v,rfl,D⟩:=t0 r;have r:=D;obtain⟨a,us,rfl,h,r⟩:=r.lst_;refine⟨a,us,rfl,.inl h.sq,λl I=>?_⟩;obtain⟨h1,h2,J,R,U,V⟩:=vt ok r I;exact k l us _ h1 h2 J R U V
 ·cases e
  obtain⟨v,rfl,D⟩:=t0 r;have r:=D;obtain⟨a,us,rfl,h,r⟩:=r.tup_;refine⟨a,us,rfl,.inr (SqT.of h),λl I=>?_⟩;obtain⟨h1,h2,J,R,U,V⟩:=vt ok r I;exact k l us _ h1 h2 J R U V
 ·cases e
def zo5:bootBuiltins "list" = some (.type "list"):=by decide +kernel
def yy(I:DAx X G H0 [e] F)(D:Bn X "list":=by walk_at "b")(J:starEach [e] X.env=(false,eval e X.env)::starEach [] X.env:=by rfl):DFx X G H0 (.Call (.Name "list" p') [e] [] pos) (ip oo F) :=
 zzx zmn z3r D.g D.m zo5 I (by decide) (by decide) J rfl
end
section
variable {X:Cx} {G:Gd} {H0:Hp} {a b c e:Expr} {es rest:k8} {f g:FE} {F:FA} {p q:FT} {pos p' p1 pos1:Pos} {x:Str}
def rngL(lo hi:Int):k4:=(List.range (hi-lo).toNat).map λ(k:Nat)=>lo+(k:Int)
def yar(ds:mu):Option mu:=match ds with
 | [.int j]=>if Bnd (-(2 ^ 62)) (2 ^ 20+1) j then some ((rngL 0 j).map D.int) else none
 | _=>none
def zjj{K:ll}{H:Hp}{O:Addr->Prop}:∀(I:k4),Reps K H O (I.map D.int) (I.map V.int)
 | []=>.nil
 | n::r=>.cons (.int n) (zjj r)
abbrev FO:=DE0->Option (la×DE0)
def tDO(K:ll)(G:Gd)(H0:Hp)(f:FO):TO:=λσ H Q=>DP K G H0 f (λW env o env'=> ∀W' H',Step W H W' H'->Ok K G H0 W' env' σ H'->Q o H') σ H
structure DOx (X:Cx) (G:Gd) (H0:Hp) (e:Option Expr) (f:FO):Prop where
 out:PO X e (tDO X.K G H0 f)
def PO.imp{X:Cx}{e:Option Expr}{t t':TO}(h:PO X e t)(i:∀σ H Q,t' σ H Q->t σ H Q):PO X e t':=λpins s σ H Q I q=>h pins s σ H Q I (i σ H Q q)
@[simp] noncomputable def fO0:FO:=λe=>some (none,e)
@[simp] noncomputable def fO1(f:FE):FO:=λe=>(f e).bind λr=>match r.1 with | .int i=>some (some i,r.2) | _=>none
def ql  : DOx X G H0 none fO0:=⟨z3e.imp λσ H Q ⟨W,env,o,env',ok,q,k⟩=>by cases q;exact k W H Step.refl ok⟩
def n6(h:DEx X G H0 e f):DOx X G H0 (some e) (fO1 f):=⟨(z3f h.out).imp λσ H Q J=>by
 obtain⟨W,env,o,env',ok,q,k⟩:=J;cases e1:f env with
 | none=>simp[e1] at q
 | some r =>
   obtain⟨d,D⟩:=r;cases d with
   | int i =>
     have q:some (some i,D)=some (o,env'):=by simpa[fO1,e1] using q
     cases q;exact⟨W,env,_,_,ok,e1,λW1 v1 H1 R I p1=>⟨i,p1.int_,k W1 H1 R I⟩⟩
   | _=>simp[e1] at q⟩
def cutD(xs:mu)(lo hi:la):mu:=(xs.drop (HT.sIx xs.length 0 lo)).take (HT.sIx xs.length xs.length hi-HT.sIx xs.length 0 lo)
def Reps.cut{K:ll}{H:Hp}{O:Addr->Prop}{ds:mu}{vs:l0}(r:Reps K H O ds vs)(lo hi:la):Reps K H O (cutD ds lo hi) (cutV vs lo hi):=by
 unfold cutD cutV;rw[r.length];exact(r.drop _).take _
@[simp] noncomputable def fSl(f:FE)(l h:FO):FA:=λe=>(f e).bind λr=>(l r.2).bind λD=>(h D.2).bind λI=>match r.1 with | .lst ds=>some (cutD ds D.1 I.1,I.2) | _=>none
def pd{lo hi:Option Expr}{fl U:FO}{sp:Pos}(e:DEx X G H0 a f)(g:DOx X G H0 lo fl)(i:DOx X G H0 hi U) :
  DFx X G H0 (.Subscript a (.Slice lo hi none sp) pos) (fSl f fl U):=⟨(zt5 z3h e.out g.out i.out).imp λσ H Q j=>by
 obtain⟨W,env,d,env',ok,q,k⟩:=j;cases e1:f env with
 | none=>simp[e1] at q
 | some r =>
   obtain⟨m,D⟩:=r;cases e2:fl D with
   | none=>simp[e1,e2] at q
   | some r2 =>
     obtain⟨Z,I⟩:=r2;cases e3:U I with
     | none=>simp[e1,e2,e3] at q
     | some r3 =>
       obtain⟨b,J⟩:=r3;cases m with
       | lst ds =>
         have q:some (cutD ds Z b,J)=some (d,env'):=by simpa[fSl,e1,e2,e3] using q
         cases q;refine⟨W,env,_,_,ok,e1,λW1 v1 H1 n R p1=>⟨W1,D,_,_,R,e2,λo H2 s2 V=>⟨o,I,_,_,V,e3,λp x c Y=>?_⟩⟩⟩;obtain⟨l,us,rfl,h,r⟩:=(R.rep (s2.trans c) p1).lst_;refine⟨l,us,rfl,h.sq,λl' s=>?_⟩;obtain⟨h1,h2,t,u,v,w⟩:=vt Y (r.cut Z b) s;exact k p l' _ _ (((n.trans s2).trans c).trans h1) h2 t u v w
       | _=>simp[e1,e2,e3] at q⟩
def z9s(K:ll):R2:=λx y H Q=>∃l b xs D,x=.ref l/\y=.ref b/\SqL K H l xs/\SqL K H b D/\xs.length+D.length<=sizeLine/\∀p,H p=none->Q (.ref p) (upd H p (.lst (xs++D)))
theorem z3s:OpR X (binaryOp .Add) (z9s X.K):=by
 intro pins s σ H x y v u Q I e f h;obtain⟨l,b,xs,p,rfl,rfl,g,i,t,q⟩:=h;cases e;cases f;obtain⟨its,r,⟨⟨cls,dd,data,sl⟩,n,a,j,U,k⟩,z⟩:=I.list g;obtain⟨D,c,⟨⟨d,m,data2,V⟩,n2,J,Y,R,Z⟩,w⟩:=I.list i;subst j k Y Z U R;have A:=r.length;have o:=c.length;refine concat_meets ⟨_,a,rfl⟩ ⟨_,J,rfl⟩ noFill_list_add seq_list_add PySem.F.slot_list_add PySem.F.entry_list_add (PySem.F.args_list_add_2 _ _) (list_addW l b its.toArray D.toArray n n2 none none sl V (by simp;lia)) ⟨a,J,?_⟩;have ea:its.toArray++D.toArray=(its++D).toArray:=by simp
 rw[ea];exact⟨.ref _,_,I.lnew (t':=s.toks) (r.append c) (by rw[am];lia),rfl,q _ I.fresh⟩
@[simp] noncomputable def fCat(f g:FE):FA:=λe=>(f e).bind λr=>(g r.2).bind λq=>match r.1,q.1 with | .lst ds,.lst es=>if Few (ds.length+es.length) then some (ds++es,q.2) else none | _,_=>none
def m9(Z:DEx X G H0 a f)(c:DEx X G H0 b g):DFx X G H0 (.BinOp a .Add b pos) (fCat f g):=⟨(z25 z3s Z.out c.out).imp λσ H Q e=>by
 obtain⟨W,env,d,env',ok,q,k⟩:=e;cases e1:f env with
 | none=>simp[e1] at q
 | some r =>
   obtain⟨i,D⟩:=r;cases e2:g D with
   | none=>simp[e1,e2] at q
   | some r2 =>
     obtain⟨j,I⟩:=r2;cases i with
     | lst ds =>
       cases j with
       | lst es =>
         by_cases R:Few (ds.length+es.length)
         ·have q:some (ds++es,I)=some (d,env'):=by simpa only[fCat,e1,e2,ac,if_pos R] using q
          cases q;refine⟨W,env,_,_,ok,e1,λW1 v1 H1 m J p1=>⟨W1,D,_,_,J,e2,λo v2 H2 s2 U p2=>?_⟩⟩;obtain⟨l,us,rfl,h,r⟩:=(J.rep s2 p1).lst_;obtain⟨l',V,rfl,h',Y⟩:=p2.lst_;refine⟨l,l',us,V,rfl,rfl,h.sq,h'.sq,?_,λn p=>?_⟩
          ·rw[<-r.length,<-Y.length];exact cy R (by rw[sizeLine_eq];decide)
          ·obtain⟨h1,h2,s,t,u,v⟩:=vt U (r.append Y) p
           exact k o n _ _ ((m.trans s2).trans h1) h2 s t u v
         ·simp only[fCat,e1,e2,ac,if_neg R] at q;cases q
       | _=>simp[e1,e2] at q
     | _=>simp[e1,e2] at q⟩
@[simp] noncomputable def gy(i:Nat):FE:=λe=>match e[i]? with
 | some (some (.ow ds))=>some (.int ds.length,e)
 | some (some (.sh (.lst ds)))=>some (.int ds.length,e)
 | some (some (.sh (.tup ds)))=>some (.int ds.length,e)
 | _=>none
def jy{Nn Cn:ik}{i:Nat}(an:Ats Nn Cn X)(R:Bn X "len":=by walk_at "b")(J:Nn[i]?=some x:=by rfl)(U:starEach [.Name x p1] X.env=(false,eval (.Name x p1) X.env)::starEach [] X.env:=by rfl):DEx X G H0 (.Call (.Name "len" p') [.Name x p1] [] pos) (gy i) :=
 ⟨(y9 zjg R.g R.m wo (nc ((an.a J).pe) pj U) (by decide) (by decide) U rfl).imp λσ H Q V=>by
  obtain⟨W,env,d,env',ok,q,k⟩:=V;unfold gy at q;split at q
  ·rename_i ds D
   cases q;obtain⟨v,I,l,vs,rfl,Z,Y,r⟩:=ok.slot i _ D;exact⟨_,I,l,vs,rfl,.inl (.inl (.inl Y)),by rw[<-r.length];exact k W _ H Step.refl ok (.int _)⟩
  ·rename_i ds D
   cases q;obtain⟨v,I,r⟩:=ok.slot i _ D;obtain⟨l,us,rfl,h,r⟩:=Rep.lst_ r;exact⟨_,I,l,us,rfl,.inl h.sq,by rw[<-r.length];exact k W _ H Step.refl ok (.int _)⟩
  ·rename_i ds D
   cases q;obtain⟨v,I,r⟩:=ok.slot i _ D;obtain⟨l,us,rfl,h,r⟩:=Rep.tup_ r;exact⟨_,I,l,us,rfl,.inr (SqT.of h),by rw[<-r.length];exact k W _ H Step.refl ok (.int _)⟩
  ·cases q⟩
@[simp] noncomputable def ixSl:D->Option nb->mv
 | .int k,some (some (.ow ds))=>atI ds k
 | .int k,some (some (.sh (.lst ds)))=>atI ds k
 | .int k,some (some (.sh (.tup ds)))=>atI ds k
 | _,_=>none
@[simp] noncomputable def fIxV(i:Nat)(g:FE):FE:=λe=>match e[i]? with
 | some (some _)=>(g e).bind λr=>(ixSl r.1 r.2[i]?).map λd=>(d,r.2)
 | _=>none
def d7{Nn Cn:ik}{i:Nat}(m:DEx X G H0 b g)(an:Ats Nn Cn X)(n:uw b:=by intro _ _;rfl)(Z:Nn[i]?=some x:=by rfl):DEx X G H0 (.Subscript (.Name x p1) b pos) (fIxV i g) :=
 ⟨(wv zwz ((an.a Z).pe) m.out n).imp λσ H Q o=>by
  obtain⟨W,env,d,env',ok,q,k⟩:=o;unfold fIxV at q;split at q;case h_2=>cases q
  rename_i s c;obtain⟨v,Y,_⟩:=ok.slot i _ c;cases e1:g env with
  | none=>rw[e1] at q;cases q
  | some r =>
    obtain⟨f,J⟩:=r;rw[e1,ac] at q;cases e3:ixSl f J[i]? with
    | none=>rw[e3] at q;cases q
    | some d' =>
      rw[e3] at q;cases q;refine⟨v,Y,W,env,f,_,ok,e1,λW1 v1 H1 e D p1=>?_⟩;unfold ixSl at e3;split at e3
      ·rename_i kk ds R
       obtain⟨j,I,l,vs,rfl,t,p,r⟩:=D.slot i _ R;rw[Y] at I;cases I;obtain⟨u,U,V⟩:=yz r e3;exact .inl ⟨l,vs,kk,u,rfl,p1.int_,.inl (.inl p),U,k W1 _ H1 e D V⟩
      ·rename_i kk ds R
       obtain⟨j,I,r⟩:=D.slot i _ R;rw[Y] at I;cases I;obtain⟨l,us,rfl,h,r⟩:=Rep.lst_ r;obtain⟨u,U,V⟩:=yz r e3;exact .inl ⟨l,us,kk,u,rfl,p1.int_,h.sq,U,k W1 _ H1 e D V⟩
      ·rename_i kk ds R
       obtain⟨j,I,r⟩:=D.slot i _ R;rw[Y] at I;cases I;obtain⟨l,us,rfl,h,r⟩:=Rep.tup_ r;obtain⟨u,U,V⟩:=yz r e3;exact .inr (.inl ⟨l,us,kk,u,rfl,p1.int_,SqT.of h,U,k W1 _ H1 e D V⟩)
      ·cases e3⟩
end
section
variable {X:Cx} {G:Gd} {H0:Hp} {a b c e:Expr} {es rest:k8} {f g:FE} {F:FA} {p q:FT} {pos p' p1 pos1:Pos} {x:Str}
@[simp] noncomputable def tyD:D->String | .non=>"NoneType" | .bl _=>"bool" | .int _=>"int" | .str _=>"str" | .tup _=>"tuple" | .lst _=>"list" | .dct _ _=>"dict" | .exc _=>"exc"
@[simp] noncomputable def isiT(t T:String):Bool:=t==T || (t=="bool" && T=="int")
def zxd(T:String):Bool:=T=="int" || T=="bool" || T=="str" || T=="tuple" || T=="list"
def zzy(K:ll)(d:D)(T:String)(h:zxd T=true)(I:∀a,d≠.exc a):PySem.W.kitOne K (.type (tyD d)) (.type T)=some (isiT (tyD d) T):=by
 simp only[zxd,Bool.or_eq_true,beq_iff_eq] at h;rcases h with(((rfl | rfl) | rfl) | rfl) | rfl <;> cases d <;> first | rfl | exact absurd rfl (I _)
def zzz:ph X (.builtin "isinstance") (λxs H Q=>∃x T t b,xs=[x,.ty T]/\(TyOf X.K H x t\/(t=.type "list"/\∃a us,x=.ref a/\SqL X.K H a us))/\PySem.W.kitOne X.K t (.type T)=some b/\Q (.bl b) H):=by
 intro pins s σ H xs us Q I r h;obtain⟨x,T,t,b,rfl,D,e,q⟩:=h;obtain⟨u,R,rfl,J,rt⟩:=zzk r;cases (show R=Value.type T from rt);rcases D with D | ⟨rfl,a,ws,rfl,hq⟩
 ·exact zwv I J D e λtk=>⟨.bl b,H,I.tok tk,rfl,q⟩
 ·cases (show u=Value.ref a from J)
  obtain⟨its,_,⟨o,n,h1,h2,_⟩,_⟩:=I.list hq;exact d9 p8 I.kIn ⟨o,h1,h2⟩ e (λz=>nomatch z) λtk=>⟨.bl b,H,I.tok tk,rfl,q⟩
def z7k{K:ll}{H:Hp}{O:Addr->Prop}{d:D}{v:V}(r:Rep K H O d v)(I:∀a,d≠.exc a):TyOf K H v (.type (tyD d))\/(Value.type (tyD d)=.type "list"/\∃a us,v=.ref a/\SqL K H a us):=by
 cases r with
 | non=>exact .inl .non
 | bl b=>exact .inl (.bl b)
 | int i=>exact .inl (.int i)
 | str s=>exact .inl (.str s)
 | tup h _=>exact .inl (.tup h)
 | lst o h _=>exact .inr ⟨rfl,_,_,rfl,.inl h⟩
 | klst h _=>exact .inr ⟨rfl,_,_,rfl,.inr h⟩
 | dct h _=>exact .inl (.dK h)
 | exc a=>exact absurd rfl (I a)
def zub:bootBuiltins "isinstance" = some (.builtin "isinstance"):=by decide +kernel
@[simp] noncomputable def fIsi(T:String)(f:FE):FE:=λe=>(f e).bind λr=>match r.1 with | .exc _=>none | d=>some (.bl (isiT (tyD d) T),r.2)
structure Ty (x:Str) (T:String):Prop where
 b:bootBuiltins x=some (.type T)
 k:zxd T=true
 d:(x==("__debug__" : Str))=false
 n:x ≠ "__name__"
def rg{T:String}(D:Ty x T)(e:DEx X G H0 a f)(Y:Bn X "isinstance":=by walk_at "b")(I:Gl X x:=by walk_at "g")(J:X.mg x=none:=by assumption)(Z:starEach [a,.Name x p1] X.env=(false,eval a X.env)::starEach [.Name x p1] X.env:=by rfl)(R:starEach [.Name x p1] X.env=(false,eval (.Name x p1) X.env)::starEach [] X.env:=by rfl)(U:(backTo pos (starEach [.Name x p1] X.env)).any (·.1)=false:=by rfl) :
  DEx X G H0 (.Call (.Name "isinstance" p') [a,.Name x p1] [] pos) (fIsi T f) :=
 ⟨(y9 zzz Y.g Y.m zub (nc e.out (nc (zwg (v:=.ty T) I J D.b rfl D.n D.d) pj R) Z) (by decide) (by decide) Z U).imp λσ H Q h=>by
  obtain⟨W,env,d,env',ok,q,k⟩:=h;cases e1:f env with
  | none=>simp[e1] at q
  | some r =>
    unfold fIsi at q;rw[e1,ac] at q;split at q
    ·cases q
    ·rename_i c
     cases q;exact⟨W,env,_,_,ok,e1,λW1 v1 H1 i V p1=>⟨v1,T,_,_,rfl,z7k p1 c,zzy X.K _ T D.k c,k W1 _ H1 i V (.bl _)⟩⟩⟩
abbrev FI:=DE0->Option (mu×DE0)
structure Walk (K:ll) (G:Gd) (J:It) (W:Addr->Prop) (H:Hp) (ds:mu):Prop where
 go:∀W' H' (i:Nat) d,Step W H W' H'->ds[i]?=some d->J.go i H'/\∀x H'',J.yld i H' x H''->H''=H'/\Rep K H' (Ow G W') d x
 stop:∀W' H',Step W H W' H'->J.stop ds.length H'
def tDI(K:ll)(G:Gd)(H0:Hp)(f:FI):TI:=λσ H R=>DP K G H0 f (λW env ds env' =>
 ∀W' J H',Step W H W' H'->Ok K G H0 W' env' σ H'->Walk K G J W' H' ds->R J H') σ H
structure DIC (Cm:Cx->Prop) (X:Cx) (G:Gd) (H0:Hp) (tg:Expr) (e:Expr) (f:FI):Prop where
 out:PIC Cm X tg e (tDI X.K G H0 f)
abbrev DIx:=DIC λX=>X.calm=true
def PI.imp{X:Cx}{tg e:Expr}{t t':TI}(h:PI X tg e t)(i:∀σ H Q,t' σ H Q->t σ H Q):PI X tg e t':=λpins s σ H Q I q=>h pins s σ H Q I (i σ H Q q)
def PIC.imp{Cm:Cx->Prop}{X:Cx}{tg e:Expr}{t t':TI}(h:PIC Cm X tg e t)(i:∀σ H Q,t' σ H Q->t σ H Q):PIC Cm X tg e t':=λpins s σ H Q I q=>h pins s σ H Q I (i σ H Q q)
def zrm{W:Addr->Prop}{H:Hp}{a:Addr}{vs:l0}{ds:mu}{env:DE0}{σ:St}(ok:Ok X.K G H0 W env σ H)(h:LsOk X.K H (Ow G W) a vs)(r:Reps X.K H (Ow G W) ds vs):Walk X.K G (Itl X.K a) W H ds where
 go:=λW' H' i d st e=>by
  obtain⟨v,I,J⟩:=(ok.reps st r).get e;have h':=(ok.lsstep st h).sq;exact⟨⟨vs,v,h',I⟩,λx H'' ⟨e2,y⟩=>⟨e2,by have:=y vs h';rw[I] at this;cases this;exact J⟩⟩
 stop:=λW' H' st=>⟨vs,(ok.lsstep st h).sq,by rw[r.length];exact bw _⟩
def zz0{W:Addr->Prop}{H:Hp}{a:Addr}{vs:l0}{ds:mu}{env:DE0}{σ:St}(ok:Ok X.K G H0 W env σ H)(h:H a=some (.tup vs))(r:Reps X.K H (Ow G W) ds vs):Walk X.K G (Itt X.K a) W H ds where
 go:=λW' H' i d st e=>by
  obtain⟨v,I,J⟩:=(ok.reps st r).get e;have h':=ok.tstep st a vs h;exact⟨⟨vs,v,SqT.of h',I⟩,λx H'' ⟨e2,y⟩=>⟨e2,by have:=y vs (SqT.of h');rw[I] at this;cases this;exact J⟩⟩
 stop:=λW' H' st=>⟨vs,SqT.of (ok.tstep st a vs h),by rw[r.length];exact bw _⟩
def zz1{W:Addr->Prop}{H:Hp}{lo:Int}{n:Nat}:Walk X.K G (Itr lo n) W H ((List.range n).map λ(k:Nat)=>D.int (lo+(k:Int))) where
 go:=λW' H' i d st e=>by
  rw[bj] at e;have hi:i<n:=by
   have:=(aj.mp (show((List.range n).map λ(k:Nat)=>D.int (lo+(k:Int)))[i]?=some d by rw[bj];exact e)).1;simpa using this
  rw[jb hi] at e;cases e;exact⟨hi,λx H'' ⟨e2,y⟩=>⟨e2,by rw[y];exact .int _⟩⟩
 stop:=λW' H' st=>by rw[af,ir];exact bw _
@[simp] noncomputable def fiS(f:FE):FI:=λe=>(f e).bind λr=>match r.1 with | .lst ds=>some (ds,r.2) | .tup ds=>some (ds,r.2) | _=>none
def PI.or{tg:Expr}{t t':TI}(h:PI X tg e t)(h':PI X tg e t'):PI X tg e (λσ H R=>t σ H R\/t' σ H R):=λpins s σ H R I q=>q.elim (h pins s σ H R I) (h' pins s σ H R I)
def j3{tg:Expr}(h:DEx X G H0 e f):DIx X G H0 tg e (fiS f):=⟨((zwl h.out).or (z57 h.out)).imp λσ H R U=>by
 obtain⟨W,env,ds,env',ok,q,k⟩:=U;cases e1:f env with
 | none=>simp[e1] at q
 | some r =>
   obtain⟨d,I⟩:=r;cases d with
   | lst ds' =>
     have q:some (ds',I)=some (ds,env'):=by simpa[fiS,e1] using q
     cases q;refine .inl ⟨W,env,_,_,ok,e1,λW1 v1 H1 J D p1=>?_⟩;obtain⟨a,vs,rfl,h.out,r⟩:=p1.lst_;exact⟨a,rfl,⟨vs,h.out.sq⟩,k W1 _ H1 J D (zrm D h.out r)⟩
   | tup ds' =>
     have q:some (ds',I)=some (ds,env'):=by simpa[fiS,e1] using q
     cases q;refine .inr ⟨W,env,_,_,ok,e1,λW1 v1 H1 J D p1=>?_⟩;obtain⟨a,vs,rfl,h.out,r⟩:=p1.tup_;exact⟨a,rfl,⟨vs,SqT.of h.out⟩,k W1 _ H1 J D (zz0 D h.out r)⟩
   | _=>simp[e1] at q⟩
def rngD(lo:Int)(n:Nat):mu:=(List.range n).map λ(k:Nat)=>D.int (lo+(k:Int))
def iR1(ds:mu):Option mu:=match ds with | [.int j]=>if Bnd (-(2 ^ 62)) (2 ^ 62) j then some (rngD 0 j.toNat) else none | _=>none
def zo6{Cm:Cx->Prop}{tg:Expr}(hT:∀(it:Addr) (lo:Int) (n:Nat),wx Cm X.prog X.w X.K tg (Itr lo n) [it] it (λi h=>IsRangeIter h it (lo+(i:Nat)*1) ((n:Int)-(i:Nat)) 1))(V:DAx X G H0 [a] F)(J:Bn X "range":=by walk_at "b")(Y:starEach [a] X.env=[(false,eval a X.env)]:=by rfl):DIC Cm X G H0 tg (.Call (.Name "range" p') [a] [] pos) (ip iR1 F) :=
 ⟨PIC.imp (zvj hT J.g J.m V.out Y) λσ H R Z=>by
  obtain⟨W,env,ds,env',ok,q,k⟩:=Z;cases e1:F env with
  | none=>simp[e1] at q
  | some z =>
    obtain⟨as,D⟩:=z;cases e2:iR1 as with
    | none=>simp[e1,e2] at q
    | some d' =>
      have q:some (d',D)=some (ds,env'):=by simpa[ip,e1,e2] using q
      cases q;refine⟨W,env,as,_,ok,e1,λW1 vs H1 b I p1=>?_⟩;unfold iR1 at e2;split at e2
      ·rename_i j
       split at e2
       ·rename_i U
        cases e2;obtain⟨v,rfl,c⟩:=t0 p1;cases c;exact⟨j,rfl,U.1,U.2,k W1 _ H1 b I zz1⟩
       ·cases e2
      ·cases e2⟩
def se{tg:Expr}(D:DAx X G H0 [a] F)(I:Bn X "range":=by walk_at "b")(J:starEach [a] X.env=[(false,eval a X.env)]:=by rfl):DIx X G H0 tg (.Call (.Name "range" p') [a] [] pos) (ip iR1 F):=zo6 (λit lo n=>zkd it lo n) D I J
def capt:nb->nb | some (.sh d)=>some (.sh d) | _=>none
def ny(tt:FT)(te:FE)(base:DE0):mu->Option mu
 | []=>some []
 | d::r=>(tt (some (.sh d)::base)).bind λb=>if b.1=true then(te b.2).bind λv=>(ny tt te base r).map (v.1::·) else ny tt te base r
def iw(fi:FI)(ix:kf)(tt:FT)(te:FE):FA:=λe=>(fi e).bind λr=>if Few r.1.length then(ny tt te (ix.map λj=>capt (r.2.getD j none)) r.1).map λds=>(ds,r.2) else none
@[simp] noncomputable def fYes:FT:=λe=>some (true,e)
def tDxT(K:ll)(f:FT):TT:=λσ H Q=>∃G H0,tDT K G H0 f σ H Q
def tDx(K:ll)(f:FE):TE:=λσ H Q=>∃G H0,tD K G H0 f σ H Q
def NoW:Addr->Prop:=λ_=>False
def zpx{W:Addr->Prop}{env:DE0}{σ:St}{H:Hp}{ix:kf}{d:D}{v:V}(ok:Ok X.K G H0 W env σ H)(r:Rep X.K H (Ow G W) d v) :
  Ok X.K (gd λa=>Ow G W a\/H a=none) H NoW (some (.sh d)::ix.map λj=>capt (env.getD j none)) (some v::ix.map λj=>σ.getD j none) H:=by
 have R:∀ {d:D} {v:V},Rep X.K H (Ow G W) d v->Rep X.K H (Ow (gd λa=>Ow G W a\/H a=none) NoW) d v:=λr=>r.mono (λ_ _ h=>h) λa us o h=>⟨⟨.inl o,λz=>z⟩,h⟩;have I:∀(i:Nat) (s:Sl),(some (Sl.sh d)::ix.map λj=>capt (env.getD j none))[i]?=some (some s)->∃d',s=.sh d':=λi s z=>by
  cases i with
  | zero=>exact⟨d,by simpa using z.symm⟩
  | succ i =>
    simp only[ah,bj] at z;cases q:ix[i]? with
    | none=>rw[q] at z;cases z
    | some j =>
      rw[q] at z;have z:capt (env.getD j none)=some s:=bn z;unfold capt at z;split at z
      ·cases z;exact⟨_,rfl⟩
      ·cases z
 refine⟨Same.refl _,λa z=>.inr z,λl z=>z.elim,λi s e=>?_,λi j U s2 v1 v2 a J _ _ _ o _=>by obtain⟨d',rfl⟩:=I i U J;exact o.elim,by simp⟩;cases i with
 | zero =>
   cases e;exact⟨v,rfl,R r⟩
 | succ i =>
   simp only[ah,bj] at e ⊢;cases q:ix[i]? with
   | none=>rw[q] at e;cases e
   | some j =>
     rw[q] at e;have e:capt (env.getD j none)=some s:=bn e;rw[ci] at e;cases q2:env[j]? with
     | none=>rw[q2] at e;cases e
     | some o =>
       rw[q2] at e;have e:capt o=some s:=e;unfold capt at e;split at e
       ·rename_i d'
        cases e;obtain⟨u,J,Y⟩:=ok.slot j _ q2;exact⟨u,by simp only[ai];rw[ci,J];rfl,R Y⟩
       ·cases e
inductive CInv (K:ll) (O:Addr->Prop) (H1:Hp) (ds d:mu) (f:mu->Option mu) (i m:Nat) (H':Hp) (ys:l0):Prop
 | mk (rest done:mu) (hm:m=ds.length-i) (hi:i<=ds.length) (sm:Same H1 H') (rp:Reps K H' O done ys) (hd:done.length<=i) (ec:f (ds.drop i)=some rest) (hz:d=done++rest):CInv K O H1 ds d f i m H' ys
def zm8:2 ^ 20<=sizeLine:=by rw[sizeLine_eq];decide
def zuc{fi:FI}{ix:kf}{tt:FT}{te:FE}:∀σ H Q,tDF X.K G H0 (iw fi ix tt te) σ H Q->yg (tDI X.K G H0 fi) ix (tDxT X.K tt) (tDx X.K te) σ H Q:=λσ H Q z=>by
 obtain⟨W,env,d,env',ok,q,k⟩:=z;obtain⟨⟨ds,c⟩,F,q⟩:=dm.mp q;by_cases p:Few ds.length;case neg=>cases (if_neg p).symm.trans q
 obtain⟨B,L,q⟩:=h9.mp ((if_pos p).symm.trans q);cases q;refine⟨W,env,ds,_,ok,F,λW1 J H1 M t C=>⟨CInv X.K (Ow G W1) H1 ds d (ny tt te (ix.map λj=>capt (c.getD j none))),⟨ds.length,d,[],rfl,ft _,Same.refl _,.nil,bw _,L,rfl⟩,λi m H' ys z=>?_⟩⟩;obtain⟨rest,U,N,hi,sm,f,r,R,u⟩:=z;subst N;have D:=t.same sm;by_cases I:i<ds.length
 ·rw[fb I] at R
  obtain⟨⟨b,V⟩,O,R⟩:=dm.mp R;obtain⟨P,S⟩:=C.go W1 H' i ds[i] (Step.same sm) (aw I);refine .inr ⟨P,λx A y=>?_⟩;obtain⟨e,T⟩:=S x A y;subst e;refine⟨_,_,NoW,_,b,V,zpx (ix:=ix) D T,O,λW2 H2 s2 Y=>?_⟩;have s:ds.length-(i+1)<ds.length-i:=m3 _ _ I;cases b with
  | false=>exact⟨_,s,rest,U,rfl,I,sm.trans Y.stay,D.reps (Step.same Y.stay) f,qh r,R,u⟩
  | true =>
    obtain⟨⟨E,g⟩,e4,R⟩:=dm.mp R;obtain⟨Z,e5,e6⟩:=h9.mp R;refine⟨_,_,W2,V,E,g,Y,e4,λW3 v H3 s3 n r3=>⟨?_,_,s,Z,U++[E],rfl,I,sm.trans n.stay,(D.reps (Step.same n.stay) f).append (.cons (r3.mono (λ_ _ h=>h) λa us o h=>⟨?_,h⟩) .nil),?_,e5,?_⟩⟩
    ·rw[<-f.length];exact bh (Nat.lt_of_le_of_lt r (bh I p)) zm8
    ·rcases o.1 with z | z
     ·exact z
     ·exact⟨D.good a (D.stay.free z),λw=>by obtain⟨_,us,q⟩:=D.wl a w;rw[z] at q;cases q⟩
    ·rw[am];exact Nat.succ_le_succ r
    ·rw[u,<-e6,d5];rfl
 ·cases ui hi (lr I)
  rw[jz] at R;cases R;refine .inl ⟨C.stop W1 H' (Step.same sm),by rw[<-f.length];exact cy r (cy p zm8),λl s=>?_⟩;obtain⟨h1,h2,h3,h4,h5,h6⟩:=vt D f s;rw[u,df] at k;exact k W1 l _ _ ((M.trans (Step.same sm)).trans h1) h2 h3 h4 h5 h6
def ye{D:Cx}(R:D.K=X.K):PIfs D [] (tDxT X.K fYes):=λpins s σ H Q I J=>by
 obtain⟨G,H0,W,env,b,env',ok,e,k⟩:=J;cases e;exact zzs pins s σ H Q I (k W H Step.refl ok)
def if_x{D:Cx}{tt:FT}(J:D.K=X.K)(h:∀G H0,DTx D G H0 c tt):PIfs D [c] (tDxT X.K tt):=λpins s σ H Q I ⟨G,H0,q⟩=>zzt (h G H0).out pins s σ H Q I (by rw[J];exact q)
def el_x{D:Cx}{te:FE}(J:D.K=X.K)(h:∀G H0,DEx D G H0 e te):PE D e (tDx X.K te):=λpins s σ H Q I ⟨G,H0,q⟩=>(h G H0).out pins s σ H Q I (by rw[J];exact q)
def sy{Nn Cn:ik}{ix:kf}{sc:Scope}{px:Pos}{fi:FI}{te:FE}(an:Ats Nn Cn X)(hi:DIx X G H0 (.Name x px) a fi)(I:∀cl C s₂ H₂ fp G H0,Ats (x::(subN Nn ix)) (subN Nn ix) (jd X x (subN Nn ix) sc cl C s₂ H₂ fp)->DEx (jd X x (subN Nn ix) sc cl C s₂ H₂ fp) G H0 e te)(D:qv Nn Cn ix x sc=true:=by decide +kernel)(J:X.calm=true:=by rfl)(R:∀v,foldedSetIterable a X.env v=pure v:=by intro _;rfl) :
  DFx X G H0 (.ListComp e [⟨.Name x px,a,[],0⟩] sc pos) (iw fi ix fYes te) :=
 ⟨(zpr (wb an D) (λ_ _ _ _ _ _ _ _ _=>J) hi.out (λcl C s₂ H₂ fp _=>ye (X:=X) rfl) (λcl C s₂ H₂ fp _=>el_x (X:=X) rfl (λG H0=>I cl C s₂ H₂ fp G H0 (ud D))) R).imp zuc⟩
def zrn{Nn Cn:ik}{ix:kf}{sc:Scope}{px:Pos}{fi:FI}{te:FE}{tt:FT}{R:Expr}(an:Ats Nn Cn X)(hi:DIx X G H0 (.Name x px) a fi)(I:∀cl C s₂ H₂ fp G H0,Ats (x::(subN Nn ix)) (subN Nn ix) (jd X x (subN Nn ix) sc cl C s₂ H₂ fp)->DTx (jd X x (subN Nn ix) sc cl C s₂ H₂ fp) G H0 R tt)(J:∀cl C s₂ H₂ fp G H0,Ats (x::(subN Nn ix)) (subN Nn ix) (jd X x (subN Nn ix) sc cl C s₂ H₂ fp)->DEx (jd X x (subN Nn ix) sc cl C s₂ H₂ fp) G H0 e te)(D:qv Nn Cn ix x sc=true:=by decide +kernel)(U:X.calm=true:=by rfl)(V:∀v,foldedSetIterable a X.env v=pure v:=by intro _;rfl) :
  DFx X G H0 (.ListComp e [⟨.Name x px,a,[R],0⟩] sc pos) (iw fi ix tt te) :=
 ⟨(zpr (wb an D) (λ_ _ _ _ _ _ _ _ _=>U) hi.out (λcl C s₂ H₂ fp _=>if_x (X:=X) rfl (λG H0=>I cl C s₂ H₂ fp G H0 (ud D))) (λcl C s₂ H₂ fp _=>el_x (X:=X) rfl (λG H0=>J cl C s₂ H₂ fp G H0 (ud D))) V).imp zuc⟩
end
def Here(h h':Heap):Prop:=∀b o,h.get? b=some o->∃o',h'.get? b=some o'
def Here.trans{a b c:Heap}(x:Here a b)(y:Here b c):Here a c:=λp o q=>let ⟨o',e⟩:=x p o q;y p o' e
def zpy{a:Addr}{f:Obj->Obj}(D:∀o,h.get? a=some o->(h.update a f).get? a=some (f o)):Here h (h.update a f):=λb o q=>by
 by_cases e:a=b
 ·subst e;exact⟨_,D o q⟩
 ·exact⟨o,(cr _ _ e).trans q⟩
structure XOk (B:Heap) (l:k7) (e:Addr) (cls fl:Value) (h:Heap):Prop where
 stay:B.StaysIn h
 new:B.get? e=none
 fr:h.FunFrames B l
 tr:∃oe vs T oT ts,h.get? e=some oe/\oe.cls=cls/\oe.dict=none/\oe.data=.fields vs/\vs[1]?=some (.ref T)/\vs[2]?=some .none/\B.get? T=none/\T≠e/\h.get? T=some oT/\oT.data=.fields ts/\ts[3]?=some fl
def zxe(o:Obj)(f:lx->lx):(o.mapFields f).dict=o.dict:=by obtain⟨c,d,D,sl⟩:=o;cases D <;> rfl
variable{env:Env}{e L:Addr}{M:Model}{A:Around}{E:Value->Shared->Prop}{B:Heap}{outer:k7}
def z18{D:Obj}{vs:lx}{g:Value}{nx:Bool}(p:A.frames=some (env::outer))(f2:s.heap.FunFrames B (env::outer))(r:env.frame=some L)(V:s.heap.get? e=some D)(gd:D.dict=none)(I:D.data=.fields vs)(i:1<vs.size)(t:vs[2]?=some .none)(k1:B.StaysIn s.heap)(k2:B.get? e=none)(h:∀h',XOk B (env::outer) e D.cls (rawInt L) h'->s.heap.UpToSlots h'->Here s.heap h'->Q () { s with heap:=h' }) :
  wpAny M A (do let a <-frameOf env;let pl <-entryPlaceOf L nx;let b <-EntryCells.newEntry g a .none (rawInt L) .none pl;setField (.ref e) 1 b) Q E s:=by
 have Y:e∉(env::outer).filterMap (·.frame):=λz=>by
  obtain⟨_,o,j,u⟩:=f2.mem z;rw[V] at j;cases j;exact u vs I
 refine wpAny_bind (wpAny_frameOf_fun p f2 r λh1 J=>?_);refine wpAny_bind (wpAny_entryPlaceOf λpl R=>?_);refine wpAny_bind (wpAny_newObj_type ?_ (R.sizeOk5 _ _ _ _ _));have k:h1.get? e=some D:=(J.2.1 e Y).trans V;have l:B.StaysIn h1:=λb o q=>(J.2.1 b λz=>by rw[(f2.mem z).1] at q;cases q).trans (k1 b o q);generalize U:({ cls:=.type "traceback",dict:=none,data:=.fields ([g,.ref L,.none,rawInt L,.none]++(if pl.isEmpty then List.replicate 6 Value.none else pl)).toArray }:Obj)=ob;have Z:∃ts,ob.data=.fields ts/\ts[3]?=some (rawInt L):=by subst U;exact⟨_,rfl,by first | (simp;done) | (rcases R with rfl | ⟨_,_,_,_,_,_,_,rfl⟩ <;> simp)⟩
 have c:ob.isFreed=false:=by subst U;rfl
 have d:=aq (h:=h1) ob k;have m:h1.objs.size≠e:=l9 (bi k);have f:=Obj.data_mapFields I (·.setIfInBounds 1 (Value.ref h1.objs.size));refine wpAny_setField d I i (h _ ?_ ?_ ?_)
 ·refine⟨λb o q=>?_,k2,f2.of_keeps λb o q n=>?_,?_⟩
  ·rw[cr _ _ (λz:e=b=>by rw[<-z,k2] at q;cases q)]
   exact aq _ (l b o q)
  ·obtain⟨sl,z⟩:=J.2.2 b o q
   refine⟨{ o with slots:=sl },?_,rfl⟩;rw[cr _ _ (λy:e=b=>by rw[<-y,V] at q;cases q;exact n vs I)];exact aq _ z
  ·obtain⟨ts,v,w⟩:=Z
   refine⟨_,_,h1.objs.size,ob,ts,f8 _ d (Obj.isFreed_of_fields f),Obj.cls_mapFields _ _,(zxe _ _).trans gd,f,by simp[i],by rw[Array.getElem?_setIfInBounds_ne (by decide)];exact t,l.fresh,m,?_,v,w⟩;rw[cr _ _ (Ne.symm m)];exact cq h1 c
 ·intro b o q n
  obtain⟨sl,z⟩:=J.2.2 b o q;refine⟨sl,?_⟩;rw[cr _ _ (λy:e=b=>by rw[<-y,V] at q;cases q;exact n vs I)];exact aq _ z
 ·intro b o q
  obtain⟨sl,z⟩:=J.2.2 b o q;exact zpy (λo q=>f8 _ q (by rw[d] at q;cases q;exact Obj.isFreed_of_fields f)) b _ (aq _ z)
variable{l:k7}{cls fl:Value}
def zsx(x:XOk B l e cls fl s.heap)(h:∀h',XOk B l e cls .none h'->s.heap.UpToSlots h'->Here s.heap h'->Q () { s with heap:=h' }):wpAny M A (setFlight (.ref e) none) Q E s:=by
 obtain⟨g,vs,T,i,ts,R,a,gd,U,V,c,Y,Z,D,I,d⟩:=x.tr;have sz:3<ts.size:=(kq.mp d).1;unfold setFlight;refine wpAny_bind (wpAny_field R U V ?_);have J:=Obj.data_mapFields I (·.setIfInBounds 3 ((none:Option Addr).elim Value.none λf=>rawInt f));refine wpAny_setField D I sz (h _ ⟨λb o q=>?_,x.new,x.fr.of_keeps λb o q n=>⟨o,?_,rfl⟩,_,vs,T,_,_,(cr _ _ Z).trans R,a,gd,U,V,c,Y,Z,f8 _ D (Obj.isFreed_of_fields J),J,by simp[sz]⟩ (λb o q n=>⟨o.slots,?_⟩) (zpy λo q=>f8 _ q (by rw[D] at q;cases q;exact Obj.isFreed_of_fields J)))
 ·exact(cr _ _ λz=>by rw[<-z,Y] at q;cases q).trans (x.stay b o q)
 ·exact(cr _ _ λz=>by rw[<-z,D] at q;cases q;exact n ts I).trans q
 ·exact(cr _ _ λz=>by rw[<-z,D] at q;cases q;exact n ts I).trans q
def z9t(a:A.frames=some (env::outer))(J:env.frame=some L)(x:XOk B (env::outer) e cls .none s.heap)(h:∀h',XOk B (env::outer) e cls (rawInt L) h'->s.heap.UpToSlots h'->Here s.heap h'->Q () { s with heap:=h' }):wpAny M A (noteFrame (.ref e) env) Q E s:=by
 obtain⟨i,vs,T,j,ts,R,c,gd,U,V,d,f,g,D,I,Y⟩:=x.tr;subst c;unfold noteFrame;simp only[J];refine wpAny_bind (wpAny_field R U V ?_);refine wpAny_bind (wpAny_field D I Y ?_);refine wpAny_bind (wpAny_setField D I (kq.mp Y).1 ?_);have Z:∀b o,s.heap.get? b=some o->(∀vs,o.data≠.fields vs)->(s.heap.update T (Obj.mapFields (·.setIfInBounds 3 Value.none))).get? b=some o:=λb o q n =>
  (cr _ _ λz=>by rw[<-z,D] at q;cases q;exact n ts I).trans q
 refine z18 a (x.fr.of_keeps λb o q n=>⟨o,Z b o q n,rfl⟩) J ((cr _ _ g).trans R) gd U (kq.mp V).1 d (λb o q=>(cr _ _ λz=>by rw[<-z,f] at q;cases q).trans (x.stay b o q)) x.new λh' y u w=>h h' y (λb o q n=>u b o (Z b o q n) n) (Here.trans (zpy λo q=>f8 _ q (by rw[D] at q;cases q;exact Obj.isFreed_of_fields (Obj.data_mapFields I _))) w)
def z9u(D:A.frames=some (env::outer))(I:env.frame=some L)(x:XOk B (env::outer) e cls .none s.heap)(h:∀h',XOk B (env::outer) e cls .none h'->s.heap.UpToSlots h'->Here s.heap h'->Q () { s with heap:=h' }):wpAny M A (noteFrame (.ref e) env) (λ_ J=>wpAny M A (setFlight (.ref e) none) Q E J) E s :=
 z9t D I x λh1 R U V=>zsx R λh2 Y Z a=>h h2 Y (U.trans Z) (V.trans a)
def z7l{D:Heap}{args:i0}(R:A.frames=some (env::outer))(f2:D.FunFrames B (env::outer))(I:env.frame=some L)(k1:B.StaysIn D)(m:Heap.MadeExcOf D s.heap e cls args)(h:∀h',XOk B (env::outer) e cls .none h'->s.heap.UpToSlots h'->Here s.heap h'->Q () { s with heap:=h' }):wpAny M A (noteFrame (.ref e) env) (λ_ U=>wpAny M A (setFlight (.ref e) none) Q E U) E s:=by
 obtain⟨t,J,_,_⟩:=m.there;have k2:B.get? e=none:=by
  cases q:B.get? e with
  | none=>rfl
  | some o=>have:=k1 e o q;rw[m.new] at this;cases this
 unfold noteFrame;simp only[I];refine wpAny_bind (wpAny_field J rfl (x:=Value.none) rfl ?_);exact z18 R (f2.of_keeps λb o q _=>⟨o,m.keeps b o q,rfl⟩) I J rfl rfl (by simp) rfl (λb o q=>m.keeps b o (k1 b o q)) k2 λh1 V Y Z=>zsx V λh2 a c d=>h h2 a (Y.trans c) (Z.trans d)
end L2
namespace L2
open PySem PySem.Spec PyProof.Rows PySem.W
def Cl(K:ll)(c:Str)(C:Addr):Prop:=PySem.W.nsIn K mainGlobals c=some (some (.ref C))
def Fly(P:Program)(w:World)(l:k7)(H:Hp)(s:Shared)(C e:Addr)(H':Hp)(s':Shared):Prop :=
 ∃B,XOk B l e (.ref C) .none s'.heap/\(∀b o,s.heap.get? b=some o->H b=none->b∉frs l->B.get? b=some o)/\HOk P w H' B/\Un (frs l) [] H H' s.heap s'.heap/\s'.os=s.os/\AllBare s'.gens
abbrev CXr(P:Program)(w:World):CXT:=λl H s E e s'=>∃ea C H',e=.ref ea/\Fly P w l H s C ea H' s'/\E (.ref C) none H'
def XS(X:Cx)(pins:ln)(σ:St)(H:Hp)(C e:Addr)(s':Shared):Prop :=
 (∃s H1,Inv X pins σ H1 s/\Fly X.prog X.w X.stack H1 s C e H s')\/∃s args,Inv X pins σ H s/\Heap.MadeExcOf s.heap s'.heap e (.ref C) args/\s'={ s with heap:=s'.heap }
variable{CX:CXT}{P:Program}{w:World}{K:ll}{mg:Str->ka}{base:Heap}{x qual:Str}{st:Stmt}{f:Addr}{fd:FuncData}{N ps:ik}{k:Nat}{sp:Sp}
theorem Fun.okX(F:Fun K x qual st f fd)(S:rn N ps (f9 st))(len:∀vs H Q E,sp vs H Q E->vs.length=ps.length)(D:∀(cdv:Value) (A:Around) (outer:k7) (s:Shared) (H:Hp) (vs:l0) (Q:VK) (E:XK),Room k (A.deeper (envOfC qual (f9 st) s.heap.objs.size f cdv))->sp vs H Q E ->
   ∃t,PSs (cxOf CX P w K mg base N qual (f9 st) f cdv A outer s H E) (l7 st) t/\t { nx:=λ_ H'=>Q .non H',rt:=Q } (start N vs) H):FnOk P w K mg base CX (k+1) f fd ps sp:=by
 obtain⟨oc,od,kV,R,Z,an,cdv,ct,osl,rfl,U,I⟩:=F.ex;exact z9j U I S len λA outer s H vs Q E Y J=>D cdv A outer s H vs Q E Y J
theorem Fun.okC(F:Fun K x qual st f fd)(S:rn N ps (f9 st))(len:∀vs H Q E,sp vs H Q E->vs.length=ps.length)(D:∀(cdv:Value) (A:Around) (outer:k7) (s:Shared) (H:Hp) (vs:l0) (Q:VK) (E:XK),Room k (A.deeper (envOfC qual (f9 st) s.heap.objs.size f cdv))->sp vs H Q E ->
   ∃t,PSs (cxOf CX P w K mg base N qual (f9 st) f cdv A outer s H E).nox (l7 st) t/\t { nx:=λ_ H'=>Q .non H',rt:=Q } (start N vs) H):FnOk P w K mg base CX (k+1) f fd ps sp :=
 F.okX S len λcdv A outer s H vs Q E I h=>let ⟨t,p,q⟩:=D cdv A outer s H vs Q E I h;⟨t,p.nox,q⟩
variable{X:Cx}{pins:ln}{σ:St}{H H':Hp}{s s':Shared}{C e:Addr}
def Fly.inv(I:Inv X pins σ H s)(f:Fly X.prog X.w X.stack H s C e H' s'):Inv X pins σ H' s':=by
 obtain⟨B,x,_,D,un,os,J⟩:=f;exact I.call' (ch:=[]) os un (D.kept x.stay) J λb z=>absurd z (by simp)
def XS.come{E:Value->Shared->Prop}{Q:Unit->Shared->Prop}(h:XS X pins σ H' C e s')(R:X.stack=X.env::X.outer)(k:X.env.frame=some X.env.locals)(l:∀h2 D H1,Inv X pins σ H1 D->Fly X.prog X.w X.stack H1 D C e H' { s' with heap:=h2 }->Q () { s' with heap:=h2 }):wpAny (model X.prog X.w) X.A (noteFrame (.ref e) X.env) (λ_ D=>wpAny (model X.prog X.w) X.A (setFlight (.ref e) none) Q E D) E s':=by
 rcases h with⟨D,H1,I,f⟩ | ⟨D,args,I,m,es⟩
 ·obtain⟨B,x,p,r,un,os,s⟩:=f
  have st:=I.stack;rw[R] at x st;refine z9u (I.ok.frames.trans (by rw[R])) k x λh2 U Z V=>l h2 D H1 I ⟨B,R ▸ U,p,r,⟨λb o q n J _=>U.stay b o (p b o q n J),λb o q n J d=>?_,un.free,λb o q d=>?_,un.tups,un.frzs,un.tbls⟩,os,s⟩
  ·obtain⟨sl,z⟩:=un.slot b o q n J d
   rw[R] at J;obtain⟨_,t,y,g⟩:=st.mem J;rw[q] at y;cases y;obtain⟨i,v⟩:=Z b _ z g;exact⟨i,v⟩
  ·obtain⟨o',z⟩:=un.there b o q d
   exact V b o' z
 ·have st:=I.stack
  have F:∀b∈frs X.stack,H' b=none:=I.stkFree;have Y:∀b o,H' b=some o->b∉frs X.stack:=λb o q z=>by rw[F b z] at q;cases q
  have j:HOk X.prog X.w H' (hideAll D.heap (frs X.stack)):=λb o q =>
   (I.hok b o q).stay (λc u hc z=>hideAll_get _ z (by rcases hc with rfl | hc;exact Y _ _ q;exact Y _ _ hc)) (λ_ z=>z) λ_ _ z=>z
  have f2:D.heap.FunFrames (hideAll D.heap (frs X.stack)) (X.env::X.outer):=R ▸ funFrames_hide (as:=frs X.stack) st λenv V a G=>om.mpr ⟨env,V,G⟩;refine z7l (B:=hideAll D.heap (frs X.stack)) (I.ok.frames.trans (by rw[R])) f2 k (λb o q=>of_hideAll _ q) m λh2 U Z V=>l h2 D H' I ⟨_,R ▸ U,λb o q n J=>hideAll_get _ q J,j,⟨λb o q n J _=>U.stay b o (hideAll_get _ q J),λb o q n J _=>?_,λ_ _ _ n _=>n,λb o q _=>V b o (m.keeps b o q),λ_ _ z=>z,λ_ _ _ z=>z,λ_ ps z=>⟨#[],by rw[Array.append_empty];exact z⟩⟩,by rw[es],by rw[es];exact I.bare⟩;obtain⟨_,t,y,g⟩:=st.mem J;rw[q] at y;cases y;exact Z b o (m.keeps b o q) g
def zl5{scope:Scope}{D:Value}{A:Around}{outer:k7}{s₀:Shared}{H₀:Hp}{E:XK}(h:XS (cxOf (CXr P w) P w K mg base N qual scope f D A outer s₀ H₀ E) pins σ H' C e s')(U:E (.ref C) none H'):(cxOf (CXr P w) P w K mg base N qual scope f D A outer s₀ H₀ E).xe (.ref e) s':=by
 refine wpAny_bind (h.come rfl rfl λh2 Z H1 I f=>⟨e,C,H',rfl,?_,U⟩);have J:=f.inv I;obtain⟨B,x,V,Y,_⟩:=f;refine⟨B,⟨x.stay,x.new,x.fr.2.2,x.tr⟩,λb o q n R=>?_,Y,J.base,J.os,J.bare⟩;refine V b o (I.base.keep b o q n R (by simp[cxOf])) (I.base.free b o q n (by simp[cxOf])) λz=>?_;rcases b8.mp (show b∈s₀.heap.objs.size::frs outer from z) with z | z
 ·rw[z] at q;exact absurd (bi q) (fz _)
 ·exact R z
end L2
namespace L2
open PySem PySem.Spec PyProof.Rows
inductive Fl where
 | nx | bk | ct | rt (d:D) | rf (ds:mu) | r2 (dss:List mu) | xc (c:Str) | ra (k:AK) (ps:mx)
abbrev FS:=DE0->Option (Fl×DE0)
structure N2 (K:ll) (G:Gd) (H0 H:Hp) (l:Addr) (ls:kb) (dss:List mu):Prop where
 nd:(l::ls).Nodup
 new:∀a∈l::ls,H0 a=none
 top:H l=some (.lst (ls.map V.ref))
 len:ls.length=dss.length
 inn:∀(j:Nat) (ds:mu) (a:Addr),dss[j]?=some ds->ls[j]?=some a->∃vs,H a=some (.lst vs)/\Reps K H (λb=>G b/\b∉l::ls) ds vs
def EndOk(X:Cx)(G:Gd)(H0:Hp)(W:Addr->Prop)(H:Hp)(Dn:Ends)(env':DE0):Fl->Prop
 | .nx=>∀W' D H',Step W H W' H'->Ok X.K G H0 W' env' D H'->Dn.nx D H'
 | .bk=>∀W' D H',Step W H W' H'->Ok X.K G H0 W' env' D H'->Dn.bk D H'
 | .ct=>∀W' D H',Step W H W' H'->Ok X.K G H0 W' env' D H'->Dn.ct D H'
 | .rt d=>∀W' D v H',Step W H W' H'->Ok X.K G H0 W' env' D H'->Rep X.K H' (Ow G W') d v->Dn.rt v H'
 | .rf ds=>∀l vs H',Same H0 H'->H0 l=none->H' l=some (.lst vs)->Reps X.K H' (λa=>G a/\a≠l) ds vs->Dn.rt (.ref l) H'
 | .r2 dss=>∀l ls H',Same H0 H'->N2 X.K G H0 H' l ls dss->Dn.rt (.ref l) H'
 | .xc c=>∀W' D H' C,Cl X.K c C->Step W H W' H'->Ok X.K G H0 W' env' D H'->∀pins e s',XS X pins D H' C e s'->X.xe (.ref e) s'
 | .ra k ps=>∀W' D p H',Step W H W' H'->Ok X.K G H0 W' env' D H'->SlOk X.K G W' H' (.ag k none ps) (.ref p)->Dn.rt (.ref p) H'
def tDS(X:Cx)(G:Gd)(H0:Hp)(g:FS):TS:=λDn σ H=>DP X.K G H0 g (λW env fl env'=> EndOk X G H0 W H Dn env' fl) σ H
structure DSx (X:Cx) (G:Gd) (H0:Hp) (s:Stmt) (g:FS):Prop where
 out:PS X s (tDS X G H0 g)
structure DBx (X:Cx) (G:Gd) (H0:Hp) (s:List Stmt) (g:FS):Prop where
 out:PSs X s (tDS X G H0 g)
variable{X:Cx}{e:Expr}{t t':TS}
def PS.imp{e:Stmt}(h:PS X e t)(i:∀D σ H,t' D σ H->t D σ H):PS X e t':=λpins s σ H D I q=>h pins s σ H D I (i D σ H q)
def PSs.imp{e:List Stmt}(h:PSs X e t)(i:∀D σ H,t' D σ H->t D σ H):PSs X e t':=λpins s σ H D I q=>h pins s σ H D I (i D σ H q)
variable{G:Gd}{W W1:Addr->Prop}{H0 H H1:Hp}{Dn:Ends}{env':DE0}{fl:Fl}
protected def EndOk.step(st:Step W H W1 H1)(h:EndOk X G H0 W H Dn env' fl):EndOk X G H0 W1 H1 Dn env' fl:=by
 cases fl with
 | nx=>exact λW' D H' s o=>h W' D H' (st.trans s) o
 | bk=>exact λW' D H' s o=>h W' D H' (st.trans s) o
 | ct=>exact λW' D H' s o=>h W' D H' (st.trans s) o
 | rt d=>exact λW' D v H' s o=>h W' D v H' (st.trans s) o
 | rf ds=>exact h
 | r2 dss=>exact h
 | xc c=>exact λW' D H' C z s o=>h W' D H' C z (st.trans s) o
 | ra k ps=>exact λW' D p H' s o=>h W' D p H' (st.trans s) o
def Fl.out:Fl->Bool | .rt _=>true | .rf _=>true | .r2 _=>true | .xc _=>true | .ra _ _=>true | _=>false
variable{Dn':Ends}
protected def EndOk.go(I:fl.out=true)(h:EndOk X G H0 W H Dn env' fl)(e:Dn'.rt=Dn.rt)(st:Step W H W1 H1):EndOk X G H0 W1 H1 Dn' env' fl:=by
 cases fl with
 | nx=>cases I
 | bk=>cases I
 | ct=>cases I
 | rt d=>intro W' D v H' s o r;rw[e];exact h W' D v H' (st.trans s) o r
 | rf ds=>intro v vs H' s n l r;rw[e];exact h v vs H' s n l r
 | r2 dss=>intro v ls H' s n;rw[e];exact h v ls H' s n
 | xc c=>exact λW' D H' C z s o=>h W' D H' C z (st.trans s) o
 | ra k ps=>intro W' D p H' s o r;rw[e];exact h W' D p H' (st.trans s) o r
@[simp] noncomputable def sNil:FS:=λe=>some (.nx,e)
@[simp] noncomputable def sSeq(g h:FS):FS:=λe=>(g e).bind λr=>match r.1 with | .nx=>h r.2 | _=>some r
@[simp] noncomputable def sSet(i:Nat)(f:FE):FS:=λe=>(f e).map λr=>(.nx,r.2.set i (some (.sh r.1)))
@[simp] noncomputable def sOwn(i:Nat)(f:FA):FS:=λe=>(f e).map λr=>(.nx,r.2.set i (some (.ow r.1)))
@[simp] noncomputable def sRet(f:FE):FS:=λe=>(f e).map λr=>(.rt r.1,r.2)
@[simp] noncomputable def z3t(f:FA):FS:=λe=>(f e).map λr=>(.rf r.1,r.2)
@[simp] noncomputable def sIf(c:FT)(g h:FS):FS:=λe=>(c e).bind λr=>if r.1=true then g r.2 else h r.2
@[simp] noncomputable def iy(f:FE):FS:=λe=>(f e).map λr=>(.nx,r.2)
@[simp] noncomputable def zud:FS:=λ_=>none
def forL(i:Nat)(g:FS):mu->DE0->Option (Fl×DE0)
 | [],e=>some (.nx,e)
 | d::r,e=>(g (e.set i (some (.sh d)))).bind λq=>match q.1 with | .nx=>forL i g r q.2 | .ct=>forL i g r q.2 | .bk=>some (.nx,q.2) | .rt d=>some (.rt d,q.2) | .rf ds=>some (.rf ds,q.2) | .r2 ds=>some (.r2 ds,q.2) | .xc c=>some (.xc c,q.2) | .ra k ps=>some (.ra k ps,q.2)
@[simp] noncomputable def sFor(i:Nat)(fi:FI)(g:FS):FS:=λe=>(fi e).bind λr=>forL i g r.1 r.2
def nj(c:FT)(g:FS):Nat->DE0->Option (Fl×DE0)
 | 0,_=>none
 | n+1,e=>(c e).bind λr=>if r.1=true then(g r.2).bind λq=>match q.1 with | .nx=>nj c g n q.2 | .ct=>nj c g n q.2 | .bk=>some (.nx,q.2) | .rt d=>some (.rt d,q.2) | .rf ds=>some (.rf ds,q.2) | .r2 ds=>some (.r2 ds,q.2) | .xc c=>some (.xc c,q.2) | .ra k ps=>some (.ra k ps,q.2) else some (.nx,r.2)
section
variable {X:Cx} {G:Gd} {H0:Hp} {a b c e:Expr} {es rest:k8} {f g:FE} {F:FA} {p q:FT} {s:Stmt} {ss:List Stmt} {u v:FS} {pos p' p1 pos1:Pos} {x:Str} {i:Nat}
def gg  : DBx X G H0 [] sNil:=⟨z22.imp λDn σ H D=>by
 obtain⟨W,env,fl,env',ok,q,k⟩:=D;cases q;exact k W σ H Step.refl ok⟩
def cx(h1:DSx X G H0 s u)(h2:DBx X G H0 ss v):DBx X G H0 (s::ss) (sSeq u v):=⟨(zze h1.out h2.out).imp λDn σ H R=>by
 obtain⟨W,env,fl,env',ok,q,k⟩:=R;cases e1:u env with
 | none=>simp[e1] at q
 | some r =>
   obtain⟨I,D⟩:=r;refine⟨W,env,I,D,ok,e1,?_⟩;cases I with
   | nx =>
     have q:v D=some (fl,env'):=by simpa[sSeq,e1] using q
     exact λW1 U H1 V J=>⟨W1,D,fl,env',J,q,k.step V⟩
   | bk =>
     have q:some (Fl.bk,D)=some (fl,env'):=by simpa[sSeq,e1] using q
     cases q;exact k
   | ct =>
     have q:some (Fl.ct,D)=some (fl,env'):=by simpa[sSeq,e1] using q
     cases q;exact k
   | rt d =>
     have q:some (Fl.rt d,D)=some (fl,env'):=by simpa[sSeq,e1] using q
     cases q;exact k
   | rf d =>
     have q:some (Fl.rf d,D)=some (fl,env'):=by simpa[sSeq,e1] using q
     cases q;exact k
   | r2 d =>
     have q:some (Fl.r2 d,D)=some (fl,env'):=by simpa[sSeq,e1] using q
     cases q;exact k
   | xc d =>
     have q:some (Fl.xc d,D)=some (fl,env'):=by simpa[sSeq,e1] using q
     cases q;exact k
   | ra d d' =>
     have q:some (Fl.ra d d',D)=some (fl,env'):=by simpa[sSeq,e1] using q
     cases q;exact k⟩
def di(h:DSx X G H0 s u):DBx X G H0 [s] u:=⟨z23 h.out⟩
def z7m(R:X.N.Nodup)(hi:X.N[i]?=some x:=by rfl)(U:DEx X G H0 e f)(ps:PS X (.Assign [.Name x p'] e pos) (tAsg (tD X.K G H0 f) (nz i))):DSx X G H0 (.Assign [.Name x p'] e pos) (sSet i f):=⟨ps.imp λDn σ H I=>by
 obtain⟨W,env,fl,env',ok,q,k⟩:=I;cases e1:f env with
 | none=>simp[e1] at q
 | some r =>
   have q:some (Fl.nx,r.2.set i (some (Sl.sh r.1)))=some (fl,env'):=by simpa[sSet,e1] using q
   cases q;exact⟨W,env,_,_,ok,e1,λW1 v1 H1 J D p1=>k W1 _ H1 J (D.set p1)⟩⟩
def mi(ps:PS X (.Assign [.Name x p'] e pos) (tAsg (tDF X.K G H0 F) (nz i))):DSx X G H0 (.Assign [.Name x p'] e pos) (sOwn i F):=⟨ps.imp λDn σ H J=>by
 obtain⟨W,env,fl,env',ok,q,k⟩:=J;cases e1:F env with
 | none=>simp[e1] at q
 | some r =>
   have q:some (Fl.nx,r.2.set i (some (Sl.ow r.1)))=some (fl,env'):=by simpa[sOwn,e1] using q
   cases q;exact⟨W,env,_,_,ok,e1,λW1 l vs H1 R D I U V Y=>k (addW W1 l) _ H1 R (I.setO (.inr rfl) V Y (D.noOwn U))⟩⟩
def ek(I:DEx X G H0 e f):DSx X G H0 (.Return (some e) pos) (sRet f):=⟨(ym I.out).imp λDn σ H J=>by
 obtain⟨W,env,fl,env',ok,q,k⟩:=J;cases e1:f env with
 | none=>simp[e1] at q
 | some r =>
   have q:some (Fl.rt r.1,r.2)=some (fl,env'):=by simpa[sRet,e1] using q
   cases q;exact⟨W,env,_,_,ok,e1,λW1 v1 H1 R D p1=>k W1 σ v1 H1 R D p1⟩⟩
def z3u(J:DFx X G H0 e F):DSx X G H0 (.Return (some e) pos) (z3t F):=⟨(ym J.out).imp λDn σ H R=>by
 obtain⟨W,env,fl,env',ok,q,k⟩:=R;cases e1:F env with
 | none=>simp[e1] at q
 | some r =>
   have q:some (Fl.rf r.1,r.2)=some (fl,env'):=by simpa[z3t,e1] using q
   cases q;exact⟨W,env,_,_,ok,e1,λW1 l vs H1 Y D I Z U V=>k l vs H1 D.stay (I.wl l (.inr rfl)).1 U (V.mono (λ_ _ h=>h) λa us o h=>⟨⟨o.1,λz=>o.2 (.inr z)⟩,h⟩)⟩⟩
def fOwn(i:Nat):FA:=λe=>match e[i]? with | some (some (.ow ds))=>some (ds,e.set i none) | _=>none
@[simp] noncomputable def zz2(i:Nat):FS:=λe=>match e[i]? with | some (some (.ow ds))=>some (.rf ds,e) | _=>none
def zxf{Nn Cn:ik}{i:Nat}(an:Ats Nn Cn X)(D:Nn[i]?=some x:=by rfl):DSx X G H0 (.Return (some (.Name x p')) pos) (zz2 i):=⟨(ym ((an.a D).pe)).imp λDn σ H J=>by
 obtain⟨W,env,fl,env',ok,q,k⟩:=J;unfold zz2 at q;split at q
 ·rename_i ds R
  cases q;obtain⟨v,U,l,vs,rfl,I,V,r⟩:=ok.slot i _ R;exact⟨_,U,k l vs H ok.stay (ok.wl l I).1 V (r.mono (λ_ _ h=>h) λa us o h=>⟨⟨o.1,λz=>o.2 (z ▸ I)⟩,h⟩)⟩
 ·cases q⟩
def gf{J R:List Stmt}(V:DTx X G H0 c p)(Y:DBx X G H0 J u)(Z:DBx X G H0 R v):DSx X G H0 (.If c J R pos) (sIf p u v):=⟨(z9c V.out Y.out Z.out).imp λDn σ H a=>by
 obtain⟨W,env,fl,env',ok,q,k⟩:=a;cases e1:p env with
 | none=>simp[e1] at q
 | some r =>
   obtain⟨t,D⟩:=r;refine⟨W,env,t,D,ok,e1,λW1 H1 U I=>?_⟩;cases t with
   | true=>rw[if_pos rfl];exact⟨W1,D,fl,env',I,by simpa[sIf,e1] using q,k.step U⟩
   | false=>rw[if_neg cj];exact⟨W1,D,fl,env',I,by simpa[sIf,e1] using q,k.step U⟩⟩
def zpz  : DSx X G H0 s zud:=⟨zzf.imp λDn σ H ⟨W,env,fl,env',ok,q,k⟩=>by cases q⟩
def jm(I:DEx X G H0 e f)(J:swapsWith e none pos.line X.env=pure false:=by rfl):DSx X G H0 (.Expr e pos) (iy f):=⟨(zwh I.out J).imp λDn σ H R=>by
 obtain⟨W,env,fl,env',ok,q,k⟩:=R;cases e1:f env with
 | none=>simp[e1] at q
 | some r =>
   have q:some (Fl.nx,r.2)=some (fl,env'):=by simpa[iy,e1] using q
   cases q;exact⟨W,env,_,_,ok,e1,λW1 v1 H1 U D p1=>k W1 σ H1 U D⟩⟩
structure z3v (K:ll) (G:Gd) (J:It) (W:Addr->Prop) (H:Hp) (ds:mu):Prop where
 go:∀W' H' (i:Nat) d,Step W H W' H'->ds[i]?=some d->J.go i H'/\∀x H'',J.yld i H' x H''->Same H' H''/\Rep K H'' (Ow G W') d x
 stop:∀W' H',Step W H W' H'->J.stop ds.length H'
def tDJ(K:ll)(G:Gd)(H0:Hp)(f:FI):TI:=λσ H R=>DP K G H0 f (λW env ds env' =>
 ∀W' J H',Step W H W' H'->Ok K G H0 W' env' σ H'->z3v K G J W' H' ds->R J H') σ H
structure DJx (X:Cx) (G:Gd) (H0:Hp) (tg:Expr) (e:Expr) (f:FI):Prop where
 out:PI X tg e (tDJ X.K G H0 f)
def DIC.dj{tg:Expr}{f:FI}(h:DIx X G H0 tg a f):DJx X G H0 tg a f:=⟨h.out.imp λσ H R z=>by
 obtain⟨W,env,ds,env',ok,q,k⟩:=z;exact⟨W,env,ds,env',ok,q,λW' J H' st D w=>k W' J H' st D ⟨λI H2 i d s e=>⟨(w.go I H2 i d s e).1,λx U y=>by
  obtain⟨V,r⟩:=(w.go I H2 i d s e).2 x U y;cases V;exact⟨Same.refl _,r⟩⟩,w.stop⟩⟩⟩
def forK(k:DE0->Option (Fl×DE0))(q:Fl×DE0):Option (Fl×DE0):=match q.1 with | .nx=>k q.2 | .ct=>k q.2 | .bk=>some (.nx,q.2) | .rt d=>some (.rt d,q.2) | .rf ds=>some (.rf ds,q.2) | .r2 ds=>some (.r2 ds,q.2) | .xc c=>some (.xc c,q.2) | .ra k ps=>some (.ra k ps,q.2)
def EndOk.loop{Dn:Ends}{W W':Addr->Prop}{H H':Hp}{fl U:Fl}{I env':DE0}{N:St->Hp->Prop}{kk:DE0->Option (Fl×DE0)}(k:EndOk X G H0 W H Dn env' fl)(st:Step W H W' H')(V:forK kk (U,I)=some (fl,env'))(Y:∀R D H2,Step W' H' R H2->Ok X.K G H0 R I D H2->kk I=some (fl,env')->N D H2) :
  EndOk X G H0 W' H' { Dn with nx:=N,ct:=N,bk:=Dn.nx } I U:=by
 cases U with
 | nx=>exact λR D H2 s2 J=>Y R D H2 s2 J V
 | ct=>exact λR D H2 s2 J=>Y R D H2 s2 J V
 | bk=>cases V;exact λR D H2 s2 J=>k R D H2 (st.trans s2) J
 | _=>cases V;exact k.go rfl rfl st
inductive FInv (X:Cx) (G:Gd) (H0:Hp) (W1:Addr->Prop) (H1:Hp) (ds:mu) (L:mu->DE0->Option (Fl×DE0)) (r:Option (Fl×DE0)) (n m:Nat) (σ:St) (H:Hp):Prop
 | mk (W:Addr->Prop) (env:DE0) (hm:m=ds.length-n) (hn:n<=ds.length) (st:Step W1 H1 W H) (ok:Ok X.K G H0 W env σ H) (ef:L (ds.drop n) env=r):FInv X G H0 W1 H1 ds L r n m σ H
def zxg{tg:Expr}{g:TG}{body:List Stmt}{fi:FI}{b:D->DE0->Option DE0}{L:mu->DE0->Option (Fl×DE0)}(hi:DJx X G H0 tg a fi)(i:PG X tg g)(E:DBx X G H0 body u)(F:∀ {W env env' σ H d x} {Q:St->Hp->Prop},Ok X.K G H0 W env σ H->Rep X.K H (Ow G W) d x->b d env=some env'->(∀R,Ok X.K G H0 W env' R H->Q R H)->g x σ H Q)(M:∀e,L [] e=some (.nx,e))(h1:∀d r e,L (d::r) e=(b d e).bind λe'=>(u e').bind λq=>forK (L r) q)(N:PassesOwn (model X.prog X.w) X.A X.env X.xe)(O:X.calm=true)(P:∀x,foldedSetIterable a X.env x=pure x):DSx X G H0 (.For tg a body [] pos) (λe=>(fi e).bind λr=>L r.1 r.2):=⟨(z58 N O hi.out i E.out P).imp λDn σ H z=>by
 obtain⟨W,env,fl,env',ok,q,k⟩:=z;obtain⟨⟨ds,U⟩,S,q⟩:=dm.mp q;refine⟨W,env,ds,U,ok,S,λW1 J H1 t j v=>⟨FInv X G H0 W1 H1 ds L (some (fl,env')),⟨ds.length,W1,U,rfl,ft _,Step.refl,j,q⟩,λn m R H' z=>?_⟩⟩;obtain⟨W',B,T,hn,st,Z,V⟩:=z;subst T;by_cases I:n<ds.length
 ·rw[fb I,h1] at V
  obtain⟨c,e2,V⟩:=dm.mp V;obtain⟨⟨l,Y⟩,e3,V⟩:=dm.mp V;obtain⟨i,hy⟩:=v.go W' H' n ds[n] st (aw I);refine .inr ⟨i,λf H2=>∃C,C<ds.length-n/\FInv X G H0 W1 H1 ds L (some (fl,env')) (n+1) C f H2,λ_ _ h=>h,λx o y=>?_⟩;obtain⟨sm,rx⟩:=hy x o y;have sn:=st.trans (Step.same sm);exact F (Z.same sm) rx e2 λaa p=>⟨W',c,l,Y,p,e3,k.loop (t.trans sn) V λW2 f H2 s2 s e=>⟨_,m3 _ _ I,W2,Y,rfl,I,sn.trans s2,s,e⟩⟩
 ·cases ui hn (lr I)
  rw[jz,M] at V;cases V;exact .inl ⟨v.stop W' H' st,k W' R H' (t.trans st) Z⟩⟩
def l3{tg:Str}{px:Pos}{body:List Stmt}{fi:FI}(hi:DIx X G H0 (.Name tg px) a fi)(D:PG X (.Name tg px) (nz i))(I:DBx X G H0 body u)(J:PassesOwn (model X.prog X.w) X.A X.env X.xe:=by passes_own)(R:X.calm=true:=by rfl)(U:∀x,foldedSetIterable a X.env x=pure x:=by intro _;rfl):DSx X G H0 (.For (.Name tg px) a body [] pos) (sFor i fi u) :=
 zxg (b:=λd e=>some (e.set i (some (.sh d)))) (L:=forL i u) hi.dj D I (λok r e k=>by cases e;exact k _ (ok.set r)) (λ_=>rfl) (λ_ _ _=>rfl) J R U
inductive WInv (X:Cx) (G:Gd) (H0:Hp) (W1:Addr->Prop) (H1:Hp) (L:Nat->DE0->Option (Fl×DE0)) (r:Option (Fl×DE0)) (m:Nat) (σ:St) (H:Hp):Prop
 | mk (W:Addr->Prop) (env:DE0) (st:Step W1 H1 W H) (ok:Ok X.K G H0 W env σ H) (ef:L m env=r):WInv X G H0 W1 H1 L r m σ H
def zp0{body:List Stmt}{n:Nat}(i:DTx X G H0 c p)(j:DBx X G H0 body u)(l:PassesOwn (model X.prog X.w) X.A X.env X.xe:=by passes_own):DSx X G H0 (.While c body [] pos) (nj p u n):=⟨(zzh l i.out j.out).imp λDn σ H z=>by
 obtain⟨W,env,fl,env',ok,q,k⟩:=z;refine⟨WInv X G H0 W H (nj p u) (some (fl,env')),⟨n,W,env,Step.refl,ok,q⟩,λm Y H' z=>?_⟩;obtain⟨W',R,st,Z,J⟩:=z;cases m with
 | zero=>cases J
 | succ m =>
   obtain⟨⟨t,D⟩,o,J⟩:=dm.mp J;refine⟨W',R,t,D,Z,o,λd H2 s2 U=>?_⟩;cases t with
   | false =>
     cases J;exact k d Y H2 (st.trans s2) U
   | true =>
     obtain⟨⟨a,I⟩,r,J⟩:=dm.mp J;exact⟨λV f=>∃g,g<m+1/\WInv X G H0 W H (nj p u) (some (fl,env')) g V f,λ_ _ h=>h,d,D,a,I,U,r,k.loop (kk:=nj p u m) (st.trans s2) J λs V f v b e=>⟨m,fo _,s,I,(st.trans s2).trans v,b,e⟩⟩⟩
end
variable{n:Nat}
def lt20(h:n<2 ^ 20):n<sizeLine:=bh h (by rw[sizeLine_eq];decide)
@[simp] noncomputable def yd(d:D)(e:DE0)(i:Nat):Option (D×DE0):=match e[i]? with
 | some (some (.ow ds))=>if Few (ds.length+1) then some (.non,e.set i (some (.ow (ds++[d])))) else none
 | _=>none
@[simp] noncomputable def mw(i:Nat)(f:FE):FE:=λe=>match e[i]? with
 | some (some (.ow _))=>(f e).bind λr=>yd r.1 r.2 i
 | _=>none
variable{Nn Cn:ik}{i:Nat}{a:Expr}{f:FE}{pos p' p1:Pos}{x:Str}
def pz(j:DEx X G H0 a f)(an:Ats Nn Cn X)(Y:Nn[i]?=some x:=by rfl)(D:attributeBase (.Name x p') "append" X.env (eval (.Name x p') X.env)=eval (.Name x p') X.env:=by rfl)(J:((backTo pos (starEach [a] X.env)).all (λx=>!x.1) && (backToKw pos (keywordEach [] X.env)).all (λx=>x.1.isSome)
   && decide ([a].length+([]:List Keyword).length+(if ([]:List Keyword).isEmpty then 0 else 1)<30))=true:=by rfl)(I:(p1.endLine==pos.line)=true:=by rfl)(e:starEach [a] X.env=(false,eval a X.env)::starEach [] X.env:=by rfl) :
  DEx X G H0 (.Call (.Attribute (.Name x p') "append" p1) [a] [] pos) (mw i f):=⟨(zw0 fm z9 z8 zrh ((an.a Y).pe) (nc j.out pj e) D J I e rfl).imp λσ H Q m=>by
 obtain⟨W,env,d,env',ok,q,k⟩:=m;unfold mw at q;split at q;case h_2=>cases q
 rename_i n Z;obtain⟨v,b,l,o,rfl,p,c,_⟩:=ok.slot i _ Z;cases e1:f env with
 | none=>rw[e1] at q;cases q
 | some r =>
   obtain⟨s,R⟩:=r;rw[e1,ac] at q;unfold yd at q;split at q;case h_2=>cases q
   rename_i ds g;split at q;case isFalse=>cases q
   rename_i U;cases q;refine⟨_,b,.inl ⟨rfl,_,.inl (.inl c)⟩,W,env,s,R,ok,e1,λW1 v1 H1 t V u=>?_⟩;obtain⟨B,h,l',vs,w,C,y,r⟩:=V.slot i _ g;rw[b] at h;cases h;cases w;obtain⟨z,A⟩:=V.turn g b (r.append (.cons u .nil));exact⟨l,vs,v1,rfl,rfl,y,by rw[<-r.length];exact lt20 (p9 U),k W1 _ _ (t.trans A) z .non⟩⟩
@[simp] noncomputable def fPop(i:Nat):FE:=λe=>match e[i]? with
 | some (some (.ow ds))=>(ds[ds.length-1]?).map λd=>(d,e.set i (some (.ow ds.dropLast)))
 | _=>none
def z7n(an:Ats Nn Cn X)(J:Nn[i]?=some x:=by rfl)(D:attributeBase (.Name x p') "pop" X.env (eval (.Name x p') X.env)=eval (.Name x p') X.env:=by rfl)(I:(p1.endLine==pos.line)=true:=by rfl) :
  DEx X G H0 (.Call (.Attribute (.Name x p') "pop" p1) [] [] pos) (fPop i):=⟨(z13 fm mn ml z14 ((an.a J).pe) D I).imp λσ H Q Z=>by
 obtain⟨W,env,d,env',ok,q,k⟩:=Z;unfold fPop at q;split at q;case h_2=>cases q
 rename_i ds R;obtain⟨v,U,l,vs,rfl,f,V,r⟩:=ok.slot i _ R;cases e1:ds[ds.length-1]? with
 | none=>rw[e1] at q;cases q
 | some d' =>
   rw[e1] at q;cases q;obtain⟨u,b,c⟩:=r.get e1;obtain⟨e,Y⟩:=ok.turn R U r.dropLast;exact⟨_,U,.inl ⟨rfl,_,.inl (.inl V)⟩,l,vs,u,rfl,rfl,V,by rw[<-r.length];exact b,k W _ _ Y e (ok.rep Y c)⟩⟩
def z9v(k:D)(e:DE0)(i:Nat):Option (D×DE0):=match k,e[i]? with
 | .int k,some (some (.ow ds))=>if Few ds.length then(ixN ds.length k).bind λj=>(ds[j]?).map λd=>(d,e.set i (some (.ow (ds.eraseIdx j)))) else none
 | _,_=>none
def z7o(i:Nat)(f:FE):FE:=λe=>match e[i]? with
 | some (some (.ow _))=>(f e).bind λr=>z9v r.1 r.2 i
 | _=>none
@[simp] noncomputable def zxh(d k:D)(e:DE0)(i:Nat):Option (Fl×DE0):=match k,e[i]? with
 | .int k,some (some (.ow ds))=>(ixN ds.length k).map λj=>(.nx,e.set i (some (.ow (ds.set j d))))
 | _,_=>none
@[simp] noncomputable def uu(i:Nat)(D I:FE):FS:=λe=>(I e).bind λr=>match r.2[i]? with
 | some (some (.ow _))=>(D r.2).bind λq=>zxh r.1 q.1 q.2 i
 | _=>none
variable{b:Expr}{g:FE}
def zm9(m:DEx X G H0 b g)(n:DEx X G H0 e f)(an:Ats Nn Cn X)(V:Nn[i]?=some x:=by rfl)(o:swapsWithSole [.Subscript (.Name x p') b p1] e pos.line X.env=pure false:=by rfl)(p:swappedStores [.Subscript (.Name x p') b p1] e X.env=pure none:=by rfl)(h1:(assignEach [.Subscript (.Name x p') b p1] X.env).map (·.2)=[assign (.Subscript (.Name x p') b p1) X.env]:=by rfl)(J:∀v,assign (.Subscript (.Name x p') b p1) X.env v=(do
   let ov <-holding [v] (eval (.Name x p') X.env);let iv <-holding [v,ov] (eval b X.env)
   standAt p1
   holding [v,ov,iv] (setItem ov iv v)
   release [v,ov,iv] []):=by intro _;rfl) :
  DSx X G H0 (.Assign [.Subscript (.Name x p') b p1] e pos) (uu i g f):=⟨(yl n.out (zt3 ((an.a V).pe) m.out y8 J) o p h1).imp λDn σ H s=>by
 obtain⟨W,env,fl,env',ok,q,k⟩:=s;cases e1:f env with
 | none=>simp[e1] at q
 | some r =>
   obtain⟨t,D⟩:=r;simp only[uu,e1,ac] at q;split at q;case h_2=>cases q
   rename_i u Y;cases e2:g D with
   | none=>rw[e2] at q;cases q
   | some Z =>
     obtain⟨M,R⟩:=Z;rw[e2,ac] at q;unfold zxh at q;dsimp only at q;split at q;case h_2=>cases q
     rename_i kk ds d;cases e3:ixN ds.length kk with
     | none=>rw[e3] at q;cases q
     | some j =>
       rw[e3] at q;cases q;refine⟨W,env,t,D,ok,e1,λW1 v1 H1 w I y=>?_⟩;obtain⟨v,c,l,z,rfl,A,B,_⟩:=I.slot i _ Y;refine⟨_,c,W1,D,_,R,I,e2,λC v2 H2 s2 U Z=>?_⟩;obtain⟨N,h,l',vs,E,O,F,r⟩:=U.slot i _ d;rw[c] at h;cases h;cases E;obtain⟨K,L⟩:=U.turn d c (Reps.set (I.rep s2 y) j r);exact⟨l,vs,kk,j,rfl,Z.int_,F,by rw[<-r.length];exact e3,k C _ _ ((w.trans s2).trans L) K⟩⟩
def ji(n:Nat)(ds:mu):DE0:=ds.map (λd=>some (Sl.sh d))++List.replicate (n-ds.length) none
def runD(n ar:Nat)(g:FS):mu->mv:=λds=>if ds.length=ar then(match g (ji n ds) with | some (.rt d,_)=>some d | some (.nx,_)=>some .non | _=>none) else none
def runF(n ar:Nat)(g:FS):mu->Option mu:=λds=>if ds.length=ar then(match g (ji n ds) with | some (.rf d,_)=>some d | _=>none) else none
def zkh:∀ {n:Nat} {ds:mu} {i:Nat} {s:Sl},(ji n ds)[i]?=some (some s)->∃d,ds[i]?=some d/\s=.sh d:=λ{n ds i s} h=>by
 unfold ji at h;by_cases hi:i<ds.length
 ·rw[ax (by simpa using hi),bj] at h
  cases e:ds[i]? with
  | none=>rw[e] at h;cases h
  | some d=>rw[e] at h;cases h;exact⟨d,rfl,rfl⟩
 ·rw[dg (by simpa using hi),List.getElem?_replicate] at h
  split at h <;> cases h
variable{O:Addr->Prop}{ds:mu}{vs:l0}{N:ik}{K:ll}
def u4(r:Reps K H O ds vs):Ok K (gd λa=>O a\/H a=none) H NoW (ji N.length ds) (start N vs) H:=by
 refine⟨Same.refl _,λa z=>.inr z,λl z=>z.elim,λi s e=>?_,λi j R s2 v1 v2 a D _ _ _ o _=>?_,?_⟩
 ·obtain⟨d,D,rfl⟩:=zkh e
  obtain⟨v,I,J⟩:=r.get D;refine⟨v,?_,J.mono (λ_ _ h=>h) λa us o h=>⟨⟨.inl o,λz=>z⟩,h⟩⟩;unfold start;rw[ax (by simpa using(aj.mp I).1),bj,I];rfl
 ·obtain⟨d,_,z⟩:=zkh D
  subst z;exact o.elim
 ·unfold ji start
  rw[am,am,af,af,eh,eh,r.length]
variable{f:Addr}{CX:CXT}{qual:Str}{st:Stmt}{fd:FuncData}{ps:ik}{k ar:Nat}{P:Program}{w:World}{mg:Str->ka}{base:Heap}
theorem fn_D{g:FS}(F:Fun K x qual st f fd)(S:rn N ps (f9 st))(U:n=N.length)(V:ar=ps.length)(D:∀(cdv:Value) (A:Around) (outer:k7) (s:Shared) (H:Hp) (E:XK) (G:Gd) (H0:Hp),Room k (A.deeper (envOfC qual (f9 st) s.heap.objs.size f cdv)) ->
   DBx (cxOf CX P w K mg base N qual (f9 st) f cdv A outer s H E).nox G H0 (l7 st) g):FnOk P w K mg base CX (k+1) f fd ps (dSp K (runD n ar g)):=by
 subst U V;refine F.okC S (λvs H Q E h=>?_) (λcdv A outer s H vs Q E Y h=>?_)
 ·obtain⟨O,ds,d,r,e,_⟩:=h
  rw[<-r.length];unfold runD at e;split at e
  ·assumption
  ·cases e
 ·obtain⟨O,ds,d,r,e,k⟩:=h
  refine⟨_,(D cdv A outer s H E (gd λa=>O a\/H a=none) H Y).out,?_⟩;unfold runD at e;split at e;case isFalse=>cases e
  split at e
  ·rename_i d' env' J
   cases e;exact⟨NoW,_,_,env',u4 r,J,λW' R v H' st I Z=>k v H' I.stay (Z.mono (λ_ _ h=>h) λa us o h=>⟨o.1,h⟩)⟩
  ·rename_i env' J
   cases e;exact⟨NoW,_,_,env',u4 r,J,λW' R H' st I=>k .non H' I.stay .non⟩
  ·cases e
theorem fn_F{g:FS}(F:Fun K x qual st f fd)(S:rn N ps (f9 st))(I:n=N.length)(J:ar=ps.length)(D:∀(cdv:Value) (A:Around) (outer:k7) (s:Shared) (H:Hp) (E:XK) (G:Gd) (H0:Hp),Room k (A.deeper (envOfC qual (f9 st) s.heap.objs.size f cdv)) ->
   DBx (cxOf CX P w K mg base N qual (f9 st) f cdv A outer s H E).nox G H0 (l7 st) g):FnOk P w K mg base CX (k+1) f fd ps (fSp K (runF n ar g)):=by
 subst I J;refine F.okC S (λvs H Q E h=>?_) (λcdv A outer s H vs Q E R h=>?_)
 ·obtain⟨O,ds,d,r,e,_⟩:=h
  rw[<-r.length];unfold runF at e;split at e
  ·assumption
  ·cases e
 ·obtain⟨O,ds,d,r,e,k⟩:=h
  refine⟨_,(D cdv A outer s H E (gd λa=>O a\/H a=none) H R).out,?_⟩;unfold runF at e;split at e;case isFalse=>cases e
  split at e
  ·rename_i d' env' U
   cases e;exact⟨NoW,_,_,env',u4 r,U,λl vs' H' sm V Y Z=>k l vs' H' sm V Y Z⟩
  ·cases e
def zue(K:ll):Sp:=λvs H Q _=>∃(a:Addr) (D:k4),vs=[.ref a]/\SqL K H a (D.map V.int)/\D.length<=63/\∀H',Q (.bl true) H'
theorem z9w{m:mu->mv}(F:FnOk P w K mg base CX k f fd ps (dSp K m))(h:∀I:k4,I.length<=63->m [.lst (I.map D.int)]=some (.bl true)) :
  FnOk P w K mg base CX k f fd ps (zue K):=F.imp λvs H Q E J=>by
 obtain⟨a,I,e,R,U,q⟩:=J;subst e;exact⟨λ_=>True,[.lst (I.map D.int)],.bl true,.cons (R.elim (λz=>.lst trivial z (zjj I)) λz=>.klst z (zjj I)) .nil,h I U,λv H' _ r=>by rw[r.bl_];exact q H'⟩
variable{F:FA}
def fr_D:∀σ H Q,tD X.K G H0 (fLst F) σ H Q->tDF X.K G H0 F σ H Q:=λσ H Q U=>by
 obtain⟨W,env,d,env',ok,q,k⟩:=U;cases e1:F env with
 | none=>simp[e1] at q
 | some r =>
   have q:some (D.lst r.1,r.2)=some (d,env'):=by simpa[fLst,e1] using q
   cases q;refine⟨W,env,_,_,ok,e1,λW1 l vs H1 R I J V Y Z=>k W1 _ H1 ⟨R.keep,λa z=>R.ws a (.inl z)⟩ I (.lst ⟨I.good l (J.wl l (.inr rfl)).1,V⟩ (.inl Y) (Z.mono (λ_ _ h=>h) λa us o h=>⟨⟨o.1,λz=>o.2 (.inl z)⟩,h⟩))⟩
variable{f:FE}
def fj(I:Tos Nn X)(J:DEx X G H0 e f)(D:Nn[i]?=some x:=by rfl)(R:swapsWith e (some (.Name x p')) pos.line X.env=pure false:=by rfl):DSx X G H0 (.Assign [.Name x p'] e pos) (sSet i f):=z7m (I.t D).nd (I.t D).n J (zq7 (I.t D).nd (I.t D).n (I.t D).l J.out R (I.t D).f)
def zxi(ps:PS X (.Assign [.Name x p'] e pos) (tAsg (tDF X.K G H0 F) (nz i))):DSx X G H0 (.Assign [.Name x p'] e pos) (sSet i (fLst F)):=⟨(PS.imp ps (t':=tAsg (tD X.K G H0 (fLst F)) (nz i)) λDn σ H h=>fr_D σ H _ h).imp λDn σ H I=>by
 obtain⟨W,env,fl,env',ok,q,k⟩:=I;cases e1:fLst F env with
 | none=>simp only[sSet,e1,ma] at q;cases q
 | some r =>
   have q:some (Fl.nx,r.2.set i (some (Sl.sh r.1)))=some (fl,env'):=by simpa only[sSet,e1,ai] using q
   cases q;exact⟨W,env,_,_,ok,e1,λW1 v1 H1 J D p1=>k W1 _ H1 J (D.set p1)⟩⟩
variable{y:Str}{ix:kf}{sc:Scope}{px py spos:Pos}{fi:FI}{te:FE}
def zlr(an:Ats Nn Cn X)(R:Tos Nn X)(hi:DIx X G H0 (.Name x px) a fi)(U:∀cl C s₂ H₂ fp G H0,Ats (x::(subN Nn ix)) (subN Nn ix) (jd X x (subN Nn ix) sc cl C s₂ H₂ fp)->DEx (jd X x (subN Nn ix) sc cl C s₂ H₂ fp) G H0 e te)(J:qv Nn Cn ix x sc=true:=by decide +kernel)(Y:X.calm=true:=by rfl)(I:Nn[i]?=some y:=by rfl)(V:swapsWith (.ListComp e [⟨.Name x px,a,[],0⟩] sc pos) (some (.Name y py)) spos.line X.env=pure true:=by rfl)(Z:∀v,foldedSetIterable a X.env v=pure v:=by intro _;rfl) :
  PS X (.Assign [.Name y py] (.ListComp e [⟨.Name x px,a,[],0⟩] sc pos) spos) (tAsg (tDF X.K G H0 (iw fi ix fYes te)) (nz i)) :=
 (zps (wb an J) (λ_ _ _ _ _ _ _ _ _=>Y) (R.t I).nd (R.t I).n (R.t I).l hi.out (λcl C s₂ H₂ fp _=>ye (X:=X) rfl) (λcl C s₂ H₂ fp _=>el_x (X:=X) rfl (λG H0=>U cl C s₂ H₂ fp G H0 (ud J))) V (R.t I).f Z).imp λD σ H h=>zuc σ H _ h
variable{tt:FT}
def zsy{Cm:Cx->Prop}{U:Expr}(d:∀cl C s₂ H₂ fp pins σ,Inv X pins σ H₂ s₂->(∀b∈fp,FpOk X pins H₂ b)->Cm (jd X x (subN Nn ix) sc cl C s₂ H₂ fp))(an:Ats Nn Cn X)(R:Tos Nn X)(hi:DIC Cm X G H0 (.Name x px) a fi)(V:∀cl C s₂ H₂ fp G H0,Cm (jd X x (subN Nn ix) sc cl C s₂ H₂ fp)->Ats (x::(subN Nn ix)) (subN Nn ix) (jd X x (subN Nn ix) sc cl C s₂ H₂ fp)->DTx (jd X x (subN Nn ix) sc cl C s₂ H₂ fp) G H0 U tt)(Y:∀cl C s₂ H₂ fp G H0,Cm (jd X x (subN Nn ix) sc cl C s₂ H₂ fp)->Ats (x::(subN Nn ix)) (subN Nn ix) (jd X x (subN Nn ix) sc cl C s₂ H₂ fp)->DEx (jd X x (subN Nn ix) sc cl C s₂ H₂ fp) G H0 e te)(J:qv Nn Cn ix x sc=true:=by decide +kernel)(I:Nn[i]?=some y:=by rfl)(Z:swapsWith (.ListComp e [⟨.Name x px,a,[U],0⟩] sc pos) (some (.Name y py)) spos.line X.env=pure true:=by rfl)(g:∀v,foldedSetIterable a X.env v=pure v:=by intro _;rfl) :
  PS X (.Assign [.Name y py] (.ListComp e [⟨.Name x px,a,[U],0⟩] sc pos) spos) (tAsg (tDF X.K G H0 (iw fi ix tt te)) (nz i)) :=
 (zps (wb an J) d (R.t I).nd (R.t I).n (R.t I).l hi.out (λcl C s₂ H₂ fp c=>if_x (X:=X) rfl (λG H0=>V cl C s₂ H₂ fp G H0 c (ud J))) (λcl C s₂ H₂ fp c=>el_x (X:=X) rfl (λG H0=>Y cl C s₂ H₂ fp G H0 c (ud J))) Z (R.t I).f g).imp λD σ H h=>zuc σ H _ h
abbrev FA2:=DE0->Option (List mu×DE0)
def tDF2(K:ll)(G:Gd)(H0:Hp)(f:FA2):TE:=λσ H Q=>DP K G H0 f (λW env dss env' =>
 ∀W' l H',Step W H W' H'->Ok K G H0 W' env' σ H'->SlOk K G W' H' (.o2 dss) (.ref l) ->
  (∀(j:Nat) (s:Sl) (v:V) (a:Addr),env'[j]?=some (some s)->σ[j]?=some (some v)->Owns H' (.o2 dss) (.ref l) a->¬Owns H' s v a)->Q (.ref l) H') σ H
structure DF2x (X:Cx) (G:Gd) (H0:Hp) (e:Expr) (f:FA2):Prop where
 out:PE X e (tDF2 X.K G H0 f)
@[simp] noncomputable def yc(i:Nat)(f:FA2):FS:=λe=>(f e).map λr=>(.nx,r.2.set i (some (.o2 r.1)))
variable{f2:FA2}
def zxj(ps:PS X (.Assign [.Name x p'] e pos) (tAsg (tDF2 X.K G H0 f2) (nz i))):DSx X G H0 (.Assign [.Name x p'] e pos) (yc i f2):=⟨ps.imp λDn σ H I=>by
 obtain⟨W,env,fl,env',ok,q,k⟩:=I;cases e1:f2 env with
 | none=>simp[e1] at q
 | some r =>
   have q:some (Fl.nx,r.2.set i (some (Sl.o2 r.1)))=some (fl,env'):=by simpa[yc,e1] using q
   cases q;exact⟨W,env,_,_,ok,e1,λW1 l H1 J D h1 R=>k W1 _ H1 J (D.put h1 R)⟩⟩
def zro(te:FA)(base:DE0):mu->Option (List mu)
 | []=>some []
 | d::r=>(te (some (.sh d)::base)).bind λv=>(zro te base r).map (v.1::·)
def vp(fi:FI)(ix:kf)(te:FA):FA2:=λe=>(fi e).bind λr=>if Few r.1.length then(zro te (ix.map λj=>capt (r.2.getD j none)) r.1).map λds=>(ds,r.2) else none
def tDxF(K:ll)(f:FA):TE:=λσ H Q=>∃G H0,tDF K G H0 f σ H Q
variable{te:FA}
def z7p{D:Cx}(J:D.K=X.K)(h:∀G H0,DFx D G H0 e te):PE D e (tDxF X.K te):=λpins s σ H Q I ⟨G,H0,q⟩=>(h G H0).out pins s σ H Q I (by rw[J];exact q)
inductive z7q (X:Cx) (G:Gd) (H0:Hp) (env:DE0) (σ:St) (W1:Addr->Prop) (H1:Hp) (ds:mu) (d:List mu) (f:mu->Option (List mu)) (i m:Nat) (H':Hp) (ys:l0):Prop
 | mk (Wi:Addr->Prop) (rest done:List mu) (ls:kb) (hm:m=ds.length-i) (hi:i<=ds.length) (sm:Same H1 H') (st:Step W1 H1 Wi H') (ok:Ok X.K G H0 Wi env σ H') (hy:ys=ls.map V.ref) (inn:Inn X.K G Wi H' done ls) (nd:ls.Nodup) (fr:∀a∈ls,H1 a=none) (hd:done.length<=i) (ec:f (ds.drop i)=some rest) (hz:d=done++rest):z7q X G H0 env σ W1 H1 ds d f i m H' ys
theorem zxk:∀σ H Q,tDF2 X.K G H0 (vp fi ix te) σ H Q->yg (tDI X.K G H0 fi) ix (tDxT X.K fYes) (tDxF X.K te) σ H Q:=λσ H Q z=>by
 obtain⟨W,env,d,env',ok,q,k⟩:=z;obtain⟨⟨ds,c⟩,e1,q⟩:=dm.mp q;by_cases P:Few ds.length;case neg=>cases (if_neg P).symm.trans q
 obtain⟨an,e2,q⟩:=h9.mp ((if_pos P).symm.trans q);cases q;refine⟨W,env,ds,_,ok,e1,λW1 J H1 s1 n wk=>⟨z7q X G H0 c σ W1 H1 ds d (zro te (ix.map λj=>capt (c.getD j none))),⟨ds.length,W1,d,[],[],rfl,ft _,Same.refl _,Step.refl,n,rfl,⟨rfl,λj ds a e=>by cases e⟩,List.nodup_nil,(λa h=>by cases h),bw _,e2,rfl⟩,λi m H' ys z=>?_⟩⟩;obtain⟨B,rest,D,ls,hm,hi,sm,st,U,hy,Y,nd,fr,hd,A,S⟩:=z;subst hm hy;have I:ls.length=D.length:=Y.1;have C:∀a∈ls,∃vs,H' a=some (.lst vs):=λa E=>by
  obtain⟨j,T,e⟩:=ja E;obtain⟨_,vs,h,_⟩:=Y.2 j (D[j]'(I ▸ T)) a (aw _) (e ▸ aw T);exact⟨vs,h⟩
 by_cases R:i<ds.length
 ·rw[fb R] at A
  obtain⟨⟨dv,F⟩,e4,A⟩:=dm.mp A;obtain⟨p,e5,e6⟩:=h9.mp A;obtain⟨hg,hy⟩:=wk.go B H' i ds[i] st (aw R);refine .inr ⟨hg,λx Z y=>?_⟩;obtain⟨e,rx⟩:=hy x Z y;subst e;refine⟨_,_,NoW,_,true,_,zpx (ix:=ix) U rx,rfl,λW2 H2 s2 aa=>?_⟩;refine⟨_,_,W2,_,dv,F,aa,e4,λW3 l vs H3 s3 ab L nW M rp=>⟨?_,ds.length-(i+1),m3 _ _ R,?_⟩⟩
  ·rw[af,I];exact bh (Nat.lt_of_le_of_lt hd (bh R P)) zm8
  ·have t:Same Z H3:=ab.stay
   have f:Z l=none:=(L.wl l (.inr rfl)).1;obtain⟨q1,q2,q3,q4,q5⟩:=U.fresh t f M (rp.mono (O':=λa=>(Ow G B a\/Z a=none)/\a≠l) (λ_ _ h=>h) λa us o h=>⟨⟨o.1,λz=>o.2 (.inr z)⟩,h⟩);have nl:l∉ls:=λz=>by obtain⟨us,h⟩:=C l z;rw[f] at h;cases h
   refine⟨addW B l,p,D++[dv],ls++[l],rfl,R,sm.trans t,st.trans q5,q3,by simp,⟨by simp[I],λj es a ea g=>?_⟩,?_,λa E=>?_,by rw[am,io];lia,e5,by rw[S,<-e6,d5];rfl⟩
   ·by_cases T:j<D.length
    ·rw[ax T] at ea
     rw[ax (by lia)] at g;obtain⟨w,us,h,r⟩:=Y.2 j es a ea g;exact⟨.inl w,us,t _ _ h,U.reps q5 r⟩
    ·rw[dg (by lia)] at ea
     rw[dg (by lia),I] at g;have S:j-D.length=0:=by
      have:=(aj.mp ea).1;simp at this;lia
     rw[S] at ea g;simp[Option.some.injEq] at ea g;subst ea g;exact⟨.inr rfl,vs,M,q4⟩
   ·rw[List.nodup_append]
    exact⟨nd,by simp,λa E b hb=>by simp only[cw] at hb;subst hb;intro z;subst z;exact nl E⟩
   ·rcases de.mp E with z | z
    ·exact fr a z
    ·rw[cw.mp z];exact sm.free f
 ·cases ui hi (lr R)
  rw[jz] at A;cases A;refine .inl ⟨wk.stop B H' st,by rw[af,I];exact cy hd (cy P zm8),λl f=>?_⟩;have u:Same H' (upd H' l (.lst (ls.map V.ref))):=nn f;obtain⟨q1,q2,q3,q4⟩:=U.fresh0 (vs:=ls.map V.ref) u f kl;have nl:l∉ls:=λz=>by obtain⟨us,h⟩:=C l z;rw[f] at h;cases h
  have ag:Same H1 (upd H' l (.lst (ls.map V.ref))):=sm.trans u;rw[S,df] at k;refine k (addW B l) l _ ((s1.trans st).trans q4) q3 ⟨l,ls,rfl,.inr rfl,kl,b7.mpr ⟨nl,nd⟩,Y.1,λj es a ea g=>?_⟩ λj s v a ej ev o1 o2=>?_
  ·obtain⟨w,us,h,r⟩:=Y.2 j es a ea g
   exact⟨.inl w,us,u _ _ h,U.reps q4 r⟩
  ·obtain⟨v',N,hs⟩:=n.slot j s ej
   rw[ev] at N;cases N;have al:Owns H1 s v a:=hs.back (λl' _ _ vs q=>ag _ _ q) o2;have wa:W1 a:=hs.owns al;have O:H1 a≠none:=λz=>by obtain⟨_,us,q⟩:=n.wl a wa;rw[z] at q;cases q
   rcases o1 with o1 | ⟨l',ls',z,q,hb⟩
   ·cases o1;exact O (sm.free f)
   ·cases z
    rw[kl] at q;have:=wg (by simpa using q);subst this;exact O (fr a hb)
def zz3(an:Ats Nn Cn X)(R:Tos Nn X)(hi:DIx X G H0 (.Name x px) a fi)(U:∀cl C s₂ H₂ fp G H0,Ats (x::(subN Nn ix)) (subN Nn ix) (jd X x (subN Nn ix) sc cl C s₂ H₂ fp)->DFx (jd X x (subN Nn ix) sc cl C s₂ H₂ fp) G H0 e te)(J:qv Nn Cn ix x sc=true:=by decide +kernel)(Y:X.calm=true:=by rfl)(I:Nn[i]?=some y:=by rfl)(V:swapsWith (.ListComp e [⟨.Name x px,a,[],0⟩] sc pos) (some (.Name y py)) spos.line X.env=pure true:=by rfl)(Z:∀v,foldedSetIterable a X.env v=pure v:=by intro _;rfl) :
  PS X (.Assign [.Name y py] (.ListComp e [⟨.Name x px,a,[],0⟩] sc pos) spos) (tAsg (tDF2 X.K G H0 (vp fi ix te)) (nz i)) :=
 (zps (wb an J) (λ_ _ _ _ _ _ _ _ _=>Y) (R.t I).nd (R.t I).n (R.t I).l hi.out (λcl C s₂ H₂ fp _=>ye (X:=X) rfl) (λcl C s₂ H₂ fp _=>z7p (X:=X) rfl (λG H0=>U cl C s₂ H₂ fp G H0 (ud J))) V (R.t I).f Z).imp λD σ H h=>zxk σ H _ h
def zz4(an:Ats Nn Cn X)(hi:DIx X G H0 (.Name x px) a fi)(I:∀cl C s₂ H₂ fp G H0,Ats (x::(subN Nn ix)) (subN Nn ix) (jd X x (subN Nn ix) sc cl C s₂ H₂ fp)->DFx (jd X x (subN Nn ix) sc cl C s₂ H₂ fp) G H0 e te)(D:qv Nn Cn ix x sc=true:=by decide +kernel)(J:X.calm=true:=by rfl)(R:∀v,foldedSetIterable a X.env v=pure v:=by intro _;rfl) :
  DF2x X G H0 (.ListComp e [⟨.Name x px,a,[],0⟩] sc pos) (vp fi ix te) :=
 ⟨(zpr (wb an D) (λ_ _ _ _ _ _ _ _ _=>J) hi.out (λcl C s₂ H₂ fp _=>ye (X:=X) rfl) (λcl C s₂ H₂ fp _=>z7p (X:=X) rfl (λG H0=>I cl C s₂ H₂ fp G H0 (ud D))) R).imp zxk⟩
variable{env:DE0}{σ:St}
def z3w(ok:Ok X.K G H0 W env σ H):Ok X.K (gd λa=>Ow G W a\/H a=none) H NoW (env.map capt) σ H:=by
 have R:∀ {d:D} {v:V},Rep X.K H (Ow G W) d v->Rep X.K H (Ow (gd λa=>Ow G W a\/H a=none) NoW) d v:=λr=>r.mono (λ_ _ h=>h) λa us o h=>⟨⟨.inl o,λz=>z⟩,h⟩;have I:∀(i:Nat) (s:Sl),(env.map capt)[i]?=some (some s)->∃d',s=.sh d'/\env[i]?=some (some (.sh d')):=λi s z=>by
  rw[bj] at z;cases q:env[i]? with
  | none=>rw[q] at z;cases z
  | some o =>
    rw[q] at z;have z:capt o=some s:=bn z;unfold capt at z;split at z
    ·cases z;exact⟨_,rfl,rfl⟩
    ·cases z
 refine⟨Same.refl _,λa z=>.inr z,λl z=>z.elim,λi s e=>?_,λi j U s2 v1 v2 a J _ _ _ o _=>by obtain⟨d',rfl,_⟩:=I i U J;exact o.elim,by rw[af];exact ok.len⟩;obtain⟨d',rfl,e'⟩:=I i s e;obtain⟨v,J,r⟩:=ok.slot i _ e';exact⟨v,J,R r⟩
variable{α:Type}{j:Nat}
def z7r{xs:List α}{k:Int}{y:α}(h:ixN xs.length k=some j)(h2:xs[j]?=some y):atI xs k=some y:=by
 unfold atI;rw[h];exact h2
variable{dss:List mu}{v:V}
def zuf{k:Int}(ok:Ok X.K G H0 W env σ H)(R:env[i]?=some (some (.o2 dss)))(U:σ[i]?=some (some v))(Y:ixN dss.length k=some j)(I:dss[j]?=some ds) :
  ∃(l:Addr) (ls:kb) (a:Addr) (vs:l0),v=.ref l/\H l=some (.lst (ls.map V.ref))/\ls[j]?=some a/\atI (ls.map V.ref) k=some (.ref a)/\H a=some (.lst vs)/\Reps X.K H (Ow G W) ds vs:=by
 obtain⟨b,J,l,ls,rfl,c,Z,d,hi⟩:=ok.slot i _ R;rw[U] at J;cases J;have D:j<ls.length:=by rw[hi.1];exact(aj.mp I).1
 obtain⟨_,vs,h,r⟩:=hi.2 j ds ls[j] I (by simp[D]);exact⟨l,ls,ls[j],vs,rfl,Z,by simp[D],z7r (j:=j) (by rw[af,hi.1];exact Y) (by simp[D]),h,r⟩
@[simp] noncomputable def app2(k d:D)(e:DE0)(i:Nat):Option (D×DE0):=match k,e[i]? with
 | .int k,some (some (.o2 dss))=>(ixN dss.length k).bind λj=>(dss[j]?).bind λds=>if Few (ds.length+1) then some (.non,e.set i (some (.o2 (dss.set j (ds++[d]))))) else none
 | _,_=>none
@[simp] noncomputable def zz5(i:Nat)(g f:FE):FE:=λe=>match e[i]? with
 | some (some (.o2 _))=>(g e).bind λr=>(f (r.2.map capt)).bind λq=>app2 r.1 q.1 r.2 i
 | _=>none
@[simp] noncomputable def pop2(k m:D)(e:DE0)(i:Nat):Option (D×DE0):=match k,m,e[i]? with
 | .int k,.int m,some (some (.o2 dss))=>(ixN dss.length k).bind λj=>(dss[j]?).bind λds=>if Few ds.length then(ixN ds.length m).bind λn=>(ds[n]?).map λd=>(d,e.set i (some (.o2 (dss.set j (ds.eraseIdx n))))) else none
 | _,_,_=>none
@[simp] noncomputable def zsz(i:Nat)(g f:FE):FE:=λe=>match e[i]? with
 | some (some (.o2 _))=>(g e).bind λr=>(f (r.2.map capt)).bind λq=>pop2 r.1 q.1 r.2 i
 | _=>none
variable{p2:Pos}
theorem zxl(E:DEx X G H0 b g)(F:∀G H0,DEx X G H0 a f)(an:Ats Nn Cn X)(e:uw b:=by intro _ _;rfl)(h:Nn[i]?=some x:=by rfl)(U:attributeBase (.Subscript (.Name x p') b p2) "pop" X.env (eval (.Subscript (.Name x p') b p2) X.env)=eval (.Subscript (.Name x p') b p2) X.env:=by rfl)(Y:((backTo pos (starEach [a] X.env)).all (λx=>!x.1) && (backToKw pos (keywordEach [] X.env)).all (λx=>x.1.isSome)
   && decide ([a].length+([]:List Keyword).length+(if ([]:List Keyword).isEmpty then 0 else 1)<30))=true:=by rfl)(V:(p1.endLine==pos.line)=true:=by rfl)(w:starEach [a] X.env=(false,eval a X.env)::starEach [] X.env:=by rfl) :
  DEx X G H0 (.Call (.Attribute (.Subscript (.Name x p') b p2) "pop" p1) [a] [] pos) (zsz i g f) :=
 ⟨(zw0 fm mn ml zzp (wv zwz ((an.a h).pe) E.out e) (nc (el_x (X:=X) rfl F) pj w) U Y V w rfl).imp λσ H Q K=>by
  obtain⟨W,env,d,env',ok,q,k⟩:=K;unfold zsz at q;split at q;case h_2=>cases q
  rename_i L m;obtain⟨v,o,_⟩:=ok.slot i _ m;cases e1:g env with
  | none=>rw[e1] at q;cases q
  | some r =>
    obtain⟨dk,J⟩:=r;rw[e1,ac] at q;cases e2:f (J.map capt) with
    | none=>rw[e2] at q;cases q
    | some p =>
      obtain⟨da,Z⟩:=p;rw[e2,ac] at q;unfold pop2 at q;dsimp only at q;split at q;case h_2=>cases q
      rename_i kk mm dss y;cases e3:ixN dss.length kk with
      | none=>rw[e3] at q;cases q
      | some j =>
        rw[e3,ac] at q;cases e4:dss[j]? with
        | none=>rw[e4] at q;cases q
        | some ds =>
          rw[e4,ac] at q;split at q;case isFalse=>cases q
          rename_i c;cases e5:ixN ds.length mm with
          | none=>rw[e5] at q;cases q
          | some n =>
            rw[e5,ac] at q;cases e6:ds[n]? with
            | none=>rw[e6] at q;cases q
            | some d' =>
              rw[e6] at q;cases q;obtain⟨M,z2,z3,z4⟩:=zpo e5;refine⟨v,o,W,env,_,J,ok,e1,λW1 v1 H1 N I O=>?_⟩;obtain⟨l,ls,a,vs,rfl,z,s,t,A,r⟩:=zuf I y o e3 e4;refine .inl ⟨l,_,kk,.ref a,rfl,O.int_,.inl (.inl z),t,.inl ⟨rfl,vs,.inl (.inl A)⟩,?_⟩;refine⟨_,_,NoW,_,_,Z,z3w I,e2,λW2 v2 H2 s2 D p=>?_⟩;have R:=I.same D.stay;have B:=I.reps (Step.same D.stay) r;obtain⟨u,P,S⟩:=B.get e6;obtain⟨T,C⟩:=R.turn2 y o (D.stay _ _ z) e4 s (B.eraseIdx n);have aa:ds.length<=2 ^ 20:=c;exact⟨a,vs,mm,n,u,rfl,by rw[p.int_],D.stay _ _ A,by lia,by lia,by rw[<-r.length];exact M,P,k W1 _ _ ((N.trans (Step.same D.stay)).trans C) T (R.rep C S)⟩⟩
def zec{env:Env}:∀ {names:List (Str×NameKind)} {x:Str},names.lookup x=some .globalImplicit ->
  (names.map λ(n,k)=>if (k==NameKind.free && env.scope.kind==.function && env.kindOf n==some .cell) then(n,NameKind.cell) else(n,k)).lookup x=some .globalImplicit
 | (n,k)::r,x,h=>by
   have D:=@zec env r x;show List.lookup x ((if (k==NameKind.free && env.scope.kind==.function && env.kindOf n==some .cell)=true then(n,NameKind.cell) else(n,k))::_)=_;cases hx:x==n with
   | true =>
     simp only[cz,hx] at h;cases h;simp[cz,hx]
   | false =>
     simp only[cz,hx] at h;by_cases I:(k==NameKind.free && env.scope.kind==.function && env.kindOf n==some .cell)=true
     ·rw[if_pos I];simp only[cz,hx];exact D h
     ·rw[if_neg I];simp only[cz,hx];exact D h
variable{N':ik}{cl:List (Str×Addr)}{C:Addr}{s:Shared}{fp:kb}
def gl_c(h:sc.names.lookup x=some .globalImplicit):Gl (jd X y N' sc cl C s H fp) x:=zec h
def z7s:Ty "int" "int":=⟨by decide +kernel,by decide +kernel,by decide +kernel,by decide +kernel⟩
def z3x:Ty "bool" "bool":=⟨by decide +kernel,by decide +kernel,by decide +kernel,by decide +kernel⟩
def zxm:Ty "str" "str":=⟨by decide +kernel,by decide +kernel,by decide +kernel,by decide +kernel⟩
def zp1:Ty "list" "list":=⟨by decide +kernel,by decide +kernel,by decide +kernel,by decide +kernel⟩
def zp2:Ty "tuple" "tuple":=⟨by decide +kernel,by decide +kernel,by decide +kernel,by decide +kernel⟩
def z3y(l:List α)(k:Nat)(y:α):(l.toArray.extract 0 k).push y++l.toArray.extract k=(l.take k++y::l.drop k).toArray:=by
 simp;exact ib (by simp)
def z3z:V->l0->Hp->VK->Prop:=λx vs H Q=>∃(l:Addr) (xs:l0) (i:Int) (y:V),x=.ref l/\vs=[.int i,y]/\H l=some (.lst xs)/\0<=i/\i<=xs.length/\i<2 ^ 62/\xs.length<sizeLine/\Q .non (upd H l (.lst (xs.take i.toNat++y::xs.drop i.toNat)))
def Vals.ins{xs:l0}{its:i0}{y:V}{u:Value}(r:Vals xs its)(D:Vals [y] [u])(k:Nat):Vals (xs.take k++y::xs.drop k) (its.take k++u::its.drop k):=by
 have:=(r.take k).append (D.append (r.drop k));simpa using this
theorem zxn:MtM X "list.insert" z3z:=by
 intro pins s σ H x vs v us Q I V Y h;obtain⟨l,xs,i,y,rfl,rfl,R,a,h1,h2,b,q⟩:=h;cases V;obtain⟨c,U,rfl,D,J⟩:=Y.two;obtain⟨t,rfl⟩:=D;obtain⟨z,its,n,r,d,e⟩:=I.lstM R;refine call_meets F.slot_list_insert ⟨_,e,rfl⟩ F.entry_list_insert (F.args_list_insert_3 _ _ _) (PySem.AutoSeq1.list_insert_list_int_val_1 l its.toArray n i t U (by rw[fitsIndex_both (k:=i) (by lia) (by lia)];decide) (by rw[bg];lia)) ⟨e,?_⟩;refine⟨.non,_,I.lset (its':=its.take i.toNat++U::its.drop i.toNat) R e ?_ (Vals.ins r (.cons J .nil) _) ?_,rfl,q⟩
 ·have Z:(if i<0 then(i+(its.toArray.size:Int)).toNat else min i.toNat its.toArray.size)=i.toNat:=by
   rw[if_neg (by lia),bg]
   lia
  rw[Z,z3y]
 ·rw[am,ak,dn,em]
  lia
def z30(k d:D)(e:DE0)(i:Nat):Option (D×DE0):=match k,e[i]? with
 | .int k,some (some (.ow ds))=>if 0<=k/\k<=ds.length/\Few (ds.length+1) then some (.non,e.set i (some (.ow (ds.take k.toNat++d::ds.drop k.toNat)))) else none
 | _,_=>none
def zp3(i:Nat)(f g:FE):FE:=λe=>match e[i]? with
 | some (some (.ow _))=>(ao f (ao g fNil) e).bind λr=>match r.1 with | [k,d]=>z30 k d r.2 i | _=>none
 | _=>none
theorem zxo(s:DEx X G H0 a f)(t:DEx X G H0 b g)(an:Ats Nn Cn X)(Y:Nn[i]?=some x:=by rfl)(I:attributeBase (.Name x p') "insert" X.env (eval (.Name x p') X.env)=eval (.Name x p') X.env:=by rfl)(R:((backTo pos (starEach [a,b] X.env)).all (λx=>!x.1) && (backToKw pos (keywordEach [] X.env)).all (λx=>x.1.isSome)
   && decide ([a,b].length+([]:List Keyword).length+(if ([]:List Keyword).isEmpty then 0 else 1)<30))=true:=by rfl)(J:(p1.endLine==pos.line)=true:=by rfl)(m:starEach [a,b] X.env=(false,eval a X.env)::starEach [b] X.env:=by rfl)(Z:starEach [b] X.env=(false,eval b X.env)::starEach [] X.env:=by rfl)(c:(backTo pos (starEach [b] X.env)).any (·.1)=false:=by rfl) :
  DEx X G H0 (.Call (.Attribute (.Name x p') "insert" p1) [a,b] [] pos) (zp3 i f g):=⟨(zw0 fm PySem.F.slot_list_insert PySem.F.type_list_insert zxn ((an.a Y).pe) (bc s (bc t cg Z) m).out I R J m c).imp λσ H Q u=>by
 obtain⟨W,env,d,env',ok,q,k⟩:=u;unfold zp3 at q;split at q;case h_2=>cases q
 rename_i w e;obtain⟨v,h,l,y,rfl,z,j,_⟩:=ok.slot i _ e;cases e1:ao f (ao g fNil) env with
 | none=>rw[e1] at q;cases q
 | some r =>
   obtain⟨A,U⟩:=r;rw[e1,ac] at q;dsimp only at q;split at q;case h_2=>cases q
   unfold z30 at q;split at q;case h_2=>cases q
   rename_i kk ds n;split at q;case isFalse=>cases q
   rename_i B;obtain⟨C,E,o⟩:=B;cases q;refine⟨_,h,.inl ⟨rfl,_,.inl (.inl j)⟩,W,env,_,U,ok,e1,λW1 K H1 L V M=>?_⟩;obtain⟨v',p,l',vs,N,hW,O,r⟩:=V.slot i _ n;rw[h] at p;cases p;cases N;cases M with
   | cons q1 r2 =>
   cases r2 with
   | cons q2 r3 =>
   cases r3;cases q1;obtain⟨P,S⟩:=V.turn n h ((r.take kk.toNat).append (.cons q2 (r.drop kk.toNat)));have D:=r.length;have T:ds.length<sizeLine:=lt20 (p9 o);have c4:ds.length+1<=2 ^ 20:=o;exact⟨l,vs,kk,_,rfl,rfl,O,C,by rw[<-D];exact E,by lia,by rw[<-D];exact T,k W1 _ _ (L.trans S) P .non⟩⟩
def pi:kf->mu->DE0->DE0
 | i::ix,d::ds,e=>pi ix ds (e.set i (some (.sh d)))
 | _,_,e=>e
def gIs:kf->TGs
 | []=>gNil
 | i::ix=>z52 (nz i) (gIs ix)
def sUnp(ix:kf)(f:FE):FS:=λe=>(f e).bind λr=>match r.1 with
 | .tup ds=>if ds.length=ix.length then some (.nx,pi ix ds r.2) else none
 | _=>none
def unp(ix:kf)(d:D)(e:DE0):Option DE0:=match d with
 | .tup ds=>if ds.length=ix.length then some (pi ix ds e) else none
 | _=>none
def forU(ix:kf)(g:FS):mu->DE0->Option (Fl×DE0)
 | [],e=>some (.nx,e)
 | d::r,e=>(unp ix d e).bind λI=>(g I).bind λq=>match q.1 with | .nx=>forU ix g r q.2 | .ct=>forU ix g r q.2 | .bk=>some (.nx,q.2) | .rt d=>some (.rt d,q.2) | .rf ds=>some (.rf ds,q.2) | .r2 ds=>some (.r2 ds,q.2) | .xc c=>some (.xc c,q.2) | .ra k ps=>some (.ra k ps,q.2)
@[simp] noncomputable def o9(ix:kf)(fi:FI)(g:FS):FS:=λe=>(fi e).bind λr=>forU ix g r.1 r.2
def zxp{K:ll}{W:Addr->Prop}{H:Hp}:∀(ix:kf) (ds:mu) (vs:l0) (env:DE0) (σ:St) (Q:St->Hp->Prop),Ok K G H0 W env σ H->Reps K H (Ow G W) ds vs->ds.length=ix.length ->
  (∀I,Ok K G H0 W (pi ix ds env) I H->Q I H)->gIs ix vs σ H Q
 | [],ds,vs,env,σ,Q,ok,r,hl,k=>by
   cases r with
   | nil=>exact⟨rfl,k σ ok⟩
   | cons _ _=>cases hl
 | i::ix,ds,vs,env,σ,Q,ok,r,hl,k=>by
   cases r with
   | nil=>cases hl
   | @cons d v ds vs r0 r =>
     refine⟨v,vs,rfl,?_⟩;exact zxp ix ds vs _ _ Q (ok.set r0) r (Nat.succ.inj hl) k
def t3  : PGs X [] (gIs []):=z24
variable{es:k8}
def kt(I:Tos Nn X)(h:PGs X es (gIs ix))(D:Nn[i]?=some x:=by rfl)(J:(assignEach (.Name x pos::es) X.env).map (·.2)=assign (.Name x pos) X.env::(assignEach es X.env).map (·.2):=by rfl):PGs X (.Name x pos::es) (gIs (i::ix)):=zzg (zwi (I.t D).nd (I.t D).n (I.t D).l (I.t D).f) h J
def z7t(Y:DEx X G H0 a f)(h:PGs X es (gIs ix))(Z:X.calm=true:=by rfl)(b:(assignEach es X.env).length=ix.length:=by rfl)(D:(assignEach es X.env).findIdx? (·.1)=none:=by rfl)(c:swapsWithSole [.Tuple es k p1] a pos.line X.env=pure false:=by rfl)(e:swappedStores [.Tuple es k p1] a X.env=pure none:=by rfl)(h1:(assignEach [.Tuple es k p1] X.env).map (·.2)=[assign (.Tuple es k p1) X.env]:=by rfl) :
  DSx X G H0 (.Assign [.Tuple es k p1] a pos) (sUnp ix f):=⟨(yl Y.out (z1w (n:=ix.length) Z h b D) c e h1).imp λDn σ H g=>by
 obtain⟨W,env,fl,env',ok,q,kk⟩:=g;unfold sUnp at q;cases e1:f env with
 | none=>rw[e1] at q;cases q
 | some r =>
   obtain⟨d,U⟩:=r;rw[e1,ac] at q;dsimp only at q;split at q;case h_2=>cases q
   rename_i ds;split at q;case isFalse=>cases q
   rename_i V;cases q;refine⟨W,env,_,_,ok,e1,λW1 v1 H1 i I j=>?_⟩;cases j with
   | @tup a vs _ ht rr =>
     exact⟨a,vs,rfl,.inl (.inl ht),by rw[<-rr.length];exact V,zxp ix ds vs _ σ _ I rr V λJ R=>kk W1 J H1 i R⟩⟩
variable{body:List Stmt}{u:FS}
def zp4(hi:DJx X G H0 (.Tuple es k p1) a fi)(h:PGs X es (gIs ix))(R:DBx X G H0 body u)(U:PassesOwn (model X.prog X.w) X.A X.env X.xe:=by passes_own)(I:X.calm=true:=by rfl)(V:(assignEach es X.env).length=ix.length:=by rfl)(D:(assignEach es X.env).findIdx? (·.1)=none:=by rfl)(Y:∀x,foldedSetIterable a X.env x=pure x:=by intro _;rfl):DSx X G H0 (.For (.Tuple es k p1) a body [] pos) (o9 ix fi u) :=
 zxg (b:=unp ix) (L:=forU ix u) hi (z1w (n:=ix.length) I h V D) R (λ{W env env' σ H d x Q} ok r e k=>by
  unfold unp at e;split at e;case h_2=>cases e
  split at e;case isFalse=>cases e
  rename_i J;cases e;cases r with
  | @tup a vs _ ht rr=>exact⟨a,vs,rfl,.inl (.inl ht),by rw[<-rr.length];exact J,zxp ix _ vs _ σ _ ok rr J k⟩) (λ_=>rfl) (λ_ _ _=>rfl) U I Y
def znx(hi:DIx X G H0 (.Tuple es k p1) a fi)(h:PGs X es (gIs ix))(I:DBx X G H0 body u)(J:PassesOwn (model X.prog X.w) X.A X.env X.xe:=by passes_own)(R:X.calm=true:=by rfl)(U:(assignEach es X.env).length=ix.length:=by rfl)(D:(assignEach es X.env).findIdx? (·.1)=none:=by rfl)(V:∀x,foldedSetIterable a X.env x=pure x:=by intro _;rfl):DSx X G H0 (.For (.Tuple es k p1) a body [] pos) (o9 ix fi u):=zp4 hi.dj h I J R U D V
def fRep(F:FA)(g:FE):FA:=λe=>(F e).bind λr=>(g r.2).bind λq=>match q.1 with
 | .int k=>if Few (r.1.length*k.toNat)/\Bnd (-(2 ^ 62)) (2 ^ 62) k then some ((List.replicate k.toNat r.1).flatten,q.2) else none
 | _=>none
def Reps.rep{K:ll}{H:Hp}{O:Addr->Prop}{ds:mu}{vs:l0}(r:Reps K H O ds vs):∀k:Nat,Reps K H O (List.replicate k ds).flatten (List.replicate k vs).flatten
 | 0=>.nil
 | k+1=>by
   exact r.append (Reps.rep r k)
theorem zxq(i:DFx X G H0 a F)(j:DEx X G H0 b g):DFx X G H0 (.BinOp a .Mult b pos) (fRep F g):=⟨(z25 z6u i.out j.out).imp λσ H Q m=>by
 obtain⟨W,env,d,env',ok,q,k⟩:=m;unfold fRep at q;cases e1:F env with
 | none=>rw[e1] at q;cases q
 | some r =>
   obtain⟨ds,D⟩:=r;rw[e1,ac] at q;cases e2:g D with
   | none=>rw[e2] at q;cases q
   | some r2 =>
     obtain⟨L,Z⟩:=r2;rw[e2,ac] at q;dsimp only at q;split at q;case h_2=>cases q
     rename_i kk;split at q;case isFalse=>cases q
     rename_i p;obtain⟨s,t,u⟩:=p;cases q;refine⟨W,env,_,_,ok,e1,λW1 l vs H1 c I e v w f=>⟨W1,D,_,_,I,e2,λx v2 H2 s2 J p2=>?_⟩⟩;have R:Step W H W1 H1:=⟨c.keep,λa h=>c.ws a (.inl h)⟩;have U:Reps X.K H1 (Ow G W1) ds vs:=f.mono (λ_ _ h=>h) λa us o h=>⟨⟨o.1,λz=>o.2 (.inl z)⟩,h⟩;have V:=I.reps s2 U;have Y:H2 l=some (.lst vs):=s2.keep l _ w v;cases p2;refine⟨l,kk,vs,rfl,rfl,Y,by lia,by lia,?_,λn y=>?_⟩
     ·rw[<-f.length];exact cy s (by rw[sizeLine_eq];decide)
     ·obtain⟨h1,h2,A,B,C,E⟩:=vt J (Reps.rep V kk.toNat) y
      exact k x n _ _ ((R.trans s2).trans h1) h2 A B C E⟩
def fSp2(K:ll)(m:mu->Option (List mu)):Sp:=λvs H Q _=>∃O ds I,Reps K H O ds vs/\m ds=some I/\∀l ls H',Same H H'->N2 K (gd λa=>O a\/H a=none) H H' l ls I->Q (.ref l) H'
def zny(m:mu->Option (List mu))(F:FA):FA2:=λe=>(F e).bind λr=>(m r.1).map λd=>(d,r.2)
def zug(f:FA2):FS:=λe=>(f e).map λr=>(.r2 r.1,r.2)
def yap(i:Nat):FS:=λe=>match e[i]? with | some (some (.o2 dss))=>some (.r2 dss,e) | _=>none
def yb(n ar:Nat)(g:FS):mu->Option (List mu):=λds=>if ds.length=ar then(match g (ji n ds) with | some (.r2 d,_)=>some d | _=>none) else none
def SlOk.n2(ok:Ok K G H0 W env σ H)(h:SlOk K G W H (.o2 dss) v):∃l ls,v=.ref l/\N2 K G H0 H l ls dss:=by
 obtain⟨l,ls,rfl,U,V,Y,hi⟩:=h;have D:∀a∈l::ls,W a:=λa ha=>by
  rcases b8.mp ha with rfl | ha
  ·exact U
  ·obtain⟨j,R,I⟩:=ja ha
   have J:j<dss.length:=by rw[<-hi.1];exact R
   exact(hi.2 j dss[j] a (by simp[J]) (by simp[R,I])).1
 refine⟨l,ls,rfl,Y,λa ha=>(ok.wl a (D a ha)).1,V,hi.1,λj ds a Z I=>?_⟩;obtain⟨_,vs,h1,r⟩:=hi.2 j ds a Z I;exact⟨vs,h1,r.mono (λ_ _ h=>h) λb us o h=>⟨⟨o.1,λz=>o.2 (D b z)⟩,h⟩⟩
def zz6(I:DF2x X G H0 e f2):DSx X G H0 (.Return (some e) pos) (zug f2):=⟨(ym I.out).imp λDn σ H J=>by
 obtain⟨W,env,fl,env',ok,q,k⟩:=J;unfold zug at q;cases e1:f2 env with
 | none=>rw[e1] at q;cases q
 | some r =>
   rw[e1] at q;cases q;refine⟨W,env,_,_,ok,e1,λW1 l H1 R D h1 _=>?_⟩;obtain⟨l',ls,z,n2⟩:=h1.n2 D;cases z;exact k l ls H1 D.stay n2⟩
variable{H':Hp}{l:Addr}
def Ok.fresh2{ls:kb}(ok:Ok K G H0 W env σ H)(s:Same H H')(n:N2 K (gd λa=>Ow G W a\/H a=none) H H' l ls dss) :
  ∃W',Ok K G H0 W' env σ H'/\Step W H W' H'/\SlOk K G W' H' (.o2 dss) (.ref l) /\
   ∀(j:Nat) (s:Sl) (v:V) (a:Addr),env[j]?=some (some s)->σ[j]?=some (some v)->Owns H' (.o2 dss) (.ref l) a->¬Owns H' s v a:=by
 have R:∀a∈l::ls,∃vs,H' a=some (.lst vs):=λa ha=>by
  rcases b8.mp ha with rfl | ha
  ·exact⟨_,n.top⟩
  ·obtain⟨j,d,D⟩:=ja ha
   have U:j<dss.length:=by rw[<-n.len];exact d
   obtain⟨vs,h,_⟩:=n.inn j dss[j] a (by simp[U]) (by simp[d,D]);exact⟨vs,h⟩
 have f:∀a,W a->H a≠none:=λa z q=>by obtain⟨_,vs,e⟩:=ok.wl a z;rw[q] at e;cases e
 have st:Step W H (λa=>W a\/a∈l::ls) H':=⟨λb o e _=>s b o e,λa z=>z.elim .inl λq=>.inr (n.new a q)⟩;have I:=ok.same s;have Y:Ok K G H0 (λa=>W a\/a∈l::ls) env σ H':=by
  refine⟨ok.stay.trans s,ok.good,λa z=>?_,λi sl e=>?_,I.uniq,ok.len⟩
  ·rcases z with z | z
   ·obtain⟨q,us,b⟩:=ok.wl a z
    exact⟨q,us,s _ _ b⟩
   ·obtain⟨vs,h⟩:=R a z
    exact⟨ok.stay.free (n.new a z),.l vs,h⟩
  ·obtain⟨v,Z,h⟩:=ok.slot i sl e
   exact⟨v,Z,ok.slstep st h λa vs o D=>⟨.inl (h.owns o),s _ _ D⟩⟩
 refine⟨_,Y,st,⟨l,ls,rfl,.inr (bu),n.top,n.nd,n.len,λj ds a Z D=>?_⟩,λj sl v a g k c m=>?_⟩
 ·obtain⟨vs,h,r⟩:=n.inn j ds a Z D
  refine⟨.inr (ay _ (bf D)),vs,h,r.mono (λ_ _ h=>h) λb us o h=>⟨⟨?_,?_⟩,h⟩⟩
  ·rcases o.1 with q | q
   ·exact q.1
   ·exact ok.good b (ok.stay.free q)
  ·rintro(z | z)
   ·rcases o.1 with q | q
    ·exact q.2 z
    ·exact f b z q
   ·exact o.2 z
 ·obtain⟨w,J,p⟩:=I.slot j sl g
  rw[k] at J;cases J;have t:W a:=p.owns m;have u:a∈l::ls:=by
   rcases c with c | ⟨l',ls',z,q,hb⟩
   ·cases c;exact bu
   ·cases z
    rw[n.top] at q;have:=wg (by simpa using q);subst this;exact ay _ hb
  exact f a t (n.new a u)
variable{E:Value->Shared->Prop}
def zz7{m:mu->Option (List mu)}{E:XK}:∀σ H Q,tDF2 X.K G H0 (zny m F) σ H Q->zww (fSp2 X.K m) [] E (tDA X.K G H0 F) σ H Q:=λσ H Q R=>by
 obtain⟨W,env,d,env',ok,q,k⟩:=R;unfold zny at q;cases e1:F env with
 | none=>rw[e1] at q;cases q
 | some r =>
   obtain⟨ds,J⟩:=r;rw[e1,ac] at q;cases e2:m ds with
   | none=>rw[e2] at q;cases q
   | some d' =>
     rw[e2] at q;cases q;refine⟨W,env,ds,_,ok,e1,λW1 vs H1 U I p1=>?_⟩;show fSp2 X.K m (vs++[]) H1 Q E;rw[df];refine⟨Ow G W1,ds,_,p1,e2,λl ls H2 sm n2=>?_⟩;obtain⟨V,h1,h2,Y,Z⟩:=I.fresh2 sm n2;exact k V l H2 (U.trans h2) h1 Y Z
variable{mF2:mu->Option (List mu)}
def zz8{jr:Nat}(c:Cal X.prog X.w X.K X.mg X.base CX0 x k (fSp2 X.K mF2))(R:Room jr X.A)(U:DAx X G H0 (e::es) F)(D:k<=jr:=by decide)(V:Gl X x:=by walk_at "g")(Y:starEach (e::es) X.env=(false,eval e X.env)::starEach es X.env:=by rfl)(I:(backTo pos (starEach es X.env)).any (·.1)=false:=by rfl) :
  DF2x X G H0 (.Call (.Name x p') (e::es) [] pos) (zny mF2 F):=let ⟨_,_,_,Z,a,b,d,J⟩:=c;⟨(zpn Z (R.mono D) V a b d .nil zzr U.out J Y I).imp zz7⟩
theorem z9x{f:Addr}{g:FS}(F:Fun K x qual st f fd)(S:rn N ps (f9 st))(I:n=N.length)(J:ar=ps.length)(D:∀(cdv:Value) (A:Around) (outer:k7) (s:Shared) (H:Hp) (E:XK) (G:Gd) (H0:Hp),Room k (A.deeper (envOfC qual (f9 st) s.heap.objs.size f cdv)) ->
   DBx (cxOf CX P w K mg base N qual (f9 st) f cdv A outer s H E).nox G H0 (l7 st) g):FnOk P w K mg base CX (k+1) f fd ps (fSp2 K (yb n ar g)):=by
 subst I J;refine F.okC S (λvs H Q E h=>?_) (λcdv A outer s H vs Q E R h=>?_)
 ·obtain⟨O,ds,d,r,e,_⟩:=h
  rw[<-r.length];unfold yb at e;split at e
  ·assumption
  ·cases e
 ·obtain⟨O,ds,d,r,e,k⟩:=h
  refine⟨_,(D cdv A outer s H E (gd λa=>O a\/H a=none) H R).out,?_⟩;unfold yb at e;split at e;case isFalse=>cases e
  split at e
  ·rename_i d' env' U
   cases e;exact⟨NoW,_,_,env',u4 r,U,λl ls H' sm n2=>k l ls H' sm n2⟩
  ·cases e
variable{wr:kb}{pins:ln}{h2:Heap}
def Inv.tupled{tk:Nat}{T:Addr}{us:lx}(I:Inv X pins σ H s)(R:∀b∈wr,FpOk X pins H b)(hT:s.heap.objs.size<=T)(h:T∉wr)(k:∀b o,b∉wr->s.heap.get? b=some o->h2.get? b=some o)(Y:h2.IsTuple T us)(Z:Vals vs us.toList)(a:vs.length<=sizeLine) :
  Inv X pins σ (upd H T (.tup vs)) { s with heap:=h2,toks:=tk }:=by
 have U:H T=none:=I.hok.fresh hT;have V:∀b u,H b=some u->b∉wr:=λb u e z=>by rw[(R b z).1] at e;cases e
 have neT:∀b o,s.heap.get? b=some o->b≠T:=λb o e=>cf (bh (bi e) hT);refine I.step (g':=s.gens) (d':=s.drawn) (ch:=wr) (λb D=>⟨(R b D).2.2.2.1,(R b D).2.1,(R b D).2.2.2.2.1,(R b D).2.2.2.2.2⟩) (λb o _ _ J e _=>k b o J e) (λb o _ _ J e _=>⟨o.slots,k b o J e⟩)
  (λb o _ e n=>by rw[gx (neT b o e)];exact n) (λb o J e=>⟨o,k b o J e⟩) (λb xs e=>by rw[gx (o5 e U)];exact e) (λb o u e=>by rw[gx (o5 e U)];exact e)
  (λb ps e=>⟨#[],by rw[gx (o5 e U),e];simp⟩) (λm d=>?_) (λb u e=>?_) I.bare
 ·obtain⟨o,es,f,g,r⟩:=d
  exact⟨o,es,f,k _ o (λz=>(R _ z).2.1 rfl) g,r⟩
 ·by_cases D:b=T
  ·subst D
   rw[kl] at e;cases e;exact⟨a,us.toList,Z,by rw[Array.toArray_toList];exact Y⟩
  ·rw[gx D] at e
   refine(I.hok b u e).stay (λc v J q=>k c v ?_ q) (λc q=>by rw[gx (o5 q U)];exact q) λc xs q=>by rw[gx (o5 q U)];exact q
   rcases J with z | z
   ·rw[z];exact V b u e
   ·exact V c _ z
def Inv.turnedL{tk:Nat}(I:Inv X pins σ H s)(J:∀b∈wr,FpOk X pins H b)(k:∀b o,b∉wr->s.heap.get? b=some o->h2.get? b=some o) :
  Inv X pins σ H { s with heap:=h2,toks:=tk }:=by
 have R:∀b u,H b=some u->b∉wr:=λb u e z=>by rw[(J b z).1] at e;cases e
 refine I.step (g':=s.gens) (d':=s.drawn) (ch:=wr) (λb U=>⟨(J b U).2.2.2.1,(J b U).2.1,(J b U).2.2.2.2.1,(J b U).2.2.2.2.2⟩) (λb o _ _ D e _=>k b o D e) (λb o _ _ D e _=>⟨o.slots,k b o D e⟩)
  (λ_ _ _ _ n=>n) (λb o D e=>⟨o,k b o D e⟩) (λ_ _ e=>e) (λ_ _ _ e=>e) (λb ps e=>⟨#[],by rw[e];simp⟩) (λm V=>?_) (λb u e=>?_) I.bare
 ·obtain⟨o,es,Y,Z,r⟩:=V
  exact⟨o,es,Y,k _ o (λz=>(J _ z).2.1 rfl) Z,r⟩
 ·refine(I.hok b u e).stay (λc v D q=>k c v ?_ q) (λ_ q=>q) λ_ _ q=>q
  rcases D with z | z
  ·rw[z];exact R b u e
  ·exact R c _ z
def Itp(go:Nat->Hp->Prop)(I:Nat->Hp->l0->Prop)(D:Nat->Hp->Prop):It :=
 ⟨go,λi H x H'=>∃t vs,H t=none/\x=.ref t/\H'=upd H t (.tup vs)/\I i H vs,D⟩
variable{it:Addr}
def z19{U:Nat->Heap->Prop}{go:Nat->Hp->Prop}{x:Nat->Hp->l0->Prop}{J:Nat->Hp->Prop}(mem:it∈fp)(obj:∀i h,U i h->∀b∈fp,∃o,h.get? b=some o/\∀v,o.data≠.cell v)(keep:∀i h h',U i h->(∀b∈fp,∀o,h.get? b=some o->h'.get? b=some o)->U i h')(y:∀(X:Cx),X.prog=P->X.w=w->X.K=K->X.A.handled=none->∀(i:Nat) (pins:ln) (s:Shared) (σ:St) (H:Hp),Inv X pins σ H s->(∀b∈fp,FpOk X pins H b)->U i s.heap->(go i H\/J i H) ->
   ∃Y wr n Pt St Z j,WalksT P w X.A it Y wr n Pt St Z/\St j s.heap/\(∀b∈wr,b∈fp)/\(∀h,St (j+1) h->U (i+1) h)/\(go i H->j<n)/\(J i H->j=n) /\
    (go i H->∀D,Pt j D->∃vs,Vals vs D.toList/\vs.length<=sizeLine/\x i H vs))(self:∀(A:Around) (i:Nat) (s:Shared) (Q:Value->Shared->Prop) (E:Value->Shared->Prop),U i s.heap->Q (.ref it) s->wpAny (model P w) A (pyIter (.ref it)) Q E s) :
  Turn P w K (.Tuple es k pos) (Itp go x J) fp it U where
 mem:=mem
 obj:=obj
 keep:=keep
 item:=by
  intro X hP p q r i pins s σ H E I c st d;obtain⟨Y,wr,n,Pt,St,Z,j,W,t,a,f,lt,_,u⟩:=y X hP p q (I.ok.hd r) i pins s σ H I c st (.inl d);refine W.item j s _ _ (lt d) t λT D h1 tk z hT B g kk=>⟨_,rfl,?_⟩;obtain⟨vs,C,F,G⟩:=u d D z;have l:T∉wr:=W.apart j T h1 g;refine W.go es k pos j T _ _ _ g λh2 s2 m=>?_;refine⟨.ref T,upd H T (.tup vs),?_,rfl,⟨T,vs,I.hok.fresh hT,rfl,rfl,G⟩,f h2 s2,λb R=>?_⟩
  ·exact I.tupled (λb R=>c b (a b R)) hT l (λb o R e=>m b o R (kk b o R e)) (B.at λo e=>m T o l e) C F
  ·obtain⟨o,L,_⟩:=obj i _ st b R
   rw[gx (cf (bh (bi L) hT))];exact(c b R).1
 done:=by
  intro X hP p q r i pins s σ H E I c st d;obtain⟨Y,wr,n,Pt,St,Z,j,W,t,a,f,_,M,_⟩:=y X hP p q (I.ok.hd r) i pins s σ H I c st (.inr d);cases M d;exact W.done s _ _ t λh1 tk kk=>⟨rfl,I.turnedL (λb R=>c b (a b R)) kk⟩
 self:=self
variable{A:Around}
theorem zvz(I:A.handled=none)(J:l≠it)(c:Nat)(its:lx) :
  Draws P w A.in1 it [it,l] (c+its.size) (λj x=>∃i,j=c+i/\its[i]?=some x) (λj h=>∃i,j=c+i/\i<=its.size/\h.IsListIter it l i/\h.IsList l its) where
 live:=λj h ⟨i,_,_,⟨o,e,_⟩,_⟩=>⟨o,e⟩
 frame:=λj h h' ⟨i,e,hi,a,b⟩ k=>⟨i,e,hi,a.at λo e=>k it (by simp) o e,b.at λo e=>k l (by simp) o e⟩
 item:=λj s Q E hj ⟨i,e,hi,a,b⟩ hQ=>by
  subst e;have hi:i<its.size:=by lia
  refine wpAny_nextOf_list_item a b (x:=its[i]) (by simp[hi]) λh' R D=>?_;exact hQ _ h' s.toks ⟨i,rfl,by simp[hi]⟩ ⟨i+1,by lia,hi,R,b.extBut D.extBut J⟩ D
 done:=λs Q E ⟨i,e,hi,a,b⟩ hE=>by
  have hi:i=its.size:=by lia
  subst hi;exact wpAny_nextOf_list_end I a b (by simp) hE
def Ite(K:ll)(a:Addr)(c:Nat):It :=
 Itp (λi H=>∃xs x,SqL K H a xs/\xs[i]?=some x) (λi H vs=>∃y,vs=[.int (c+i:Nat),y]/\∀xs,SqL K H a xs->xs[i]?=some y) (λi H=>∃xs,SqL K H a xs/\xs.length=i)
theorem zrp(a it e:Addr)(c:Nat)(O:e≠it) :
  Turn P w K (.Tuple es k pos) (Ite K a c) [e,it] e (λi h=>(∃J,IsEnum h e it (c+i:Nat) J)/\h.IsListIter it a i):=by
 refine z19 (by simp) (λi h st b C=>?_) (λi h h' st kk=>?_) ?_ λA i s Q E st W=>?_
 ·obtain⟨⟨J,R⟩,o,ho,_,hd⟩:=st
  rcases b8.mp C with z | z
  ·subst z
   exact⟨_,R,λv z=>by cases (show Data.fields _=Data.cell v from z)⟩
  ·cases cw.mp z
   exact⟨o,ho,λv z=>by rw[hd] at z;cases z⟩
 ·exact⟨st.1.imp λJ R=>kk e (by simp) _ R,st.2.at λo x=>kk it (by simp) o x⟩
 ·intro X hP hw hK hh i pins s σ H I hf st Y
  subst hP hw hK;obtain⟨⟨J,R⟩,Z⟩:=st;have F:∃xs,SqL X.K H a xs/\i<=xs.length:=by
   rcases Y with⟨xs,x,q,d⟩ | ⟨xs,q,d⟩
   ·exact⟨xs,q,ki (aj.mp d).1⟩
   ·exact⟨xs,q,Nat.le_of_eq d.symm⟩
  obtain⟨xs,q,G⟩:=F;obtain⟨its,S,p,hz⟩:=I.list q;have hl:=S.length;obtain⟨ol,V,f,_⟩:=id p.isList;obtain⟨oi,g,j,_⟩:=id Z;have L:a≠it:=λz=>by
   subst z;rw[V] at g;cases g;rw[f] at j;exact absurd j (by decide)
  have M:e≠a:=λz=>by
   subst z;rw[R] at V;cases V;exact absurd (show Value.type "enumerate" = Value.type "list" from f) (by decide)
  have D:=zvz (P:=X.prog) (w:=X.w) hh L c its.toArray;refine⟨_,_,_,_,_,_,c+i,WalksT.enumerateD D e O (by simp[O,M]) (by simp),⟨⟨J,R⟩,i,rfl,by simpa[<-hl] using G,Z,p.isList⟩,λb C=>C,λh st=>?_,λY=>?_,λhs=>?_,λY T hv=>?_⟩
  ·obtain⟨⟨l,N⟩,m,e',_,n,_⟩:=st
   have:m=i+1:=by lia
   subst this;exact⟨⟨l,N⟩,n⟩
  ·obtain⟨ys,y,r,U⟩:=Y
   rw[I.list_inj r q] at U;have:=(aj.mp U).1;simp
   lia
  ·obtain⟨ys,r,U⟩:=hs
   rw[I.list_inj r q] at U;simp
   lia
  ·obtain⟨t,x,⟨m,e',d⟩,rfl⟩:=hv
   have:m=i:=by lia
   subst this;obtain⟨ys,y,r,U⟩:=Y;rw[I.list_inj r q] at U;obtain⟨u,hu,ru⟩:=S.get U;have:u=x:=by
    have B:its[m]?=some x:=by simpa using d
    rw[hu] at B;cases B;rfl
   subst this;exact⟨[.int (c+m:Nat),y],.cons ⟨t,rfl⟩ (.cons ru .nil),by show 2<=sizeLine;rw[sizeLine_eq];decide,y,rfl,λzs F=>by rw[I.list_inj F q];exact U⟩
 ·obtain⟨⟨J,R⟩,_⟩:=st
  exact wpAny_pyIter_enum R W
def Itz(K:ll)(a b:Addr):It :=
 Itp (λi H=>∃xs ys x y,SqL K H a xs/\SqL K H b ys/\xs[i]?=some x/\ys[i]?=some y) (λi H vs=>∃x y,vs=[x,y]/\(∀xs,SqL K H a xs->xs[i]?=some x)/\∀ys,SqL K H b ys->ys[i]?=some y)
  (λi H=>∃xs ys,SqL K H a xs/\SqL K H b ys/\min xs.length ys.length=i)
structure ZNe (z ti to i1 i2:Addr):Prop where
 a1:ti≠z
 a2:to≠z
 a3:i1≠z
 a4:i2≠z
 a5:ti≠to
 a6:ti≠i1
 a7:ti≠i2
 a8:to≠i1
 a9:to≠i2
 aA:i1≠i2
variable{o:Int->Int->Int}
def z7u{h:Heap}{a b:Addr}{o o':Obj}(e:h.get? a=some o)(e':h.get? b=some o')(n:o.cls≠o'.cls):a≠b:=λz=>by
 subst z;rw[e] at e';cases e';exact n rfl
theorem zz9(a b z ti to t B:Addr)(V:ZNe z ti to t B) :
  Turn P w K (.Tuple es k pos) (Itz K a b) [z,ti,to,t,B] z (λi h=>IsZip h z ti to .none/\IsPair h ti (.ref t) (.ref B)/\(∃u v,IsPair h to u v)/\h.IsListIter t a i/\h.IsListIter B b i):=by
 refine z19 (by simp) (λi h st c C=>?_) (λi h h' st kk=>?_) ?_ λA i s Q E st hQ=>?_
 ·obtain⟨Y,h1,⟨u,v,h2⟩,⟨o3,g,_,d3⟩,o4,j,_,d4⟩:=st
  simp at C;rcases C with rfl | rfl | rfl | rfl | rfl
  ·exact⟨_,Y,λv q=>by cases (show Data.fields _=Data.cell v from q)⟩
  ·exact⟨_,h1,λv q=>by cases (show Data.seq _ _=Data.cell v from q)⟩
  ·exact⟨_,h2,λv q=>by cases (show Data.seq _ _=Data.cell v from q)⟩
  ·exact⟨_,g,λv q=>by rw[d3] at q;cases q⟩
  ·exact⟨_,j,λv q=>by rw[d4] at q;cases q⟩
 ·obtain⟨Y,h1,⟨u,v,h2⟩,g,j⟩:=st
  exact⟨kk z (by simp) _ Y,kk ti (by simp) _ h1,⟨u,v,kk to (by simp) _ h2⟩,g.at λo e=>kk t (by simp) o e,j.at λo e=>kk B (by simp) o e⟩
 ·intro X hP hw hK hh i pins s σ H I hf st F
  subst hP hw hK;obtain⟨Y,h1,⟨u,v,h2⟩,g,j⟩:=st;have G:∃xs ys,SqL X.K H a xs/\SqL X.K H b ys/\i<=xs.length/\i<=ys.length:=by
   rcases F with⟨xs,ys,x,y,q,Z,U,m⟩ | ⟨xs,ys,q,Z,U⟩
   ·exact⟨xs,ys,q,Z,ki (aj.mp U).1,ki (aj.mp m).1⟩
   ·exact⟨xs,ys,q,Z,by lia,by lia⟩
  obtain⟨xs,ys,q,Z,al,ab⟩:=G;obtain⟨its,rv,p,_⟩:=I.list q;obtain⟨its',L,p',_⟩:=I.list Z;have hl:=rv.length;have an:=L.length;obtain⟨ol,d,f,_⟩:=id p.isList;obtain⟨ap,J,R,_⟩:=id p'.isList;obtain⟨o3,M,N,_⟩:=id g;obtain⟨o4,O,S,_⟩:=id j;have r:∀ {l o T c o'},s.heap.get? l=some o->o.cls=.type "list"->s.heap.get? c=some o'->o'.cls=.type T->T ≠ "list"->l≠c:=λe1 e2 e3 e4 n=>z7u e1 e3 (by rw[e2,e4];intro z;cases z;exact n rfl);have D:ZipApart z ti to t B a b:=⟨V.a1,V.a2,V.a3,V.a4,V.a5,V.a6,V.a7,V.a8,V.a9,V.aA,r (T:="zip") d f Y rfl (by decide),r (T:="tuple") d f h2 rfl (by decide),r d f M N (by decide),r d f O S (by decide),r (T:="zip") J R Y rfl (by decide),r (T:="tuple") J R h2 rfl (by decide),r J R M N (by decide),r J R O S (by decide)⟩;refine⟨_,_,_,_,_,_,i,WalksT.zip2 hh z ti to t B a b D its.toArray its'.toArray,⟨Y,h1,⟨u,v,h2⟩,g,j,p.isList,p'.isList⟩,λc C=>?_,λh st=>?_,λF=>?_,λhs=>?_,λF ag hv=>?_⟩
  ·simp at C ⊢
   rcases C with rfl | rfl | rfl | rfl <;> simp
  ·obtain⟨Y,h1,h2,g,j,_,_⟩:=st
   exact⟨Y,h1,h2,g,j⟩
  ·obtain⟨W,aa,x,y,q1,q2,U,m⟩:=F
   rw[I.list_inj q1 q] at U;rw[I.list_inj q2 Z] at m;have:=(aj.mp U).1;have:=(aj.mp m).1;simp
   lia
  ·obtain⟨W,aa,q1,q2,U⟩:=hs
   rw[I.list_inj q1 q,I.list_inj q2 Z] at U;simp
   lia
  ·obtain⟨W,aa,x,y,q1,q2,U,m⟩:=F
   rw[I.list_inj q1 q] at U;rw[I.list_inj q2 Z] at m;obtain⟨ux,uy,eu,ew,rfl⟩:=hv;obtain⟨u1,e1,r1⟩:=rv.get U;obtain⟨u2,e2,r2⟩:=L.get m;have t1:u1=ux:=by
    have z:its[i]?=some ux:=by simpa using eu
    rw[e1] at z;cases z;rfl
   have t2:u2=uy:=by
    have z:its'[i]?=some uy:=by simpa using ew
    rw[e2] at z;cases z;rfl
   subst t1;subst t2;exact⟨[x,y],.cons r1 (.cons r2 .nil),by show 2<=sizeLine;rw[sizeLine_eq];decide,x,y,rfl,λzs G=>by rw[I.list_inj G q];exact U,λzs G=>by rw[I.list_inj G Z];exact m⟩
 ·exact wpAny_pyIter_zip st.1 hQ
abbrev enH(h:Heap)(l:Addr):Heap:=h.push { cls:=.type "list_iterator",data:=.fields #[.ref l,.int 0 0] }
abbrev enHs(h:Heap)(l:Addr):Heap:=(enH h l).push { cls:=.type "enumerate",data:=.fields #[.none,.bool false,.ref h.objs.size,rawInt 1,.none,.none] }
def zv0(v:Value)(t:Tok):checkTypeCall "enumerate" ⟨[v],[("start",.int 1 t)]⟩=pure ():=by kernel_rfl
def zxr(v:Value)(t:Tok):checkBuiltinCall "enumerate.__new__" ⟨[.type "enumerate",v],[("start",.int 1 t)]⟩=pure ():=by kernel_rfl
def zxs(l:Addr)(D:lx)(n:Nat)(J:Option Addr)(sl:Array ka)(t:Tok) :
  Meets (Builtin.«enumerate.__new__» ⟨[.type "enumerate",.ref l],[("start",.int 1 t)]⟩) (λ_ R s=>s.heap.get? l=some ⟨.type "list",J,.seq D n,sl⟩/\R (.ok (.ret (.ref (enH s.heap l).objs.size))) { s with heap:=enHs s.heap l }) :=
 .of_wp λprog w A R s h=>by
  obtain⟨Y,g,d,tk,os⟩:=s;obtain⟨I,h⟩:=h;have U:=sub_enumerate;have V:Heap.IsList (Shared.heap ⟨Y,g,d,tk,os⟩) l D:=⟨_,I,rfl,n,rfl⟩
  wp_walk using AutoSeq1.wpAny_loadPart' I
  refine wpAny_stack_any λst=>wpAny_pure ?_;split
  ·rename_i c _ _ _ _ _
   cases (c==Value.type "enumerate") <;> (refine wpAny_bind (wpAny_of_eq (a:=(Value.ref l,some (Value.int 1 t))) (by rfl) ?_);wp_walk using AutoSeq1.wpAny_loadPart' I,wpAny_pyIter_list V;exact⟨_,rfl,h⟩)
  ·refine wpAny_bind (wpAny_of_eq (a:=(Value.ref l,some (Value.int 1 t))) (by rfl) ?_);wp_walk using AutoSeq1.wpAny_loadPart' I,wpAny_pyIter_list V;exact⟨_,rfl,h⟩
variable{t:Tok}
theorem z0a{v x:Value}:Meets (Builtin.«object.__init__» ⟨[v,x],[("start",.int 1 t)]⟩) (λ_ R s=>s.TypeIs v "enumerate"/\R (.ok (.ret .none)) s) :=
 .of_wp λprog w A R s D=>by
  obtain⟨hT,h⟩:=D;have I:=F.called_enumerate.made;have J:=F.called_enumerate.init.lookup;repeat (any_goals (first | assumption | wp_step))
  exact⟨_,rfl,h⟩
theorem z0b(a b:Value)(t:Tok):argsOk "object.__init__" ⟨[a,b],[("start",.int 1 t)]⟩:=by
 unfold argsOk;rw[signature?_of (id:="object.__init__") (n:=['_','_','t','i','n','i','_','_']) (o:=['t','c','e','j','b','o']) (by kernel_rfl) F.owner_object];kernel_rfl
variable{prog:Program}
theorem z0c{D:lx}{Q:Value->Shared->Prop}(b:s.heap.IsList l D)(h:Q (.ref (enH s.heap l).objs.size) { s with heap:=enHs s.heap l }):wpAny (model prog w) A (call (.type "enumerate") [.ref l] [("start",.int 1 t)]) Q E s:=by
 obtain⟨⟨c,J,d,sl⟩,e,U,n,V⟩:=b;replace U:c=.type "list":=U;replace V:d=.seq D n:=V;subst U V;have Y:=F.called_enumerate.made;have a:=F.called_enumerate.sub;have f:=zv0 (.ref l) t;refine wpAny_call (codeAny_of_tree (show wpAny _ _ (callAny (.type "enumerate") _) _ _ _ from wpAny_pure ⟨Code.quiet_builtin _ (by decide +kernel),codeAny_builtin F.entry_type_call ?_⟩));repeat (any_goals (first | assumption | wp_step))
 refine codeAny_mono (codeAny_call_builtin (R:=λr I=>r=.ok (.ret (.ref (enH s.heap l).objs.size))/\I={ s with heap:=enHs s.heap l }) F.called_enumerate.plain F.entry_enumerate_new (wpAny_of_eq (zxr _ t) (zxs l D n J sl t prog w A.in1 (λr I=>r=.ok (.ret (.ref (enH s.heap l).objs.size))/\I={ s with heap:=enHs s.heap l }) s ⟨e,rfl,rfl⟩))) λr I g=>?_;obtain⟨rfl,rfl⟩:=g;have hT:Shared.TypeIs { s with heap:=enHs s.heap l } (.ref (enH s.heap l).objs.size) "enumerate":=⟨_,cq _ rfl,rfl⟩;have i:=F.called_enumerate.init.lookup;have j:=F.called_enumerate.init.bind (.ref (enH s.heap l).objs.size);repeat (any_goals (first | assumption | wp_step))
 refine codeAny_mono (codeAny_call_builtin (R:=λr s2=>r=.ok (.ret .none)/\s2={ s with heap:=enHs s.heap l }) F.called_enumerate.init.plain F.entry_object_init (F.called_enumerate.init.check _ _ _ _ _ _ _ _ hT (z0b _ _ t) (z0a prog w A.in1 (λr s2=>r=.ok (.ret .none)/\s2={ s with heap:=enHs s.heap l }) _ ⟨hT,rfl,rfl⟩))) λk s2 Z=>?_;obtain⟨rfl,rfl⟩:=Z;repeat (any_goals (first | assumption | wp_step))
theorem zne(n:Nat):ZNe (n+4) (n+2) (n+3) n (n+1):=by
 have h:∀i j:Nat,i≠j->n+i≠n+j:=λi j z=>by lia
 exact⟨h 2 4 (by decide),h 3 4 (by decide),h 0 4 (by decide),h 1 4 (by decide),h 2 3 (by decide),h 2 0 (by decide),h 2 1 (by decide),h 3 0 (by decide),h 3 1 (by decide),h 0 1 (by decide)⟩
variable{c:Nat}
theorem mem2(h:c∈[n+1,n]):n<=c:=by simp at h;lia
theorem mem5(h:c∈[n+4,n+2,n+3,n,n+1]):n<=c:=by simp at h;lia
def zrq:bootBuiltins "enumerate" = some (.type "enumerate"):=by decide +kernel
def z0d:bootBuiltins "zip" = some (.type "zip"):=by decide +kernel
def z31(K:ll)(c:Nat)(ta:TA):TI:=λσ H R=>ta σ H λvs H1=>∃l xs,vs=[.ref l]/\SqL K H1 l xs/\R (Ite K l c) H1
def iZip(K:ll)(ta:TA):TI:=λσ H R=>ta σ H λvs H1=>∃l l' xs ys,vs=[.ref l,.ref l']/\SqL K H1 l xs/\SqL K H1 l' ys/\R (Itz K l l') H1
variable{p:Pos}{ta:TA}
def z32(Y:Bn X "enumerate")(b:PA X [a] ta)(d:starEach [a] X.env=[(false,eval a X.env)]:=by rfl) :
  PI X (.Tuple es k p1) (.Call (.Name "enumerate" p) [a] [] pos) (z31 X.K 0 ta):=by
 intro pins s σ H R I h;refine Call_ (xk I Y.g Y.m zrq (iq (thn (b pos pins s σ H _ I h) λus D f=>?_) d rfl));obtain⟨vs,H1,J,i,j⟩:=f;obtain⟨l,xs,e,n,q⟩:=j;subst e;cases i with
 | cons r rr =>
   cases rr;cases r;obtain⟨its,u,pl,v⟩:=J.list n;refine call_enumerate_list pl.isList λh' Z V o t=>wpAny_pyIter_enum Z ?_;refine⟨D.heap.objs.size+1,[D.heap.objs.size+1,D.heap.objs.size],_,_,H1,rfl,J.kept (t':=D.toks) t,zrp l _ _ 0 (Nat.succ_ne_self _),⟨⟨.none,Z⟩,V⟩,λc U=>?_,q⟩;have U:D.heap.objs.size<=c:=mem2 U;exact J.fpOk U (J.hok.fresh U)
variable{kp:Pos}
def z0e(Z:Bn X "enumerate")(d:PA X [a] ta)(f:starEach [a] X.env=(false,eval a X.env)::starEach [] X.env:=by rfl)(V:(backTo pos (starEach [a] X.env)).any (·.1)=false:=by rfl) :
  PI X (.Tuple es k p1) (.Call (.Name "enumerate" p) [a] [⟨some "start",.Constant (.int 1) j p2,kp⟩] pos) (z31 X.K 1 ta):=by
 intro pins s σ H R I h;refine wpAny_Call_Name_kw (xk I Z.g Z.m zrq ?_);refine PySem.W.callWith_of (P:=λ_=>True) (by rw[V];rfl) (λ_ _=>⟨Keeper.machine,.inr (.inl rfl),PySem.W.Looks.of_pure rfl⟩) (evalArgs_kw2 rfl (thn (d pos pins s σ H _ I h) λus n Y=>?_) f);obtain⟨vs,H1,u,v,w⟩:=Y;refine thn (z3c (nm:=some "start") (kpos:=kp) (yn (i:=1) (j:=j) (pos:=p2)) z6m pos pins n σ H1 (λws H2=>H2=H1/\ws=[.int 1]) u ⟨rfl,rfl⟩) λws s2 Y=>?_;obtain⟨B,H2,U,x,y,z⟩:=Y;refine⟨trivial,?_⟩;subst y z;obtain⟨l,xs,e,A,q⟩:=w;subst e;cases v with
 | cons r rr =>
   cases rr;cases r;cases x with
   | cons r' rr' =>
   obtain⟨t,rfl⟩:=r';obtain⟨its,C,pl,E⟩:=U.list A;refine z0c (t:=t) pl.isList ?_;have b:IsEnum (enHs s2.heap l) (enH s2.heap l).objs.size s2.heap.objs.size 1 .none:=cq _ rfl;have D:(enH s2.heap l).objs.size=s2.heap.objs.size+1:=jc ..;refine wpAny_pyIter_enum b ?_;refine⟨(enH s2.heap l).objs.size,[(enH s2.heap l).objs.size,s2.heap.objs.size],_,_,H2,rfl,U.kept (t':=s2.toks) (λc o e=>aq _ (aq _ e)),zrp l _ _ 1 (by rw[D];exact Nat.succ_ne_self _),⟨⟨.none,b⟩,⟨_,aq _ (cq _ rfl),rfl,rfl⟩⟩,λc J=>?_,q⟩;have J:s2.heap.objs.size<=c:=by rw[D] at J;exact mem2 J
   exact U.fpOk J (U.hok.fresh J)
def z7v(d:Bn X "zip")(i:PA X [a,b] ta)(j:starEach [a,b] X.env=[(false,eval a X.env),(false,eval b X.env)]:=by rfl)(J:starEach [b] X.env=[(false,eval b X.env)]:=by rfl) :
  PI X (.Tuple es k p1) (.Call (.Name "zip" p) [a,b] [] pos) (iZip X.K ta):=by
 intro pins s σ H R I h;refine Call_ (xk I d.g d.m z0d (iq (thn (i pos pins s σ H _ I h) λus D n=>?_) (by rw[j,J]) (by rw[J];rfl)));obtain⟨vs,H1,U,o,t⟩:=n;obtain⟨l,l',xs,ys,e,u,Y,q⟩:=t;subst e;cases o with
 | cons r rr =>
   cases rr with
   | cons r' rr =>
   cases rr;cases r;cases r';obtain⟨its,E,pl,F⟩:=U.list u;obtain⟨its',v,Z,w⟩:=U.list Y;refine call_zip_2 pl.isList Z.isList λh' f x y z A B C=>wpAny_pyIter_zip f ?_;refine⟨_,[D.heap.objs.size+4,D.heap.objs.size+2,D.heap.objs.size+3,D.heap.objs.size,D.heap.objs.size+1],_,_,H1,rfl,U.kept (t':=D.toks) C,zz9 l l' _ _ _ _ _ (zne _),⟨f,x,⟨_,_,y⟩,z,A⟩,λc V=>?_,q⟩;have V:D.heap.objs.size<=c:=mem5 V;exact U.fpOk V (U.hok.fresh V)
def qj:Nat->mu->mu
 | _,[]=>[]
 | c,d::r=>.tup [.int c,d]::qj (c+1) r
def zipD:mu->mu->mu
 | d::r,d'::r'=>.tup [d,d']::zipD r r'
 | _,_=>[]
theorem zrr:∀(ds:mu) (c i:Nat),(qj c ds)[i]?=ds[i]?.map λd=>.tup [.int (c+i:Nat),d]
 | [],c,i=>by simp[qj]
 | d::r,c,0=>by simp[qj]
 | d::r,c,i+1=>by
   simp only[qj,ah];rw[zrr r (c+1) i];rw[show c+1+i=c+(i+1) by lia]
def zrs:∀(ds:mu) (c:Nat),(qj c ds).length=ds.length
 | [],_=>rfl
 | d::r,c=>by simp[qj,zrs r]
def zuh:∀(ds es:mu) (i:Nat) (p:D),(zipD ds es)[i]?=some p->∃d e,ds[i]?=some d/\es[i]?=some e/\p=.tup [d,e]
 | d::r,e::r',0,p,h=>by simp[zipD] at h;exact⟨d,e,by simp,by simp,h.symm⟩
 | d::r,e::r',i+1,p,h=>by
   exact zuh r r' i p h
def zui:∀(ds es:mu),(zipD ds es).length=min ds.length es.length
 | [],es=>by simp[zipD]
 | d::r,[]=>by simp[zipD]
 | d::r,e::r'=>by simp[zipD,zui r r']
@[simp] noncomputable def iEn(c:Nat)(ds:mu):Option mu:=match ds with | [.lst ds]=>some (qj c ds) | _=>none
@[simp] noncomputable def iZp(ds:mu):Option mu:=match ds with | [.lst ds,.lst es]=>some (zipD ds es) | _=>none
def zxt{W':Addr->Prop}{t:Addr}(r:Reps K H' (Ow G W') ds vs)(D:H' t=none):Rep K (upd H' t (.tup vs)) (Ow G W') (.tup ds) (.ref t):=by
 refine .tup (kl ..) (r.mono (λa us e=>by rw[gx (o5 e D)];exact e) λa us o h=>⟨o,?_⟩);exact h.keep λo e=>by rw[gx (o5 e D)];exact e
def zxu(c:Nat)(ok:Ok X.K G H0 W env σ H)(h:LsOk X.K H (Ow G W) l vs)(r:Reps X.K H (Ow G W) ds vs):z3v X.K G (Ite X.K l c) W H (qj c ds) where
 go:=λW' H' i d st e=>by
  rw[zrr] at e;cases e0:ds[i]? with
  | none=>rw[e0] at e;cases e
  | some d0 =>
    rw[e0] at e;cases e;obtain⟨v,D,I⟩:=(ok.reps st r).get e0;have h':=(ok.lsstep st h).sq;refine⟨⟨vs,v,h',D⟩,λx H'' ⟨t,us,hn,ex,eH,y,eu,hy⟩=>?_⟩;subst ex eH eu;have:=hy vs h';rw[D] at this;cases this;exact⟨nn hn,zxt (.cons (.int _) (.cons I .nil)) hn⟩
 stop:=λW' H' st=>⟨vs,(ok.lsstep st h).sq,by rw[zrs,r.length]⟩
def z0f{l':Addr}{vs':l0}{es:mu}(ok:Ok X.K G H0 W env σ H)(h:LsOk X.K H (Ow G W) l vs)(h':LsOk X.K H (Ow G W) l' vs')(r:Reps X.K H (Ow G W) ds vs)(I:Reps X.K H (Ow G W) es vs'):z3v X.K G (Itz X.K l l') W H (zipD ds es) where
 go:=λW' H' i d st e=>by
  obtain⟨j,k,b,c,rfl⟩:=zuh _ _ _ _ e;obtain⟨v1,J,f⟩:=(ok.reps st r).get b;obtain⟨v2,R,g⟩:=(ok.reps st I).get c;have U:=(ok.lsstep st h).sq;have Y:=(ok.lsstep st h').sq;refine⟨⟨vs,vs',v1,v2,U,Y,J,R⟩,λx H'' ⟨t,us,hn,ex,eH,y1,y2,eu,hy1,hy2⟩=>?_⟩;subst ex eH eu;have Z:=hy1 vs U;have a:=hy2 vs' Y;rw[J] at Z;cases Z;rw[R] at a;cases a;exact⟨nn hn,zxt (.cons f (.cons g .nil)) hn⟩
 stop:=λW' H' st=>⟨vs,vs',(ok.lsstep st h).sq,(ok.lsstep st h').sq,by rw[zui,r.length,I.length]⟩
variable{tg:Expr}
def zuj(J:PI X tg e (z31 X.K c (tDA X.K G H0 F))):DJx X G H0 tg e (ip (iEn c) F):=⟨J.imp λσ H R U=>by
 obtain⟨W,env,ds,env',ok,q,k⟩:=U;cases e1:F env with
 | none=>simp[e1] at q
 | some z =>
   obtain⟨as,D⟩:=z;cases e2:iEn c as with
   | none=>rw[ip,e1] at q;simp only[ac,e2] at q;cases q
   | some d' =>
     have q:some (d',D)=some (ds,env'):=by rw[ip,e1] at q;simp only[ac,e2] at q;exact q
     cases q;refine⟨W,env,as,_,ok,e1,λW1 vs H1 V I p1=>?_⟩;unfold iEn at e2;split at e2
     ·rename_i xs
      cases e2;obtain⟨v,rfl,Y⟩:=t0 p1;obtain⟨l,us,rfl,h,r⟩:=Y.lst_;exact⟨l,us,rfl,h.sq,k W1 _ H1 V I (zxu c I h r)⟩
     ·cases e2⟩
def z33(D:DAx X G H0 [a] F)(I:Bn X "enumerate":=by walk_at "b")(J:starEach [a] X.env=[(false,eval a X.env)]:=by rfl) :
  DJx X G H0 (.Tuple es k p1) (.Call (.Name "enumerate" p) [a] [] pos) (ip (iEn 0) F):=zuj (z32 I D.out J)
def z0g(I:DAx X G H0 [a] F)(J:Bn X "enumerate":=by walk_at "b")(R:starEach [a] X.env=(false,eval a X.env)::starEach [] X.env:=by rfl)(D:(backTo pos (starEach [a] X.env)).any (·.1)=false:=by rfl) :
  DJx X G H0 (.Tuple es k p1) (.Call (.Name "enumerate" p) [a] [⟨some "start",.Constant (.int 1) j p2,kp⟩] pos) (ip (iEn 1) F):=zuj (z0e J I.out R D)
def z7w(V:DAx X G H0 [a,b] F)(Y:Bn X "zip":=by walk_at "b")(Z:starEach [a,b] X.env=[(false,eval a X.env),(false,eval b X.env)]:=by rfl)(J:starEach [b] X.env=[(false,eval b X.env)]:=by rfl) :
  DJx X G H0 (.Tuple es k p1) (.Call (.Name "zip" p) [a,b] [] pos) (ip iZp F):=⟨(z7v Y V.out Z J).imp λσ H R c=>by
 obtain⟨W,env,ds,env',ok,q,k⟩:=c;cases e1:F env with
 | none=>simp[e1] at q
 | some z =>
   obtain⟨as,D⟩:=z;cases e2:iZp as with
   | none=>rw[ip,e1] at q;simp only[ac,e2] at q;cases q
   | some d' =>
     have q:some (d',D)=some (ds,env'):=by rw[ip,e1] at q;simp only[ac,e2] at q;exact q
     cases q;refine⟨W,env,as,_,ok,e1,λW1 vs H1 d I p1=>?_⟩;unfold iZp at e2;split at e2
     ·rename_i xs ys
      cases e2;obtain⟨v,i,rfl,e,f⟩:=z3p p1;obtain⟨l,us,rfl,h,r⟩:=e.lst_;obtain⟨l',U,rfl,h',g⟩:=f.lst_;exact⟨l,l',us,U,rfl,h.sq,h'.sq,k W1 _ H1 d I (z0f I h h' r g)⟩
     ·cases e2⟩
def z0h{env0:DE0}{z:Int}(h:fVar i env=some (.int z,env0)):env[i]?=some (some (.sh (.int z)))/\env0=env:=by
 unfold fVar at h;split at h
 ·rename_i d D
  cases h;exact⟨D,rfl⟩
 all_goals cases h
variable{op:D->D->mv}
def z9y(V:∀D I d,op D I=some d->∃u v,D=.int u/\I=.int v/\d=.int (o u v)):∀Dn σ H,tDS X G H0 (sSet i (fBin op (fVar i) f)) Dn σ H->tAug i (tD X.K G H0 f) (ipI o) Dn σ H :=
 λDn σ H Y=>by
 obtain⟨W,env,fl,env',ok,q,k⟩:=Y;unfold sSet fBin at q;cases e0:fVar i env with
 | none=>rw[e0] at q;cases q
 | some r0 =>
   obtain⟨Z,env0⟩:=r0;rw[e0,ac] at q;cases e1:f env0 with
   | none=>rw[e1] at q;cases q
   | some J =>
     obtain⟨D,U⟩:=J;rw[e1,ac] at q;cases e2:op Z D with
     | none=>rw[e2] at q;cases q
     | some I =>
       rw[e2] at q;cases q;obtain⟨u,v,rfl,rfl,rfl⟩:=V _ _ _ e2;obtain⟨a,rfl⟩:=z0h e0;obtain⟨y,b,c⟩:=ok.slot i _ a;refine⟨y,b,W,env0,_,_,ok,e1,λW1 v1 H1 e R J=>⟨u,v,Rep.int_ c,J.int_,k W1 _ H1 e (R.set (.int _))⟩⟩
def xp(I:Tos Nn X)(J:DEx X G H0 e f)(D:Nn[i]?=some x:=by rfl) :
  DSx X G H0 (.AugAssign (.Name x p') .Add e pos) (sSet i (fBin gn (fVar i) f)):=⟨(z53 (I.t D).nd (I.t D).n (I.t D).l J.out z1x (I.t D).f).imp (z9y λR U d h=>by
 cases R <;> try (cases h;done)
 all_goals cases U <;> first | (cases h;done) | exact⟨_,_,rfl,rfl,(bn h).symm⟩)⟩
def z7x:V->V->Hp->VK->Prop:=λo i H Q=>∃l xs k v,o=.ref l/\i=.int k/\H l=some (.lst xs)/\0<=k/\xs[k.toNat]?=some v/\Q v H
theorem zuk:PGet X z7x:=by
 intro pins s σ H o i Z a Q I ro R h;obtain⟨l,xs,k,v,rfl,rfl,U,V,J,q⟩:=h;cases ro;obtain⟨t,rfl⟩:=R;obtain⟨its,r,pl,b⟩:=I.list (.inl (.inl U));obtain⟨w,Y,D⟩:=r.get J;have c:=(aj.mp J).1;have d:=yr;exact wpAny_getItem_list pl.isList V (by lia) (by simpa using Y) ⟨v,H,I,D,q⟩
def z0i(i:Nat)(op:D->D->mv)(k:Int)(d v:D)(e:DE0):Option (Fl×DE0):=match e[i]? with
 | some (some (.ow ds))=>if k.toNat<ds.length then(op d v).map λr=>(.nx,e.set i (some (.ow (ds.set k.toNat r)))) else none
 | _=>none
def vo(i:Nat)(op:D->D->mv)(R U:FE):FS:=λe=>match e[i]? with
 | some (some (.ow _))=>(R e).bind λI=>match I.1,I.2[i]? with
   | .int k,some (some (.ow ds))=>if 0<=k then(ds[k.toNat]?).bind λd=>(U I.2).bind λJ=>z0i i op k d J.1 J.2 else none
   | _,_=>none
 | _=>none
theorem z2a(y:∀r s d,op r s=some d->∃u v,r=.int u/\s=.int v/\d=.int (o u v)) :
  ∀Dn σ H,tDS X G H0 (vo i op g f) Dn σ H->z54 (tVar i) (tD X.K G H0 g) (tD X.K G H0 f) z7x (ipI o) z6s Dn σ H:=λDn σ H z=>by
 obtain⟨W,env,fl,env',ok,q,k⟩:=z;unfold vo at q;split at q;case h_2=>cases q
 rename_i A b;obtain⟨v,Z,l,B,rfl,C,E,_⟩:=ok.slot i _ b;cases e1:g env with
 | none=>rw[e1] at q;cases q
 | some a =>
 obtain⟨dk,I⟩:=a;rw[e1,ac] at q;dsimp only at q;split at q;case h_2=>cases q
 rename_i kk ds F;split at q;case isFalse=>cases q
 rename_i J;cases e2:ds[kk.toNat]? with
 | none=>rw[e2] at q;cases q
 | some dd =>
 rw[e2,ac] at q;cases e3:f I with
 | none=>rw[e3] at q;cases q
 | some r3 =>
 obtain⟨L,t⟩:=r3;rw[e3,ac] at q;unfold z0i at q;split at q;case h_2=>cases q
 rename_i M R;split at q;case isFalse=>cases q
 cases e4:op dd L with
 | none=>rw[e4] at q;cases q
 | some dr =>
 rw[e4] at q;cases q;obtain⟨u,w,rfl,rfl,rfl⟩:=y _ _ _ e4;refine⟨_,Z,W,env,_,_,ok,e1,λW1 v1 H1 N U a=>?_⟩;obtain⟨O,D,l',c,P,Q,e,h⟩:=U.slot i _ F;rw[Z] at D;cases D;cases P;obtain⟨S,j,m⟩:=h.get e2;refine⟨l,c,kk,S,rfl,a.int_,e,J,j,W1,I,_,_,U,e3,λT v2 H2 s2 V r2=>?_⟩;refine⟨u,w,m.int_,r2.int_,?_⟩;obtain⟨O,D,l',n,e6,aa,p,Y⟩:=V.slot i _ R;rw[Z] at D;cases D;cases e6;obtain⟨t1,t2⟩:=V.turn R Z (Reps.set (.int (o u w)) kk.toNat Y);have x:=Y.length;refine⟨l,n,kk,kk.toNat,rfl,a.int_,p,?_,k T _ _ ((N.trans s2).trans t2) t1⟩;unfold ixN;rw[if_pos J,if_pos (by lia)]
def z0j(R:DEx X G H0 b g)(U:DEx X G H0 e f)(an:Ats Nn Cn X)(J:Nn[i]?=some x:=by rfl)(V:∀D I new,augStore b D I new=(do holding [new,D,I] (setItem D I new);release [new,D,I] [];pure .next):=by intros;rfl) :
  DSx X G H0 (.AugAssign (.Subscript (.Name x p') b p1) .Add e pos) (vo i gn g f):=⟨(zwj ((an.a J).pe) R.out zuk U.out z1x y8 V).imp (z2a λY Z d h=>by
 cases Y <;> try (cases h;done)
 all_goals cases Z <;> first | (cases h;done) | exact⟨_,_,rfl,rfl,(bn h).symm⟩)⟩
def z0k(R:DEx X G H0 b g)(U:DEx X G H0 e f)(an:Ats Nn Cn X)(J:Nn[i]?=some x:=by rfl)(V:∀D I new,augStore b D I new=(do holding [new,D,I] (setItem D I new);release [new,D,I] [];pure .next):=by intros;rfl) :
  DSx X G H0 (.AugAssign (.Subscript (.Name x p') b p1) .Sub e pos) (vo i dSub g f):=⟨(zwj ((an.a J).pe) R.out zuk U.out z55 y8 V).imp (z2a λY Z d h=>by
 cases Y <;> try (cases h;done)
 all_goals cases Z <;> first | (cases h;done) | exact⟨_,_,rfl,rfl,(bn h).symm⟩)⟩
def z34(I:mu)(e:DE0)(i:Nat):Option (D×DE0):=match e[i]? with
 | some (some (.ow ds))=>if Few (ds.length+I.length) then some (.non,e.set i (some (.ow (ds++I)))) else none
 | _=>none
def zp5(i:Nat)(F:FA):FE:=λe=>match e[i]? with
 | some (some (.ow _))=>(F e).bind λr=>z34 r.1 r.2 i
 | _=>none
def zxv(j:DFx X G H0 a F)(an:Ats Nn Cn X)(Y:Nn[i]?=some x:=by rfl)(D:attributeBase (.Name x p') "extend" X.env (eval (.Name x p') X.env)=eval (.Name x p') X.env:=by rfl)(J:((backTo pos (starEach [a] X.env)).all (λx=>!x.1) && (backToKw pos (keywordEach [] X.env)).all (λx=>x.1.isSome)
   && decide ([a].length+([]:List Keyword).length+(if ([]:List Keyword).isEmpty then 0 else 1)<30))=true:=by rfl)(I:(p1.endLine==pos.line)=true:=by rfl)(e:starEach [a] X.env=(false,eval a X.env)::starEach [] X.env:=by rfl) :
  DEx X G H0 (.Call (.Attribute (.Name x p') "extend" p1) [a] [] pos) (zp5 i F):=⟨(zw0 fm PySem.F.slot_list_extend PySem.F.type_list_extend zw1 ((an.a Y).pe) (nc j.out pj e) D J I e rfl).imp λσ H Q m=>by
 obtain⟨W,env,d,env',ok,q,k⟩:=m;unfold zp5 at q;split at q;case h_2=>cases q
 rename_i o Z;obtain⟨v,b,l,p,rfl,s,c,_⟩:=ok.slot i _ Z;cases e1:F env with
 | none=>rw[e1] at q;cases q
 | some r =>
   obtain⟨t,R⟩:=r;rw[e1,ac] at q;unfold z34 at q;split at q;case h_2=>cases q
   rename_i ds f;split at q;case isFalse=>cases q
   rename_i U;cases q;refine⟨_,b,.inl ⟨rfl,_,.inl (.inl c)⟩,W,env,t,R,ok,e1,λW1 n us H1 u w V E y g=>?_⟩;obtain⟨K,h,l',vs,z,L,A,r⟩:=V.slot i _ f;rw[b] at h;cases h;cases z;obtain⟨B,C⟩:=V.turn f b (r.append g);refine⟨l,n,vs,us,rfl,rfl,A,y,?_,k _ _ _ (u.trans C) B .non⟩;rw[<-r.length,<-g.length];exact cy U (by rw[sizeLine_eq];decide)⟩
def zxw:D->D->mv
 | .tup ds,.tup es=>if ds≠[]/\es≠[]/\ds.length+es.length<=64 then some (.tup (ds++es)) else none
 | _,_=>none
def z35:OpD X G H0 (z6p X.K) zxw:=λW env σ H x y Y Z d Q ok a c e k=>by
 cases Y with
 | tup ds =>
   cases Z with
   | tup es =>
     unfold zxw at e;dsimp only at e;split at e;case isFalse=>cases e
     rename_i R;cases e;obtain⟨t,vs,rfl,f,D⟩:=a.tup_;obtain⟨b,ws,rfl,g,I⟩:=c.tup_;have U:=D.length;have V:=I.length;refine⟨t,b,vs,ws,rfl,rfl,SqT.of f,SqT.of g,λz=>R.1 (by subst z;exact lu.mp U),?_,λz=>absurd (by subst z;exact lu.mp V) R.2.1,λ_ l J=>?_⟩
     ·rw[<-U,<-V];exact le64 R.2.2
     ·exact k _ _ (Step.same (nn J)) (ok.same (nn J)) (.tup kl ((ok.reps (Step.same (nn J)) D).append (ok.reps (Step.same (nn J)) I)))
   | _=>cases e
 | _=>cases e
def z36(D:DEx X G H0 a f)(I:DEx X G H0 b g):DEx X G H0 (.BinOp a .Add b pos) (fBin zxw f g):=xi z3g z35 D I
def z37:D->Bool | .tup _=>false | .lst _=>false | .dct _ _=>false | _=>true
def Rep.atom{I:ll}{O':Addr->Prop}{d:D}(r:Rep K H O d v)(h:z37 d=true):Rep I H' O' d v:=by
 cases r with
 | non=>exact .non
 | bl b=>exact .bl b
 | int i=>exact .int i
 | str s=>exact .str s
 | tup _ _=>cases h
 | lst _ _ _=>cases h
 | klst _ _=>cases h
 | dct _ _=>cases h
 | exc a=>exact .exc a
structure z9z (K:ll) (G:Gd) (J:It) (W:Addr->Prop) (H:Hp) (ds:mu):Prop where
 go:∀H' (i:Nat) d,Same H H'->ds[i]?=some d->J.go i H'/\∀x H'',J.yld i H' x H''->H''=H'/\Rep K H' (Ow G W) d x
 stop:∀H',Same H H'->J.stop ds.length H'
def tDC(K:ll)(G:Gd)(H0:Hp)(f:FI):TI:=λσ H R=>DP K G H0 f (λW env ds env' =>
 ∀W' J H',Step W H W' H'->Ok K G H0 W' env' σ H'->z9z K G J W' H' ds->R J H') σ H
structure DCx (X:Cx) (G:Gd) (H0:Hp) (tg:Expr) (e:Expr) (f:FI):Prop where
 out:PI X tg e (tDC X.K G H0 f)
def fiV(i:Nat):FI:=λe=>match e[i]? with
 | some (some (.ow ds))=>some (ds,e)
 | some (some (.sh (.lst ds)))=>some (ds,e)
 | _=>none
def z2b(an:Ats Nn Cn X)(I:Nn[i]?=some x:=by rfl):DCx X G H0 tg (.Name x p1) (fiV i):=⟨(zwl ((an.a I).pe)).imp λσ H R b=>by
 obtain⟨W,env,ds,env',ok,q,k⟩:=b;unfold fiV at q;split at q
 ·rename_i ds' J
  cases q;obtain⟨v,U,l,vs,rfl,f,V,r⟩:=ok.slot i _ J;refine⟨_,U,l,rfl,⟨vs,.inl (.inl V)⟩,k W _ H Step.refl ok ⟨λH' j d sm e=>?_,λH' sm=>⟨vs,.inl (.inl (sm _ _ V)),by rw[r.length];exact bw _⟩⟩⟩;obtain⟨w,Y,c⟩:=(ok.reps (Step.same sm) r).get e;have D:SqL X.K H' l vs:=.inl (.inl (sm _ _ V));exact⟨⟨vs,w,D,Y⟩,λy H'' ⟨e3,z⟩=>⟨e3,by have:=z vs D;rw[Y] at this;cases this;exact c⟩⟩
 ·rename_i ds' J
  cases q;obtain⟨v,U,r⟩:=ok.slot i _ J;obtain⟨l,vs,rfl,h,r⟩:=Rep.lst_ r;have Z:=zrm ok h r;exact⟨_,U,l,rfl,⟨vs,h.sq⟩,k W _ H Step.refl ok ⟨λH' j d sm e=>Z.go W H' j d (Step.same sm) e,λH' sm=>Z.stop W H' (Step.same sm)⟩⟩
 ·cases q⟩
theorem z2c{te:FE}:∀σ H Q,tDF X.K G H0 (iw fi ix tt te) σ H Q->yg (tDC X.K G H0 fi) ix (tDxT X.K tt) (tDx X.K te) σ H Q:=λσ H Q A=>by
 obtain⟨W,env,d,env',ok,q,k⟩:=A;cases e1:fi env with
 | none=>simp[iw,e1] at q
 | some z =>
   obtain⟨ds,Y⟩:=z;by_cases f:Few ds.length
   ·simp only[iw,e1,ac,if_pos f] at q
    cases e2:ny tt te (ix.map λj=>capt (Y.getD j none)) ds with
    | none=>rw[e2] at q;cases q
    | some outs =>
      rw[e2] at q;cases q;refine⟨W,env,ds,_,ok,e1,λW1 J H1 B g t=>?_⟩;refine⟨λi m H' ys=>∃rest D,m=ds.length-i/\i<=ds.length/\Same H1 H'/\Reps X.K H' (Ow G W1) D ys/\D.length<=i/\ny tt te (ix.map λj=>capt (env'.getD j none)) (ds.drop i)=some rest/\d=D++rest,⟨ds.length,d,[],rfl,ft _,Same.refl _,.nil,bw _,e2,rfl⟩,?_⟩;rintro i m H' ys ⟨rest,D,rfl,hi,sm,rp,hd,ec,rfl⟩;have st:Step W1 H1 W1 H':=Step.same sm;have I:Ok X.K G H0 W1 env' σ H':=g.same sm;by_cases U:i<ds.length
      ·have C:ds.drop i=ds[i]::ds.drop (i+1):=fb U
       rw[C] at ec;obtain⟨E,F⟩:=t.go H' i ds[i] sm (by simp[U]);refine .inr ⟨E,λx n y=>?_⟩;obtain⟨rfl,L⟩:=F x n y;have p:=zpx (ix:=ix) I L;unfold ny at ec;cases e3:tt (some (.sh ds[i])::ix.map λj=>capt (env'.getD j none)) with
       | none=>rw[e3] at ec;cases ec
       | some bb =>
         obtain⟨b,R⟩:=bb;rw[e3,ac] at ec;refine⟨_,_,NoW,_,b,R,p,e3,λM H2 s2 V=>?_⟩;have r:Same H1 H2:=sm.trans V.stay;have s:Reps X.K H2 (Ow G W1) D ys:=I.reps (Step.same V.stay) rp;cases b with
         | false =>
           exact⟨ds.length-(i+1),by lia,rest,D,rfl,U,r,s,by lia,ec,rfl⟩
         | true =>
           cases e4:te R with
           | none=>simp only[e4] at ec;cases ec
           | some vv =>
             obtain⟨u,Z⟩:=vv;simp only[e4,ac] at ec;cases e5:ny tt te (ix.map λj=>capt (env'.getD j none)) (ds.drop (i+1)) with
             | none=>rw[e5] at ec;cases ec
             | some rest' =>
               rw[e5] at ec;cases ec;refine⟨_,_,M,R,u,Z,V,e4,λW3 v H3 s3 c r3=>⟨?_,ds.length-(i+1),by lia,rest',D++[u],rfl,U,sm.trans c.stay,?_,by rw[am,io];lia,by first | exact e5 | rfl,by simp⟩⟩
               ·have:ys.length<2 ^ 20:=by rw[<-rp.length];have:ds.length<=2 ^ 20:=f;lia
                exact bh this (by rw[sizeLine_eq];decide)
               ·refine(I.reps (Step.same c.stay) rp).append (.cons (r3.mono (λ_ _ h=>h) λa us o h=>⟨?_,h⟩) .nil)
                rcases o.1 with z | z
                ·exact z
                ·exact⟨I.good a (I.stay.free z),λw=>by obtain⟨_,us,q⟩:=I.wl a w;rw[z] at q;cases q⟩
      ·have e:i=ds.length:=by lia
       subst e;rw[jz] at ec;cases ec;refine .inl ⟨t.stop H' sm,by rw[<-rp.length];exact cy hd (cy f (by rw[sizeLine_eq];decide)),λl N=>?_⟩;obtain⟨h1,h2,O,P,S,T⟩:=vt I rp N;rw[df] at k;exact k W1 l _ _ ((B.trans st).trans h1) h2 O P S T
   ·simp only[iw,e1,ac,if_neg f] at q;cases q
section
variable {X:Cx} {G:Gd} {H0:Hp} {a b c e:Expr} {es rest:k8} {f g:FE} {F:FA} {u:FS} {pos p' p1 pos1:Pos} {x:Str} {i:Nat}
def z0l{Nn Cn:ik}{ix:kf}{sc:Scope}{px:Pos}{fi:FI}{te:FE}(an:Ats Nn Cn X)(hi:DCx X G H0 (.Name x px) a fi)(I:∀cl C s₂ H₂ fp G H0,Ats (x::(subN Nn ix)) (subN Nn ix) (jd X x (subN Nn ix) sc cl C s₂ H₂ fp)->DEx (jd X x (subN Nn ix) sc cl C s₂ H₂ fp) G H0 e te)(D:qv Nn Cn ix x sc=true:=by decide +kernel)(J:X.calm=true:=by rfl)(R:∀v,foldedSetIterable a X.env v=pure v:=by intro _;rfl) :
  DFx X G H0 (.ListComp e [⟨.Name x px,a,[],0⟩] sc pos) (iw fi ix fYes te) :=
 ⟨(zpr (wb an D) (λ_ _ _ _ _ _ _ _ _=>J) hi.out (λcl C s₂ H₂ fp _=>ye (X:=X) rfl) (λcl C s₂ H₂ fp _=>el_x (X:=X) rfl (λG H0=>I cl C s₂ H₂ fp G H0 (ud D))) R).imp z2c⟩
def z0m{Nn Cn:ik}{y:Str}{ix:kf}{sc:Scope}{px py spos:Pos}{fi:FI}{te:FE}(an:Ats Nn Cn X)(R:Tos Nn X)(hi:DCx X G H0 (.Name x px) a fi)(U:∀cl C s₂ H₂ fp G H0,Ats (x::(subN Nn ix)) (subN Nn ix) (jd X x (subN Nn ix) sc cl C s₂ H₂ fp)->DEx (jd X x (subN Nn ix) sc cl C s₂ H₂ fp) G H0 e te)(J:qv Nn Cn ix x sc=true:=by decide +kernel)(Y:X.calm=true:=by rfl)(I:Nn[i]?=some y:=by rfl)(V:swapsWith (.ListComp e [⟨.Name x px,a,[],0⟩] sc pos) (some (.Name y py)) spos.line X.env=pure true:=by rfl)(Z:∀v,foldedSetIterable a X.env v=pure v:=by intro _;rfl) :
  PS X (.Assign [.Name y py] (.ListComp e [⟨.Name x px,a,[],0⟩] sc pos) spos) (tAsg (tDF X.K G H0 (iw fi ix fYes te)) (nz i)) :=
 (zps (wb an J) (λ_ _ _ _ _ _ _ _ _=>Y) (R.t I).nd (R.t I).n (R.t I).l hi.out (λcl C s₂ H₂ fp _=>ye (X:=X) rfl) (λcl C s₂ H₂ fp _=>el_x (X:=X) rfl (λG H0=>U cl C s₂ H₂ fp G H0 (ud J))) V (R.t I).f Z).imp λD σ H h=>z2c σ H _ h
def z0n(i:Nat):FE:=λe=>match e[i]? with
 | some (some (.ow ds))=>(ints? ds).map λD=>(.int D.sum,e)
 | some (some (.sh (.lst ds)))=>(ints? ds).map λD=>(.int D.sum,e)
 | _=>none
def z38{Nn Cn:ik}{i:Nat}(an:Ats Nn Cn X)(V:X.calm=true:=by rfl)(R:Bn X "sum":=by walk_at "b")(D:Nn[i]?=some x:=by rfl)(U:starEach [.Name x p1] X.env=(false,eval (.Name x p1) X.env)::starEach [] X.env:=by rfl):DEx X G H0 (.Call (.Name "sum" p') [.Name x p1] [] pos) (z0n i) :=
 ⟨(y9 (zrl V) R.g R.m boot_sum (nc ((an.a D).pe) pj U) (by decide) (by decide) U rfl).imp λσ H Q Y=>by
  obtain⟨W,env,d,env',ok,q,k⟩:=Y;unfold z0n at q;split at q
  ·rename_i ds I
   cases e2:ints? ds with
   | none=>rw[e2] at q;cases q
   | some ns =>
   rw[e2] at q;cases q;cases zm7 e2;obtain⟨v,J,l,vs,rfl,b,Z,r⟩:=ok.slot i _ I;cases zlo r;exact⟨_,J,l,ns,rfl,.inl (.inl Z),k W _ H Step.refl ok (.int _)⟩
  ·rename_i ds I
   cases e2:ints? ds with
   | none=>rw[e2] at q;cases q
   | some ns =>
   rw[e2] at q;cases q;cases zm7 e2;obtain⟨v,J,r⟩:=ok.slot i _ I;obtain⟨l,us,rfl,h,r⟩:=Rep.lst_ r;cases zlo r;exact⟨_,J,l,ns,rfl,h.sq,k W _ H Step.refl ok (.int _)⟩
  ·cases q⟩
def tDL(K:ll)(G:Gd)(H0:Hp)(f:FA):TA:=λσ H Q=>DP K G H0 f (λW env ds env' =>
 ∀W' vs H',Step W H W' H'->Ok K G H0 W' env' σ H'->Reps K H' G ds vs->Q vs H') σ H
structure DLx (X:Cx) (G:Gd) (H0:Hp) (es:k8) (f:FA):Prop where
 out:PA X es (tDL X.K G H0 f)
def z90(h:DAx X G H0 es F):DLx X G H0 es F:=⟨h.out.imp λσ H Q ⟨W,env,ds,env',ok,q,k⟩ =>
 ⟨W,env,ds,env',ok,q,λW' vs H' st D r=>k W' vs H' st D (r.mono (λ_ _ h=>h) λa us o h=>⟨o.1,h⟩)⟩⟩
def z0o(i:Nat)(F:FA):FA:=λe=>match e[i]? with
 | some (some (.ow _))=>(F e).bind λq=>match q.2[i]? with | some (some (.ow ds))=>some (.lst ds::q.1,q.2) | _=>none
 | _=>none
def z39{Nn Cn:ik}{i:Nat}(b:DLx X G H0 es F)(an:Ats Nn Cn X)(I:Nn[i]?=some x:=by rfl)(c:starEach (.Name x p1::es) X.env=(false,eval (.Name x p1) X.env)::starEach es X.env:=by rfl):DLx X G H0 (.Name x p1::es) (z0o i F) :=
 ⟨(nc ((an.a I).pe) b.out c).imp λσ H Q d=>by
  obtain⟨W,env,ds,env',ok,q,k⟩:=d;unfold z0o at q;split at q;case h_2=>cases q
  rename_i e J;obtain⟨v,V,l,f,rfl,g,j,_⟩:=ok.slot i _ J;cases e1:F env with
  | none=>rw[e1] at q;cases q
  | some r =>
    obtain⟨R,Y⟩:=r;rw[e1,ac] at q;split at q;case h_2=>cases q
    rename_i m U;cases q;refine⟨_,V,W,env,R,_,ok,e1,λW1 vs H1 n D p=>?_⟩;obtain⟨z,Z,l',s,t,u,w,y⟩:=D.slot i _ U;rw[V] at Z;cases Z;cases t;exact k W1 _ H1 n D (.cons (.lst (D.good l (D.wl l u).1) (.inl w) (y.mono (λ_ _ h=>h) λa us o h=>⟨o.1,h⟩)) p)⟩
def zrt(m:mu->mv)(F:FA):FE:=λe=>(F e).bind λr=>(m r.1).bind λd=>if z37 d=true then some (d,r.2) else none
variable {CX:CXT} {k:Nat} {fa:Addr} {fd:FuncData} {ps:ik} {m:mu->mv} {E:XK}
def z7y:∀σ H Q,tD X.K G H0 (zrt m F) σ H Q->zww (dSp X.K m) [] E (tDL X.K G H0 F) σ H Q:=λσ H Q R=>by
 obtain⟨W,env,d,env',ok,q,k⟩:=R;unfold zrt at q;cases e1:F env with
 | none=>rw[e1] at q;cases q
 | some r =>
   obtain⟨ds,J⟩:=r;rw[e1,ac] at q;cases e2:m ds with
   | none=>rw[e2] at q;cases q
   | some d' =>
     rw[e2,ac] at q;split at q;case isFalse=>cases q
     rename_i D;cases q;refine⟨W,env,ds,_,ok,e1,λW1 vs H1 U I p1=>?_⟩;show dSp X.K m (vs++[]) H1 Q E;rw[df];exact⟨G,ds,_,p1,e2,λv H2 sm V=>k W1 v H2 (U.trans (Step.same sm)) (I.same sm) (V.atom D)⟩
def z0p{jr:Nat}(c:Cal X.prog X.w X.K X.mg X.base CX0 x k (dSp X.K m))(R:Room jr X.A)(U:DLx X G H0 (e::es) F)(D:k<=jr:=by decide)(V:Gl X x:=by walk_at "g")(Y:starEach (e::es) X.env=(false,eval e X.env)::starEach es X.env:=by rfl)(I:(backTo pos (starEach es X.env)).any (·.1)=false:=by rfl) :
  DEx X G H0 (.Call (.Name x p') (e::es) [] pos) (zrt m F):=let ⟨_,_,_,Z,a,b,d,J⟩:=c;⟨(zpn Z (R.mono D) V a b d .nil zzr U.out J Y I).imp z7y⟩
end
section
variable {X:Cx} {G:Gd} {H0:Hp} {a b c e:Expr} {es rest:k8} {f g:FE} {F:FA} {pos p' p1 pos1:Pos} {x:Str} {i:Nat}
def fSlT(f:FE)(l h:FO):FE:=λe=>(f e).bind λr=>(l r.2).bind λD=>(h D.2).bind λI=>match r.1 with
 | .tup ds=>if HT.sIx ds.length 0 D.1=0/\HT.sIx ds.length ds.length I.1=ds.length then none else some (.tup (cutD ds D.1 I.1),I.2)
 | _=>none
def z7z{lo hi:Option Expr}{fl V:FO}{sp:Pos}(e:DEx X G H0 a f)(g:DOx X G H0 lo fl)(i:DOx X G H0 hi V) :
  DEx X G H0 (.Subscript a (.Slice lo hi none sp) pos) (fSlT f fl V):=⟨(zt5 z6o e.out g.out i.out).imp λσ H Q j=>by
 obtain⟨W,env,d,env',ok,q,k⟩:=j;unfold fSlT at q;cases e1:f env with
 | none=>rw[e1] at q;cases q
 | some r =>
   obtain⟨v,D⟩:=r;rw[e1,ac] at q;dsimp only at q;cases e2:fl D with
   | none=>rw[e2] at q;cases q
   | some r2 =>
     obtain⟨m,I⟩:=r2;rw[e2,ac] at q;dsimp only at q;cases e3:V I with
     | none=>rw[e3] at q;cases q
     | some r3 =>
       obtain⟨n,b⟩:=r3;rw[e3,ac] at q;dsimp only at q;split at q;case h_2=>cases q
       rename_i ds;split at q;case isTrue=>cases q
       rename_i o;cases q;refine⟨W,env,_,_,ok,e1,λW1 v1 H1 s J p1=>⟨W1,D,_,_,J,e2,λt H2 s2 Y=>⟨t,I,_,_,Y,e3,λu w c R=>?_⟩⟩⟩;obtain⟨l,us,rfl,h,r⟩:=(J.rep (s2.trans c) p1).tup_;have U:=r.length;refine⟨l,us,rfl,SqT.of h,by rw[<-U];exact o,λp Z=>?_⟩;exact k u _ _ (((s.trans s2).trans c).trans (Step.same (nn Z))) (R.same (nn Z)) (.tup kl (R.reps (Step.same (nn Z)) (r.cut m n)))⟩
end
variable{xs:ik}
def gl_p(h:sc.names.lookup x=some .globalImplicit):Gl (z3m X xs N' sc cl C s H fp) x:=zec h
section
variable (P:Program) (w:World)
end
section
variable {X:Cx}
variable {a b:Expr} {ta tb:TE} {pos:Pos}
variable {tA tB':TT} {rest:k8}
end
section
variable {X:Cx} {st:Stmt} {rest:List Stmt} {t u:TS} {e:Expr} {te:TE} {pos:Pos}
end
section
variable {X:Cx} {CX:CXT} {k:Nat} {f C:Addr} {fd:FuncData} {ps ks:ik} {sp:Sp} {E:XK} {x m:Str} {p pos apos kpos:Pos} {e o:Expr} {es:k8} {kws:List Keyword} {te ta:TE} {t tk:TA} {nm:k9}
variable {g:i0->i0->i0} {gV:l0->l0->l0}
end
section
variable {κ:Type} [DecidableEq κ]
end
structure M1 (X:Cx) (o:Expr) (m:Str) (apos:Pos) (e:Expr) (cpos:Pos):Prop where
 base:attributeBase o m X.env (eval o X.env)=eval o X.env
 few:((backTo cpos (starEach [e] X.env)).all (λx=>!x.1) && (backToKw cpos (keywordEach [] X.env)).all (λx=>x.1.isSome)
  && decide (([e]:k8).length+([]:List Keyword).length+(if ([]:List Keyword).isEmpty then 0 else 1)<30))=true
 line:(apos.endLine==cpos.line)=true
 trees:backTo cpos (starEach [e] X.env)=[(false,eval e X.env)]
structure M2 (X:Cx) (o:Expr) (m:Str) (apos:Pos) (e f:Expr) (cpos:Pos):Prop where
 base:attributeBase o m X.env (eval o X.env)=eval o X.env
 few:((backTo cpos (starEach [e,f] X.env)).all (λx=>!x.1) && (backToKw cpos (keywordEach [] X.env)).all (λx=>x.1.isSome)
  && decide (([e,f]:k8).length+([]:List Keyword).length+(if ([]:List Keyword).isEmpty then 0 else 1)<30))=true
 line:(apos.endLine==cpos.line)=true
 trees:backTo cpos (starEach [e,f] X.env)=[(false,eval e X.env),(false,eval f X.env)]
end L2
namespace Att
open PySem PySem.W PySem.Calls PyProof.Rows
end Att
namespace L2
open PySem PySem.Spec PyProof.Rows
section
variable {κ:Type} [DecidableEq κ]
end
section
variable {X:Cx} {G:Gd} {H0:Hp} {a b c e:Expr} {es rest:k8} {f g:FE} {F:FA} {pos p' p1 pos1:Pos} {x:Str} {i:Nat}
end
section
variable {X:Cx} {G:Gd} {H0:Hp} {a b c e:Expr} {es rest:k8} {f g:FE} {F:FA} {pos p' p1 pos1:Pos} {x:Str} {i:Nat}
end
section
variable {X:Cx} {G:Gd} {H0:Hp} {a b c e:Expr} {es rest:k8} {f g:FE} {F:FA} {pos p' p1 pos1:Pos} {x:Str} {i:Nat}
end
end L2
namespace L2
open PySem
theorem zul{i:Nat}{g:FS}(P:Nat->DE0->Prop):∀(ds:mu) (e:DE0) (n:Nat),P n e->(∀(k:Nat) (d:D) (e:DE0),ds[k]?=some d->P (n+k) e->∃e',g (e.set i (some (.sh d)))=some (.nx,e')/\P (n+k+1) e') ->
  ∃e',forL i g ds e=some (.nx,e')/\P (n+ds.length) e'
 | [],e,n,h,_=>⟨e,rfl,h⟩
 | d::r,e,n,h,hs=>by
   obtain⟨I,h1,p1⟩:=hs 0 d e rfl h;obtain⟨J,h2,p2⟩:=zul P r I (n+1) p1 λk d' e' R U=>by
    have:=hs (k+1) d' e' (by simpa using R) (by rw[<-Nat.add_assoc,Nat.add_right_comm];exact U);rw[show n+(k+1)+1=n+1+k+1 by lia] at this;exact this
   refine⟨J,?_,by rw[ak,show n+(r.length+1)=n+1+r.length by lia];exact p2⟩;simp[forL,h1,h2]
variable{i:Int}{g:FS}
def rq{i:Nat}(P:Nat->DE0->Prop)(ds:mu)(e:DE0)(h:P 0 e)(I:∀(k:Nat) (d:D) (e:DE0),ds[k]?=some d->P k e->∃e',g (e.set i (some (.sh d)))=some (.nx,e')/\P (k+1) e') :
  ∃e',forL i g ds e=some (.nx,e')/\P ds.length e':=by
 obtain⟨e',h1,h2⟩:=zul P ds e 0 h λk d e J R=>by
  obtain⟨e',U,V⟩:=I k d e J (by simpa using R);exact⟨e',U,by simpa using V⟩
 exact⟨e',h1,by simpa using h2⟩
variable{lo:Int}{n:Nat}{d:D}
def tf{k:Nat}(h:(rngD lo n)[k]?=some d):d=.int (lo+k)/\k<n:=by
 unfold rngD at h;rw[bj] at h;by_cases D:k<n
 ·rw[jb D] at h
  exact⟨(bn h).symm,D⟩
 ·rw[ce (by simpa using D)] at h;cases h
def vb:(rngD lo n).length=n:=by simp[rngD]
theorem uc(h:-1000000000000<i/\i<1000000000000):ly i:=⟨by lia,by lia⟩
variable{α:Type}
theorem z70{xs:List α}(I:0<=i)(h1:i<xs.length):∃x,atI xs i=some x/\xs[i.toNat]?=some x:=by
 have D:i.toNat<xs.length:=by lia
 exact⟨xs[i.toNat],by unfold atI ixN;rw[if_pos I,if_pos h1];simp[D],by simp[D]⟩
def jl{ar:Nat}{ds:mu}{e':DE0}(h:ds.length=ar)(I:g (ji n ds)=some (.rt d,e')):runD n ar g ds=some d:=by
 unfold runD;rw[if_pos h,I]
def few(h:n<=1000000):Few n:=cy h (by decide)
theorem n4(n:Nat)(D:n<=1000000):iR1 [.int n]=some (rngD 0 n):=by
 unfold iR1;dsimp only;rw[if_pos (show Bnd _ _ _ from⟨by lia,by lia⟩),gk]
variable{j:Int}
def z2d(h:ly j):dMul (.int i) (.int j)=some (.int (i*j)):=by
 unfold dMul;dsimp only;rw[if_pos (.inr h)]
def re(h:ly i):dMul (.int i) (.int j)=some (.int (i*j)):=by
 unfold dMul;dsimp only;rw[if_pos (.inl h)]
def z4a(h:0<j):dMod (.int i) (.int j)=some (.int (i % j)):=by
 unfold dMod;dsimp only;rw[if_pos h]
theorem z4b(h:0<j)(h2:j<1073741824):dDiv (.int i) (.int j)=some (.int (i / j)):=by
 unfold dDiv;dsimp only;rw[if_pos (show Bnd _ _ _ from⟨by lia,h2⟩)]
def oh{α:Type}{te:FE}{base:DE0}(φ ψ:α->D):∀(xs:List α),(∀x∈xs,∃e',te (some (.sh (φ x))::base)=some (ψ x,e'))->ny fYes te base (xs.map φ)=some (xs.map ψ)
 | [],_=>rfl
 | x::xs,h=>by
   obtain⟨e',I⟩:=h x bu;have J:=oh φ ψ xs λy R=>h y (ay _ R);simp[ny,I,J]
def zna{α:Type}{tt:FT}{te:FE}{base:DE0}(φ ψ:α->D)(p:α->Bool):∀(xs:List α),(∀x∈xs,∃I,tt (some (.sh (φ x))::base)=some (p x,I)/\(p x=true->∃e',te I=some (ψ x,e')))->ny tt te base (xs.map φ)=some ((xs.filter p).map ψ)
 | [],_=>rfl
 | x::xs,h=>by
   obtain⟨I,h1,h2⟩:=h x bu;have J:=zna φ ψ p xs λy R=>h y (ay _ R);cases hp:p x with
   | false =>
     simp[ny,h1,J,List.filter_cons,hp]
   | true =>
     obtain⟨e',U⟩:=h2 hp;simp[ny,h1,U,J,List.filter_cons,hp]
def zl7{α:Type}{te:FA}{base:DE0}(φ:α->D)(ψ:α->mu):∀(xs:List α),(∀x∈xs,∃e',te (some (.sh (φ x))::base)=some (ψ x,e'))->zro te base (xs.map φ)=some (xs.map ψ)
 | [],_=>rfl
 | x::xs,h=>by
   obtain⟨e',I⟩:=h x bu;have J:=zl7 φ ψ xs λy R=>h y (ay _ R);simp[zro,I,J]
def z71(a b c:D):atI [a,b,c] 0=some a:=rfl
def xf(a b c:D):atI [a,b,c] 1=some b:=rfl
def xb(a b c:D):atI [a,b,c] 2=some c:=rfl
def z91(a b c d:D):atI [a,b,c,d] 0=some a:=rfl
def z92(a b c d:D):atI [a,b,c,d] 1=some b:=rfl
def z93(a b c d:D):atI [a,b,c,d] 2=some c:=rfl
def z94(a b c d:D):atI [a,b,c,d] 3=some d:=rfl
def zru{α:Type}{i:Nat}{g:FS}(φ:α->D)(P:List α->DE0->Prop)(all:List α)(J:∀(p:List α) (x:α) (q:List α) (e:DE0),all=p++x::q->P p e->∃e',g (e.set i (some (.sh (φ x))))=some (.nx,e')/\P (p++[x]) e') :
  ∀(xs I:List α) (e:DE0),all=I++xs->P I e->∃e',forL i g (xs.map φ) e=some (.nx,e')/\P all e'
 | [],I,e,h,hp=>⟨e,rfl,by rw[h,df];exact hp⟩
 | x::xs,I,e,h,hp=>by
   obtain⟨R,h1,p1⟩:=J I x xs e h hp;obtain⟨U,h2,p2⟩:=zru φ P all J xs (I++[x]) R (by rw[h];simp) p1;exact⟨U,by simp[forL,h1,h2],p2⟩
def qo{i:Nat}(φ:α->D)(P:List α->DE0->Prop)(all:List α)(e:DE0)(I:P [] e)(J:∀(p:List α) (x:α) (q:List α) (e:DE0),all=p++x::q->P p e->∃e',g (e.set i (some (.sh (φ x))))=some (.nx,e')/\P (p++[x]) e') :
  ∃e',forL i g (all.map φ) e=some (.nx,e')/\P all e':=zru φ P all J all [] e rfl I
end L2
namespace L2
open PySem PySem.Spec PyProof.Rows PySem.W
abbrev Ag:=AK×mx
abbrev np:=List Ag
abbrev nq:=Option (D×List Ag)
def slA(x:Ag)(j:Nat):Sl:=.ag x.1 (some j) x.2
def getA(env:DE0):kf->Option np
 | []=>some []
 | i::r=>match env[i]? with | some (some (.ag k _ ps))=>(getA env r).map λt=>(k,ps)::t | _=>none
def putA(env:DE0):kf->np->DE0
 | i::r,x::t=>match env[i]? with | some (some (.ag _ l _))=>putA (env.set i (some (.ag x.1 l x.2))) r t | _=>putA env r t
 | _,_=>env
def o8(ags:np):DE0:=ags.zipIdx.map λp=>some (slA p.1 p.2)
variable{env:DE0}
def xo:∀ {is:kf} {ags:np} {j i:Nat},getA env is=some ags->is[j]?=some i->∃x l,ags[j]?=some x/\env[i]?=some (some (.ag x.1 l x.2))
 | a::r,ags,j,i,h,e=>by
   unfold getA at h;split at h
   ·rename_i k l ps q
    cases h2:getA env r with
    | none=>rw[h2] at h;cases h
    | some t =>
      rw[h2] at h;cases h;cases j with
      | zero=>simp at e;subst e;exact⟨(k,ps),l,rfl,q⟩
      | succ j=>obtain⟨x,l',D,I⟩:=xo h2 (by simpa using e);exact⟨x,l',by simpa using D,I⟩
   ·cases h
def y7:∀ {is:kf} {ags:np},getA env is=some ags->ags.length=is.length
 | [],_,h=>by cases h;rfl
 | a::r,ags,h=>by
   unfold getA at h;split at h
   ·cases h2:getA env r with
    | none=>rw[h2] at h;cases h
    | some t=>rw[h2] at h;cases h;rw[ak,ak,y7 h2]
   ·cases h
def zp6:∀ {is:kf} {ags:np} {env:DE0},(putA env is ags).length=env.length
 | [],_,_=>by simp[putA]
 | a::r,[],_=>by simp[putA]
 | a::r,x::t,env=>by
   unfold putA;split
   ·rw[zp6,dq]
   ·rw[zp6]
def zp7:∀ {is:kf} {ags:np} {env:DE0} {i:Nat},i∉is->(putA env is ags)[i]?=env[i]?
 | [],_,_,_,_=>by simp[putA]
 | a::r,[],_,_,_=>by simp[putA]
 | a::r,x::t,env,i,h=>by
   have h1:a≠i:=λz=>h (by simp[z]);have h2:i∉r:=λz=>h (by simp[z]);unfold putA;split
   ·rw[zp7 h2,dh h1]
   ·rw[zp7 h2]
def zs2:∀ {is:kf} {ags:np} {env:DE0} {j i:Nat} {x:Ag} {k:AK} {l:Option Nat} {ps:mx},is.Nodup->is[j]?=some i->ags[j]?=some x->env[i]?=some (some (.ag k l ps))->(putA env is ags)[i]?=some (some (.ag x.1 l x.2))
 | a::r,y::t,env,j,i,x,k,l,ps,nd,e1,e2,e3=>by
   cases j with
   | zero =>
     simp at e1 e2;subst e1;subst e2;unfold putA;rw[e3];rw[zp7 (b7.mp nd).1,d8 (aj.mp e3).1]
   | succ j =>
     have hi:a≠i:=λz=>by subst z;exact(b7.mp nd).1 (bf (by simpa using e1))
     unfold putA;split
     ·exact zs2 (b7.mp nd).2 (by simpa using e1) (by simpa using e2) (by rw[dh hi];exact e3)
     ·exact zs2 (b7.mp nd).2 (by simpa using e1) (by simpa using e2) e3
variable{ags:np}{j:Nat}{s:Stmt}
def znb{s:Sl}(h:(o8 ags)[j]?=some (some s)):∃x,ags[j]?=some x/\s=slA x j:=by
 unfold o8 at h;rw[bj,m6] at h;cases e:ags[j]? with
 | none=>rw[e] at h;cases h
 | some x=>rw[e] at h;cases h;exact⟨x,rfl,by simp⟩
def zrv:(o8 ags).length=ags.length:=by simp[o8]
def mask(H:Hp)(W:Addr->Prop):Hp:=λa=>open Classical in if W a then none else H a
variable{a:Addr}{W:Addr->Prop}{H:Hp}
def zp8(h:W a):mask H W a=none:=if_pos h
def zum(h:¬W a):mask H W a=H a:=if_neg h
variable{o:Expr}
def zrw{o:HO}(h:mask H W a=some o):¬W a/\H a=some o:=by
 by_cases z:W a
 ·rw[zp8 z] at h;cases h
 ·rw[zum z] at h;exact⟨z,h⟩
def zrx(h:mask H W a=none):W a\/H a=none:=by
 by_cases z:W a
 ·exact .inl z
 ·rw[zum z] at h;exact .inr h
def Lent(H:Hp)(env:DE0)(σ:St)(is:kf):Addr->Prop:=λa=>∃i s v,i∈is/\env[i]?=some (some s)/\σ[i]?=some (some v)/\Owns H s v a
variable{is:kf}{K:ll}{G:Gd}{H0:Hp}{σ:St}
def Ok.lentW(ok:Ok K G H0 W env σ H)(h:Lent H env σ is a):W a:=by
 obtain⟨i,s,v,_,e,I,o⟩:=h;obtain⟨J,D,q⟩:=ok.slot i s e;rw[I] at D;cases D;exact q.owns o
def ut(G:Gd)(W L:Addr->Prop)(r:Nat->kb):Gd:=⟨λa=>G a/\(W a->L a),r⟩
theorem Ok.lend(ok:Ok K G H0 W env σ H)(nd:is.Nodup)(Z:getA env is=some ags) :
  ∃(r:Nat->kb) (us:l0),us.length=is.length/\(∀(j i:Nat),is[j]?=some i->∃u,us[j]?=some u/\σ[i]?=some (some u)) /\
   (∀(j i:Nat) (k:AK) (l:Option Nat) (ps:mx),is[j]?=some i->env[i]?=some (some (.ag k l ps))->∃p as,us[j]?=some (.ref p)/\Lab k (r j) p as/\∀n,l=some n->Lab k (G.r n) p as) /\
   Ok K (ut G W (Lent H env σ is) r) (mask H (Lent H env σ is)) (Lent H env σ is) (o8 ags) (us.map some) H:=by
 have C:∀a,Lent H env σ is a->W a:=λa=>ok.lentW;have ex:∀j:Nat,∃t:kb×V,∀(i:Nat) (x:Ag) (l:Option Nat),is[j]?=some i->ags[j]?=some x->env[i]?=some (some (.ag x.1 l x.2)) ->
   σ[i]?=some (some t.2)/\∃p as us,t.2=.ref p/\Lab x.1 t.1 p as/\W p/\(p::as).Nodup/\(∀n,l=some n->Lab x.1 (G.r n) p as)/\AkOk K H x.1 p us/\PtsOk K G W H x.2 as us:=λj=>by
  cases J:is[j]? with
  | none=>exact⟨([],.non),λi x l e=>by cases e⟩
  | some i =>
    obtain⟨x,l,h1,h2⟩:=xo Z J;obtain⟨v,I,p,as,us,R,X,L,hl,E,F⟩:=ok.slot i _ h2;refine⟨(match x.1 with | .ins true _ _=>[p] | _=>p::as,v),λM N l' z1 z2 z3=>?_⟩;cases z1;rw[h1] at z2;cases z2;rw[h2] at z3;cases z3;refine⟨I,p,as,us,R,?_,X,L,hl,E,F⟩;obtain⟨k,ps⟩:=x;cases k with
    | ls=>rfl
    | ins b c fs=>cases b <;> rfl
 obtain⟨t,Y⟩:=Classical.axiomOfChoice ex;have f:=y7 Z;refine⟨λj=>(t j).1,(List.range is.length).map λj=>(t j).2,by simp,λj i e=>?_,λj i k l ps I R=>?_,?_⟩
 ·have J:=(aj.mp e).1
  obtain⟨x,l,h1,h2⟩:=xo Z e;exact⟨_,by simp[J],(Y j i x l e h1 h2).1⟩
 ·have J:=(aj.mp I).1
  obtain⟨x,l',h1,h2⟩:=xo Z I;rw[R] at h2;cases h2;obtain⟨q1,p,as,us,g,O,_,_,q4,_⟩:=Y j i x l I h1 R;exact⟨p,as,by simp[J,g],O,q4⟩
 ·have own:∀ {j i:Nat} {x:Ag} {l:Option Nat},is[j]?=some i->ags[j]?=some x->env[i]?=some (some (.ag x.1 l x.2))->∀a,Owns H (slA x j) (t j).2 a->Lent H env σ is a:=λ{j i x l} I R y a o =>
   ⟨i,_,_,bf I,y,(Y j i x l I R y).1,o⟩
  have cv:∀ {d:D} {v:V},Rep K H (Ow G W) d v->Rep K H (Ow (ut G W (Lent H env σ is) λj=>(t j).1) (Lent H env σ is)) d v:=λr =>
   r.mono (λ_ _ h=>h) λa us o h=>⟨⟨⟨o.1,λz=>absurd z o.2⟩,λz=>o.2 (C a z)⟩,h⟩
  have P:∀ {d:mu} {v:l0},Reps K H (Ow G W) d v->Reps K H (Ow (ut G W (Lent H env σ is) λj=>(t j).1) (Lent H env σ is)) d v:=λr =>
   r.mono (λ_ _ h=>h) λa us o h=>⟨⟨⟨o.1,λz=>absurd z o.2⟩,λz=>o.2 (C a z)⟩,h⟩
  have pos:∀ {j:Nat} {s:Sl},(o8 ags)[j]?=some (some s)->∃i x l,is[j]?=some i/\ags[j]?=some x/\env[i]?=some (some (.ag x.1 l x.2))/\s=slA x j/\(((List.range is.length).map λj=>(t j).2).map some)[j]?=some (some (t j).2):=λ{j s} e=>by
   obtain⟨x,h1,rfl⟩:=znb e;have J:j<is.length:=by rw[<-f];exact(aj.mp h1).1
   obtain⟨N,l,h2,U⟩:=xo Z (show is[j]?=some is[j] by simp[J]);rw[h1] at h2;cases h2;exact⟨is[j],x,l,by simp[J],h1,U,rfl,by simp[J]⟩
  refine⟨λa o e=>(zrw e).2,λa e=>?_,λa e=>⟨zp8 e,(ok.wl a (C a e)).2⟩,λj s e=>?_,λj j' s s' v v' a I R y e4 o1 o2=>?_,by rw[zrv,af,af,ir,f]⟩
  ·rcases zrx e with z | z
   ·exact⟨ok.good a (ok.wl a (C a z)).1,λ_=>z⟩
   ·exact⟨ok.good a (ok.stay.free z),λw=>by obtain⟨_,m,q⟩:=ok.wl a w;rw[z] at q;cases q⟩
  ·obtain⟨i,x,l,h1,h2,U,rfl,Q⟩:=pos e
   obtain⟨q1,p,as,us,g,O,X,L,q4,E,F⟩:=Y j i x l h1 h2 U;refine⟨_,Q,p,as,us,g,own h1 h2 U p (.inl g),L,λn z=>by cases z;exact O,E,F.step (λa vs ha z=>⟨own h1 h2 U a (.inr ⟨p,us,g,E.o,F.parts_iff.mpr ha⟩),z⟩) (λ_ _ r=>cv r) λ_ _ r=>P r⟩
  ·obtain⟨i,x,l,h1,h2,U,rfl,Q⟩:=pos I
   obtain⟨M,N,l',A,S,B,rfl,T⟩:=pos R;rw[Q] at y;cases y;rw[T] at e4;cases e4;have:=ok.uniq i M _ _ _ _ a U B (Y j i x l h1 h2 U).1 (Y j' M N l' A S B).1 o1 o2;subst this;exact zpt nd h1 A
variable{us:l0}{W':Addr->Prop}{H':Hp}
theorem Ok.unlend(ok:Ok K G H0 W env σ H){I:np}{r:Nat->kb}{env':DE0}{T:St}(nd:is.Nodup)(hg:getA env is=some ags)(hu:∀(j i:Nat),is[j]?=some i->∃u,us[j]?=some u/\σ[i]?=some (some u))(X:∀(j i:Nat) (k:AK) (l:Option Nat) (ps:mx),is[j]?=some i->env[i]?=some (some (.ag k l ps))->∃p as,us[j]?=some (.ref p)/\Lab k (r j) p as/\∀n,l=some n->Lab k (G.r n) p as)(hl:I.length=is.length)(an:∀(j:Nat) (x y:Ag),ags[j]?=some x->I[j]?=some y->y.1=x.1)(st:Step (Lent H env σ is) H W' H')(C:Ok K (ut G W (Lent H env σ is) r) (mask H (Lent H env σ is)) W' env' T H')(Z:∀(j:Nat) (x:Ag),I[j]?=some x->env'[j]?=some (some (slA x j))) :
  Ok K G H0 (λa=>W' a\/(W a/\¬Lent H env σ is a)) (putA env is I) σ H'/\Step W H (λa=>W' a\/(W a/\¬Lent H env σ is a)) H' /\
   (∀ {d:D} {v:V},Rep K H' (Ow (ut G W (Lent H env σ is) r) W') d v->Rep K H' (Ow G (λa=>W' a\/(W a/\¬Lent H env σ is a))) d v):=by
 have lW:∀a,Lent H env σ is a->W a:=λa=>ok.lentW;have O:∀a,W' a->Lent H env σ is a\/H a=none:=st.ws;have n':∀a,W' a->W a->Lent H env σ is a:=λa h w=>(O a h).elim id λz=>by obtain⟨_,m,q⟩:=ok.wl a w;rw[z] at q;cases q
 have aa:Step W H (λa=>W' a\/(W a/\¬Lent H env σ is a)) H':=⟨λb o e n=>st.keep b o e λz=>n (lW b z),λa z=>by
  rcases z with z | z
  ·exact(O a z).imp (lW a) id
  ·exact .inl z.1⟩
 have back:∀ {j i:Nat} {y:Ag} {k:AK} {l:Option Nat} {ps:mx},is[j]?=some i->I[j]?=some y->env[i]?=some (some (.ag k l ps)) ->
   ∃u p as vs,σ[i]?=some (some u)/\T[j]?=some (some u)/\u=.ref p/\W' p/\(p::as).Nodup/\(∀n,l=some n->Lab y.1 (G.r n) p as)/\AkOk K H' y.1 p vs/\PtsOk K (ut G W (Lent H env σ is) r) W' H' y.2 as vs:=λ{j i y k l ps} R B E=>by
  obtain⟨x,l',h1,h2⟩:=xo hg R;rw[E] at h2;cases h2;obtain⟨v,N,p,as,vs,rfl,hW,n1,hr,hk,hp⟩:=C.slot j _ (Z j y B);obtain⟨u,L,M⟩:=hu j i R;obtain⟨p0,P,S,f,z5⟩:=X j i _ _ _ R E;rw[L] at S;cases S;have hy:=an j x y h1 B;have U:Lab y.1 (r j) p as:=hr j rfl;have same:p=p0/\(as=P\/∃c fs,y.1=.ins true c fs):=by
   rw[<-hy] at f;generalize y.1=kk at U f;cases kk with
   | ls=>have U:r j=p::as:=U;have f:r j=p0::P:=f;rw[U] at f;cases f;exact⟨rfl,.inl rfl⟩
   | ins b c fs =>
     cases b with
     | true=>have U:r j=[p]:=U;have f:r j=[p0]:=f;rw[U] at f;cases f;exact⟨rfl,.inr ⟨c,fs,rfl⟩⟩
     | false=>have U:r j=p::as:=U;have f:r j=p0::P:=f;rw[U] at f;cases f;exact⟨rfl,.inl rfl⟩
  obtain⟨rfl,hs⟩:=same;refine⟨_,p,as,vs,M,N,rfl,hW,n1,λn hn=>?_,hk,hp⟩;have z6:=z5 n hn;rw[<-hy] at z6;rcases hs with rfl | ⟨c,fs,q⟩
  ·exact z6
  ·rw[q] at z6 ⊢;exact z6
 have up:∀(a:Addr) (us:l0),Ow (ut G W (Lent H env σ is) r) W' a->Rd H' a (.lst us)->Ow G (λa=>W' a\/(W a/\¬Lent H env σ is a)) a/\Rd H' a (.lst us):=λa us o h=>⟨⟨o.1.1,λz=>z.elim o.2 λy=>y.2 (o.1.2 y.1)⟩,h⟩;have cv:∀ {d:D} {v:V},Rep K H' (Ow (ut G W (Lent H env σ is) r) W') d v->Rep K H' (Ow G (λa=>W' a\/(W a/\¬Lent H env σ is a))) d v:=λrp=>rp.mono (λ_ _ h=>h) up;have ap:∀ {d:mu} {v:l0},Reps K H' (Ow (ut G W (Lent H env σ is) r) W') d v->Reps K H' (Ow G (λa=>W' a\/(W a/\¬Lent H env σ is a))) d v:=λrp=>rp.mono (λ_ _ h=>h) up;have g:∀ {i:Nat} {s:Sl} {v:V},i∉is->env[i]?=some (some s)->σ[i]?=some (some v)->∀a,Owns H s v a->W a/\¬Lent H env σ is a:=λ{i s v} hi e R a o=>by
  obtain⟨v',B,q⟩:=ok.slot i s e;rw[R] at B;cases B;refine⟨q.owns o,λz=>?_⟩;obtain⟨i',s',v',t,L,M,S⟩:=z;exact hi ((ok.uniq i i' s s' _ _ a e L R M o S) ▸ t)
 have Q:∀ {i:Nat} {s:Sl} {v:V},i∉is->env[i]?=some (some s)->σ[i]?=some (some v)->∀a (m:Mo),Owns H s v a->H a=some m.out->(W' a\/(W a/\¬Lent H env σ is a))/\H' a=some m.out:=λ{i s v} hi e R a m o q=>by
  have z:=g hi e R a o;exact⟨.inr z,st.keep a _ q z.2⟩
 have A:∀ {i:Nat} {s:Sl} {v:V} {a:Addr},i∉is->env[i]?=some (some s)->σ[i]?=some (some v)->Owns H' s v a->Owns H s v a:=λ{i s v a} hi e R o=>by
  obtain⟨v',B,q⟩:=ok.slot i s e;rw[R] at B;cases B;refine q.back (λl z w m M=>?_) o;refine st.keep l _ M λy=>?_;obtain⟨i',s',v',t,L,S,f⟩:=y;have ol:Owns H s v l:=by
   cases s with
   | sh d=>exact o.elim
   | ow ds=>exact z
   | o2 dss=>exact .inl z
   | ag k r ps=>exact .inl z
   | al _ _=>exact o.elim
   | ro _ _=>exact o.elim
  exact hi ((ok.uniq i i' s s' _ _ l e L R S ol f) ▸ t)
 have J:∀ {i:Nat} {s:Sl},(putA env is I)[i]?=some (some s)->(i∉is/\env[i]?=some (some s))\/∃(j:Nat) (y:Ag) (k:AK) (l:Option Nat) (ps:mx),is[j]?=some i/\I[j]?=some y/\env[i]?=some (some (.ag k l ps))/\s=.ag y.1 l y.2:=λ{i s} e=>by
  by_cases hi:i∈is
  ·obtain⟨j,hj,ej⟩:=ja hi
   have R:is[j]?=some i:=by simp[hj,ej]
   obtain⟨x,l,h1,h2⟩:=xo hg R;have h3:I[j]?=some (I[j]'(by lia)):=by simp[hl,hj]
   rw[zs2 nd R h3 h2] at e;cases e;exact .inr ⟨j,_,_,l,_,R,h3,h2,rfl⟩
  ·rw[zp7 hi] at e;exact .inl ⟨hi,e⟩
 refine⟨⟨λb o e=>?_,ok.good,λa z=>?_,λi s e=>?_,λi i' s s' v v' a R B E N o1 o2=>?_,by rw[zp6];exact ok.len⟩,aa,cv⟩
 ·exact st.keep b o (ok.stay b o e) λz=>by rw[(ok.wl b (lW b z)).1] at e;cases e
 ·rcases z with z | z
  ·refine⟨?_,(C.wl a z).2⟩
   rcases O a z with y | y
   ·exact(ok.wl a (lW a y)).1
   ·exact ok.stay.free y
  ·obtain⟨q,m,hm⟩:=ok.wl a z.1
   exact⟨q,m,st.keep a _ hm z.2⟩
 ·rcases J e with⟨hi,e⟩ | ⟨j,y,k,l,ps,R,B,E,rfl⟩
  ·obtain⟨v,R,q⟩:=ok.slot i s e
   exact⟨v,R,ok.slstep aa q (Q hi e R)⟩
  ·obtain⟨u,p,as,vs,F,_,rfl,hW,n1,ar,hk,hp⟩:=back R B E
   exact⟨_,F,p,as,vs,rfl,.inl hW,n1,ar,hk,hp.step (λa ws ha z=>⟨.inl (hp.own ha).1,z⟩) (λ_ _ r=>cv r) λ_ _ r=>ap r⟩
 ·rcases J R with⟨hi,f1⟩ | ⟨j,y,k,l,ps,f1,f2,f3,rfl⟩ <;> rcases J B with⟨t,Y⟩ | ⟨j',y',k',l',ps',Y,f2',f3',rfl⟩
  ·exact ok.uniq i i' s s' v v' a f1 Y E N (A hi f1 E o1) (A t Y N o2)
  ·exfalso
   obtain⟨L,M⟩:=g hi f1 E a (A hi f1 E o1);obtain⟨u,p,as,vs,F,q2,_⟩:=back Y f2' f3';rw[N] at F;cases F;obtain⟨v0,w1,w2⟩:=C.slot j' _ (Z j' y' f2');rw[q2] at w1;cases w1;exact M (n' a (w2.owns o2) L)
  ·exfalso
   obtain⟨L,M⟩:=g t Y N a (A t Y N o2);obtain⟨u,p,as,vs,F,q2,_⟩:=back f1 f2 f3;rw[E] at F;cases F;obtain⟨v0,w1,w2⟩:=C.slot j _ (Z j y f2);rw[q2] at w1;cases w1;exact M (n' a (w2.owns o1) L)
  ·obtain⟨u,p,as,vs,F,q2,_⟩:=back f1 f2 f3
   obtain⟨u',p',a1,vs',ab,a0,_⟩:=back Y f2' f3';rw[E] at F;cases F;rw[N] at ab;cases ab;have:=C.uniq j j' _ _ _ _ a (Z j y f2) (Z j' y' f2') q2 a0 o1 o2;subst this;rw[f1] at Y;cases Y;rfl
def MCal(P:Program)(w:World)(K:ll)(mg:Str->ka)(base:Heap)(cn m:Str)(k:Nat)(sp:Sp):Prop :=
 ∃C fa fd ps,Cls K C/\Meth K C m fa/\FnOk P w K mg base (CXr P w) k fa fd ps sp/\Binds K fd ps []/\Cl K cn C
def Atr(K:ll)(cn m:Str):Prop:=∃C,Cls K C/\NoAttr K C m/\Cl K cn C
def KCal(P:Program)(w:World)(K:ll)(mg:Str->ka)(base:Heap)(x:Str)(k:Nat)(sp:Sp):Prop :=
 ∃C fa fd ps,Mk K C fa/\FnOk P w K mg base (CXr P w) k fa fd ps sp/\mg x=some (.ref C)/\Binds K fd ps []/\Cl K x C/\(x==("__debug__" : Str))=false
def EXs(X:Cx)(σ:St):XK:=λcls _ H'=>∀pins H s C ea s',cls=.ref C->Inv X pins σ H s->Fly X.prog X.w X.stack H s C ea H' s'->X.xe (.ref ea) s'
variable{vs:l0}{X:Cx}{k:Nat}{f:Addr}{fd:FuncData}{ps:ik}{sp:Sp}
theorem zs3{pins:ln}{s:Shared}{Q:VK}{us:i0}(F:FnOk X.prog X.w X.K X.mg X.base (CXr X.prog X.w) k f fd ps sp)(R:Room k X.A)(U:Binds X.K fd ps [])(I:Inv X pins σ H s)(r:Vals vs us)(h:sp vs H Q (EXs X σ)):wpAny (model X.prog X.w) X.A (call (.ref f) us) (EP X pins σ Q) X.xe s:=by
 have V:(us++[]).length=ps.length:=by rw[df,<-r.length];exact F.len _ _ _ _ h
 have J:=U s us I.kIn V;rw[df] at J;refine wpAny_call (codeAny_mono (F.run X.A X.stack s H ⟨us,[]⟩ us vs Q (EXs X σ) R I.env0 J r h) λr s' D=>?_);cases r with
 | error e =>
   obtain⟨ea,C,H',rfl,fl,z⟩:=D;exact z pins H s C ea s' rfl I fl
 | ok fl =>
   cases fl with
   | ret u=>exact I.after D
   | next=>exact False.elim D
   | brk=>exact False.elim D
   | cont=>exact False.elim D
def z72(X:Cx)(sp:Sp)(t:TA):TE:=λσ H Q=>t σ H λvs H1=>sp vs H1 Q (EXs X σ)
variable{x:Str}{p pos:Pos}{e:Expr}{es:k8}{t:TA}
def zlu(F:FnOk X.prog X.w X.K X.mg X.base (CXr X.prog X.w) k f fd ps sp)(U:Room k X.A)(V:Gl X x)(Y:X.mg x=some (.ref f))(Z:PySem.W.keepIn X.K (.ref f)=true)(a:Binds X.K fd ps [])(b:PA X (e::es) t)(D:(x==("__debug__" : Str))=false:=by decide)(c:starEach (e::es) X.env=(false,eval e X.env)::starEach es X.env:=by rfl)(J:(backTo pos (starEach es X.env)).any (·.1)=false:=by rfl) :
  PE X (.Call (.Name x p) (e::es) [] pos) (z72 X sp t):=by
 intro pins s σ H Q I h;refine wpAny_Call_Name_kw (xq I V Y ?_ D);refine je (h₀:=X.base) I.ok.mod.kin Z (thn (b pos pins s σ H _ I h) λus g d=>?_) c J;obtain⟨vs,H1,R,r,q⟩:=d;refine⟨R.kIn,?_⟩;exact zs3 F U a R r q
def zun(X:Cx)(C:Addr)(m:Str)(sp:Sp)(ta:TE)(t:TA):TE:=λσ H Q=>ta σ H λx H1=>∃a dx fs,x=.ref a/\H1 a=some (.ins C dx fs)/\fs.lookup m=none/\t σ H1 λvs H2=>sp (x::vs) H2 Q (EXs X σ)
variable{C:Addr}{m:Str}{apos:Pos}{ta:TE}
def znc{pl:Sem Bool}(Z:PE X o ta)(c:Cls X.K C)(U:Meth X.K C m f)(F:FnOk X.prog X.w X.K X.mg X.base (CXr X.prog X.w) k f fd ps sp)(b:Room k X.A)(d:Binds X.K fd ps [])(g:PA X (e::es) t)(D:starEach (e::es) X.env=(false,eval e X.env)::starEach es X.env:=by rfl)(J:(backTo pos (starEach es X.env)).any (·.1)=false:=by rfl)(i:eval (.Call (.Attribute o m apos) (e::es) [] pos) X.env=(do
   let ov <-eval o X.env
   standAt apos.atName
   let (f,first) <-holding [ov] (getMethod ov m pl)
   callWith pos f first (backTo pos (starEach (e::es) X.env)) (backToKw pos (keywordEach [] X.env))):=by rfl) :
  PE X (.Call (.Attribute o m apos) (e::es) [] pos) (zun X C m sp ta t):=by
 intro pins s σ H Q I h;refine PySem.W.methodCall_KW (pl:=pl) (thn (Z pins s σ H _ I h) λu j R=>?_) i;obtain⟨x,H1,V,n,a,dx,fs,ex,ea,l,q⟩:=R;subst ex;obtain rfl:u=Value.ref a:=n;refine zo1 V ea c U l ?_;refine je (first:=[.ref a]) (h₀:=X.base) I.ok.mod.kin U.kp (thn (g pos pins j σ H1 _ V q) λus s2 R=>?_) D J;obtain⟨vs,H2,Y,r,p⟩:=R;refine⟨Y.kIn,?_⟩;exact zs3 (us:=.ref a::us) (vs:=.ref a::vs) F b d Y (.cons rfl r) p
def znz{pl:Sem Bool}(R:PE X o ta)(c:Cls X.K C)(J:Meth X.K C m f)(F:FnOk X.prog X.w X.K X.mg X.base (CXr X.prog X.w) k f fd ps sp)(U:Room k X.A)(V:Binds X.K fd ps [])(Y:eval (.Call (.Attribute o m apos) [] [] pos) X.env=(do
   let ov <-eval o X.env
   standAt apos.atName
   let (f,first) <-holding [ov] (getMethod ov m pl)
   callWith pos f first (backTo pos (starEach [] X.env)) (backToKw pos (keywordEach [] X.env))):=by rfl) :
  PE X (.Call (.Attribute o m apos) [] [] pos) (zun X C m sp ta tNil):=by
 intro pins s σ H Q I h;refine PySem.W.methodCall_KW (pl:=pl) (thn (R pins s σ H _ I h) λu d Z=>?_) Y;obtain⟨x,H1,D,b,a,dx,fs,ex,ea,l,q⟩:=Z;subst ex;obtain rfl:u=Value.ref a:=b;refine zo1 D ea c J l ?_;exact PySem.W.callWith_K0 (first:=[.ref a]) D.kIn J.kp (zs3 (us:=[.ref a]) (vs:=[.ref a]) F U V D (.cons rfl .nil) q)
def z73(X:Cx)(C:Addr)(sp:Sp)(t:TA):TE:=λσ H Q=>t σ H λvs H1=>∀x dx,H1 x=none->H1 dx=none->dx≠x ->
 sp (.ref x::vs) (upd (upd H1 dx (.own x)) x (.ins C dx [])) (λv H2=>v=.non/\Q (.ref x) H2) (EXs X σ)
theorem z0q(M:Mk X.K C f)(F:FnOk X.prog X.w X.K X.mg X.base (CXr X.prog X.w) k f fd ps sp)(c:Room (k+1) X.A)(d:Gl X x)(g:X.mg x=some (.ref C))(i:Binds X.K fd ps [])(j:PA X (e::es) t)(R:(x==("__debug__" : Str))=false:=by decide)(l:starEach (e::es) X.env=(false,eval e X.env)::starEach es X.env:=by rfl)(U:(backTo pos (starEach es X.env)).any (·.1)=false:=by rfl) :
  PE X (.Call (.Name x p) (e::es) [] pos) (z73 X C sp t):=by
 intro pins m σ H0 Q Y n;refine wpAny_Call_Name_kw (xq Y d g ?_ R);refine je (h₀:=X.base) Y.ok.mod.kin M.kp (thn (j pos pins m σ H0 _ Y n) λus s o=>?_) l U;obtain⟨vs,H,I,r,h⟩:=o;refine⟨I.kIn,?_⟩;have Z:=h (s.heap.objs.size+1) s.heap.objs.size (I.hok.fresh (m4 _)) (I.hok.fresh (bw _)) (cf (fo _));have J:=Inv.made (C:=C) I;have a:Vals (V.ref (s.heap.objs.size+1)::vs) (Value.ref (s.heap.objs.size+1)::us):=.cons rfl r;have q:((Value.ref (s.heap.objs.size+1)::us)++[]).length=ps.length:=by rw[df,<-a.length];exact F.len _ _ _ _ Z
 have b:=i ⟨_,s.gens,s.drawn,s.toks,s.os⟩ (Value.ref (s.heap.objs.size+1)::us) J.kIn q;rw[df] at b;refine wpAny_call (zzm (f:=f) I.kIn M.makes M.init (beq_iff_eq.mp M.fn) (codeAny_mono (F.run _ X.stack _ _ ⟨Value.ref (s.heap.objs.size+1)::us,[]⟩ (Value.ref (s.heap.objs.size+1)::us) _ _ (EXs X σ) (c.make C us [])
  (J.env0.make C us []) b a Z) λr s' D=>?_))
 cases r with
 | error e =>
   obtain⟨ea,y,H',rfl,fl,z⟩:=D;exact z pins _ _ y ea s' rfl J fl
 | ok fl =>
   cases fl with
   | ret u =>
     obtain⟨v,H',B,E,G,L⟩:=J.after D;subst G;exact⟨E,⟨V.ref (s.heap.objs.size+1),H',B,rfl,L⟩⟩
   | next=>exact False.elim D
   | brk=>exact False.elim D
   | cont=>exact False.elim D
abbrev XF:=DE0->Option (Str×DE0)
def XEnd(X:Cx)(G:Gd)(H0:Hp)(W:Addr->Prop)(H:Hp)(σ:St)(c:Str)(env':DE0):Prop:=∀W' H' C,Cl X.K c C->Step W H W' H'->Ok X.K G H0 W' env' σ H'->∀pins e s',XS X pins σ H' C e s'->X.xe (.ref e) s'
def tDX(X:Cx)(G:Gd)(H0:Hp)(x:XF)(σ:St)(H:Hp):Prop:=DP X.K G H0 x (λW env c env'=> XEnd X G H0 W H σ c env') σ H
structure JX (X:Cx) (G:Gd) (H0:Hp) (e:Expr) (x:XF):Prop where
 out:PE X e (λσ H _=>tDX X G H0 x σ H)
structure JXA (X:Cx) (G:Gd) (H0:Hp) (es:k8) (x:XF):Prop where
 out:PA X es (λσ H _=>tDX X G H0 x σ H)
structure JXS (X:Cx) (G:Gd) (H0:Hp) (s:Stmt) (x:XF):Prop where
 out:PS X s (λ_ σ H=>tDX X G H0 x σ H)
@[simp] noncomputable def sXp(x:XF)(g:FS):FS:=λe=>match x e with | some r=>some (.xc r.1,r.2) | none=>g e
variable{x:XF}{g:FS}
def l6(R:DSx X G H0 s g)(U:JXS X G H0 s x):DSx X G H0 s (sXp x g):=⟨λpins s' σ H D I V=>by
 obtain⟨W,env,fl,env',ok,q,k⟩:=V;unfold sXp at q;cases e1:x env with
 | none=>rw[e1] at q;exact R.out pins s' σ H D I ⟨W,env,fl,env',ok,q,k⟩
 | some r =>
   rw[e1] at q;cases q;exact U.out pins s' σ H D I ⟨W,env,r.1,r.2,ok,e1,λW' H' C Y st J=>k W' σ H' C Y st J⟩⟩
def og(h:JX X G H0 e x)(D:swapsWith e none pos.line X.env=pure false:=by rfl):JXS X G H0 (.Expr e pos) x:=⟨(zwh h.out D).imp λ_ _ _ z=>z⟩
def xn(h:JX X G H0 e x):JXS X G H0 (.Return (some e) pos) x:=⟨(ym h.out).imp λ_ _ _ z=>z⟩
variable{Nn:ik}{y:Str}{p':Pos}{i:Nat}
def z4c(I:Tos Nn X)(h:JX X G H0 e x)(D:Nn[i]?=some y:=by rfl)(J:swapsWith e (some (.Name y p')) pos.line X.env=pure false:=by rfl) :
  JXS X G H0 (.Assign [.Name y p'] e pos) x:=⟨(zq7 (I.t D).nd (I.t D).n (I.t D).l h.out J (I.t D).f).imp λ_ _ _ z=>z⟩
variable{c:Str}
def Cl.inj{D:Addr}(h:Cl K c C)(h':Cl K c D):C=D:=by
 unfold Cl at h h';rw[h] at h';cases h';rfl
def z0r(K:ll)(O:Addr->Prop)(H:Hp)(ags:np)(us:l0):Prop :=
 us.length=ags.length/\∀(j:Nat) (x:Ag) (u:V),ags[j]?=some x->us[j]?=some u->∃p vs,u=.ref p/\AkOk K H x.1 p vs/\PtsRo K (gd O) NoW H x.2 vs
def qSp(K:ll)(m:np->mu->mv)(x:np->mu->k9):Sp:=λvs H Q E =>
 ∃(O:Addr->Prop) (ags:np) (us:l0) (ds:mu) (ws:l0),vs=us++ws/\z0r K O H ags us/\Reps K H O ds ws /\
  ((∃d,m ags ds=some d/\∀v H',Same H H'->Rep K H' (λa=>O a\/H a=none) d v->Q v H')\/∃c,x ags ds=some c/\∀C H',Cl K c C->Same H H'->E (.ref C) none H')
def jt(n:Nat)(ags:np)(ds:mu):DE0:=ags.map (λx=>some (Sl.ro x.1 x.2))++ji (n-ags.length) ds
def runQ(n p ar:Nat)(g:FS):np->mu->mv:=λags ds=>if ags.length=p/\ds.length=ar then(match g (jt n ags ds) with | some (.rt d,_)=>some d | some (.nx,_)=>some .non | _=>none) else none
def xQ(n p ar:Nat)(g:FS):np->mu->k9:=λags ds=>if ags.length=p/\ds.length=ar then(match g (jt n ags ds) with | some (.xc c,_)=>some c | _=>none) else none
variable{O O':Addr->Prop}
def mr(h:∀a,O a->O' a):(∀(d:D) (v:V),Rep K H O d v->Rep K H O' d v)/\∀(d:mu) (v:l0),Reps K H O d v->Reps K H O' d v :=
 ⟨λd v r=>r.mono (λ_ _ h=>h) λa us o q=>⟨h a o,q⟩,λd v r=>r.mono (λ_ _ h=>h) λa us o q=>⟨h a o,q⟩⟩
variable{ws:l0}{ds:mu}{N:ik}
theorem z2e(I:z0r K O H ags us)(r:Reps K H O ds ws)(c:us.length<=N.length) :
  Ok K (gd λa=>O a\/H a=none) H NoW (jt N.length ags ds) (start N (us++ws)) H:=by
 have R:=u4 (N:=N.drop us.length) r;have J:=R.len;have es:start N (us++ws)=us.map some++start (N.drop us.length) ws:=by
  unfold start;rw[b6,d5,am,em,Nat.sub_sub]
 have Y:jt N.length ags ds=ags.map (λx=>some (Sl.ro x.1 x.2))++ji (N.drop us.length).length ds:=by unfold jt;rw[em,I.1]
 rw[es,Y];refine⟨Same.refl _,R.good,R.wl,λi s e=>?_,λi j f s2 v1 v2 a D _ g _ o _=>?_,?_⟩
 ·by_cases hi:i<ags.length
  ·rw[ax (by simpa using hi),bj] at e
   cases D:ags[i]? with
   | none=>rw[D] at e;cases e
   | some x =>
     rw[D] at e;cases e;have U:us[i]?=some (us[i]'(by rw[I.1];exact hi)):=by simp[I.1,hi]
     obtain⟨p,vs,h1,h2,Z⟩:=I.2 i x _ D U;refine⟨_,by rw[ax (by rw[af,I.1];exact hi),bj,U];rfl,p,vs,h1,λz=>z,h2,Z.step (λa vs n z=>⟨n,z⟩) (λd v q=>(mr λa z=>⟨.inl z.1,λz=>z⟩).1 d v q) λd v q=>(mr λa z=>⟨.inl z.1,λz=>z⟩).2 d v q⟩
  ·rw[dg (by simpa using hi),af] at e
   obtain⟨v,V,b⟩:=R.slot _ s e;rw[<-I.1] at V;exact⟨v,by rw[dg (by rw[af,I.1];lia),af];exact V,b⟩
 ·by_cases hi:i<ags.length
  ·rw[ax (by simpa using hi),bj] at D
   cases q:ags[i]? with
   | none=>rw[q] at D;cases D
   | some x=>rw[q] at D;cases D;exact o.elim
  ·rw[dg (by simpa using hi)] at D
   obtain⟨d,_,rfl⟩:=zkh D;exact o.elim
 ·rw[am,am,af,af,J,I.1]
variable{x qual:Str}{st:Stmt}{n ar:Nat}{P:Program}{w:World}{mg:Str->ka}{base:Heap}
theorem z74{p:Nat}(F:Fun K x qual st f fd)(S:rn N ps (f9 st))(j:n=N.length)(l:p+ar=ps.length)(R:∀(cdv:Value) (A:Around) (outer:k7) (s:Shared) (H:Hp) (E:XK) (G:Gd) (H0:Hp),Room k (A.deeper (envOfC qual (f9 st) s.heap.objs.size f cdv)) ->
   DBx (cxOf (CXr P w) P w K mg base N qual (f9 st) f cdv A outer s H E) G H0 (l7 st) g):FnOk P w K mg base (CXr P w) (k+1) f fd ps (qSp K (runQ n p ar g) (xQ n p ar g)):=by
 subst j;have m:ps.length<=N.length:=by have:=congrArg List.length S.pre;rw[dn] at this;lia
 have U:∀ {O:Addr->Prop} {H:Hp} {ags:np} {us:l0} {ds:mu} {ws:l0},z0r K O H ags us->Reps K H O ds ws->(ags.length=p/\ds.length=ar)->(us++ws).length=ps.length:=λJ r h=>by rw[am,J.1,h.1,<-r.length,h.2,l]
 refine F.okX S (λvs H Q E h=>?_) (λcdv A outer s H vs Q E q h=>?_)
 ·obtain⟨O,ags,us,ds,ws,rfl,J,r,h⟩:=h
  refine U J r ?_;rcases h with⟨d,e,_⟩ | ⟨c,e,_⟩
  ·unfold runQ at e;split at e
   ·assumption
   ·cases e
  ·unfold xQ at e;split at e
   ·assumption
   ·cases e
 ·obtain⟨O,ags,us,ds,ws,rfl,J,r,h⟩:=h
  refine⟨_,(R cdv A outer s H E (gd λa=>O a\/H a=none) H q).out,?_⟩;rcases h with⟨d,e,k⟩ | ⟨c,e,k⟩
  ·unfold runQ at e
   split at e;case isFalse=>cases e
   rename_i i;have b:=z2e (N:=N) J r (by rw[J.1,i.1];lia);split at e
   ·rename_i d' env' Y
    cases e;exact⟨NoW,_,_,env',b,Y,λW' Z v H' st I t=>k v H' I.stay (t.mono (λ_ _ h=>h) λa us o h=>⟨o.1,h⟩)⟩
   ·rename_i env' Y
    cases e;exact⟨NoW,_,_,env',b,Y,λW' Z H' st I=>k .non H' I.stay .non⟩
   ·cases e
  ·unfold xQ at e
   split at e;case isFalse=>cases e
   rename_i i;have b:=z2e (N:=N) J r (by rw[J.1,i.1];lia);split at e
   ·rename_i z env' Y
    cases e;exact⟨NoW,_,_,env',b,Y,λW' Z H' u y st I pins e s' xs=>zl5 xs (k u H' y I.stay)⟩
   ·cases e
def lSp(K:ll)(m:np->mu->nq)(x:np->mu->Option (Str×np)):Sp:=λvs H Q E =>
 ∃(G:Gd) (W:Addr->Prop) (R:Hp) (ags:np) (us:l0) (ds:mu) (ws:l0),vs=us++ws/\us.length=ags.length/\Ok K G R W (o8 ags) (us.map some) H/\Reps K H (Ow G W) ds ws /\
  ((∃d I, m ags ds = some (d, I) /\ ∀W' env' J v H', Step W H W' H' -> Ok K G R W' env' J H' -> (∀(j : Nat) (x : Ag), I[j]? = some x -> env'[j]? = some (some (slA x j))) -> Rep K H' (Ow G W') d v -> Q v H') \/
   ∃c I,x ags ds=some (c,I)/\∀C W' env' J H',Cl K c C->Step W H W' H'->Ok K G R W' env' J H'->(∀(j:Nat) (x:Ag),I[j]?=some x->env'[j]?=some (some (slA x j)))->E (.ref C) none H')
def ke(n:Nat)(ags:np)(ds:mu):DE0:=o8 ags++ji (n-ags.length) ds
def outA(e:DE0):Nat->kf->Option np
 | _,[]=>some []
 | j,_::r=>match e[j]? with | some (some (.ag k (some j') ps))=>if j'=j then(outA e (j+1) r).map λt=>(k,ps)::t else none | _=>none
def runL(n p ar:Nat)(g:FS):np->mu->nq:=λags ds=>if ags.length=p/\ds.length=ar then(match g (ke n ags ds) with | some (.rt d,e)=>(outA e 0 (List.range p)).map λt=>(d,t) | some (.nx,e)=>(outA e 0 (List.range p)).map λt=>(.non,t) | _=>none) else none
def xL(n p ar:Nat)(g:FS):np->mu->Option (Str×np):=λags ds=>if ags.length=p/\ds.length=ar then(match g (ke n ags ds) with | some (.xc c,e)=>(outA e 0 (List.range p)).map λt=>(c,t) | _=>none) else none
theorem zqa{e:DE0}:∀ {l:kf} {i:Nat} {ags:np},outA e i l=some ags->ags.length=l.length/\∀(j:Nat) (x:Ag),ags[j]?=some x->e[i+j]?=some (some (slA x (i+j)))
 | [],_,_,h=>by cases h;exact⟨rfl,λj x z=>by simp at z⟩
 | _::r,i,ags,h=>by
   unfold outA at h;split at h
   ·rename_i k D ps q
    split at h
    ·rename_i I
     subst I;cases e2:outA e (D+1) r with
     | none=>rw[e2] at h;cases h
     | some t =>
       rw[e2] at h;cases h;obtain⟨h1,h2⟩:=zqa e2;refine⟨by rw[ak,ak,h1],λj x z=>?_⟩;cases j with
       | zero=>simp at z;subst z;exact q
       | succ j =>
         have:=h2 j x (by simpa using z);rwa [show D+1+j=D+(j+1) by lia] at this
    ·cases h
   ·cases h
theorem z75{I:Hp}(ok:Ok K G I W (o8 ags) (us.map some) H)(J:us.length=ags.length)(r:Reps K H (Ow G W) ds ws) :
  Ok K G I W (ke N.length ags ds) (start N (us++ws)) H:=by
 have R:(o8 ags).length=us.length:=by rw[zrv,J]
 have es:start N (us++ws)=us.map some++start (N.drop us.length) ws:=by
  unfold start;rw[b6,d5,am,em,Nat.sub_sub]
 have c:ke N.length ags ds=o8 ags++ji (N.drop us.length).length ds:=by unfold ke;rw[em,J]
 have f:=u4 (N:=N.drop us.length) (O:=Ow G W) r;rw[es,c];have D:∀ {i:Nat} {s:Sl},(o8 ags++ji (N.drop us.length).length ds)[i]?=some (some s)->(i<us.length/\(o8 ags)[i]?=some (some s))\/(us.length<=i/\∃d,ds[i-us.length]?=some d/\s=.sh d):=λ{i s} e=>by
  by_cases hi:i<us.length
  ·rw[ax (by lia)] at e;exact .inl ⟨hi,e⟩
  ·rw[dg (by lia),R] at e
   obtain⟨d,q,z⟩:=zkh e;exact .inr ⟨by lia,d,q,z⟩
 refine⟨ok.stay,ok.good,ok.wl,λi s e=>?_,λi j g s2 v1 v2 a h k U V Y Z=>?_,?_⟩
 ·rcases D e with⟨hi,e⟩ | ⟨hi,d,q,rfl⟩
  ·obtain⟨v,h1,h2⟩:=ok.slot i s e
   exact⟨v,by rw[ax (by simpa using hi)];exact h1,h2⟩
  ·obtain⟨v,h1,h2⟩:=r.get q
   refine⟨v,?_,h2⟩;rw[dg (by simpa using hi),af];unfold start;rw[ax (by simpa using(aj.mp h1).1),bj,h1];rfl
 ·rcases D h with⟨hi,l⟩ | ⟨hi,d,q,rfl⟩
  ·rcases D k with⟨b,f2⟩ | ⟨b,d,q,rfl⟩
   ·rw[ax (by simpa using hi)] at U
    rw[ax (by simpa using b)] at V;exact ok.uniq i j g s2 v1 v2 a l f2 U V Y Z
   ·exact Z.elim
  ·exact Y.elim
 ·rw[am,am,R,af,f.len]
theorem z4d{p:Nat}(F:Fun K x qual st f fd)(S:rn N ps (f9 st))(Z:n=N.length)(a:p+ar=ps.length)(J:∀(cdv:Value) (A:Around) (outer:k7) (s:Shared) (H:Hp) (E:XK) (G:Gd) (H0:Hp),Room k (A.deeper (envOfC qual (f9 st) s.heap.objs.size f cdv)) ->
   DBx (cxOf (CXr P w) P w K mg base N qual (f9 st) f cdv A outer s H E) G H0 (l7 st) g):FnOk P w K mg base (CXr P w) (k+1) f fd ps (lSp K (runL n p ar g) (xL n p ar g)):=by
 subst Z;refine F.okX S (λvs H Q E h=>?_) (λcdv A outer s H vs Q E b h=>?_)
 ·obtain⟨G,W,Y,ags,us,ds,ws,rfl,U,ok,r,h⟩:=h
  have:ags.length=p/\ds.length=ar:=by
   rcases h with⟨d,t,e,_⟩ | ⟨c,t,e,_⟩
   ·unfold runL at e;split at e
    ·assumption
    ·cases e
   ·unfold xL at e;split at e
    ·assumption
    ·cases e
  rw[am,U,this.1,<-r.length,this.2,a]
 ·obtain⟨G,W,Y,ags,us,ds,ws,rfl,U,ok,r,h⟩:=h
  refine⟨_,(J cdv A outer s H E G Y b).out,?_⟩;have V:=z75 (N:=N) ok U r;rcases h with⟨d,t,e,k⟩ | ⟨c,t,e,k⟩
  ·unfold runL at e
   split at e;case isFalse=>cases e
   split at e
   ·rename_i d' env' R
    cases e2:outA env' 0 (List.range p) with
    | none=>rw[e2] at e;cases e
    | some t' =>
      rw[e2] at e;cases e;exact⟨W,_,_,env',V,R,λW' D v H' st I i=>k W' env' D v H' st I (λj x z=>by have:=(zqa e2).2 j x z;rwa [kh] at this) i⟩
   ·rename_i env' R
    cases e2:outA env' 0 (List.range p) with
    | none=>rw[e2] at e;cases e
    | some t' =>
      rw[e2] at e;cases e;exact⟨W,_,_,env',V,R,λW' D H' st I=>k W' env' D .non H' st I (λj x z=>by have:=(zqa e2).2 j x z;rwa [kh] at this) .non⟩
   ·cases e
  ·unfold xL at e
   split at e;case isFalse=>cases e
   split at e
   ·rename_i o env' R
    cases e2:outA env' 0 (List.range p) with
    | none=>rw[e2] at e;cases e
    | some t' =>
      rw[e2] at e;cases e;exact⟨W,_,_,env',V,R,λW' D H' l m st I pins e s' xs=>zl5 xs (k l W' env' D H' m st I λj x z=>by have:=(zqa e2).2 j x z;rwa [kh] at this)⟩
   ·cases e
def getR(env:DE0):kf->Option np
 | []=>some []
 | i::r=>match env[i]? with
   | some (some (.ag k _ ps))=>(getR env r).map λt=>(k,ps)::t
   | some (some (.ro k ps))=>(getR env r).map λt=>(k,ps)::t
   | _=>none
def aggs(env:DE0)(is:kf):Prop:=∀i∈is,∃s,env[i]?=some (some s)
instance (env:DE0) (is:kf):Decidable (aggs env is):=Classical.propDecidable _
variable{ps:mx}{as:kb}
def PtsOk.ro(h:PtsOk K G W H ps as us):PtsRo K (gd (Ow G W)) NoW H ps us:=by
 induction h with
 | nil=>exact .nil
 | d q _ ih=>exact .d ((mr λa z=>⟨z,λz=>z⟩).1 _ _ q) ih
 | o hW hl q _ ih=>exact .o (λz=>z) hl ((mr λa z=>⟨z,λz=>z⟩).2 _ _ q) ih
def PtsRo.ro(h:PtsRo K G W H ps us):PtsRo K (gd (Ow G W)) NoW H ps us :=
 h.step (λa vs _ z=>⟨λz=>z,z⟩) (λd v q=>(mr λa z=>⟨z,λz=>z⟩).1 d v q) λd v q=>(mr λa z=>⟨z,λz=>z⟩).2 d v q
def Ok.roAll(ok:Ok K G H0 W env σ H):∀ {is:kf} {ags:np} {us:l0},getR env is=some ags->us.length=is.length->(∀(j i:Nat),is[j]?=some i->∃u,us[j]?=some u/\σ[i]?=some (some u))->z0r K (Ow G W) H ags us
 | [],_,us,h,hl,_=>by cases h;exact⟨hl,λj x u e=>by simp at e⟩
 | i::r,ags,us,h,hl,hu=>by
   cases us with
   | nil=>simp at hl
   | cons u us =>
     obtain⟨m,Z,a⟩:=hu 0 i rfl;simp at Z;subst Z;have R:∃k ps t,ags=(k,ps)::t/\getR env r=some t/\∃p vs,u=.ref p/\AkOk K H k p vs/\PtsRo K (gd (Ow G W)) NoW H ps vs:=by
      unfold getR at h;split at h
      ·rename_i k l ps q
       cases h2:getR env r with
       | none=>rw[h2] at h;cases h
       | some t =>
         rw[h2] at h;cases h;obtain⟨v,D,p,as,vs,rfl,_,_,_,I,J⟩:=ok.slot i _ q;rw[a] at D;cases D;exact⟨k,ps,t,rfl,rfl,p,vs,rfl,I,J.ro⟩
      ·rename_i k ps q
       cases h2:getR env r with
       | none=>rw[h2] at h;cases h
       | some t =>
         rw[h2] at h;cases h;obtain⟨v,D,p,vs,rfl,_,I,J⟩:=ok.slot i _ q;rw[a] at D;cases D;exact⟨k,ps,t,rfl,rfl,p,vs,rfl,I,J.ro⟩
      ·cases h
     obtain⟨k,ps,t,rfl,h2,p,vs,rfl,I,J⟩:=R;obtain⟨b,c⟩:=ok.roAll (us:=us) h2 (by simpa using hl) λj d e=>by
      obtain⟨u,f,g⟩:=hu (j+1) d (by simpa using e);exact⟨u,by simpa using f,g⟩
     refine⟨by rw[ak,ak,b],λj x v U Y=>?_⟩;cases j with
     | zero=>simp at U Y;subst U;subst Y;exact⟨p,vs,rfl,I,J⟩
     | succ j=>exact c j x v (by simpa using U) (by simpa using Y)
variable{v:V}
def Ok.newRep(ok:Ok K G H0 W env σ H){d:D}(r:Rep K H' (λa=>Ow G W a\/H a=none) d v):Rep K H' (Ow G W) d v :=
 r.mono (λ_ _ h=>h) λa us o h=>⟨o.elim id λz=>⟨ok.good a (ok.stay.free z),λw=>by obtain⟨_,m,q⟩:=ok.wl a w;rw[z] at q;cases q⟩,h⟩
def tLA(X:Cx)(G:Gd)(H0:Hp)(is:kf)(F:FA):TA:=λσ H Q=>∃W env ds env',Ok X.K G H0 W env σ H/\aggs env is/\F env=some (ds,env') /\
 ∀W' us ws H',Step W H W' H'->Ok X.K G H0 W' env' σ H'->us.length=is.length->(∀(j i:Nat),is[j]?=some i->∃u,us[j]?=some u/\σ[i]?=some (some u))->Reps X.K H' (Ow G W') ds ws->Q (us++ws) H'
structure JLA (X:Cx) (G:Gd) (H0:Hp) (is:kf) (es:k8) (F:FA):Prop where
 out:PA X es (tLA X G H0 is F)
variable{F:FA}
def jk(h:DAx X G H0 es F):JLA X G H0 [] es F:=⟨h.out.imp λσ H Q ⟨W,env,ds,env',ok,_,q,k⟩=>⟨W,env,ds,env',ok,q,λW' vs H' st D r=>k W' [] vs H' st D rfl (λj i e=>by simp at e) r⟩⟩
variable{Cn:ik}
def pv(h:JLA X G H0 is es F)(an:Ats Nn Cn X)(D:Nn[i]?=some x:=by rfl)(I:starEach (.Name x pos::es) X.env=(false,eval (.Name x pos) X.env)::starEach es X.env:=by rfl):JLA X G H0 (i::is) (.Name x pos::es) F :=
 ⟨(nc ((an.a D).pe) h.out I).imp λσ H Q Y=>by
  obtain⟨W,env,ds,env',ok,U,q,k⟩:=Y;obtain⟨s,I⟩:=U i (by simp);obtain⟨v,V,_⟩:=ok.slot i s I;refine⟨v,V,W,env,ds,env',ok,λJ hi=>U J (by simp[hi]),q,λW' us ws H' st R Z b r=>?_⟩;refine k W' (v::us) ws H' st R (by rw[ak,ak,Z]) (λj J e=>?_) r;cases j with
  | zero=>simp at e;subst e;exact⟨v,rfl,V⟩
  | succ j=>obtain⟨u,c,d⟩:=b j J (by simpa using e);exact⟨u,by simpa using c,d⟩⟩
def gp(m:np->mu->mv)(is:kf)(F:FA):FE:=λe=>if aggs e is then(F e).bind λr=>(getR r.2 is).bind λags=>(m ags r.1).map λd=>(d,r.2) else none
def lz(x:np->mu->k9)(is:kf)(F:FA):XF:=λe=>if aggs e is then(F e).bind λr=>(getR r.2 is).bind λags=>(x ags r.1).map λc=>(c,r.2) else none
variable{m:np->mu->mv}{xx:np->mu->k9}
def zs4:∀σ H Q,tD X.K G H0 (gp m is F) σ H Q->tLA X G H0 is F σ H λvs H1=>qSp X.K m xx vs H1 Q (EXs X σ):=λσ H Q J=>by
 obtain⟨W,env,d,env',ok,q,k⟩:=J;unfold gp at q;split at q;case isFalse=>cases q
 rename_i I;cases e1:F env with
 | none=>rw[e1] at q;cases q
 | some r =>
   rw[e1,ac] at q;cases e2:getR r.2 is with
   | none=>rw[e2] at q;cases q
   | some ags =>
     rw[e2,ac] at q;cases e3:m ags r.1 with
     | none=>rw[e3] at q;cases q
     | some d' =>
       rw[e3] at q;cases q;exact⟨W,env,r.1,r.2,ok,I,e1,λW1 us ws H1 R D U V Y=>⟨Ow G W1,ags,us,r.1,ws,rfl,D.roAll e2 U V,Y,.inl ⟨_,e3,λv H' sm Z=>k W1 v H' (R.trans (Step.same sm)) (D.same sm) (D.newRep Z)⟩⟩⟩
def zuo:∀σ H (Q:VK),tDX X G H0 (lz xx is F) σ H->tLA X G H0 is F σ H λvs H1=>qSp X.K m xx vs H1 Q (EXs X σ):=λσ H Q R=>by
 obtain⟨W,env,c,env',ok,q,k⟩:=R;unfold lz at q;split at q;case isFalse=>cases q
 rename_i J;cases e1:F env with
 | none=>rw[e1] at q;cases q
 | some r =>
   rw[e1,ac] at q;cases e2:getR r.2 is with
   | none=>rw[e2] at q;cases q
   | some ags =>
     rw[e2,ac] at q;cases e3:xx ags r.1 with
     | none=>rw[e3] at q;cases q
     | some c' =>
       rw[e3] at q;cases q;refine⟨W,env,r.1,r.2,ok,J,e1,λW1 us ws H1 U D V Y Z=>⟨Ow G W1,ags,us,r.1,ws,rfl,D.roAll e2 V Y,Z,.inr ⟨_,e3,λC H' a sm pins H2 s2 d ea s' b I fl=>?_⟩⟩⟩;cases b;exact k W1 H' C a (U.trans (Step.same sm)) (D.same sm) pins ea s' (.inl ⟨s2,H2,I,fl⟩)
variable{jr:Nat}
def mj(c:Cal X.prog X.w X.K X.mg X.base (CXr X.prog X.w) x k (qSp X.K m xx))(R:Room jr X.A)(U:JLA X G H0 is (e::es) F)(D:k<=jr:=by decide)(V:Gl X x:=by walk_at "g")(Y:starEach (e::es) X.env=(false,eval e X.env)::starEach es X.env:=by rfl)(I:(backTo pos (starEach es X.env)).any (·.1)=false:=by rfl) :
  DEx X G H0 (.Call (.Name x p') (e::es) [] pos) (gp m is F):=let ⟨_,_,_,Z,a,b,d,J⟩:=c;⟨(zlu Z (R.mono D) V a b d U.out J Y I).imp zs4⟩
def n8(c:Cal X.prog X.w X.K X.mg X.base (CXr X.prog X.w) x k (qSp X.K m xx))(R:Room jr X.A)(U:JLA X G H0 is (e::es) F)(D:k<=jr:=by decide)(V:Gl X x:=by walk_at "g")(Y:starEach (e::es) X.env=(false,eval e X.env)::starEach es X.env:=by rfl)(I:(backTo pos (starEach es X.env)).any (·.1)=false:=by rfl) :
  JX X G H0 (.Call (.Name x p') (e::es) [] pos) (lz xx is F):=let ⟨_,_,_,Z,a,b,d,J⟩:=c;⟨(zlu Z (R.mono D) V a b d U.out J Y I).imp zuo⟩
instance (a b:List AK):Decidable (a=b):=Classical.propDecidable _
def lb(m:np->mu->nq)(is:kf)(F:FA):FE:=λe=>if aggs e is then(F e).bind λr=>(getA r.2 is).bind λags=>(m ags r.1).bind λq=>if q.2.map (·.1)=ags.map (·.1) then some (q.1,putA r.2 is q.2) else none else none
def m8(x:np->mu->Option (Str×np))(is:kf)(F:FA):XF:=λe=>if aggs e is then(F e).bind λr=>(getA r.2 is).bind λags=>(x ags r.1).bind λq=>if q.2.map (·.1)=ags.map (·.1) then some (q.1,putA r.2 is q.2) else none else none
variable{b:Expr}
def z76{a b:np}(h:b.map (·.1)=a.map (·.1)):b.length=a.length/\∀(j:Nat) (x y:Ag),a[j]?=some x->b[j]?=some y->y.1=x.1:=by
 refine⟨by simpa using congrArg List.length h,λj x y D I=>?_⟩;have:=congrArg (λl:List AK=>l[j]?) h;simp[bj,D,I,Option.some.injEq] at this;exact this
variable{m:np->mu->nq}{xx:np->mu->Option (Str×np)}
theorem zs5(Y:is.Nodup):∀σ H Q,tD X.K G H0 (lb m is F) σ H Q->tLA X G H0 is F σ H λvs H1=>lSp X.K m xx vs H1 Q (EXs X σ):=λσ H Q e=>by
 obtain⟨W,env,d,env',ok,q,k⟩:=e;unfold lb at q;split at q;case isFalse=>cases q
 rename_i J;cases e1:F env with
 | none=>rw[e1] at q;cases q
 | some r =>
   rw[e1,ac] at q;cases e2:getA r.2 is with
   | none=>rw[e2] at q;cases q
   | some ags =>
     rw[e2,ac] at q;cases e3:m ags r.1 with
     | none=>rw[e3] at q;cases q
     | some z =>
       rw[e3,ac] at q;split at q;case isFalse=>cases q
       rename_i R;cases q;obtain⟨f,g⟩:=z76 R;refine⟨W,env,r.1,r.2,ok,J,e1,λW1 us ws H1 i D N l n=>?_⟩;obtain⟨O,I,p,Z,s,U⟩:=D.lend Y e2;have t:I=us:=by
        apply dz;intro j;by_cases b:j<is.length
        ·obtain⟨u,w,x⟩:=l j is[j] (by simp[b])
         obtain⟨P,y,c⟩:=Z j is[j] (by simp[b]);rw[x] at c;cases c;rw[w,y]
        ·rw[ce (by lia),ce (by lia)]
       subst t;refine⟨_,_,_,ags,I,r.1,ws,rfl,by rw[p,y7 e2],U,?_,.inl ⟨_,_,e3,λW' env' A v H' st V B C=>?_⟩⟩
       ·exact n.mono (λ_ _ h=>h) λa us o h=>⟨⟨⟨o.1,λz=>absurd z o.2⟩,λz=>o.2 (D.lentW z)⟩,h⟩
       ·obtain⟨E,L,M⟩:=D.unlend Y e2 Z s (by rw[f,y7 e2]) g st V B
        exact k _ v H' (i.trans L) E (M C)
theorem zqb(Z:is.Nodup):∀σ H (Q:VK),tDX X G H0 (m8 xx is F) σ H->tLA X G H0 is F σ H λvs H1=>lSp X.K m xx vs H1 Q (EXs X σ):=λσ H Q f=>by
 obtain⟨W,env,d,env',ok,q,k⟩:=f;unfold m8 at q;split at q;case isFalse=>cases q
 rename_i R;cases e1:F env with
 | none=>rw[e1] at q;cases q
 | some r =>
   rw[e1,ac] at q;cases e2:getA r.2 is with
   | none=>rw[e2] at q;cases q
   | some ags =>
     rw[e2,ac] at q;cases e3:xx ags r.1 with
     | none=>rw[e3] at q;cases q
     | some z =>
       rw[e3,ac] at q;split at q;case isFalse=>cases q
       rename_i U;cases q;obtain⟨g,i⟩:=z76 U;refine⟨W,env,r.1,r.2,ok,R,e1,λW1 us ws H1 l D O n p=>?_⟩;obtain⟨P,J,s,b,t,V⟩:=D.lend Z e2;have v:J=us:=by
        apply dz;intro j;by_cases c:j<is.length
        ·obtain⟨u,w,x⟩:=n j is[j] (by simp[c])
         obtain⟨S,y,e⟩:=b j is[j] (by simp[c]);rw[x] at e;cases e;rw[w,y]
        ·rw[ce (by lia),ce (by lia)]
       subst v;refine⟨_,_,_,ags,J,r.1,ws,rfl,by rw[s,y7 e2],V,?_,.inr ⟨_,_,e3,λC W' env' A H' B st Y E pins H2 s2 T ea s' L I fl=>?_⟩⟩
       ·exact p.mono (λ_ _ h=>h) λa us o h=>⟨⟨⟨o.1,λz=>absurd z o.2⟩,λz=>o.2 (D.lentW z)⟩,h⟩
       ·cases L
        obtain⟨M,N,u3⟩:=D.unlend Z e2 b t (by rw[g,y7 e2]) i st Y E;exact k _ H' C B (l.trans N) M pins ea s' (.inl ⟨s2,H2,I,fl⟩)
def zjl(c:Cal X.prog X.w X.K X.mg X.base (CXr X.prog X.w) x k (lSp X.K m xx))(R:Room jr X.A)(U:JLA X G H0 is (e::es) F)(D:k<=jr:=by decide)(V:Gl X x:=by walk_at "g")(Y:is.Nodup:=by decide)(Z:starEach (e::es) X.env=(false,eval e X.env)::starEach es X.env:=by rfl)(I:(backTo pos (starEach es X.env)).any (·.1)=false:=by rfl) :
  DEx X G H0 (.Call (.Name x p') (e::es) [] pos) (lb m is F):=let ⟨_,_,_,a,b,d,f,J⟩:=c;⟨(zlu a (R.mono D) V b d f U.out J Z I).imp (zs5 Y)⟩
def z0s(c:Cal X.prog X.w X.K X.mg X.base (CXr X.prog X.w) x k (lSp X.K m xx))(R:Room jr X.A)(U:JLA X G H0 is (e::es) F)(D:k<=jr:=by decide)(V:Gl X x:=by walk_at "g")(Y:is.Nodup:=by decide)(Z:starEach (e::es) X.env=(false,eval e X.env)::starEach es X.env:=by rfl)(I:(backTo pos (starEach es X.env)).any (·.1)=false:=by rfl) :
  JX X G H0 (.Call (.Name x p') (e::es) [] pos) (m8 xx is F):=let ⟨_,_,_,a,b,d,f,J⟩:=c;⟨(zlu a (R.mono D) V b d f U.out J Z I).imp (zqb Y)⟩
def isK(κ:AK)(e:DE0)(i:Nat):Prop:=(∃l ps,e[i]?=some (some (.ag κ l ps)))\/∃ps,e[i]?=some (some (.ro κ ps))
instance (κ:AK) (e:DE0) (i:Nat):Decidable (isK κ e i):=Classical.propDecidable _
def fK(κ:AK)(i:Nat)(f:FE):FE:=λe=>if isK κ e i then f e else none
def xK(κ:AK)(i:Nat)(f:XF):XF:=λe=>if isK κ e i then f e else none
def isK.at{K:ll}{W:Addr->Prop}{H:Hp}{env:DE0}{σ:St}{c:Str}{fs:ik}{C:Addr}(ok:Ok K G H0 W env σ H)(h:isK (.ins false c fs) env i)(U:Cl K c C):∃p dx us,σ[i]?=some (some (.ref p))/\H p=some (.ins C dx (fs.zip us))/\fs.length=us.length:=by
 rcases h with⟨l,ps,e⟩ | ⟨ps,e⟩
 ·obtain⟨v,I,p,as,us,rfl,_,_,_,⟨V,dx,J,D,R⟩,_⟩:=ok.slot i _ e
  rw[Cl.inj J U] at D;exact⟨p,dx,us,I,D,R⟩
 ·obtain⟨v,I,p,us,rfl,_,⟨V,dx,J,D,R⟩,_⟩:=ok.slot i _ e
  rw[Cl.inj J U] at D;exact⟨p,dx,us,I,D,R⟩
variable{m:Str}{fs:ik}
def zup(h:m∉fs):(fs.zip us).lookup m=none:=by
 induction fs generalizing us with
 | nil=>rfl
 | cons f r ih =>
   cases us with
   | nil=>rfl
   | cons u us =>
     rw[km,cz];have:(m==f)=false:=by simp;exact λz=>h (by simp[z])
     rw[this];exact ih λz=>h (by simp[z])
variable{f:FE}
def zuq(U:Cl X.K c C)(V:m∉fs)(h:∀σ H Q,tD X.K G H0 f σ H Q->tLA X G H0 [i] F σ H λvs H1=>sp vs H1 Q (EXs X σ)):∀σ H Q,tD X.K G H0 (fK (.ins false c fs) i f) σ H Q->zun X C m sp (tVar i) (tDA X.K G H0 F) σ H Q:=λσ H Q Y=>by
 obtain⟨W,env,d,env',ok,q,k⟩:=Y;unfold fK at q;split at q;case isFalse=>cases q
 rename_i Z;obtain⟨p,dx,us,R,a,_⟩:=Z.at ok U;obtain⟨b,env0,ds,D,I,_,g,l⟩:=h σ H Q ⟨W,env,d,env',ok,q,k⟩;refine⟨_,R,p,dx,_,rfl,a,zup V,b,env0,ds,D,I,g,λW' ws H' st J r=>?_⟩;exact l W' [.ref p] ws H' st J rfl (λj n e=>by cases j with | zero=>simp at e;subst e;exact⟨_,rfl,R⟩ | succ j=>simp at e) r
def zs6(U:Cl X.K c C)(V:m∉fs){f:XF}(h:∀σ H (Q:VK),tDX X G H0 f σ H->tLA X G H0 [i] F σ H λvs H1=>sp vs H1 Q (EXs X σ)):∀σ H (Q:VK),tDX X G H0 (xK (.ins false c fs) i f) σ H->zun X C m sp (tVar i) (tDA X.K G H0 F) σ H Q:=λσ H Q Y=>by
 obtain⟨W,env,d,env',ok,q,k⟩:=Y;unfold xK at q;split at q;case isFalse=>cases q
 rename_i Z;obtain⟨p,dx,us,R,a,_⟩:=Z.at ok U;obtain⟨b,env0,ds,D,I,_,g,l⟩:=h σ H Q ⟨W,env,d,env',ok,q,k⟩;refine⟨_,R,p,dx,_,rfl,a,zup V,b,env0,ds,D,I,g,λW' ws H' st J r=>?_⟩;exact l W' [.ref p] ws H' st J rfl (λj n e=>by cases j with | zero=>simp at e;subst e;exact⟨_,rfl,R⟩ | succ j=>simp at e) r
section
variable {X:Cx} {G:Gd} {H0:Hp} {a b e:Expr} {es:k8} {f:FE} {F:FA} {x m cn:Str} {fs:ik} {is:kf} {pos p' p1 p2 apos:Pos} {i:Nat} {k:Nat} {fa C:Addr} {fd:FuncData} {ps:ik} {pl:Sem Bool}
variable {mm:np->mu->mv} {xx:np->mu->k9}
def zxx{Nn Cn:ik}{jr:Nat}{i:Nat}(c:MCal X.prog X.w X.K X.mg X.base cn m k (qSp X.K mm xx))(V:Room jr X.A)(Y:DAx X G H0 (e::es) F)(an:Ats Nn Cn X)(D:k<=jr:=by decide)(I:Nn[i]?=some x:=by rfl)(Z:m∉fs:=by decide +kernel)(J:starEach (e::es) X.env=(false,eval e X.env)::starEach es X.env:=by rfl)(R:(backTo pos (starEach es X.env)).any (·.1)=false:=by rfl)(b:eval (.Call (.Attribute (.Name x p') m apos) (e::es) [] pos) X.env=(do
   let ov <-eval (.Name x p') X.env
   standAt apos.atName
   let (f,first) <-holding [ov] (getMethod ov m pl)
   callWith pos f first (backTo pos (starEach (e::es) X.env)) (backToKw pos (keywordEach [] X.env))):=by rfl) :
  DEx X G H0 (.Call (.Attribute (.Name x p') m apos) (e::es) [] pos) (fK (.ins false cn fs) i (gp mm [i] F)):=let ⟨_,_,_,_,c,U,d,g,h⟩:=c;⟨(znc ((an.a I).pe) c U d (V.mono D) g Y.out J R b).imp (zuq h Z zs4)⟩
def z0t{Nn Cn:ik}{jr:Nat}{i:Nat}(c:MCal X.prog X.w X.K X.mg X.base cn m k (qSp X.K mm xx))(V:Room jr X.A)(Y:DAx X G H0 (e::es) F)(an:Ats Nn Cn X)(D:k<=jr:=by decide)(I:Nn[i]?=some x:=by rfl)(Z:m∉fs:=by decide +kernel)(J:starEach (e::es) X.env=(false,eval e X.env)::starEach es X.env:=by rfl)(R:(backTo pos (starEach es X.env)).any (·.1)=false:=by rfl)(b:eval (.Call (.Attribute (.Name x p') m apos) (e::es) [] pos) X.env=(do
   let ov <-eval (.Name x p') X.env
   standAt apos.atName
   let (f,first) <-holding [ov] (getMethod ov m pl)
   callWith pos f first (backTo pos (starEach (e::es) X.env)) (backToKw pos (keywordEach [] X.env))):=by rfl) :
  JX X G H0 (.Call (.Attribute (.Name x p') m apos) (e::es) [] pos) (xK (.ins false cn fs) i (lz xx [i] F)):=let ⟨_,_,_,_,c,U,d,g,h⟩:=c;⟨(znc ((an.a I).pe) c U d (V.mono D) g Y.out J R b).imp (zs6 h Z zuo)⟩
def lg{Nn Cn:ik}{jr:Nat}{i:Nat}(c:MCal X.prog X.w X.K X.mg X.base cn m k (qSp X.K mm xx))(U:Room jr X.A)(an:Ats Nn Cn X)(D:k<=jr:=by decide)(I:Nn[i]?=some x:=by rfl)(V:m∉fs:=by decide +kernel)(Y:eval (.Call (.Attribute (.Name x p') m apos) [] [] pos) X.env=(do
   let ov <-eval (.Name x p') X.env
   standAt apos.atName
   let (f,first) <-holding [ov] (getMethod ov m pl)
   callWith pos f first (backTo pos (starEach [] X.env)) (backToKw pos (keywordEach [] X.env))):=by rfl) :
  DEx X G H0 (.Call (.Attribute (.Name x p') m apos) [] [] pos) (fK (.ins false cn fs) i (gp mm [i] fNil)):=let ⟨_,_,_,_,c,J,Z,b,d⟩:=c;⟨(znz ((an.a I).pe) c J Z (U.mono D) b Y).imp λσ H Q h=>by
   obtain⟨e,h1,h2⟩:=zuq (F:=fNil) d V (zs4 (xx:=xx)) σ H Q h;obtain⟨a,dx,R,g,j,l,W,env,ds,env',ok,q,kk⟩:=h2;cases q;exact⟨e,h1,a,dx,R,g,j,l,kk W [] H Step.refl ok .nil⟩⟩
variable {mm:np->mu->nq} {xx:np->mu->Option (Str×np)}
def xu{Nn Cn:ik}{jr:Nat}{i:Nat}(c:MCal X.prog X.w X.K X.mg X.base cn m k (lSp X.K mm xx))(V:Room jr X.A)(Y:DAx X G H0 (e::es) F)(an:Ats Nn Cn X)(D:k<=jr:=by decide)(I:Nn[i]?=some x:=by rfl)(Z:m∉fs:=by decide +kernel)(J:starEach (e::es) X.env=(false,eval e X.env)::starEach es X.env:=by rfl)(R:(backTo pos (starEach es X.env)).any (·.1)=false:=by rfl)(b:eval (.Call (.Attribute (.Name x p') m apos) (e::es) [] pos) X.env=(do
   let ov <-eval (.Name x p') X.env
   standAt apos.atName
   let (f,first) <-holding [ov] (getMethod ov m pl)
   callWith pos f first (backTo pos (starEach (e::es) X.env)) (backToKw pos (keywordEach [] X.env))):=by rfl) :
  DEx X G H0 (.Call (.Attribute (.Name x p') m apos) (e::es) [] pos) (fK (.ins false cn fs) i (lb mm [i] F)):=let ⟨_,_,_,_,c,U,d,g,h⟩:=c;⟨(znc ((an.a I).pe) c U d (V.mono D) g Y.out J R b).imp (zuq h Z (zs5 (by simp)))⟩
def zqc{Nn Cn:ik}{jr:Nat}{i:Nat}(c:MCal X.prog X.w X.K X.mg X.base cn m k (lSp X.K mm xx))(V:Room jr X.A)(Y:DAx X G H0 (e::es) F)(an:Ats Nn Cn X)(D:k<=jr:=by decide)(I:Nn[i]?=some x:=by rfl)(Z:m∉fs:=by decide +kernel)(J:starEach (e::es) X.env=(false,eval e X.env)::starEach es X.env:=by rfl)(R:(backTo pos (starEach es X.env)).any (·.1)=false:=by rfl)(b:eval (.Call (.Attribute (.Name x p') m apos) (e::es) [] pos) X.env=(do
   let ov <-eval (.Name x p') X.env
   standAt apos.atName
   let (f,first) <-holding [ov] (getMethod ov m pl)
   callWith pos f first (backTo pos (starEach (e::es) X.env)) (backToKw pos (keywordEach [] X.env))):=by rfl) :
  JX X G H0 (.Call (.Attribute (.Name x p') m apos) (e::es) [] pos) (xK (.ins false cn fs) i (m8 xx [i] F)):=let ⟨_,_,_,_,c,U,d,g,h⟩:=c;⟨(znc ((an.a I).pe) c U d (V.mono D) g Y.out J R b).imp (zs6 h Z (zqb (by simp)))⟩
def zo7{Nn Cn:ik}{jr:Nat}{i:Nat}(c:MCal X.prog X.w X.K X.mg X.base cn m k (lSp X.K mm xx))(U:Room jr X.A)(an:Ats Nn Cn X)(D:k<=jr:=by decide)(I:Nn[i]?=some x:=by rfl)(V:m∉fs:=by decide +kernel)(Y:eval (.Call (.Attribute (.Name x p') m apos) [] [] pos) X.env=(do
   let ov <-eval (.Name x p') X.env
   standAt apos.atName
   let (f,first) <-holding [ov] (getMethod ov m pl)
   callWith pos f first (backTo pos (starEach [] X.env)) (backToKw pos (keywordEach [] X.env))):=by rfl) :
  DEx X G H0 (.Call (.Attribute (.Name x p') m apos) [] [] pos) (fK (.ins false cn fs) i (lb mm [i] fNil)):=let ⟨_,_,_,_,c,J,Z,b,d⟩:=c;⟨(znz ((an.a I).pe) c J Z (U.mono D) b Y).imp λσ H Q h=>by
   obtain⟨e,h1,h2⟩:=zuq (F:=fNil) d V (zs5 (xx:=xx) (by simp)) σ H Q h;obtain⟨a,dx,R,g,j,l,W,env,ds,env',ok,q,kk⟩:=h2;cases q;exact⟨e,h1,a,dx,R,g,j,l,kk W [] H Step.refl ok .nil⟩⟩
def zry{Nn Cn:ik}{jr:Nat}{i:Nat}(c:MCal X.prog X.w X.K X.mg X.base cn m k (lSp X.K mm xx))(U:Room jr X.A)(an:Ats Nn Cn X)(D:k<=jr:=by decide)(I:Nn[i]?=some x:=by rfl)(V:m∉fs:=by decide +kernel)(Y:eval (.Call (.Attribute (.Name x p') m apos) [] [] pos) X.env=(do
   let ov <-eval (.Name x p') X.env
   standAt apos.atName
   let (f,first) <-holding [ov] (getMethod ov m pl)
   callWith pos f first (backTo pos (starEach [] X.env)) (backToKw pos (keywordEach [] X.env))):=by rfl) :
  JX X G H0 (.Call (.Attribute (.Name x p') m apos) [] [] pos) (xK (.ins false cn fs) i (m8 xx [i] fNil)):=let ⟨_,_,_,_,c,J,Z,b,d⟩:=c;⟨(znz ((an.a I).pe) c J Z (U.mono D) b Y).imp λσ H Q h=>by
   obtain⟨e,h1,h2⟩:=zs6 (F:=fNil) d V (zqb (m:=mm) (by simp)) σ H Q h;obtain⟨a,dx,R,g,j,l,W,env,ds,env',ok,q,kk⟩:=h2;cases q;exact⟨e,h1,a,dx,R,g,j,l,kk W [] H Step.refl ok .nil⟩⟩
def ub{z:Int}(D:∃t,X.mg x=some (.int z t))(I:Gl X x:=by walk_at "g")(J:(x==("__debug__" : Str))=false:=by decide +kernel):DEx X G H0 (.Name x pos) (fC (.int z)):=by
 obtain⟨t,D⟩:=D;exact de_c (zwf I D (v:=.int z) ⟨t,rfl⟩ J) λ_ _=>.int _
abbrev FV:=DE0->Option DE0
def tV(X:Cx)(G:Gd)(H0:Hp)(v:FV):TE:=λσ H Q=>∃W env env',Ok X.K G H0 W env σ H/\v env=some env'/\∀W' z H',Step W H W' H'->Ok X.K G H0 W' env' σ H'->Q (.str z) H'
structure JV (X:Cx) (G:Gd) (H0:Hp) (e:Expr) (v:FV):Prop where
 out:PE X e (tV X G H0 v)
def zrz{z:Str}{j:Nat}:JV X G H0 (.Constant (.str z) j pos) some:=⟨z1v.imp λσ H Q ⟨W,env,env',ok,q,k⟩=>by cases q;exact k W z H Step.refl ok⟩
structure JVP (X:Cx) (G:Gd) (H0:Hp) (e:Expr) (v:FV):Prop where
 out:∀(pins:ln) (s:Shared) (σ:St) (H:Hp) (Q:Nat->Hp->Prop),Inv X pins σ H s->(∃W env env',Ok X.K G H0 W env σ H/\v env=some env'/\∀n W' H',n<=1000->Step W H W' H'->Ok X.K G H0 W' env' σ H'->Q n H') ->
  wpAny (model X.prog X.w) X.A (eval e X.env) (λu s'=>∃z t H',u=.str z t/\Inv X pins σ H' s'/\Q z.length H') X.xe s
def vz{z:Str}{j:Nat}(D:z.length<=1000:=by decide):JVP X G H0 (.Constant (.str z) j pos) some:=⟨λpins s σ H Q I J=>by
 obtain⟨W,env,env',ok,q,k⟩:=J;cases q;exact Calls.Constant_str ⟨z,_,H,rfl,I.tok _,k _ W H D Step.refl ok⟩⟩
def vInt(f:FE):FV:=λe=>(f e).bind λr=>match r.1 with | .int z=>if z.natAbs<1000000 then some r.2 else none | _=>none
theorem yx(h:DEx X G H0 a f):JVP X G H0 (.FormattedValue a (-1) none pos) (vInt f):=⟨λpins s σ H Q I J=>by
 obtain⟨W,env,env',ok,q,k⟩:=J;unfold vInt at q;cases e1:f env with
 | none=>rw[e1] at q;cases q
 | some r =>
   rw[e1,ac] at q;split at q;case h_2=>cases q
   rename_i z b;split at q;case isFalse=>cases q
   rename_i U;cases q;refine FormattedValue_plain (thn (h.out pins s σ H (λv H1=>v=.int z/\∀n,n<=1000->Q n H1) I ⟨W,env,r.1,r.2,ok,e1,λW1 v H1 V R Y=>⟨by rw[b] at Y;exact Y.int_,λn c=>k n W1 H1 c V R⟩⟩) λu V J=>?_);obtain⟨v,H1,d,e,g,i⟩:=J;subst g;obtain⟨t,rfl⟩:=e;have D:z.natAbs.log2<1920:=by
    by_cases Z:z.natAbs=0
    ·rw[Z];decide
    ·exact(Nat.log2_lt Z).mpr (bh U (cy (by decide:(1000000:Nat)<=2 ^ 20) (Nat.pow_le_pow_right (by decide) (by decide))))
   refine formatField_int_small D ⟨_,_,H1,rfl,(d.tok _).tok _,i _ ?_⟩;have:(toString z).length<=6+1:=int_text_length_le10 (by decide) U;rw[PySem.ofString_length]
   lia⟩
structure JVs (X:Cx) (G:Gd) (H0:Hp) (es:k8) (v:FV):Prop where
 out:∀(acc:Str) (pins:ln) (s:Shared) (σ:St) (H:Hp) (Q:VK),acc.length+1000*es.length<=100000->Inv X pins σ H s->tV X G H0 v σ H Q ->
  wpAny (model X.prog X.w) X.A (joinParts acc (evalEach es X.env)) (EP X pins σ Q) X.xe s
theorem yw  : JVs X G H0 [] some:=⟨λD pins s σ H Q R I J=>by
 obtain⟨W,env,env',ok,q,k⟩:=J;cases q;exact joinParts_nil ⟨.str D,H,I.tok _,⟨_,rfl⟩,k W D H Step.refl ok⟩ (by rw[sizeLine_eq];lia)⟩
theorem pq{v w:FV}(h:JVP X G H0 e v)(t:JVs X G H0 es w)(c:evalEach (e::es) X.env=eval e X.env::evalEach es X.env:=by rfl):JVs X G H0 (e::es) (λz=>(v z).bind w):=⟨λY pins s σ H Q Z I D=>by
 obtain⟨W,env,env',ok,q,k⟩:=D;cases e1:v env with
 | none=>simp only[e1] at q;cases q
 | some env1 =>
   have q:w env1=some env':=by simpa only[e1,ac] using q
   rw[ak] at Z;refine joinParts_cons (thn (h.out pins s σ H (λn H1=>n<=1000/\tV X G H0 w σ H1 Q) I ⟨W,env,env1,ok,e1,λn W1 H1 V J R=>⟨V,W1,env1,env',R,q,λW' z H' s2 U=>k W' z H' (J.trans s2) U⟩⟩) λu J D=>?_);obtain⟨z,tk,H1,a,b,V,tv⟩:=D;subst a;exact⟨by rw[strLen_append,sizeLine_eq];lia,t.out _ pins J σ H1 Q (by rw[strLen_append];lia) b tv⟩⟩
theorem yv{e':Expr}{v:FV}(h:JVs X G H0 (e::e'::es) v)(D:1000*(e::e'::es).length<=100000:=by decide):JV X G H0 (.JoinedStr (e::e'::es) pos) v :=
 ⟨λpins s σ H Q I t=>JoinedStr_many (h.out Str.empty pins s σ H Q (by show 0+_<=_;lia) I t)⟩
abbrev VEs:i0:=[.type "ValueError",.type "Exception",.type "BaseException",.type "object"]
def XC(K:ll)(C:Addr):Prop:=PySem.W.excIn K C VEs "ValueError.__new__" = true
def Exc(K:ll)(mg:Str->ka)(c:Str):Prop:=∃C,Cl K c C/\XC K C/\mg c=some (.ref C)/\(c==("__debug__" : Str))=false
def XC.obj{K:ll}{C:Addr}{h:Heap}(I:XC K C)(D:K.In h):∃bm N nm q bs hdct sn sub ab col dd k0 k1 k2 k3 k5 mN,h.get? C=some (excClassObj nm q C N bs bm hdct sn sub ab col dd k0 k1 k2 k3 k5 "ValueError.__new__")/\h.Ns N mN/\mN "__init__" = none/\OwnTail h VEs bm:=by
 unfold XC PySem.W.excIn at I;split at I;case h_2=>cases I
 rename_i dd R sl U;split at I;case h_2=>cases I
 rename_i m bm k0 k1 k2 k3 n k5 V Y;simp only[dw,beq_iff_eq,lc] at I;obtain⟨⟨⟨⟨⟨Z,a⟩,b⟩,c⟩,J⟩,d⟩:=I;subst Z;subst a;have e:=D _ _ U;obtain⟨nm,bs,f,g,i,j,sn,sub,ab,col,k⟩:=R;obtain⟨l⟩:=sl;subst V;subst b;subst Y;exact⟨bm,g,nm,i,bs,j,sn,sub,ab,col,dd,k0,k1,k2,k3,k5,_,e,.of_isNs (isNs_of_in D J),nsMap_none_of_in D J d,tail_of_in D c⟩
def lp(c:Str)(v:FV):FS:=λe=>(v e).map λe'=>(.xc c,e')
def tj{v:FV}{c:Str}{i cpos:Pos}(j:Exc X.K X.mg c)(l:JV X G H0 a v)(n:X.calm=true:=by rfl)(o:Gl X c:=by walk_at "g")(U:starEach [a] X.env=(false,eval a X.env)::starEach [] X.env:=by rfl)(V:(backTo cpos (starEach [a] X.env)).any (·.1)=false:=by rfl) :
  DSx X G H0 (.Raise (some (.Call (.Name c i) [a] [] cpos)) none pos) (lp c v):=let ⟨C,p,r,t,Y⟩:=j;⟨λpins s σ H D I Z=>by
 obtain⟨W,env,fl,env',ok,q,k⟩:=Z;unfold lp at q;cases e1:v env with
 | none=>rw[e1] at q;cases q
 | some env1 =>
   rw[e1] at q;cases q;obtain⟨tl,N,nm,q,bs,hdct,sn,sub,ab,col,dd,k0,k1,k2,k3,k5,mN,u,w,x,g⟩:=r.obj I.ok.mod.kin;refine wpAny_Raise_call_subT (C:=C) (nm:=nm) (q:=q) (N:=N) (bs:=bs) (bm:=tl) (hdct:=hdct) (sn:=sn) (sub:=sub) (ab:=ab) (col:=col) (dd:=dd) (k0:=k0) (k1:=k1) (k2:=k2) (k3:=k3) (k5:=k5) wp (mN:=mN)
    (g.hasType wp.hasBase) (I.ok.hd n) V x (xq I o t ⟨rfl,?_⟩ Y)
   rw[U];refine Calls.evalArgs_plain ?_;have h:=(nc l.out pj U) cpos pins s σ H (λvs H1=>vs.length=1/\∃W1,Step W H W1 H1/\Ok X.K G H0 W1 env' σ H1) I ⟨W,env,env',ok,e1,λW1 z H1 b J=>⟨rfl,W1,b,J⟩⟩;rw[U] at h;refine thn h λus b Z=>?_;obtain⟨vs,H1,R,y,A,W1,d,J⟩:=Z;have f:us.length<=sizeLine:=by rw[<-y.length,A];decide
   exact⟨rfl,f,R.bk _ _ u,w.keeps R.bk,g.keeps R.bk,λh' e m=>k W1 σ H1 C p d J pins e _ (.inr ⟨b,us,R,m,rfl⟩)⟩⟩
end
def agAt(e:DE0)(i:Nat):Option Ag:=match e[i]? with | some (some (.ag k _ ps))=>some (k,ps) | some (some (.ro k ps))=>some (k,ps) | _=>none
def qu:mx->Nat->Nat
 | .o _::r,j+1=>qu r j+1
 | .d _::r,j+1=>qu r j
 | _,_=>0
inductive Acc where
 | at (κ:AK) | al (x:Nat)
def Acc.ok:Acc->DE0->Nat->Nat->Prop
 | .at κ,e,i,_=>isK κ e i
 | .al x,e,i,j=>∃k r ps,e[i]?=some (some (.ag k (some r) ps))/\e[x]?=some (some (.al r (qu ps j)))
instance (A:Acc) (e:DE0) (i j:Nat):Decidable (A.ok e i j):=Classical.propDecidable _
def lj(A:Acc)(i j:Nat)(e:DE0):Option mu:=if A.ok e i j then(agAt e i).bind λx=>match x.2[j]? with | some (.o ds)=>some ds | _=>none else none
def PartAt(K:ll)(H:Hp)(env:DE0)(σ:St)(i j:Nat)(a:Addr):Prop:=∃k ps p us,agAt env i=some (k,ps)/\σ[i]?=some (some (.ref p))/\AkOk K H k p us/\us[j]?=some (.ref a)
def tPt(X:Cx)(G:Gd)(H0:Hp)(A:Acc)(i j:Nat):TE:=λσ H Q=>∃W env ds,Ok X.K G H0 W env σ H/\lj A i j env=some ds /\
 ∀a vs,PartAt X.K H env σ i j a->H a=some (.lst vs)->Reps X.K H (Ow G W) ds vs->Q (.ref a) H
structure JPt (X:Cx) (G:Gd) (H0:Hp) (e:Expr) (A:Acc) (i j:Nat):Prop where
 out:PE X e (tPt X G H0 A i j)
protected def PtsOk.ix(h:PtsOk K G W H ps as us)(e:ps[j]?=some (.o ds)):∃a,us[j]?=some (.ref a)/\as[qu ps j]?=some a:=by
 induction h generalizing j with
 | nil=>simp at e
 | d _ _ ih =>
   cases j with
   | zero=>simp at e
   | succ j=>obtain⟨a,h1,h2⟩:=ih (j:=j) (by simpa using e);exact⟨a,by simpa using h1,h2⟩
 | @o _ a _ _ _ _ _ _ _ _ ih =>
   cases j with
   | zero=>exact⟨a,rfl,rfl⟩
   | succ j=>obtain⟨b,h1,h2⟩:=ih (j:=j) (by simpa using e);exact⟨b,by simpa using h1,by simpa[qu] using h2⟩
variable{k:AK}
def Ok.part(ok:Ok K G H0 W env σ H)(e:agAt env i=some (k,ps))(U:ps[j]?=some (.o ds)):∃p us a vs,σ[i]?=some (some (.ref p))/\AkOk K H k p us/\us[j]?=some (.ref a)/\H a=some (.lst vs)/\Reps K H (Ow G W) ds vs:=by
 unfold agAt at e;split at e
 ·rename_i k' l ps' q
  cases e;obtain⟨v,D,p,as,us,rfl,_,_,_,I,J⟩:=ok.slot i _ q;obtain⟨a,vs,h1,_,_,h2,R⟩:=J.get U;exact⟨p,us,a,vs,D,I,h1,h2,R⟩
 ·rename_i k' ps' q
  cases e;obtain⟨v,D,p,us,rfl,_,I,J⟩:=ok.slot i _ q;obtain⟨a,vs,h1,_,h2,R⟩:=J.get U;exact⟨p,us,a,vs,D,I,h1,h2,R⟩
 ·cases e
variable{A:Acc}
def zlv(h:lj A i j env=some ds):A.ok env i j/\∃k ps,agAt env i=some (k,ps)/\ps[j]?=some (.o ds):=by
 unfold lj at h;split at h;case isFalse=>cases h
 rename_i D;cases e:agAt env i with
 | none=>rw[e] at h;cases h
 | some x =>
   rw[e,ac] at h;split at h
   ·rename_i ds' q;cases h;exact⟨D,x.1,x.2,rfl,q⟩
   ·cases h
def PartAt.inj{b:Addr}(h:PartAt K H env σ i j a)(h':PartAt K H env σ i j b):a=b:=by
 obtain⟨k,ps,p,us,h1,h2,U,V⟩:=h;obtain⟨k',ps',p',Y,I,J,R,D⟩:=h';rw[h1] at I;cases I;rw[h2] at J;cases J;rw[xj U R.o] at D;rw[V] at D;cases D;rfl
def zqd{f:Str}{u:V}(D:fs.Nodup)(h1:fs[j]?=some f)(h2:us[j]?=some u):(fs.zip us).lookup f=some u:=by
 induction fs generalizing us j with
 | nil=>simp at h1
 | cons g r ih =>
   cases us with
   | nil=>simp at h2
   | cons w us =>
     rw[km,cz];cases j with
     | zero=>simp at h1 h2;subst h1;subst h2;simp
     | succ j =>
       have I:(f==g)=false:=by simp;exact λz=>(b7.mp D).1 (z ▸ bf h1)
       rw[I];exact ih (b7.mp D).2 h1 (by simpa using h2)
variable{cn:Str}
def wf(c:Atr X.K cn m)(an:Ats Nn Cn X)(I:Nn[i]?=some x:=by rfl)(U:fs[j]?=some m:=by rfl)(V:fs.Nodup:=by decide +kernel)(Y:attributeBase (.Name x p') m X.env (eval (.Name x p') X.env)=eval (.Name x p') X.env:=by rfl):JPt X G H0 (.Attribute (.Name x p') m pos) (.at (.ins false cn fs)) i j:=let ⟨C,c,Z,b⟩:=c;⟨(z10 ((an.a I).pe) Y).imp λσ H Q d=>by
  obtain⟨W,env,ds,ok,q,k⟩:=d;obtain⟨e,κ,ps,D,f⟩:=zlv q;obtain⟨p,us,a,vs,h1,h2,J,g,h⟩:=ok.part D f;have n:κ=.ins false cn fs:=by
   rcases e with⟨l,ps',z⟩ | ⟨ps',z⟩ <;> (unfold agAt at D;rw[z] at D;cases D;rfl)
  subst n;obtain⟨r,dx,o,R,s⟩:=id h2;rw[Cl.inj o b] at R;exact⟨_,h1,p,C,dx,_,_,rfl,R,c,Z,zqd V U J,k a vs ⟨_,ps,p,us,D,h1,h2,J⟩ g h⟩⟩
variable{jj:Nat}{p1:Pos}
def z4e(an:Ats Nn Cn X)(I:Nn[i]?=some x:=by rfl)(R:uw (.Constant (.int (j:Int)) jj p1):=by intro _ _;rfl):JPt X G H0 (.Subscript (.Name x p') (.Constant (.int (j:Int)) jj p1) pos) (.at .ls) i j :=
 ⟨(wv znr ((an.a I).pe) yn R).imp λσ H Q U=>by
  obtain⟨W,env,ds,ok,q,k⟩:=U;obtain⟨V,κ,ps,D,Y⟩:=zlv q;obtain⟨p,us,a,vs,h1,h2,J,Z,b⟩:=ok.part D Y;have c:κ=.ls:=by
   rcases V with⟨l,ps',z⟩ | ⟨ps',z⟩ <;> (unfold agAt at D;rw[z] at D;cases D;rfl)
  subst c;exact⟨_,h1,p,us,j,_,rfl,rfl,.inl (.inl h2),zsv J,k a vs ⟨_,ps,p,us,D,h1,h2,J⟩ Z b⟩⟩
def zr0{ix:Nat}(an:Ats Nn Cn X)(U:Nn[ix]?=some x:=by rfl):JPt X G H0 (.Name x pos) (.al ix) i j :=
 ⟨((an.a U).pe).imp λσ H Q h=>by
  obtain⟨W,env,ds,ok,q,k⟩:=h;obtain⟨⟨κ',r,ps',V,l⟩,κ,ps,Y,Z⟩:=zlv q;have J:agAt env i=some (κ',ps'):=by unfold agAt;rw[V]
  rw[J] at Y;cases Y;obtain⟨v,m,p,as,us,rfl,_,_,n,o,b⟩:=ok.slot i _ V;obtain⟨w,s,t,d,e,I,R,rfl⟩:=ok.slot ix _ l;obtain⟨a,vs,h1,_,_,h2,u⟩:=b.get Z;obtain⟨y,f,g⟩:=b.ix Z;rw[h1] at f;cases f;have D:=n r rfl;have:e=a:=by
   cases κ' with
   | ls=>have D:G.r r=p::as:=D;rw[D] at I;cases I;rw[g] at R;cases R;rfl
   | ins bb c fs =>
     cases bb with
     | true=>have D:G.r r=[p]:=D;rw[D] at I;cases I;simp at R
     | false=>have D:G.r r=p::as:=D;rw[D] at I;cases I;rw[g] at R;cases R;rfl
  subst this;exact⟨_,s,k e vs ⟨_,ps',p,us,J,m,o,h1⟩ h2 u⟩⟩
def pLen(A:Acc)(i j:Nat):FE:=λe=>(lj A i j e).map λds=>(.int ds.length,e)
def zur(h:JPt X G H0 e A i j)(D:Bn X "len":=by walk_at "b")(I:starEach [e] X.env=(false,eval e X.env)::starEach [] X.env:=by rfl):DEx X G H0 (.Call (.Name "len" p') [e] [] pos) (pLen A i j) :=
 ⟨(y9 zjg D.g D.m wo (nc h.out pj I) (by decide) (by decide) I rfl).imp λσ H Q J=>by
  obtain⟨W,env,d,env',ok,q,k⟩:=J;unfold pLen at q;cases e1:lj A i j env with
  | none=>rw[e1] at q;cases q
  | some ds =>
    rw[e1] at q;cases q;exact⟨W,env,ds,ok,e1,λa vs _ R r=>⟨a,vs,rfl,.inl (.inl (.inl R)),by rw[<-r.length];exact k W _ H Step.refl ok (.int _)⟩⟩⟩
def wz(A:Acc)(i j:Nat):FA:=λe=>(lj A i j e).map λds=>(ds,e)
def zr1(h:JPt X G H0 e A i j)(I:Bn X "list":=by walk_at "b")(J:starEach [e] X.env=(false,eval e X.env)::starEach [] X.env:=by rfl):DFx X G H0 (.Call (.Name "list" p') [e] [] pos) (wz A i j) :=
 ⟨(znp zmn I.g I.m zo5 (nc h.out pj J) (by decide) (by decide) J rfl).imp λσ H Q R=>by
  obtain⟨W,env,ds',env',ok,q,k⟩:=R;unfold wz at q;cases e1:lj A i j env with
  | none=>rw[e1] at q;cases q
  | some ds =>
    rw[e1] at q;cases q;refine⟨W,env,_,ok,e1,λa vs _ U r=>⟨a,vs,rfl,.inl (.inl (.inl U)),λl D=>?_⟩⟩;obtain⟨V,d,Y,Z,c⟩:=ok.fresh (H':=upd H l (.lst vs)) (ds:=ds') (nn D) D kl ((r.mono (λ_ _ h=>h) λb us o h=>⟨⟨.inl o,λz=>by subst z;rcases h with h | ⟨_,h⟩ <;> rw[D] at h <;> cases h⟩,h⟩).mono (λb u h=>nn D b _ h) λb us o h=>⟨o,h.keep λo q=>nn D b _ q⟩);exact k W l vs _ c (ok.same (nn D)) Y V kl Z⟩
structure JK (X:Cx) (e:Expr) (z:Int):Prop where
 out:PE X e (tC (.int z))
variable{z:Int}
def z2f:JK X (.Constant (.int z) jj pos) z:=⟨yn⟩
def z2g(h:JK X e z):JK X (.UnaryOp .USub e pos) (-z):=⟨(z59 z1y h.out).imp λσ H Q q=>⟨z,rfl,q⟩⟩
def pIx(A:Acc)(i j:Nat)(z:Int):FE:=λe=>(lj A i j e).bind λds=>(atI ds z).map λd=>(d,e)
def zxy(h:JPt X G H0 e A i j)(D:JK X b z)(I:uw b:=by intro _ _;rfl):DEx X G H0 (.Subscript e b pos) (pIx A i j z) :=
 ⟨(wv znr h.out D.out I).imp λσ H Q J=>by
  obtain⟨W,env,d,env',ok,q,k⟩:=J;unfold pIx at q;cases e1:lj A i j env with
  | none=>rw[e1] at q;cases q
  | some ds =>
    rw[e1,ac] at q;cases e2:atI ds z with
    | none=>rw[e2] at q;cases q
    | some d' =>
      rw[e2] at q;cases q;refine⟨W,env,ds,ok,e1,λa vs _ R r=>?_⟩;obtain⟨v,U,V⟩:=yz r e2;exact⟨a,vs,z,v,rfl,rfl,.inl (.inl R),U,k W v H Step.refl ok V⟩⟩
def setP(e:DE0)(i j:Nat)(ds:mu):DE0:=match e[i]? with | some (some (.ag k l ps))=>e.set i (some (.ag k l (ps.set j (.o ds)))) | _=>e
def Ok.setP{K:ll}{W:Addr->Prop}{H:Hp}{env:DE0}{σ:St}{k:AK}{l:Option Nat}{ps:mx}{ds ds':mu}{a:Addr}{vs':l0}(ok:Ok K G H0 W env σ H)(e:env[i]?=some (some (.ag k l ps)))(I:ps[j]?=some (.o ds))(J:PartAt K H env σ i j a)(r:Reps K H (Ow G W) ds' vs') :
  Ok K G H0 W (L2.setP env i j ds') σ (upd H a (.lst vs'))/\Step W H W (upd H a (.lst vs')):=by
 obtain⟨k',ps',p,us,h1,h2,R,U⟩:=J;have:agAt env i=some (k,ps):=by unfold agAt;rw[e]
 rw[this] at h1;cases h1;unfold L2.setP;rw[e];exact ok.turnP e h2 R I U r
def pPop(A:Acc)(i j:Nat):FE:=λe=>match e[i]? with
 | some (some (.ag _ _ _))=>(lj A i j e).bind λds=>(ds[ds.length-1]?).map λd=>(d,setP e i j ds.dropLast)
 | _=>none
def znd(h:JPt X G H0 e A i j)(D:attributeBase e "pop" X.env (eval e X.env)=eval e X.env:=by rfl)(I:(p1.endLine==pos.line)=true:=by rfl) :
  DEx X G H0 (.Call (.Attribute e "pop" p1) [] [] pos) (pPop A i j):=⟨(z13 fm mn ml z14 h.out D I).imp λσ H Q Y=>by
 obtain⟨W,env,d,env',ok,q,k⟩:=Y;unfold pPop at q;split at q;case h_2=>cases q
 rename_i kk l pp J;cases e1:lj A i j env with
 | none=>rw[e1] at q;cases q
 | some ds =>
   rw[e1,ac] at q;cases e2:ds[ds.length-1]? with
   | none=>rw[e2] at q;cases q
   | some d' =>
     rw[e2] at q;cases q;obtain⟨_,κ,ps,R,Z⟩:=zlv e1;have:agAt env i=some (kk,pp):=by unfold agAt;rw[J]
     rw[this] at R;cases R;refine⟨W,env,ds,ok,e1,λa vs b U r=>⟨.inl ⟨rfl,_,.inl (.inl U)⟩,?_⟩⟩;obtain⟨u,c,f⟩:=r.get e2;obtain⟨g,V⟩:=ok.setP J Z b r.dropLast;exact⟨a,vs,u,rfl,rfl,U,by rw[<-r.length];exact c,k W _ _ V g (ok.rep V f)⟩⟩
def labO(k:AK)(l:Option Nat):Prop:=l.isSome=true/\∀c fs,k≠.ins true c fs
instance (k:AK) (l:Option Nat):Decidable (labO k l):=Classical.propDecidable _
variable{l:Option Nat}
def z0u{W1:Addr->Prop}{H1:Hp}{J:DE0}{R:mx}{d:mu}(w:labO k l)(ok:Ok K G H0 W env σ H)(f:Ok K G H0 W1 J σ H1)(e:env[i]?=some (some (.ag k l ps)))(x:J[i]?=some (some (.ag k l R)))(y:ps[j]?=some (.o ds))(g:R[j]?=some (.o d))(z:qu R j=qu ps j)(A:PartAt K H env σ i j a):PartAt K H1 J σ i j a:=by
 obtain⟨r,rfl⟩:=li.mp w.1;obtain⟨v,h,p,as,us,rfl,_,_,h1,B,C⟩:=ok.slot i _ e;obtain⟨M,Y,p',U,m,rfl,_,_,n,q,s⟩:=f.slot i _ x;rw[h] at Y;cases Y;have V:=h1 r rfl;have I:=n r rfl;obtain⟨b,E,F⟩:=C.ix y;obtain⟨N,t,Z⟩:=s.ix g;have L:PartAt K H env σ i j b:=⟨k,ps,p,us,by unfold agAt;rw[e],h,B,E⟩;have ab:=A.inj L;subst ab;have u:U=as:=by
  cases k with
  | ls=>have V:G.r r=p::as:=V;have I:G.r r=p::U:=I;rw[V] at I;cases I;rfl
  | ins bb c fs =>
    cases bb with
    | true=>exact absurd rfl (w.2 c fs)
    | false=>have V:G.r r=p::as:=V;have I:G.r r=p::U:=I;rw[V] at I;cases I;rfl
 subst u;rw[z,F] at Z;cases Z;exact⟨k,R,p,m,by unfold agAt;rw[x],h,q,t⟩
instance (k k':AK):Decidable (k=k'):=Classical.propDecidable _
def appP(i j:Nat)(k0:AK)(I:Option Nat)(n:Nat)(d:D)(e:DE0):Option (D×DE0):=match e[i]? with
 | some (some (.ag k l ps))=>(match ps[j]? with | some (.o ds)=>if k=k0/\l=I/\qu ps j=n/\Few (ds.length+1) then some (.non,setP e i j (ds++[d])) else none | _=>none)
 | _=>none
def t9(A:Acc)(i j:Nat)(f:FE):FE:=λe=>match e[i]? with
 | some (some (.ag k l ps))=>if labO k l then(lj A i j e).bind λ_=>(f e).bind λr=>appP i j k l (qu ps j) r.1 r.2 else none
 | _=>none
variable{a:Expr}
def zid(h:JPt X G H0 e A i j)(o:DEx X G H0 a f)(I:attributeBase e "append" X.env (eval e X.env)=eval e X.env:=by rfl)(V:((backTo pos (starEach [a] X.env)).all (λx=>!x.1) && (backToKw pos (keywordEach [] X.env)).all (λx=>x.1.isSome)
   && decide ([a].length+([]:List Keyword).length+(if ([]:List Keyword).isEmpty then 0 else 1)<30))=true:=by rfl)(J:(p1.endLine==pos.line)=true:=by rfl)(g:starEach [a] X.env=(false,eval a X.env)::starEach [] X.env:=by rfl) :
  DEx X G H0 (.Call (.Attribute e "append" p1) [a] [] pos) (t9 A i j f):=⟨(zw0 fm z9 z8 zrh h.out (nc o.out pj g) I V J g rfl).imp λσ H Q s=>by
 obtain⟨W,env,d,env',ok,q,k⟩:=s;unfold t9 at q;split at q;case h_2=>cases q
 rename_i kk P pp l;split at q;case isFalse=>cases q
 rename_i Y;cases e1:lj A i j env with
 | none=>rw[e1] at q;cases q
 | some ds =>
   rw[e1,ac] at q;cases e2:f env with
   | none=>rw[e2] at q;cases q
   | some r =>
     rw[e2,ac] at q;unfold appP at q;split at q;case h_2=>cases q
     rename_i k1 S t D;split at q;case h_2=>cases q
     rename_i u R;split at q;case isFalse=>cases q
     rename_i v;obtain⟨rfl,rfl,w,b⟩:=v;cases q;obtain⟨_,κ,ps,m,y⟩:=zlv e1;have:agAt env i=some (k1,pp):=by unfold agAt;rw[l]
     rw[this] at m;cases m;refine⟨W,env,ds,ok,e1,λad vs z B T=>⟨.inl ⟨rfl,_,.inl (.inl B)⟩,W,env,r.1,r.2,ok,e2,λW1 v1 H1 C U E=>?_⟩⟩;have Z:=z0u Y ok U l D y R w z;obtain⟨p,us,a1,c,F,K,L,M,n⟩:=U.part (i:=i) (by unfold agAt;rw[D]) R;have:=Z.inj ⟨_,_,p,us,by unfold agAt;rw[D],F,K,L⟩;subst this;obtain⟨N,O⟩:=U.setP D R Z (n.append (.cons E .nil));exact⟨ad,c,v1,rfl,rfl,M,by rw[<-n.length];exact lt20 (p9 b),k W1 _ _ (C.trans O) N .non⟩⟩
def fDat(i j:Nat):FE:=λe=>match e[i]? with
 | some (some (.ag .ls _ ps))=>(match ps[j]? with | some (.d d)=>some (d,e) | _=>none)
 | some (some (.ro .ls ps))=>(match ps[j]? with | some (.d d)=>some (d,e) | _=>none)
 | _=>none
def zs8(an:Ats Nn Cn X)(D:Nn[i]?=some x:=by rfl)(Y:uw (.Constant (.int (j:Int)) jj p1):=by intro _ _;rfl):DEx X G H0 (.Subscript (.Name x p') (.Constant (.int (j:Int)) jj p1) pos) (fDat i j) :=
 ⟨(wv znr ((an.a D).pe) yn Y).imp λσ H Q Z=>by
  obtain⟨W,env,d,env',ok,q,k⟩:=Z;unfold fDat at q;split at q
  ·rename_i l ps I
   split at q;case h_2=>cases q
   rename_i d' J;cases q;obtain⟨v,R,p,as,us,rfl,_,_,_,U,V⟩:=ok.slot i _ I;obtain⟨u,h1,h2⟩:=V.getD J;exact⟨_,R,p,us,j,_,rfl,rfl,.inl (.inl U),zsv h1,k W u H Step.refl ok h2⟩
  ·rename_i ps I
   split at q;case h_2=>cases q
   rename_i d' J;cases q;obtain⟨v,R,p,us,rfl,_,U,V⟩:=ok.slot i _ I;obtain⟨u,h1,h2⟩:=V.getD J;exact⟨_,R,p,us,j,_,rfl,rfl,.inl (.inl U),zsv h1,k W u H Step.refl ok h2⟩
  ·cases q⟩
def tz(i j:Nat)(f:FE):FS:=λe=>(f e).bind λr=>match r.2[i]? with
 | some (some (.ag .ls l ps))=>(match ps[j]? with | some (.d _)=>some (.nx,r.2.set i (some (.ag .ls l (ps.set j (.d r.1))))) | _=>none)
 | _=>none
variable{p2:Pos}
theorem znf(Z:DEx X G H0 e f)(an:Ats Nn Cn X)(J:Nn[i]?=some x:=by rfl)(b:swapsWithSole [.Subscript (.Name x p') (.Constant (.int (j:Int)) jj p2) p1] e pos.line X.env=pure false:=by rfl)(c:swappedStores [.Subscript (.Name x p') (.Constant (.int (j:Int)) jj p2) p1] e X.env=pure none:=by rfl)(h1:(assignEach [.Subscript (.Name x p') (.Constant (.int (j:Int)) jj p2) p1] X.env).map (·.2)=[assign (.Subscript (.Name x p') (.Constant (.int (j:Int)) jj p2) p1) X.env]:=by rfl)(D:∀v,assign (.Subscript (.Name x p') (.Constant (.int (j:Int)) jj p2) p1) X.env v=(do
   let ov <-holding [v] (eval (.Name x p') X.env);let iv <-holding [v,ov] (eval (.Constant (.int (j:Int)) jj p2) X.env)
   standAt p1
   holding [v,ov,iv] (setItem ov iv v)
   release [v,ov,iv] []):=by intro _;rfl) :
  DSx X G H0 (.Assign [.Subscript (.Name x p') (.Constant (.int (j:Int)) jj p2) p1] e pos) (tz i j f):=⟨(yl Z.out (zt3 ((an.a J).pe) yn y8 D) b c h1).imp λDn σ H d=>by
 obtain⟨W,env,fl,env',ok,q,k⟩:=d;unfold tz at q;cases e1:f env with
 | none=>rw[e1] at q;cases q
 | some r =>
   rw[e1,ac] at q;split at q;case h_2=>cases q
   rename_i l ps R;split at q;case h_2=>cases q
   rename_i d' U;cases q;refine⟨W,env,r.1,r.2,ok,e1,λW1 v1 H1 g I h=>?_⟩;obtain⟨v,V,p,as,us,rfl,_,_,_,Y,m⟩:=I.slot i _ R;obtain⟨u,h1,h2⟩:=m.getD U;obtain⟨n,o⟩:=I.turnD R V Y U h;have s:=(aj.mp h1).1;exact⟨_,V,p,us,j,j,rfl,rfl,Y,by unfold ixN;rw[if_pos (by lia),if_pos (by lia)];simp,k W1 _ _ (g.trans o) n⟩⟩
abbrev FG:=DE0->Option (Ag×DE0)
def z77(env:DE0)(σ:St)(H:Hp)(s:Sl)(v:V):Prop:=∀(j:Nat) (s':Sl) (D:V) (a:Addr),env[j]?=some (some s')->σ[j]?=some (some D)->Owns H s v a->¬Owns H s' D a
def tAG(X:Cx)(G:Gd)(H0:Hp)(f:FG):TE:=λσ H Q=>DP X.K G H0 f (λW env x env' =>
 ∀W' p H',Step W H W' H'->Ok X.K G H0 W' env' σ H'->SlOk X.K G W' H' (.ag x.1 none x.2) (.ref p)->z77 env' σ H' (.ag x.1 none x.2) (.ref p)->Q (.ref p) H') σ H
structure JAg (X:Cx) (G:Gd) (H0:Hp) (e:Expr) (f:FG):Prop where
 out:PE X e (tAG X G H0 f)
def zxz(i:Nat)(f:FG):FS:=λe=>(f e).map λr=>(.nx,r.2.set i (some (.ag r.1.1 none r.1.2)))
def z0v(f:FG):FS:=λe=>(f e).map λr=>(.ra r.1.1 r.1.2,r.2)
def yaq(i:Nat):FS:=λe=>match e[i]? with | some (some (.ag k _ ps))=>some (.ra k ps,e) | _=>none
variable{G':Gd}
def Ok.newA(ok:Ok K G H0 W env σ H)(sm:Same H H')(U:∀a,W' a->H a=none)(x:∀a,W' a->∃m:Mo,H' a=some m.out)(A:∀a,G' a->Ow G W a\/H a=none){k':AK}{p:Addr}(f:∀us,AkOk K H' k p us->AkOk K H' k' p us)(h:SlOk K G' W' H' (.ag k l ps) (.ref p)) :
  Ok K G H0 (λa=>W a\/W' a) env σ H'/\Step W H (λa=>W a\/W' a) H'/\SlOk K G (λa=>W a\/W' a) H' (.ag k' none ps) (.ref p)/\z77 env σ H' (.ag k' none ps) (.ref p):=by
 have st:Step W H (λa=>W a\/W' a) H':=⟨λb o e _=>sm b o e,λa z=>z.imp id (U a)⟩;have D:=ok.same sm;have Y:Ok K G H0 (λa=>W a\/W' a) env σ H':=by
  refine⟨D.stay,ok.good,λa z=>?_,λi s e=>?_,D.uniq,ok.len⟩
  ·rcases z with z | z
   ·exact D.wl a z
   ·exact⟨ok.stay.free (U a z),x a z⟩
  ·obtain⟨v,Z,q⟩:=ok.slot i s e
   exact⟨v,Z,ok.slstep st q λa m o c=>⟨.inl (q.owns o),sm _ _ c⟩⟩
 obtain⟨p',as,us,e,g,B,L,I,J⟩:=h;cases e;have t:∀(a:Addr) (us:l0),Ow G' W' a->Rd H' a (.lst us)->Ow G (λa=>W a\/W' a) a/\Rd H' a (.lst us):=λa us o q=>⟨by
  rcases A a o.1 with z | z
  ·exact⟨z.1,λy=>y.elim z.2 o.2⟩
  ·exact⟨ok.good a (ok.stay.free z),λy=>y.elim (λw=>by obtain⟨_,m,q⟩:=ok.wl a w;rw[z] at q;cases q) o.2⟩,q⟩
 refine⟨Y,st,⟨p,as,us,rfl,.inr g,B,(λn z=>nomatch z),f us I,J.step (λa vs R z=>⟨.inr (J.own R).1,z⟩) (λd v r=>r.mono (λ_ _ h=>h) t) λd v r=>r.mono (λ_ _ h=>h) t⟩,λj s v a Z c C E=>?_⟩;have F:W' a:=by
  rcases C with o | ⟨p',us',z,q,R⟩
  ·cases o;exact g
  ·cases z
   rw[xj (f us I) q] at R;exact(J.own (J.parts_iff.mp R)).1
 obtain⟨M,u,q⟩:=D.slot j s Z;rw[c] at u;cases u;obtain⟨_,m,z⟩:=ok.wl a (q.owns E);rw[U a F] at z;cases z
variable{g:FG}
def zus(I:Tos Nn X)(h:JAg X G H0 e g)(D:Nn[i]?=some y:=by rfl)(R:swapsWith e (some (.Name y p')) pos.line X.env=pure false:=by rfl) :
  DSx X G H0 (.Assign [.Name y p'] e pos) (zxz i g):=⟨(zq7 (I.t D).nd (I.t D).n (I.t D).l h.out R (I.t D).f).imp λDn σ H U=>by
 obtain⟨W,env,fl,env',ok,q,k⟩:=U;unfold zxz at q;cases e1:g env with
 | none=>rw[e1] at q;cases q
 | some r =>
   rw[e1] at q;cases q;exact⟨W,env,r.1,r.2,ok,e1,λW1 p H1 V J sl Y=>k W1 _ H1 V (J.put sl Y)⟩⟩
def z0w(h:JAg X G H0 e g):DSx X G H0 (.Return (some e) pos) (z0v g):=⟨(ym h.out).imp λDn σ H I=>by
 obtain⟨W,env,fl,env',ok,q,k⟩:=I;unfold z0v at q;cases e1:g env with
 | none=>rw[e1] at q;cases q
 | some r =>
   rw[e1] at q;cases q;exact⟨W,env,r.1,r.2,ok,e1,λW1 p H1 J D sl R=>k W1 σ p H1 J D sl⟩⟩
def gSp(K:ll)(m:mu->Option Ag)(x:mu->k9):Sp:=λvs H Q E=>∃O ds,Reps K H O ds vs /\
 ((∃y,m ds=some y/\∀(W':Addr->Prop) p H',Same H H'->(∀a,W' a->H a=none)->(∀a,W' a->∃m:Mo,H' a=some m.out)->SlOk K (gd λa=>O a\/H a=none) W' H' (.ag y.1 none y.2) (.ref p)->Q (.ref p) H')\/∃c,x ds=some c/\∀C H',Cl K c C->Same H H'->E (.ref C) none H')
def runG(n ar:Nat)(g:FS):mu->Option Ag:=λds=>if ds.length=ar then(match g (ji n ds) with | some (.ra k ps,_)=>some (k,ps) | _=>none) else none
def xG(n ar:Nat)(g:FS):mu->k9:=λds=>if ds.length=ar then(match g (ji n ds) with | some (.xc c,_)=>some c | _=>none) else none
variable{k:Nat}{ps:ik}{g:FP}
theorem z95{f:Addr}{g:FS}(F:Fun K x qual st f fd)(S:rn N ps (f9 st))(U:n=N.length)(V:ar=ps.length)(I:∀(cdv:Value) (A:Around) (outer:k7) (s:Shared) (H:Hp) (E:XK) (G:Gd) (H0:Hp),Room k (A.deeper (envOfC qual (f9 st) s.heap.objs.size f cdv)) ->
   DBx (cxOf (CXr P w) P w K mg base N qual (f9 st) f cdv A outer s H E) G H0 (l7 st) g):FnOk P w K mg base (CXr P w) (k+1) f fd ps (gSp K (runG n ar g) (xG n ar g)):=by
 subst U V;refine F.okX S (λvs H Q E h=>?_) (λcdv A outer s H vs Q E Y h=>?_)
 ·obtain⟨O,ds,r,h⟩:=h
  rw[<-r.length];rcases h with⟨y,e,_⟩ | ⟨c,e,_⟩
  ·unfold runG at e;split at e
   ·assumption
   ·cases e
  ·unfold xG at e;split at e
   ·assumption
   ·cases e
 ·obtain⟨O,ds,r,h⟩:=h
  refine⟨_,(I cdv A outer s H E (gd λa=>O a\/H a=none) H Y).out,?_⟩;rcases h with⟨y,e,k⟩ | ⟨c,e,k⟩
  ·unfold runG at e
   split at e;case isFalse=>cases e
   split at e
   ·rename_i k' ps' env' J
    cases e;exact⟨NoW,_,_,env',u4 r,J,λW' R p H' st D sl=>k W' p H' D.stay (λa z=>(st.ws a z).elim (λz=>z.elim) id) (λa z=>(D.wl a z).2) sl⟩
   ·cases e
  ·unfold xG at e
   split at e;case isFalse=>cases e
   split at e
   ·rename_i d env' J
    cases e;exact⟨NoW,_,_,env',u4 r,J,λW' R H' Z b st D pins e s' xs=>zl5 xs (k Z H' b D.stay)⟩
   ·cases e
def zut(m:mu->Option Ag)(F:FA):FG:=λe=>(F e).bind λr=>(m r.1).map λy=>(y,r.2)
def z0x{m:mu->Option Ag}{xx:mu->k9}(c:Cal X.prog X.w X.K X.mg X.base (CXr X.prog X.w) x k (gSp X.K m xx))(V:Room jr X.A)(Y:DAx X G H0 (e::es) F)(I:k<=jr:=by decide)(Z:Gl X x:=by walk_at "g")(b:starEach (e::es) X.env=(false,eval e X.env)::starEach es X.env:=by rfl)(J:(backTo pos (starEach es X.env)).any (·.1)=false:=by rfl) :
  JAg X G H0 (.Call (.Name x p') (e::es) [] pos) (zut m F):=let ⟨_,_,_,d,f,g,h,R⟩:=c;⟨(zlu d (V.mono I) Z f g h Y.out R b J).imp λσ H Q i=>by
 obtain⟨W,env,y,env',ok,q,k⟩:=i;unfold zut at q;cases e1:F env with
 | none=>rw[e1] at q;cases q
 | some r =>
   rw[e1,ac] at q;cases e2:m r.1 with
   | none=>rw[e2] at q;cases q
   | some y' =>
     rw[e2] at q;cases q;refine⟨W,env,r.1,r.2,ok,e1,λW1 vs H1 j U l=>⟨Ow G W1,r.1,l,.inl ⟨_,e2,λW' p H' sm n o sl=>?_⟩⟩⟩;obtain⟨s,t,u,v⟩:=U.newA sm n o (λa z=>z) (k':=y.1) (λus z=>z) sl;exact k _ p H' (j.trans t) s u v⟩
def zx0(c:Str)(m:np->mu->nq)(F:FA):FG:=λe=>(F e).bind λr=>(m [(.ins true c [],[])] r.1).bind λq=>match q with
 | (.non,[(.ins true c' fs,ps)])=>some ((.ins false c' fs,ps),r.2)
 | _=>none
def zx1{D dx:Addr}(ok:Ok K G H0 W env σ H)(U:Cl K cn C)(h1:H D=none)(h2:H dx=none)(f:dx≠D)(r:Reps K H (Ow G W) ds vs) :
  Same H (upd (upd H dx (.own D)) D (.ins C dx [])) /\
  Ok K ⟨Ow G W,λ_=>[D]⟩ (mask (upd (upd H dx (.own D)) D (.ins C dx [])) (λb=>b=D)) (λb=>b=D) (o8 [(.ins true cn [],[])]) [some (.ref D)] (upd (upd H dx (.own D)) D (.ins C dx [])) /\
  Reps K (upd (upd H dx (.own D)) D (.ins C dx [])) (Ow ⟨Ow G W,λ_=>[D]⟩ (λb=>b=D)) ds vs:=by
 have sm:Same H (upd (upd H dx (.own D)) D (.ins C dx [])):=λb o e=>by rw[gx (o5 e h1),gx (o5 e h2)];exact e
 have J:∀a,H a=none->Ow G W a:=λa z=>⟨ok.good a (ok.stay.free z),λw=>by obtain⟨_,m,q⟩:=ok.wl a w;rw[z] at q;cases q⟩;refine⟨sm,⟨λa o e=>(zrw e).2,λa e=>?_,λa e=>⟨zp8 e,.i C dx [],by rw[show a=D from e,kl]⟩,λI s e=>?_,λI V s s' v g b Y Z j k l p=>?_,rfl⟩,?_⟩
 ·rcases zrx e with z | z
  ·rw[show a=D from z];exact J D h1
  ·refine J a ?_
   by_cases y:a=D
   ·rw[y];exact h1
   ·rw[gx y] at z
    by_cases R:a=dx
    ·rw[R];exact h2
    ·rwa [gx R] at z
 ·obtain⟨t,q,rfl⟩:=znb e
  cases I with
  | zero =>
    simp at q;subst q;exact⟨.ref D,rfl,D,[],[],rfl,rfl,by simp,λn _=>rfl,⟨C,dx,U,kl,rfl⟩,.nil⟩
  | succ n=>simp at q
 ·obtain⟨_,c,_⟩:=znb Y
  obtain⟨_,d,_⟩:=znb Z;cases I with
  | zero=>cases V with
    | zero=>rfl
    | succ n=>simp at d
  | succ n=>simp at c
 ·refine r.mono (λa u z=>sm _ _ z) λa us o h=>⟨⟨o,λz=>?_⟩,h.keep λo z=>sm _ _ z⟩
  rw[show a=D from z] at h;rcases h with h | ⟨_,h⟩ <;> (have h2:=h1.symm.trans h;cases h2)
def z0y{m:np->mu->nq}(c:KCal X.prog X.w X.K X.mg X.base x k (lSp X.K m xx))(V:Room jr X.A)(n:DAx X G H0 (e::es) F)(Y:k+1<=jr:=by decide)(s:Gl X x:=by walk_at "g")(t:starEach (e::es) X.env=(false,eval e X.env)::starEach es X.env:=by rfl)(Z:(backTo pos (starEach es X.env)).any (·.1)=false:=by rfl) :
  JAg X G H0 (.Call (.Name x p') (e::es) [] pos) (zx0 x m F):=let ⟨_,_,_,_,M,u,B,C,E,d⟩:=c;⟨(z0q M u (V.mono Y) s B C n.out d t Z).imp λσ H Q L=>by
 obtain⟨W,env,y,env',ok,q,k⟩:=L;unfold zx0 at q;cases e1:F env with
 | none=>rw[e1] at q;cases q
 | some r =>
   rw[e1,ac] at q;cases e2:m [(.ins true x [],[])] r.1 with
   | none=>rw[e2] at q;cases q
   | some z =>
     rw[e2,ac] at q;split at q;case h_2=>cases q
     rename_i i J ps';cases q;refine⟨W,env,r.1,r.2,ok,e1,λW1 vs H1 N R O I dx h1 h2 P=>?_⟩;obtain⟨sm,f,V⟩:=zx1 R E h1 h2 P O;refine⟨_,_,_,_,[.ref I],r.1,vs,rfl,rfl,f,V,.inl ⟨_,_,e2,λW' en S v H' st U T rp=>⟨rp.non_,?_⟩⟩⟩;have hs:=T 0 _ rfl;obtain⟨v',z1,j⟩:=U.slot 0 _ hs;have ev:v'=.ref I:=by
      obtain⟨p,as,us,rfl,_,_,g,_⟩:=j;have g:([I]:kb)=[p]:=g 0 rfl;cases g;rfl
     subst ev;have h:Same H1 H':=λb o z=>st.keep b o (sm b o z) λy=>by rw[show b=I from y,h1] at z;cases z
     have hn:∀a,W' a->H1 a=none:=λa z=>by
      rcases st.ws a z with y | y
      ·rw[show a=I from y];exact h1
      ·cases q:H1 a with
       | none=>rfl
       | some o=>rw[sm a o q] at y;cases y
     obtain⟨w1,w2,w3,w4⟩:=R.newA (G':=⟨Ow G W1,λ_=>[I]⟩) (k:=.ins true i J) (l:=some 0) (ps:=ps') (p:=I) (k':=.ins false i J) h hn (λa z=>(U.wl a z).2) (λa z=>.inl z) (λus z=>z) j;exact k _ I H' (N.trans w2) w1 w3 w4⟩
mutual
def noL:D->Bool
 | .lst _=>false
 | .dct _ _=>false
 | .tup ds=>noLs ds
 | _=>true
def noLs:mu->Bool
 | []=>true
 | d::r=>noL d && noLs r
end
def Rep.noL{d:D}{v:V}:Rep K H O d v->L2.noL d=true->Rep K H O' d v :=
 Rep.rec (motive_1:=λd v _=>L2.noL d=true->Rep K H O' d v) (motive_2:=λds vs _=>L2.noLs ds=true->Reps K H O' ds vs) (λ_=>.non) (λb _=>.bl b) (λb _=>.int b) (λb _=>.str b) (λh _ q e=>.tup h (q (by rw[L2.noL] at e;exact e))) (λ_ _ _ _ e=>by rw[L2.noL] at e;cases e) (λ_ _ _ e=>by rw[L2.noL] at e;cases e) (λ_ _ _ e=>by rw[L2.noL] at e;cases e) (λa _=>.exc a) (λ_=>.nil) λ_ _ p q e=>by rw[L2.noLs,dw] at e;exact .cons (p e.1) (q e.2)
def Reps.noLs{ds:mu}{vs:l0}:Reps K H O ds vs->L2.noLs ds=true->Reps K H O' ds vs :=
 Reps.ind (P:=λds vs=>L2.noLs ds=true->Reps K H O' ds vs) (λ_=>.nil) λr _ q e=>by rw[L2.noLs,dw] at e;exact .cons (r.noL e.1) (q e.2)
def ptD:Pt->D | .d d=>d | .o ds=>.lst ds
def uo(r:Nat):DE0->Option mx
 | []=>none
 | some (.ag .ls (some r') ps)::e=>if r'=r then some ps else uo r e
 | _::e=>uo r e
def vn:mx->Nat->Option mu
 | .o ds::_,0=>some ds
 | .o _::r,j+1=>vn r j
 | .d _::r,j=>vn r j
 | [],_=>none
def z0z(b:Bool)(ps:mx):mx:=if b=true then ps.map λp=>.d (ptD p) else ps
def frz1(b:Bool)(env:DE0):nb->nb
 | some (.sh d)=>some (.sh d)
 | some (.ow ds)=>some (.sh (.lst ds))
 | some (.o2 dss)=>some (.sh (.lst (dss.map D.lst)))
 | some (.ag .ls _ ps)=>some (.sh (.lst (ps.map ptD)))
 | some (.ag k _ ps)=>some (.ro k (z0z b ps))
 | some (.ro .ls ps)=>some (.sh (.lst (ps.map ptD)))
 | some (.ro k ps)=>some (.ro k (z0z b ps))
 | some (.al r j)=>(uo r env).bind λps=>(vn ps j).map λds=>.sh (.lst ds)
 | none=>none
def frz(b:Bool)(env:DE0):DE0:=env.map (frz1 b env)
def AllG(r:Nat->kb):Gd:=⟨λ_=>True,r⟩
def zmb{r:Nat}{ps:mx}:∀ {env:DE0},uo r env=some ps->∃i:Nat,env[i]?=some (some (Sl.ag AK.ls (some r) ps))
 | x::e,h=>by
   unfold uo at h;split at h
   ·rename_i D;cases D
   ·rename_i J ps' e' q
    cases q;split at h
    ·rename_i I;cases h;subst I;exact⟨0,rfl⟩
    ·obtain⟨i,z⟩:=zmb h;exact⟨i+1,by simpa using z⟩
   ·rename_i q
    cases q;obtain⟨i,z⟩:=zmb h;exact⟨i+1,by simpa using z⟩
variable{a:Addr}{ps:mx}
def z00(h:PtsOk K G W H ps as us)(e:vn ps j=some ds)(ea:as[j]?=some a):∃vs,H a=some (.lst vs)/\Reps K H (Ow G W) ds vs:=by
 induction h generalizing j with
 | nil=>cases e
 | d _ _ ih=>exact ih e ea
 | o hW hl r _ ih =>
   cases j with
   | zero=>cases e;simp at ea;subst ea;exact⟨_,hl,r⟩
   | succ j=>exact ih (j:=j) e (by simpa using ea)
def PtsRo.all(h:PtsRo K G W H ps us)(D:∀a,O a):Reps K H O (ps.map ptD) us:=by
 induction h with
 | nil=>exact .nil
 | d r _ ih=>exact .cons ((mr λa _=>D a).1 _ _ r) ih
 | o _ hl r _ ih=>exact .cons (.lst (D _) (.inl hl) ((mr λa _=>D a).2 _ _ r)) ih
def PtsRo.roG(h:PtsRo K G W H ps us)(D:∀a,Ow G W a->Ow G' NoW a):PtsRo K G' NoW H ps us :=
 h.step (λa vs _ z=>⟨λz=>z,z⟩) (λd v q=>(mr D).1 d v q) λd v q=>(mr D).2 d v q
def PtsOk.toRo(h:PtsOk K G W H ps as us)(D:∀a,Ow G W a->Ow G' NoW a):PtsRo K G' NoW H ps us :=
 PtsRo.roG (W:=NoW) (G:=gd (Ow G W)) h.ro λa z=>D a z.1
def PtsRo.dat(h:PtsRo K G W H ps us)(D:∀a,Ow G W a):PtsRo K G W H (ps.map λp=>.d (ptD p)) us:=by
 induction h with
 | nil=>exact .nil
 | d r _ ih=>exact .d r ih
 | o _ hl r _ ih=>exact .d (.lst (D _) (.inl hl) r) ih
def PtsRo.roB(b:Bool)(h:PtsRo K G W H ps us)(D:∀a,Ow G W a):PtsRo K G W H (z0z b ps) us:=by
 unfold z0z;split
 ·exact h.dat D
 ·exact h
def Ok.freeze(b:Bool)(ok:Ok K G H0 W env σ H):Ok K (AllG G.r) H NoW (frz b env) σ H:=by
 have U:∀a,Ow G W a->Ow (AllG G.r) NoW a:=λa _=>⟨trivial,λz=>z⟩;have all:∀a,Ow (AllG G.r) NoW a:=λa=>⟨trivial,λz=>z⟩;have V:∀(i:Nat) (s:Sl),(frz b env)[i]?=some (some s)->∃I,env[i]?=some (some I)/\frz1 b env (some I)=some s:=λi s e=>by
  unfold frz at e;rw[bj] at e;cases q:env[i]? with
  | none=>rw[q] at e;cases e
  | some o =>
    rw[q] at e;cases o with
    | none=>cases e
    | some I=>exact⟨I,rfl,by simpa using e⟩
 refine⟨Same.refl _,λa _=>trivial,λl z=>z.elim,λi s e=>?_,λi j s s' v w a D _ E _ o _=>?_,by unfold frz;rw[af];exact ok.len⟩
 ·obtain⟨I,u,D⟩:=V i s e
  obtain⟨v,x,h⟩:=ok.slot i I u;refine⟨v,x,?_⟩;cases I with
  | sh d=>cases D;exact(mr U).1 _ _ h
  | ow ds=>cases D;obtain⟨l,vs,rfl,f,J,r⟩:=h;exact .lst (all l) (.inl J) ((mr U).2 _ _ r)
  | o2 dss =>
    cases D;obtain⟨l,ls,rfl,f,J,A,hi⟩:=h;exact .lst (all l) (.inl J) (zpu (W':=NoW) (G:=AllG G.r) (W:=W) ⟨hi.1,λj ds a Z g=>let ⟨m,vs,n,B⟩:=hi.2 j ds a Z g;⟨m,vs,n,(mr λb z=>⟨trivial,z.2⟩).2 _ _ B⟩⟩ (λa _ _=>all a) λds vs r=>(mr λb _=>all b).2 _ _ r)
  | ag k l ps =>
    obtain⟨p,as,us,rfl,f,A,J,Y,R⟩:=h;cases k with
    | ls=>cases D;exact .lst (all p) (.inl Y) ((R.toRo U).all all)
    | ins _ c fs=>cases D;exact⟨p,us,rfl,λz=>z,Y,(R.toRo U).roB b all⟩
  | ro k ps =>
    obtain⟨p,us,rfl,f,Y,R⟩:=h;cases k with
    | ls=>cases D;exact .lst (all p) (.inl Y) (R.all all)
    | ins _ c fs=>cases D;exact⟨p,us,rfl,λz=>z,Y,(R.roG U).roB b all⟩
  | al r j =>
    have D:((uo r env).bind λps=>(vn ps j).map λds=>Sl.sh (.lst ds))=some s:=D;cases q1:uo r env with
    | none=>rw[q1] at D;cases D
    | some ps =>
      rw[q1,ac] at D;cases q2:vn ps j with
      | none=>rw[q2] at D;cases D
      | some ds =>
        rw[q2] at D;cases D;obtain⟨p,as,a,Z,g,rfl⟩:=h;obtain⟨C,y⟩:=zmb q1;obtain⟨w,F,p',t,us,rfl,_,_,J,_,R⟩:=ok.slot C _ y;have J:G.r r=p'::t:=J r rfl;rw[J] at Z;cases Z;obtain⟨vs,m,n⟩:=z00 R q2 g;exact .lst (all a) (.inl m) ((mr U).2 _ _ n)
 ·obtain⟨I,u,D⟩:=V i s D
  cases I with
  | sh d=>cases D;exact o.elim
  | ow d=>cases D;exact o.elim
  | o2 d=>cases D;exact o.elim
  | ag k l ps=>cases k <;> (cases D;exact o.elim)
  | ro k ps=>cases k <;> (cases D;exact o.elim)
  | al r j =>
    have D:((uo r env).bind λps=>(vn ps j).map λds=>Sl.sh (.lst ds))=some s:=D;cases q1:uo r env with
    | none=>rw[q1] at D;cases D
    | some ps =>
      rw[q1,ac] at D;cases q2:vn ps j with
      | none=>rw[q2] at D;cases D
      | some ds=>rw[q2] at D;cases D;exact o.elim
def Step.noW(s:Step NoW H W' H'):Same H H':=λb o e=>s.keep b o e λz=>z
def fFrz(b:Bool)(f:FE):FE:=λe=>(f (frz b e)).bind λr=>if noL r.1=true then some (r.1,e) else none
def um(b:Bool)(f:FA):FA:=λe=>(f (frz b e)).bind λr=>if noLs r.1=true then some (r.1,e) else none
def xFrz(b:Bool)(x:XF):XF:=λe=>(x (frz b e)).map λr=>(r.1,e)
variable{b:Bool}
def sx(h:∀G H0,DEx X G H0 e f):DEx X G H0 e (fFrz b f):=⟨λpins s σ H Q I D=>by
 obtain⟨W,env,d,env',ok,q,k⟩:=D;unfold fFrz at q;cases e1:f (frz b env) with
 | none=>rw[e1] at q;cases q
 | some r =>
   rw[e1,ac] at q;split at q;case isFalse=>cases q
   rename_i J;cases q;refine(h (AllG G.r) H).out pins s σ H Q I ⟨NoW,frz b env,r.1,r.2,ok.freeze b,e1,λW' v H' st R U=>?_⟩;exact k W v H' (Step.same st.noW) (ok.same st.noW) (U.noL J)⟩
def zx2(h:∀G H0,DFx X G H0 e F):DFx X G H0 e (um b F):=⟨λpins s σ H Q I R=>by
 obtain⟨W,env,d,env',ok,q,k⟩:=R;unfold um at q;cases e1:F (frz b env) with
 | none=>rw[e1] at q;cases q
 | some r =>
   rw[e1,ac] at q;split at q;case isFalse=>cases q
   rename_i U;cases q;refine(h (AllG G.r) H).out pins s σ H Q I ⟨NoW,frz b env,r.1,r.2,ok.freeze b,e1,λW' l vs H' st V Y g J Z=>?_⟩;have D:H l=none:=(st.ws l (.inr rfl)).elim (λz=>z.elim) id;obtain⟨a,i,c,f⟩:=ok.fresh0 (H':=H') st.noW D J;exact k W l vs H' f (ok.same st.noW) c a J (Z.noLs U)⟩
variable{y:XF}
def zuu(h:∀G H0,JX X G H0 e y):JX X G H0 e (xFrz b y):=⟨λpins s σ H Q I D=>by
 obtain⟨W,env,c,env',ok,q,k⟩:=D;unfold xFrz at q;cases e1:y (frz b env) with
 | none=>rw[e1] at q;cases q
 | some r =>
   rw[e1] at q;cases q;exact(h (AllG G.r) H).out pins s σ H Q I ⟨NoW,frz b env,r.1,r.2,ok.freeze b,e1,λW' H' C J st R=>k W H' C J (Step.same st.noW) (ok.same st.noW)⟩⟩
def Ok.newW(ok:Ok K G H0 W env σ H)(sm:Same H H')(I:∀a,W' a->H a=none)(J:∀a,W' a->∃m:Mo,H' a=some m.out):Ok K G H0 (λa=>W a\/W' a) env σ H'/\Step W H (λa=>W a\/W' a) H':=by
 have st:Step W H (λa=>W a\/W' a) H':=⟨λb o e _=>sm b o e,λa z=>z.imp id (I a)⟩;have D:=ok.same sm;refine⟨⟨D.stay,ok.good,λa z=>?_,λi s e=>?_,D.uniq,ok.len⟩,st⟩
 ·rcases z with z | z
  ·exact D.wl a z
  ·exact⟨ok.stay.free (I a z),J a z⟩
 ·obtain⟨v,R,q⟩:=ok.slot i s e
  exact⟨v,R,ok.slstep st q λa m o U=>⟨.inl (q.owns o),sm _ _ U⟩⟩
def frs1:nb->nb
 | some (.sh d)=>some (.sh d)
 | some (.ag k _ ps)=>some (.ro k ps)
 | some (.ro k ps)=>some (.ro k ps)
 | _=>none
def frsE(env:DE0):DE0:=env.map frs1
def OwG(G:Gd)(W:Addr->Prop)(H:Hp):Gd:=⟨λa=>Ow G W a\/H a=none,G.r⟩
def Ok.freezeS(ok:Ok K G H0 W env σ H):Ok K (OwG G W H) H NoW (frsE env) σ H:=by
 have R:∀a,Ow G W a->Ow (OwG G W H) NoW a:=λa z=>⟨.inl z,λz=>z⟩;have J:∀(i:Nat) (s:Sl),(frsE env)[i]?=some (some s)->∃I,env[i]?=some (some I)/\frs1 (some I)=some s:=λi s e=>by
  unfold frsE at e;rw[bj] at e;cases q:env[i]? with
  | none=>rw[q] at e;cases e
  | some o =>
    rw[q] at e;cases o with
    | none=>cases e
    | some I=>exact⟨I,rfl,by simpa using e⟩
 refine⟨Same.refl _,λa z=>.inr z,λl z=>z.elim,λi s e=>?_,λi j s s' v c a D _ f _ o _=>?_,by unfold frsE;rw[af];exact ok.len⟩
 ·obtain⟨I,Y,D⟩:=J i s e
  obtain⟨v,Z,h⟩:=ok.slot i I Y;refine⟨v,Z,?_⟩;cases I with
  | sh d=>cases D;exact(mr R).1 _ _ h
  | ow ds=>cases D
  | o2 dss=>cases D
  | ag k l ps=>cases D;obtain⟨p,as,us,rfl,b,g,m,U,V⟩:=h;exact⟨p,us,rfl,λz=>z,U,V.toRo R⟩
  | ro k ps=>cases D;obtain⟨p,us,rfl,b,U,V⟩:=h;exact⟨p,us,rfl,λz=>z,U,V.roG R⟩
  | al r j=>cases D
 ·obtain⟨I,Y,D⟩:=J i s D
  cases I <;> cases D <;> exact o.elim
def PtsOk.length(h:PtsOk K G W H ps as us):ps.length=us.length:=by
 induction h with
 | nil=>rfl
 | d _ _ ih=>rw[ak,ak,ih]
 | o _ _ _ _ ih=>rw[ak,ak,ih]
abbrev FP:=DE0->Option mx
def tPs(X:Cx)(G:Gd)(H0:Hp)(f:FP):TA:=λσ H Q=>∃W env ps,Ok X.K G H0 W env σ H/\f env=some ps /\
 ∀as us H',Same H H'->as.Nodup->(∀a∈as,H a=none)->PtsOk X.K (OwG G W H) (λa=>a∈as) H' ps as us->Q us H'
structure JPs (X:Cx) (G:Gd) (H0:Hp) (es:k8) (f:FP):Prop where
 out:PA X es (tPs X G H0 f)
def pNil:FP:=λ_=>some []
def pCd(f:FE)(g:FP):FP:=λe=>(f (frsE e)).bind λr=>(g e).map λt=>.d r.1::t
def pCo(F:FA)(g:FP):FP:=λe=>(F (frsE e)).bind λr=>(g e).map λt=>.o r.1::t
def Rd.some{u:HO}(h:Rd H a u):H a≠none:=λz=>by rcases h with h | ⟨_,h⟩ <;> rw[z] at h <;> cases h
def z4f  : JPs X G H0 [] pNil:=⟨pj.imp λσ H Q D=>by
 obtain⟨W,env,ps,ok,q,k⟩:=D;cases q;exact k [] [] H (Same.refl _) .nil (λa z=>by cases z) .nil⟩
def z78(h:∀G H0,DEx X G H0 e f)(J:JPs X G H0 es g)(R:starEach (e::es) X.env=(false,eval e X.env)::starEach es X.env:=by rfl):JPs X G H0 (e::es) (pCd f g):=⟨λpos pins s σ H Q I U=>by
 obtain⟨W,env,ps,ok,q,k⟩:=U;unfold pCd at q;cases e1:f (frsE env) with
 | none=>rw[e1] at q;cases q
 | some r =>
   rw[e1,ac] at q;cases e2:g env with
   | none=>rw[e2] at q;cases q
   | some t =>
     rw[e2] at q;cases q;refine(nc (h (OwG G W H) H).out J.out R) pos pins s σ H Q I ⟨NoW,frsE env,r.1,r.2,ok.freezeS,e1,λW1 v H1 st V Y=>?_⟩;refine⟨W,env,t,ok.same st.noW,e2,λas us H2 sm Z D b=>?_⟩;refine k as (v::us) H2 (st.noW.trans sm) Z (λa z=>st.noW.free (D a z)) (.d (Y.mono (λa u z=>sm _ _ z) λa vs o z=>⟨⟨o.1,λy=>z.some (D a y)⟩,z.keep λo y=>sm _ _ y⟩) (b.step (λa vs c z=>⟨c,z⟩) (λd v q=>(mr ?_).1 d v q) λd v q=>(mr ?_).2 d v q)) <;>
     exact λa z=>⟨z.1.imp id λy=>st.noW.free y,z.2⟩⟩
def z79(h:∀G H0,DFx X G H0 e F)(Z:JPs X G H0 es g)(b:starEach (e::es) X.env=(false,eval e X.env)::starEach es X.env:=by rfl):JPs X G H0 (e::es) (pCo F g):=⟨λpos pins s σ H Q I c=>by
 obtain⟨W,env,ps,ok,q,k⟩:=c;unfold pCo at q;cases e1:F (frsE env) with
 | none=>rw[e1] at q;cases q
 | some r =>
   rw[e1,ac] at q;cases e2:g env with
   | none=>rw[e2] at q;cases q
   | some t =>
     rw[e2] at q;cases q;refine(nc (h (OwG G W H) H).out Z.out b) pos pins s σ H Q I ⟨NoW,frsE env,r.1,r.2,ok.freezeS,e1,λW1 l vs H1 st f i B D j=>?_⟩;have V:H l=none:=(st.ws l (.inr rfl)).elim (λz=>z.elim) id;obtain⟨J,_⟩:=ok.newW (W':=λa=>a=l) st.noW (λa z=>by rw[z];exact V) λa z=>⟨.l vs,by rw[z];exact D⟩;refine⟨_,env,t,J,e2,λas us H2 sm m R n=>?_⟩;have U:l∉as:=λz=>by rw[R l z] at D;cases D
     have h1:∀a∈l::as,H a=none:=λa z=>by
      rcases b8.mp z with rfl | z
      ·exact V
      ·exact st.noW.free (R a z)
     have p:Reps X.K H2 (Ow (OwG G W H) λa=>a∈l::as) r.1 vs:=j.mono (λa u z=>sm _ _ z) λa vs o z=>by
      refine⟨⟨o.1,λy=>?_⟩,z.keep λo y=>sm _ _ y⟩;rcases b8.mp y with y | y
      ·exact o.2 (.inr y)
      ·exact z.some (R a y)
     have Y:∀a,Ow (OwG G (λa=>W a\/a=l) H1) (λa=>a∈as) a->Ow (OwG G W H) (λa=>a∈l::as) a:=λa o=>by
      have x:a≠l:=λz=>by
       rcases o.1 with y | y
       ·exact y.2 (.inr z)
       ·rw[z,D] at y;cases y
      refine⟨o.1.imp (λy=>⟨y.1,λw=>y.2 (.inl w)⟩) λy=>st.noW.free y,λy=>?_⟩;rcases b8.mp y with y | y
      ·exact x y
      ·exact o.2 y
     exact k (l::as) (.ref l::us) H2 (st.noW.trans sm) (b7.mpr ⟨U,m⟩) h1 (.o bu (sm _ _ D) p (n.step (λa vs A z=>⟨ay _ A,z⟩) (λd v q=>(mr Y).1 d v q) λd v q=>(mr Y).2 d v q))⟩
def fAgL(g:FP):FG:=λe=>(g e).bind λps=>if ps.length<=64 then some ((.ls,ps),e) else none
theorem z4g(h:JPs X G H0 es g):JAg X G H0 (.List es pos) (fAgL g):=⟨(z11 h.out).imp λσ H Q R=>by
 obtain⟨W,env,x,env',ok,q,k⟩:=R;unfold fAgL at q;cases e1:g env with
 | none=>rw[e1] at q;cases q
 | some ps =>
   rw[e1,ac] at q;split at q;case isFalse=>cases q
   cases q;refine⟨W,env,ps,ok,e1,λas us H1 sm U V J=>⟨?_,λp I=>?_⟩⟩
   ·rw[<-J.length,sizeLine_eq];lia
   ·have D:Same H1 (upd H1 p (.lst us)):=nn I
    have Y:p∉as:=λz=>by obtain⟨_,vs,y⟩:=J.own z;rw[I] at y;cases y
    have sl:SlOk X.K (OwG G W H) (λa=>a=p\/a∈as) (upd H1 p (.lst us)) (.ag .ls none ps) (.ref p):=by
     refine⟨p,as,us,rfl,.inl rfl,b7.mpr ⟨Y,U⟩,(λn z=>nomatch z),kl,J.step (λa vs Z z=>⟨.inr Z,D _ _ z⟩) (λd v q=>q.mono (λa u z=>D _ _ z) ?_) λd v q=>q.mono (λa u z=>D _ _ z) ?_⟩ <;>
     exact λa vs o z=>⟨⟨o.1,λy=>y.elim (λy=>z.some (y ▸ I)) o.2⟩,z.keep λo y=>D _ _ y⟩
    have b:∀a,a=p\/a∈as->H a=none:=λa z=>by
     rcases z with rfl | z
     ·exact sm.free I
     ·exact V a z
    have n2:∀a,a=p\/a∈as->∃m:Mo,upd H1 p (.lst us) a=some m.out:=λa z=>by
     rcases z with rfl | z
     ·exact⟨.l us,kl⟩
     ·obtain⟨_,vs,y⟩:=J.own z
      exact⟨.l vs,D _ _ y⟩
    obtain⟨c,e,f,i⟩:=ok.newA (k':=.ls) (sm.trans D) b n2 (λa z=>z) (λus z=>z) sl;exact k _ p _ e c f i⟩
def qi(κ:AK)(i j:Nat):FE:=λe=>if isK κ e i then(agAt e i).bind λx=>(match x.2[j]? with | some (.d d)=>some (d,e) | _=>none) else none
def uz(c:Atr X.K cn m)(an:Ats Nn Cn X)(J:Nn[i]?=some x:=by rfl)(V:fs[j]?=some m:=by rfl)(Y:fs.Nodup:=by decide +kernel)(f:attributeBase (.Name x p') m X.env (eval (.Name x p') X.env)=eval (.Name x p') X.env:=by rfl):DEx X G H0 (.Attribute (.Name x p') m pos) (qi (.ins false cn fs) i j):=let ⟨C,c,Z,b⟩:=c;⟨(z10 ((an.a J).pe) f).imp λσ H Q g=>by
  obtain⟨W,env,d,env',ok,q,k⟩:=g;unfold qi at q;split at q;case isFalse=>cases q
  rename_i h;cases D:agAt env i with
  | none=>rw[D] at q;cases q
  | some y =>
    rw[D,ac] at q;split at q;case h_2=>cases q
    rename_i d' e;cases q;rcases h with⟨l,ps',z⟩ | ⟨ps',z⟩
    ·have D:some (AK.ins false cn fs,ps')=some y:=by unfold agAt at D;rw[z] at D;exact D
     cases D;obtain⟨v,D,p,as,us,rfl,_,_,_,⟨n,dx,R,I,o⟩,U⟩:=ok.slot i _ z;rw[Cl.inj R b] at I;obtain⟨u,h1,h2⟩:=U.getD e;exact⟨_,D,p,C,dx,_,u,rfl,I,c,Z,zqd Y V h1,k W u H Step.refl ok h2⟩
    ·have D:some (AK.ins false cn fs,ps')=some y:=by unfold agAt at D;rw[z] at D;exact D
     cases D;obtain⟨v,D,p,us,rfl,_,⟨n,dx,R,I,o⟩,U⟩:=ok.slot i _ z;rw[Cl.inj R b] at I;obtain⟨u,h1,h2⟩:=U.getD e;exact⟨_,D,p,C,dx,_,u,rfl,I,c,Z,zqd Y V h1,k W u H Step.refl ok h2⟩⟩
variable{l:Addr}
def Ok.chgN(ok:Ok K G H0 W env σ H){s s':Sl}(J:Mo)(e:env[i]?=some (some s))(R:σ[i]?=some (some v))(y:Owns H s v a)(B:SlOk K G W (upd H a J.out) s' v)(A:∀(j:Nat) (s:Sl) (v:V),env[j]?=some (some s)->σ[j]?=some (some v)->¬Owns H s v l)(r:∀b,Owns (upd H a J.out) s' v b->Owns H s v b\/b=l):Ok K G H0 W (env.set i (some s')) σ (upd H a J.out)/\Step W H W (upd H a J.out):=by
 have f:W a:=by obtain⟨C,g,h⟩:=ok.slot i s e;rw[R] at g;cases g;exact h.owns y
 have st:Step W H W (upd H a J.out):=⟨λb o q n=>by rw[gx (λz:b=a=>n (by rw[z];exact f))];exact q,λb z=>.inl z⟩;have w:∀ {j:Nat} {sl:Sl} {u:V} {b:Addr},i≠j->env[j]?=some (some sl)->σ[j]?=some (some u)->Owns H sl u b->b≠a:=λ{j sl u b} hj q U o z=>by
  subst z;exact hj (ok.uniq i j s sl v u b e q R U y o)
 have bk:∀ {j:Nat} {sl:Sl} {u:V} {b:Addr},i≠j->env[j]?=some (some sl)->σ[j]?=some (some u)->Owns (upd H a J.out) sl u b->Owns H sl u b:=λ{j sl u b} hj q U o=>by
  obtain⟨E,Z,h⟩:=ok.slot j sl q;rw[U] at Z;cases Z;cases sl with
  | sh d=>exact o.elim
  | ow ds=>exact o
  | o2 dss=>exact h.back (λl D _ vs I=>by rw[gx (w hj q U (.inl D))];exact I) o
  | ag k p ps=>exact h.back (λl D _ vs I=>by rw[gx (w hj q U (.inl D))];exact I) o
  | al _ _=>exact o.elim
  | ro _ _=>exact o.elim
 refine⟨⟨λb o q=>?_,ok.good,λb z=>?_,λj sl q=>?_,λj k x s2 v1 v2 b U Z D I c o2=>?_,by rw[dq,ok.len]⟩,st⟩
 ·rw[gx (λz=>by rw[z,(ok.wl a f).1] at q;cases q)];exact ok.stay b o q
 ·obtain⟨q,us,r⟩:=ok.wl b z
  by_cases h:b=a
  ·exact⟨q,J,by rw[h,kl]⟩
  ·exact⟨q,us,by rw[gx h];exact r⟩
 ·rcases oy q with⟨rfl,t,_⟩ | ⟨hj,t⟩
  ·cases t
   exact⟨v,R,B⟩
  ·obtain⟨u,g,h⟩:=ok.slot j sl t
   exact⟨u,g,ok.slstep st h λb vs o Z=>⟨h.owns o,by rw[gx (w hj t g o)];exact Z⟩⟩
 ·rcases oy U with⟨a1,b1,_⟩ | ⟨a1,b1⟩ <;> rcases oy Z with⟨m,Y,_⟩ | ⟨m,Y⟩
  ·rw[<-a1,<-m]
  ·subst a1;cases b1
   rw[R] at D;cases D;have o2:=bk m Y I o2;rcases r b c with z | z
   ·exact ok.uniq i k s s2 v v2 b e Y R I z o2
   ·subst z;exact absurd o2 (A k s2 v2 Y I)
  ·subst m;cases Y
   rw[R] at I;cases I;have c:=bk a1 b1 D c;rcases r b o2 with z | z
   ·exact ok.uniq j i x s v1 v b b1 e D R c z
   ·subst z;exact absurd c (A j x v1 b1 D)
  ·exact ok.uniq j k x s2 v1 v2 b b1 Y D I (bk a1 b1 D c) (bk m Y I o2)
def PtsOk.snoc(h:PtsOk K G W H ps as us)(D:W l)(I:H l=some (.lst vs))(r:Reps K H (Ow G W) ds vs):PtsOk K G W H (ps++[.o ds]) (as++[l]) (us++[.ref l]):=by
 induction h with
 | nil=>exact .o D I r .nil
 | d q _ ih=>exact .d q ih
 | o a b c _ ih=>exact .o a b c ih
def zuv{f:Str}{v:V}:∀ {fs:ik} {us:l0},f∉fs->fs.length=us.length->putF f v (fs.zip us)=(fs++[f]).zip (us++[v])
 | [],[],_,_=>rfl
 | g::fs,u::us,hf,hl=>by
   have:g≠f:=λz=>hf (by simp[z]);rw[km,j0,j0,km];show(if g=f then(g,v)::fs.zip us else(g,u)::putF f v (fs.zip us))=_;rw[if_neg this,zuv (λz=>hf (by simp[z])) (by simpa using hl)]
def zx3(i:Nat)(cn f:Str)(F:FA):FS:=λe=>(F e).bind λr=>match r.2[i]? with
 | some (some (.ag (.ins true c fs) l ps))=>if c=cn/\f∉fs/\fs.length<900 then some (.nx,r.2.set i (some (.ag (.ins true c (fs++[f])) l (ps++[.o r.1])))) else none
 | _=>none
variable{value:Expr}
theorem zuw(ca:Atr X.K cn m)(an:Ats Nn Cn X)(he:DFx X G H0 value F)(e:Nn[i]?=some x:=by rfl)(hs:swapsWith value (some (.Attribute (.Name x p') m p1)) pos.line X.env=pure false:=by rfl) :
  DSx X G H0 (.Assign [.Attribute (.Name x p') m p1] value pos) (zx3 i cn m F):=let ⟨C,c,hn,f⟩:=ca;⟨(z6i ((an.a e).pe) he.out hs).imp λDn σ H zq=>by
 obtain⟨W,env,fl,env',ok,q,k⟩:=zq;unfold zx3 at q;cases e1:F env with
 | none=>rw[e1] at q;cases q
 | some r =>
   rw[e1,ac] at q;split at q;case h_2=>cases q
   rename_i L fs l ps g;split at q;case isFalse=>cases q
   rename_i t;obtain⟨rfl,hf,M⟩:=t;cases q;refine⟨W,env,r.1,r.2,ok,e1,λW1 ad vs H1 s1 R D N O rp=>?_⟩;obtain⟨v,u,p,as,us,rfl,P,Y,hr,⟨C',dx,z1,I,Z⟩,J⟩:=D.slot i _ g;rw[Cl.inj z1 f] at I;have Q:p≠ad:=λz=>by rw[z,O] at I;cases I
   have na:ad∉as:=λz=>by
    obtain⟨v',d,h⟩:=R.slot i _ g;rw[u] at d;cases d;exact N (h.owns (.inr ⟨p,us,rfl,⟨Z,C,dx,I⟩,J.parts_iff.mpr z⟩))
   refine⟨_,u,p,C,dx,fs.zip us,rfl,I,c,hn,?_,?_⟩
   ·rw[me];lia
   ·have st:Step (addW W1 ad) H1 (addW W1 ad) (upd H1 p (.ins C dx ((fs++[m]).zip (us++[.ref ad])))):=⟨λb o q n=>by rw[gx (λz:b=p=>n (by rw[z];exact P))];exact q,λb z=>.inl z⟩
    have A:upd H1 p (.ins C dx ((fs++[m]).zip (us++[.ref ad]))) ad=some (.lst vs):=by rw[gx (Ne.symm Q)];exact O
    have B:PtsOk X.K G (addW W1 ad) (upd H1 p (.ins C dx ((fs++[m]).zip (us++[.ref ad])))) ps as us:=J.step (λb ws S z=>⟨(J.own S).1,by rw[gx (λy:b=p=>by subst y;exact(b7.mp Y).1 S)];exact z⟩) (λ_ _ r=>D.rep st r) λ_ _ r=>D.reps st r;have U:(fs++[m]).length=(us++[V.ref ad]).length:=by rw[am,am,Z];rfl
    obtain⟨w1,w2⟩:=D.chgN (l:=ad) (s':=.ag (.ins true L (fs++[m])) l (ps++[.o r.1])) (.i C dx ((fs++[m]).zip (us++[.ref ad]))) g u (.inl rfl)
     ⟨p,as++[ad],us++[.ref ad],rfl,P,by
      rw[b7] at Y ⊢;refine⟨λz=>?_,List.nodup_append.mpr ⟨Y.2,by simp,λy hy z t=>?_⟩⟩
      ·rcases de.mp z with z | z
       ·exact Y.1 z
       ·exact Q (cw.mp z)
      ·rw[cw.mp t];exact λw=>na (w ▸ hy),hr,⟨C,dx,f,kl,U⟩,B.snoc (.inr rfl) A (D.reps st rp)⟩
     (λj s v d e4=>R.noOwn N j s v d e4) λb E=>by
       rcases E with E | ⟨p',us',z,y,j,ds,h1,h2⟩
       ·exact .inl (.inl E)
       ·cases z
        have ey:us'=us++[.ref ad]:=xj (K:=X.K) (k:=.ins true L (fs++[m])) (us:=us++[.ref ad]) ⟨C,dx,f,kl,U⟩ y;rw[ey] at h2;by_cases T:j<ps.length
        ·rw[ax T] at h1
         rw[ax (by rw[<-J.length];exact T)] at h2;exact .inl (.inr ⟨p,us,rfl,⟨Z,C,dx,I⟩,j,ds,h1,h2⟩)
        ·rw[dg (by rw[<-J.length];lia),<-J.length] at h2
         cases hjj:j-ps.length with
         | zero=>rw[hjj] at h2;simp at h2;exact .inr h2.symm
         | succ n=>rw[hjj] at h2;simp at h2
    rw[zuv hf Z];exact k _ σ _ (s1.trans w2) w1⟩
end L2
namespace L2
open PySem
abbrev gz:ik:=["kept", "states"]
end L2
namespace L2
open PySem PySem.Spec PyProof.Rows
def vm(i:Nat)(g:FE)(F:FA):FS:=λe=>(F e).bind λr=>match r.2[i]? with
 | some (some (.o2 dss))=>(g (frsE r.2)).bind λq=>(match q.1 with | .int k=>(ixN dss.length k).map λj=>(.nx,r.2.set i (some (.o2 (dss.set j r.1)))) | _=>none)
 | _=>none
def zux(i:Nat)(g h f:FE):FS:=λe=>(f e).bind λr=>match r.2[i]? with
 | some (some (.o2 dss))=>(g (frsE r.2)).bind λq=>(h (frsE r.2)).bind λp=>(match q.1,p.1 with
   | .int k,.int m=>(ixN dss.length k).bind λj=>(dss[j]?).bind λds=>(ixN ds.length m).map λn=>(.nx,r.2.set i (some (.o2 (dss.set j (ds.set n r.1)))))
   | _,_=>none)
 | _=>none
variable{G:Gd}{H0 H:Hp}{i:Nat}{K:ll}{W:Addr->Prop}{env:DE0}{σ:St}
theorem Ok.swap2(R:Ok K G H0 W env σ H){l:Addr}{us:l0}{ds:mu}{dss:List mu}{j:Nat}{v:V}(ok:Ok K G H0 (addW W l) env σ H)(t:¬W l)(hl:H l=some (.lst us))(r:Reps K H (Ow G (addW W l)) ds us)(x:env[i]?=some (some (.o2 dss)))(A:σ[i]?=some (some v))(hj:j<dss.length) :
  ∃(L:Addr) (ls:kb),v=.ref L/\H L=some (.lst (ls.map V.ref))/\ls.length=dss.length/\Ok K G H0 (addW W l) (env.set i (some (.o2 (dss.set j ds)))) σ (upd H L (.lst ((ls.set j l).map V.ref)))/\Step (addW W l) H (addW W l) (upd H L (.lst ((ls.set j l).map V.ref))):=by
 obtain⟨v1,S,L,ls,rfl,T,B,C,hi⟩:=R.slot i _ x;rw[A] at S;cases S;have U:addW W l L:=.inl T;have st:Step (addW W l) H (addW W l) (upd H L (.lst ((ls.set j l).map V.ref))):=⟨λb o q n=>by rw[gx (λz:b=L=>n (by rw[z];exact U))];exact q,λb z=>.inl z⟩;have nl:∀(k:Nat) (s:Sl) (u:V),env[k]?=some (some s)->σ[k]?=some (some u)->¬Owns H s u l:=λk s u E m o=>by
  obtain⟨u',X,h⟩:=R.slot k s E;rw[m] at X;cases X;exact t (h.owns o)
 have Y:l≠L:=λz=>t (z ▸ T);have I:=hi.1;have J:∀(k:Nat) (c:Addr),(ls.set j l)[k]?=some c->(j=k/\c=l)\/(j≠k/\ls[k]?=some c):=λk c q=>by
  rcases oy q with⟨e,q,_⟩ | q
  ·exact .inl ⟨e,q⟩
  ·exact .inr q
 have F:(L::ls.set j l).Nodup:=by
  refine b7.mpr ⟨λz=>?_,?_⟩
  ·obtain⟨k,Z⟩:=List.mem_iff_getElem?.mp z
   rcases J k L Z with⟨_,e⟩ | ⟨_,e⟩
   ·exact Y e.symm
   ·exact(b7.mp C).1 (bf e)
  ·refine List.pairwise_iff_getElem.mpr λk1 k2 M a aa z=>?_
   obtain⟨c2,hc2⟩:∃c,(ls.set j l)[k2]?=some c:=⟨_,aw a⟩;have N:(ls.set j l)[k1]?=some c2:=by rw[<-hc2,aw M,aw a,z]
   have d:∀k c,ls[k]?=some c->c≠l:=λk c q w=>t (w ▸ (hi.2 k (dss[k]'(by rw[<-I];exact(aj.mp q).1)) c (aw _) q).1);rcases J k1 c2 N with⟨a1,b1⟩ | ⟨a1,b1⟩ <;> rcases J k2 c2 hc2 with⟨a2,p⟩ | ⟨a2,p⟩
   ·lia
   ·exact d _ _ p b1
   ·exact d _ _ b1 p
   ·have:=zpt (b7.mp C).2 b1 p;lia
 refine⟨L,ls,rfl,B,I,?_⟩;refine ok.chgN (.l _) x A (.inl rfl) ⟨L,ls.set j l,rfl,U,kl,F,by simp[I],λk es c E m=>?_⟩ nl λb o=>?_
 ·rcases oy E with⟨rfl,z,_⟩ | ⟨Z,q'⟩
  ·cases z
   rcases J j c m with⟨_,rfl⟩ | ⟨y,_⟩
   ·exact⟨.inr rfl,us,by rw[gx Y];exact hl,ok.reps st r⟩
   ·exact absurd rfl y
  ·rcases J k c m with⟨y,_⟩ | ⟨_,y⟩
   ·exact absurd y Z
   ·obtain⟨O,vs,hc,rc⟩:=hi.2 k es c q' y
    have ne:c≠L:=λz=>(b7.mp C).1 (z ▸ bf y);refine⟨.inl O,vs,by rw[gx ne];exact hc,?_⟩;obtain⟨v2,e2,L2,ab,e3,_,f,_,P⟩:=ok.slot i _ x;rw[A] at e2;cases e2;cases e3;rw[B] at f;have:=wg (by simpa using f);subst this;obtain⟨_,vs',g,Q⟩:=P.2 k es c q' y;rw[hc] at g;cases g;exact ok.reps st Q
 ·rcases o with o | ⟨L',ls',z,q,hb⟩
  ·exact .inl (.inl o)
  ·cases z
   rw[kl] at q;have:=wg (show(ls.set j l).map V.ref=ls'.map V.ref by simpa using q);subst this;obtain⟨k,Z⟩:=List.mem_iff_getElem?.mp hb;rcases J k b Z with⟨_,e⟩ | ⟨_,e⟩
   ·exact .inr e
   ·exact .inl (.inr ⟨L,ls,rfl,B,bf e⟩)
variable{Nn Cn:ik}{X:Cx}{b e:Expr}{g:FE}{F:FA}{x:Str}{pos p' p1:Pos}
def zuy(m:∀G H0,DEx X G H0 b g)(n:DFx X G H0 e F)(an:Ats Nn Cn X)(Z:Nn[i]?=some x:=by rfl)(o:swapsWithSole [.Subscript (.Name x p') b p1] e pos.line X.env=pure false:=by rfl)(p:swappedStores [.Subscript (.Name x p') b p1] e X.env=pure none:=by rfl)(h1:(assignEach [.Subscript (.Name x p') b p1] X.env).map (·.2)=[assign (.Subscript (.Name x p') b p1) X.env]:=by rfl)(J:∀v,assign (.Subscript (.Name x p') b p1) X.env v=(do
   let ov <-holding [v] (eval (.Name x p') X.env);let iv <-holding [v,ov] (eval b X.env)
   standAt p1
   holding [v,ov,iv] (setItem ov iv v)
   release [v,ov,iv] []):=by intro _;rfl) :
  DSx X G H0 (.Assign [.Subscript (.Name x p') b p1] e pos) (vm i g F):=⟨λpins s σ H Dn I t=>by
 obtain⟨W,env,fl,env',ok,q,k⟩:=t;unfold vm at q;cases e1:F env with
 | none=>rw[e1] at q;cases q
 | some r =>
   rw[e1,ac] at q;split at q;case h_2=>cases q
   rename_i dss d;cases e2:g (frsE r.2) with
   | none=>rw[e2] at q;cases q
   | some r2 =>
     rw[e2,ac] at q;split at q;case h_2=>cases q
     rename_i kk c;cases e3:ixN dss.length kk with
     | none=>rw[e3] at q;cases q
     | some j =>
       rw[e3] at q;cases q;have u:j<dss.length:=(zpo e3).2.1;refine(yl n.out (zt3 ((an.a Z).pe) (el_x (X:=X) rfl m) y8 J) o p h1) pins s σ H Dn I ⟨W,env,r.1,r.2,ok,e1,λW1 l us H1 w R D y z A=>?_⟩;obtain⟨v,f,_⟩:=R.slot i _ d;refine⟨_,f,OwG G (addW W1 l) H1,H1,NoW,frsE r.2,r2.1,r2.2,D.freezeS,e2,λE v2 H2 s2 B U=>?_⟩;have sm:=s2.noW;rw[c] at U;obtain⟨L,ls,rfl,C,V,h,Y⟩:=Ok.swap2 (R.same sm) (D.same sm) y (sm _ _ z) ((D.reps (Step.same sm) A)) d f u;exact⟨L,_,kk,j,rfl,U.int_,C,by rw[af,V];exact e3,by rw[ie] at h Y;exact k _ _ _ ((w.trans (Step.same sm)).trans Y) h⟩⟩
variable{a:Expr}{f h:FE}{p2:Pos}
def zx4(E:∀G H0,DEx X G H0 a g)(F:∀G H0,DEx X G H0 b h)(K:DEx X G H0 e f)(an:Ats Nn Cn X)(d:Nn[i]?=some x:=by rfl)(l:uw a:=by intro _ _;rfl)(M:swapsWithSole [.Subscript (.Subscript (.Name x p') a p2) b p1] e pos.line X.env=pure false:=by rfl)(N:swappedStores [.Subscript (.Subscript (.Name x p') a p2) b p1] e X.env=pure none:=by rfl)(h1:(assignEach [.Subscript (.Subscript (.Name x p') a p2) b p1] X.env).map (·.2)=[assign (.Subscript (.Subscript (.Name x p') a p2) b p1) X.env]:=by rfl)(V:∀v,assign (.Subscript (.Subscript (.Name x p') a p2) b p1) X.env v=(do
   let ov <-holding [v] (eval (.Subscript (.Name x p') a p2) X.env);let iv <-holding [v,ov] (eval b X.env)
   standAt p1
   holding [v,ov,iv] (setItem ov iv v)
   release [v,ov,iv] []):=by intro _;rfl) :
  DSx X G H0 (.Assign [.Subscript (.Subscript (.Name x p') a p2) b p1] e pos) (zux i g h f):=⟨λpins s σ H Dn I O=>by
 obtain⟨W,env,fl,env',ok,q,k⟩:=O;unfold zux at q;cases e1:f env with
 | none=>rw[e1] at q;cases q
 | some r =>
   rw[e1,ac] at q;split at q;case h_2=>cases q
   rename_i dss m;cases e2:g (frsE r.2) with
   | none=>rw[e2] at q;cases q
   | some r2 =>
     rw[e2,ac] at q;cases e3:h (frsE r.2) with
     | none=>rw[e3] at q;cases q
     | some r3 =>
       rw[e3,ac] at q;split at q;case h_2=>cases q
       rename_i kk mm p t;cases e4:ixN dss.length kk with
       | none=>rw[e4] at q;cases q
       | some j =>
         rw[e4,ac] at q;cases e5:dss[j]? with
         | none=>rw[e5] at q;cases q
         | some ds =>
           rw[e5,ac] at q;cases e6:ixN ds.length mm with
           | none=>rw[e6] at q;cases q
           | some n =>
             rw[e6] at q;cases q;refine(yl K.out (zt3 (wv znr ((an.a d).pe) (el_x (X:=X) rfl E) l) (el_x (X:=X) rfl F) y8 V) M N h1) pins s σ H Dn I ⟨W,env,r.1,r.2,ok,e1,λW1 v1 H1 P J Q=>?_⟩;obtain⟨v,u,_⟩:=J.slot i _ m;refine⟨_,u,OwG G W1 H1,H1,NoW,frsE r.2,r2.1,r2.2,J.freezeS,e2,λW2 v2 H2 s2 S Y=>?_⟩;have sm:=s2.noW;rw[p] at Y;have R:=J.same sm;obtain⟨L,ls,c,vs,rfl,B,w,y,T,C⟩:=zuf R m u e4 e5;refine⟨L,_,kk,.ref c,rfl,Y.int_,.inl (.inl B),y,OwG G W1 H2,H2,NoW,frsE r.2,r3.1,r3.2,R.freezeS,e3,λW3 v3 H3 s3 aa Z=>?_⟩;have D:=s3.noW;rw[t] at Z;have A:=R.same D;have U:Same H1 H3:=λb o z=>D b o (sm b o z);obtain⟨t1,t2⟩:=A.turn2 m u (D _ _ B) e5 w (Reps.set (J.rep (Step.same U) Q) n (R.reps (Step.same D) C));exact⟨c,vs,mm,n,rfl,Z.int_,D _ _ T,by rw[<-C.length];exact e6,k _ _ _ ((P.trans (Step.same U)).trans t2) t1⟩⟩
end L2
namespace L2
open PySem PySem.Spec PyProof.Rows PySem.F
variable{prog:Program}{w:World}{A:Around}{E:Value->Shared->Prop}{s:Shared}
theorem zr4{it t:Addr}{D:lx}(V:t≠it):∀(n i:Nat) (s:Shared) (Q:i0->Shared->Prop),s.heap.IsListIter it t i->s.heap.IsList t D->i+n<=D.size ->
  (∀h',h'.IsListIter it t (i+n)->Heap.SameBut it s.heap h'->Q ((D.toList.drop i).take n) { s with heap:=h' })->wpAny (model prog w) A (draw (.ref it) n) Q E s
 | 0,i,s,Q,hit,_,_,hQ=>by
   exact wpAny_pure (by simpa using hQ s.heap hit (Heap.SameBut.refl ..))
 | n+1,i,s,Q,hit,ht,hle,hQ=>by
   have Y:i<D.size:=by lia
   refine wpAny_bind (wpAny_pyNext_list_item hit ht (x:=D[i]) (by simp[Y]) λh₁ J I=>?_);refine wpAny_bind (wpAny_holding (zr4 V n (i+1) _ _ J (ht.extBut I.extBut V) (by lia) λZ R U=>wpAny_pure ?_));have a:D.toList.drop i=D[i]::D.toList.drop (i+1):=by simp[fb,Y]
   have:=hQ Z (by rw[show i+(n+1)=i+1+n by lia];exact R) (I.trans U);rw[a,List.take_succ_cons] at this;exact this
variable{pos:Pos}
theorem zmd{env:Env}{I:k8}{x1}{t:Addr}{D:lx}{Q:Unit->Shared->Prop}(g:A.handled=none)(Z:s.heap.IsList t D)(i:(assignEach I env).length=D.size)(U:(assignEach I env).findIdx? (·.1)=none)(h:∀h',Heap.ExtBut s.heap.objs.size s.heap h'->wpAny (model prog w) A (assignInOrder ((assignEach I env).map (·.2)) D.toList) Q E { s with heap:=h' }):wpAny (model prog w) A (assign (.Tuple I x1 pos) env (.ref t)) Q E s:=by
 refine wpAny_bind (wpAny_standAt ?_);unfold unpack;rw[i,U];refine wpAny_bind (wpAny_holding ?_);have a:t≠s.heap.objs.size:=by obtain⟨o,j,_⟩:=Z;exact cf (bi j)
 refine wpAny_bind ?_;refine wpAny_bind (wpAny_specialOf Z.typeIs PySem.slot_list_iter.lookup ?_);refine wpAny_pure ?_;refine wpAny_bind (wpAny_holding (wpAny_pyIter_list Z ?_));refine wpAny_bind (wpAny_holding (zr4 a D.size 0 _ _ ⟨_,cq _ rfl,rfl,rfl⟩ (Z.push _) (by lia) λh₁ R J=>?_));have c:List.take D.size (List.drop 0 D.toList)=D.toList:=by
  rw[List.drop_zero];exact ib (by simp)
 rw[c];rw[if_neg (by simp)];have V:h₁.IsList t D:=(Z.push _).extBut J.extBut a;refine wpAny_bind (wpAny_holding (wpAny_pyNext_list_end g R V (by simp) λd Y=>?_));exact wpAny_pure (h d λb o f e=>Y b o f (J.extBut b o f (aq _ e)))
def yp(r:Nat):kf->mx->Nat->DE0->Option DE0
 | [],[],_,e=>some e
 | i::ix,.d d::ps,n,e=>yp r ix ps n (e.set i (some (.sh d)))
 | i::ix,.o _::ps,n,e=>yp r ix ps (n+1) (e.set i (some (.al r n)))
 | _,_,_,_=>none
def wy(i:Nat)(ix:kf):FS:=λe=>match e[i]? with
 | some (some (.ag .ls (some r) ps))=>if i∈ix then none else(yp r ix ps 0 e).map λe'=>(.nx,e')
 | _=>none
variable{G:Gd}{H0:Hp}{ix:kf}
theorem zta{K:ll}{W:Addr->Prop}{H:Hp}{r:Nat}{p:Addr}{D:kb}(J:G.r r=p::D):∀(ix:kf) (ps:mx) (n:Nat) (as:kb) (us:l0) (env env':DE0) (σ:St) (Q:St->Hp->Prop),Ok K G H0 W env σ H->PtsOk K G W H ps as us->(∀(m:Nat) (a:Addr),as[m]?=some a->D[n+m]?=some a) ->
  yp r ix ps n env=some env'->(∀I,Ok K G H0 W env' I H->Q I H)->gIs ix us σ H Q
 | [],[],_,_,_,_,_,σ,Q,ok,.nil,_,e,k=>by cases e;exact⟨rfl,k σ ok⟩
 | i::ix,.d d::ps,n,as,_,env,env',σ,Q,ok,.d (v:=v) (us:=us) q t,ha,e,k =>
   ⟨v,us,rfl,zta J ix ps n as us _ env' _ Q (ok.put (s:=.sh d) (v:=v) q λ_ _ _ _ _ _ o=>o.elim) t ha e k⟩
 | i::ix,.o ds::ps,n,_,_,env,env',σ,Q,ok,.o (a:=a) (as:=as) (us:=us) hW hl q t,ha,e,k =>
   ⟨.ref a,us,rfl,zta J ix ps (n+1) as us _ env' _ Q (ok.put (s:=.al r n) (v:=.ref a) ⟨p,D,a,J,by simpa using ha 0 a rfl,rfl⟩ λ_ _ _ _ _ _ o=>o.elim) t (λm b R=>by have:=ha (m+1) b (by simpa using R);rwa [show n+1+m=n+(m+1) by lia]) e k⟩
variable{X:Cx}{es:k8}{x:Str}{p' p1:Pos}{i:Nat}
def z01{Nn Cn:ik}{k:Nat}(h:PGs X es (gIs ix))(an:Ats Nn Cn X)(R:Nn[i]?=some x:=by rfl)(g:X.calm=true:=by rfl)(j:(assignEach es X.env).length=ix.length:=by rfl)(U:(assignEach es X.env).findIdx? (·.1)=none:=by rfl)(l:swapsWithSole [.Tuple es k p1] (.Name x p') pos.line X.env=pure false:=by rfl)(J:swappedStores [.Tuple es k p1] (.Name x p') X.env=pure none:=by rfl)(h1:(assignEach [.Tuple es k p1] X.env).map (·.2)=[assign (.Tuple es k p1) X.env]:=by rfl):DSx X G H0 (.Assign [.Tuple es k p1] (.Name x p') pos) (wy i ix):=⟨by
 have pg:PG X (.Tuple es k p1) (λv σ H Q=>∃a xs,v=.ref a/\H a=some (.lst xs)/\xs.length=ix.length/\gIs ix xs σ H Q):=by
  intro pins s σ H v u Q I r J;obtain⟨a,xs,D,V,Y,J⟩:=J;subst D;cases r;obtain⟨its,d,t,E⟩:=I.list (.inl (.inl V));refine zmd (I.ok.hd g) t.isList (by simp[j,<-Y,d.length]) U λh' w=>?_;have y:Inv X pins σ H { s with heap:=h' }:=I.kept (t':=s.toks) λb o e=>w b o (cf (bi e)) e;exact h pins _ σ H xs _ Q y (by simpa using d) J
 refine(yl ((an.a R).pe) pg l J h1).imp λDn σ H z=>?_;obtain⟨W,env,fl,env',ok,q,kk⟩:=z;unfold wy at q;split at q;case h_2=>cases q
 rename_i r ps V;split at q;case isTrue=>cases q
 cases D:yp r ix ps 0 env with
 | none=>rw[D] at q;cases q
 | some e' =>
   rw[D] at q;cases q;obtain⟨v,A,p,as,us,rfl,F,K,B,C,f⟩:=ok.slot i _ V;have Y:∀(ix:kf) (ps:mx) (n:Nat) (env e':DE0),yp r ix ps n env=some e'->ix.length=ps.length:=λix=>by
    induction ix with
    | nil=>intro ps n env e' e;cases ps with | nil=>rfl | cons p _=>cases p <;> cases e
    | cons i ix ih =>
      intro ps n env e' e;cases ps with
      | nil=>cases e
      | cons p ps=>cases p <;> exact congrArg Nat.succ (ih ps _ _ _ e)
   exact⟨_,A,p,us,rfl,C,by rw[<-f.length];exact(Y _ _ _ _ _ D).symm,zta (B r rfl) ix ps 0 as us env _ σ _ ok f (λm a L=>by rwa [kh]) D λZ c=>kk W Z H Step.refl c⟩⟩
end L2
namespace L2
open PySem PySem.Spec PyProof.Rows
def dPow:D->D->mv | .int i,.int j=>if i=10/\0<=j/\j<=30 then some (.int (i ^ j.toNat)) else none | _,_=>none
variable{X:Cx}{G:Gd}{H0:Hp}
theorem z8a:OpD X G H0 (rI CPow λi j=>.int (i ^ j.toNat)) dPow:=od_I λI J d h=>by
 unfold dPow at h;split at h
 ·rename_i i j
  split at h;case isFalse=>cases h
  rename_i D;cases h;obtain⟨rfl,R,h1⟩:=D;exact⟨10,j,rfl,rfl,by unfold CPow;lia,rfl⟩
 ·cases h
variable{f:Addr}{g:FS}{pos:Pos}
def zr5{a b:Expr}{f g:FE}(D:DEx X G H0 a f)(I:DEx X G H0 b g):DEx X G H0 (.BinOp a .Pow b pos) (fBin dPow f g):=xi z6e z8a D I
def celN(N:ik)(sc:Scope):ik:=N.filter λu=>sc.names.lookup u==some .cell
def scB(N ps:ik)(sc:Scope):Bool:=decide (sc.kind=.function) && !sc.isCoroutine && !sc.isGenerator && decide N.Nodup && decide (N.take ps.length=ps) && decide (∀y∈sc.names,y.2≠.free) && N.all λx=>okN x && (sc.names.lookup x==some .local || sc.names.lookup x==some .cell)
variable{N ps:ik}{sc:Scope}
def o7(h:scB N ps sc=true):rn N ps sc/\∀x∈N,Loc sc x/\(x==("__debug__" : Str))=false/\(x==("__classdict__" : Str))=false:=by
 unfold scB at h;simp only[dw,decide_eq_true_eq,lc,gv] at h;obtain⟨⟨⟨⟨⟨⟨h1,h2⟩,R⟩,U⟩,I⟩,V⟩,Y⟩:=h;have J:∀x∈N,Loc sc x/\(x==("__debug__" : Str))=false/\(x==("__classdict__" : Str))=false:=λx D=>by
  obtain⟨a,b⟩:=Y x D;have a:=t6 a;rcases Bool.or_eq_true _ _ ▸ b with b | b
  ·exact⟨.inl (vk b),a⟩
  ·exact⟨.inr (vk b),a⟩
 exact⟨⟨h1,h2,R,U,I,λx D=>(J x (by rw[<-I] at D;exact List.mem_of_mem_take D)).1,V⟩,J⟩
variable{P:Program}{w:World}{K:ll}{mg:Str->ka}{base:Heap}{CX:CXT}{qual:Str}{cdv:Value}{A:Around}{outer:k7}{s:Shared}{H:Hp}{E:XK}
def sv(h:scB N ps sc=true):Ats N (celN N sc) (cxOf CX P w K mg base N qual sc f cdv A outer s H E) :=
 ⟨rfl,λi x e=>let z:=(o7 h).2 x (bf e);⟨e,z.1.elim .inl λq=>.inr (.inl q),z.2.1,z.2.2⟩,λu D=>by
  obtain⟨_,h2⟩:=j7.mp D;exact .inl (vk h2)⟩
def su(h:scB N ps sc=true):Tos N (cxOf CX P w K mg base N qual sc f cdv A outer s H E) :=
 ⟨λi x e=>⟨(o7 h).1.nd,e,((o7 h).2 x (bf e)).1,.inl rfl⟩⟩
variable{i:Nat}{x:Str}
def Tos.pg(t:Tos N X)(h:N[i]?=some x:=by rfl):PG X (.Name x pos) (nz i):=zwi (t.t h).nd (t.t h).n (t.t h).l (t.t h).f
variable{e:Expr}{p':Pos}{F:FA}
def Tos.psF(t:Tos N X)(D:DFx X G H0 e F)(h:N[i]?=some x:=by rfl)(I:swapsWith e (some (.Name x p')) pos.line X.env=pure false:=by rfl):PS X (.Assign [.Name x p'] e pos) (tAsg (tDF X.K G H0 F) (nz i)):=zq7 (t.t h).nd (t.t h).n (t.t h).l D.out I (t.t h).f
variable{f2:FA2}
def Tos.psF2(t:Tos N X)(D:DF2x X G H0 e f2)(h:N[i]?=some x:=by rfl)(I:swapsWith e (some (.Name x p')) pos.line X.env=pure false:=by rfl):PS X (.Assign [.Name x p'] e pos) (tAsg (tDF2 X.K G H0 f2) (nz i)):=zq7 (t.t h).nd (t.t h).n (t.t h).l D.out I (t.t h).f
variable{P:i0->Prop}
def us0(h:P [])(us:i0)(e:us.length=0):P us:=ff e ▸ h
variable{n:Nat}
def usn(h:∀a,∀us:i0,us.length=n->P (a::us))(us:i0)(e:us.length=n+1):P us:=by
 cases us with
 | nil=>cases e
 | cons a us=>exact h a us (Nat.succ.inj e)
def us1(h:∀a,P [a]):∀us,us.length=1->P us:=usn λa=>us0 (h a)
def us2(h:∀a b,P [a,b]):∀us,us.length=2->P us:=usn λa=>us1 (P:=λus=>P (a::us)) (h a)
def us3(h:∀a b c,P [a,b,c]):∀us,us.length=3->P us:=usn λa=>us2 (P:=λus=>P (a::us)) (h a)
def us4(h:∀a b c d,P [a,b,c,d]):∀us,us.length=4->P us:=usn λa=>us3 (P:=λus=>P (a::us)) (h a)
def us5(h:∀a b c d e,P [a,b,c,d,e]):∀us,us.length=5->P us:=usn λa=>us4 (P:=λus=>P (a::us)) (h a)
def Def(K:ll)(mg:Str->ka)(st:Stmt)(x:Str)(ps:ik):Prop:=∃f fd,Fun K x x st f fd/\Binds K fd ps []/\mg x=some (.ref f)
def Mef(K:ll)(C:Addr)(st:Stmt)(x qual:Str)(ps:ik):Prop:=∃f fd,Fun K x qual st f fd/\Binds K fd ps []/\Meth K C x f
variable{P:Program}{st:Stmt}{k ar:Nat}
theorem i7(T:Def K mg st x ps)(N:ik)(D:∀ {f:Addr} {cdv:Value} {A:Around} {outer:k7} {s:Shared} {H:Hp} {E:XK} {G:Gd} {H0:Hp},Room k (A.deeper (envOfC x (f9 st) s.heap.objs.size f cdv)) ->
   Ats N (celN N (f9 st)) (cxOf CX0 P w K mg base N x (f9 st) f cdv A outer s H E).nox->Tos N (cxOf CX0 P w K mg base N x (f9 st) f cdv A outer s H E).nox->DBx (cxOf CX0 P w K mg base N x (f9 st) f cdv A outer s H E).nox G H0 (l7 st) g)(h:scB N ps (f9 st)=true:=by decide +kernel)(I:okN x=true:=by decide +kernel)(J:n=N.length:=by rfl)(R:ar=ps.length:=by rfl):Cal P w K mg base CX0 x (k+1) (dSp K (runD n ar g)):=by
 obtain⟨f,fd,F,b,m⟩:=T;exact⟨f,fd,ps,fn_D F (o7 h).1 J R λcdv A outer s H E G H0 U=>D U (sv h).nox (su h).nox,m,F.kp,b,(t6 I).1⟩
theorem z4h(T:Def K mg st x ps)(N:ik)(D:∀ {f:Addr} {cdv:Value} {A:Around} {outer:k7} {s:Shared} {H:Hp} {E:XK} {G:Gd} {H0:Hp},Room k (A.deeper (envOfC x (f9 st) s.heap.objs.size f cdv)) ->
   Ats N (celN N (f9 st)) (cxOf CX0 P w K mg base N x (f9 st) f cdv A outer s H E).nox->Tos N (cxOf CX0 P w K mg base N x (f9 st) f cdv A outer s H E).nox->DBx (cxOf CX0 P w K mg base N x (f9 st) f cdv A outer s H E).nox G H0 (l7 st) g)(h:scB N ps (f9 st)=true:=by decide +kernel)(I:okN x=true:=by decide +kernel)(J:n=N.length:=by rfl)(R:ar=ps.length:=by rfl):Cal P w K mg base CX0 x (k+1) (fSp K (runF n ar g)):=by
 obtain⟨f,fd,F,b,m⟩:=T;exact⟨f,fd,ps,fn_F F (o7 h).1 J R λcdv A outer s H E G H0 U=>D U (sv h).nox (su h).nox,m,F.kp,b,(t6 I).1⟩
theorem z8b(T:Def K mg st x ps)(N:ik)(D:∀ {f:Addr} {cdv:Value} {A:Around} {outer:k7} {s:Shared} {H:Hp} {E:XK} {G:Gd} {H0:Hp},Room k (A.deeper (envOfC x (f9 st) s.heap.objs.size f cdv)) ->
   Ats N (celN N (f9 st)) (cxOf CX0 P w K mg base N x (f9 st) f cdv A outer s H E).nox->Tos N (cxOf CX0 P w K mg base N x (f9 st) f cdv A outer s H E).nox->DBx (cxOf CX0 P w K mg base N x (f9 st) f cdv A outer s H E).nox G H0 (l7 st) g)(h:scB N ps (f9 st)=true:=by decide +kernel)(I:okN x=true:=by decide +kernel)(J:n=N.length:=by rfl)(R:ar=ps.length:=by rfl):Cal P w K mg base CX0 x (k+1) (fSp2 K (yb n ar g)):=by
 obtain⟨f,fd,F,b,m⟩:=T;exact⟨f,fd,ps,z9x F (o7 h).1 J R λcdv A outer s H E G H0 U=>D U (sv h).nox (su h).nox,m,F.kp,b,(t6 I).1⟩
abbrev Bd(P:Program)(w:World)(K:ll)(mg:Str->ka)(base:Heap)(N:ik)(qual:Str)(st:Stmt)(k:Nat)(g:FS):Prop:=∀ {f:Addr} {cdv:Value} {A:Around} {outer:k7} {s:Shared} {H:Hp} {E:XK} {G:Gd} {H0:Hp},Room k (A.deeper (envOfC qual (f9 st) s.heap.objs.size f cdv)) ->
   Ats N (celN N (f9 st)) (cxOf (CXr P w) P w K mg base N qual (f9 st) f cdv A outer s H E)->Tos N (cxOf (CXr P w) P w K mg base N qual (f9 st) f cdv A outer s H E)->DBx (cxOf (CXr P w) P w K mg base N qual (f9 st) f cdv A outer s H E) G H0 (l7 st) g
theorem Def.cal{sp:Sp}(T:Def K mg st x ps)(D:okN x=true)(h:∀f fd,Fun K x x st f fd->FnOk P w K mg base CX k f fd ps sp):Cal P w K mg base CX x k sp:=by
 obtain⟨f,fd,F,b,m⟩:=T;exact⟨f,fd,ps,h f fd F,m,F.kp,b,(t6 D).1⟩
variable{p:Nat}
def rd(T:Def K mg st x ps)(N:ik)(D:Bd P w K mg base N x st k g)(h:scB N ps (f9 st)=true:=by decide +kernel)(I:okN x=true:=by decide +kernel)(J:n=N.length:=by rfl)(R:p+ar=ps.length:=by rfl):Cal P w K mg base (CXr P w) x (k+1) (qSp K (runQ n p ar g) (xQ n p ar g)) :=
 T.cal I λf fd F=>z74 F (o7 h).1 J R λcdv A outer s H E G H0 U=>D U (sv h) (su h)
def z4i(T:Def K mg st x ps)(N:ik)(D:Bd P w K mg base N x st k g)(h:scB N ps (f9 st)=true:=by decide +kernel)(I:okN x=true:=by decide +kernel)(J:n=N.length:=by rfl)(R:p+ar=ps.length:=by rfl):Cal P w K mg base (CXr P w) x (k+1) (lSp K (runL n p ar g) (xL n p ar g)) :=
 T.cal I λf fd F=>z4d F (o7 h).1 J R λcdv A outer s H E G H0 U=>D U (sv h) (su h)
def z96(T:Def K mg st x ps)(N:ik)(D:Bd P w K mg base N x st k g)(h:scB N ps (f9 st)=true:=by decide +kernel)(I:okN x=true:=by decide +kernel)(J:n=N.length:=by rfl)(R:ar=ps.length:=by rfl):Cal P w K mg base (CXr P w) x (k+1) (gSp K (runG n ar g) (xG n ar g)) :=
 T.cal I λf fd F=>z95 F (o7 h).1 J R λcdv A outer s H E G H0 U=>D U (sv h) (su h)
variable{C:Addr}{cn:Str}
def sj(D:Cl K cn C)(c:Cls K C)(T:Mef K C st x qual ps)(N:ik)(I:Bd P w K mg base N qual st k g)(h:scB N ps (f9 st)=true:=by decide +kernel)(J:n=N.length:=by rfl)(R:p+ar=ps.length:=by rfl):MCal P w K mg base cn x (k+1) (qSp K (runQ n p ar g) (xQ n p ar g)):=by
 obtain⟨f,fd,F,b,m⟩:=T;exact⟨C,f,fd,ps,c,m,z74 F (o7 h).1 J R λcdv A outer s H E G H0 U=>I U (sv h) (su h),b,D⟩
def yh(D:Cl K cn C)(c:Cls K C)(T:Mef K C st x qual ps)(N:ik)(I:Bd P w K mg base N qual st k g)(h:scB N ps (f9 st)=true:=by decide +kernel)(J:n=N.length:=by rfl)(R:p+ar=ps.length:=by rfl):MCal P w K mg base cn x (k+1) (lSp K (runL n p ar g) (xL n p ar g)):=by
 obtain⟨f,fd,F,b,m⟩:=T;exact⟨C,f,fd,ps,c,m,z4d F (o7 h).1 J R λcdv A outer s H E G H0 U=>I U (sv h) (su h),b,D⟩
def z97(D:Cl K cn C)(I:mg cn=some (.ref C))(J:PySem.W.makesIn K C=true)(kp:PySem.W.keepIn K (.ref C)=true)(T:Mef K C st "__init__" qual ps)(N:ik)(R:Bd P w K mg base N qual st k g)(h:scB N ps (f9 st)=true:=by decide +kernel)(U:okN cn=true:=by decide +kernel)(V:n=N.length:=by rfl)(Y:p+ar=ps.length:=by rfl) :
  KCal P w K mg base cn (k+1) (lSp K (runL n p ar g) (xL n p ar g)):=by
 obtain⟨f,fd,F,b,m⟩:=T;exact⟨C,f,fd,ps,⟨J,m.at_,m.fn,kp⟩,z4d F (o7 h).1 V Y λcdv A outer s H E G H0 Z=>R Z (sv h) (su h),I,b,D,(t6 U).1⟩
def z98(N:ik)(D:∀ {f:Addr} {cdv:Value} {A:Around} {outer:k7} {s:Shared} {H:Hp} {E:XK} {G:Gd} {H0:Hp},Room k (A.deeper (envOfC x (f9 st) s.heap.objs.size f cdv)) ->
   Ats N (celN N (f9 st)) (cxOf CX0 P w K mg base N x (f9 st) f cdv A outer s H E).nox->Tos N (cxOf CX0 P w K mg base N x (f9 st) f cdv A outer s H E).nox->DBx (cxOf CX0 P w K mg base N x (f9 st) f cdv A outer s H E).nox G H0 (l7 st) g)(h:scB N ps (f9 st)=true:=by decide +kernel)(I:n=N.length:=by rfl)(J:ar=ps.length:=by rfl):∀f fd,Fun K x x st f fd->FnOk P w K mg base CX0 (k+1) f fd ps (dSp K (runD n ar g)) :=
 λf fd F=>fn_D F (o7 h).1 I J λcdv A outer s H E G H0 R=>D R (sv h).nox (su h).nox
variable{h:Heap}{oc:Value}{od an:Option Addr}{osl:Array ka}
def law_mk{fa:Addr}{s:Str}{m:mu->mv}{kV I R cdv ct:Value}(X:K.In h)(G:h.Ns mainGlobals mg)(J:mg x=some (.ref fa))(a:PySem.W.nsIn K mainGlobals x=some (some (.ref f)))(l:K.lookup f=some ⟨oc,od,.func (PySem.W.fnOf x x (uv st) (l7 st) (f9 st) .none kV I R an cdv ct),osl⟩)(c:PySem.W.codeIn K cdv x=true)(k':PySem.W.keepIn K (.ref f)=true)(V:∀v:Value,bindArgs (PySem.W.fnOf x x (uv st) (l7 st) (f9 st) .none kV I R an cdv ct) ⟨[v],[]⟩=pure [(s,v)])(F:∀base f fd,Fun K x x st f fd->FnOk P w K mg base CX0 k f fd [s] (dSp K m))(good:∀U:k4,U.length<=63->m [.lst (U.map D.int)]=some (.bl true)) :
  ∃fd:FuncData,(∀(t:Shared) (v:Value),BindsTo t fd ⟨[v],[]⟩ [(s,v)])/\∀base:Heap,K.In base->base.Ns mainGlobals mg->FnOk P w K mg base CX0 k fa fd [s] (zue K):=by
 have e:=J.symm.trans (lh X G a);cases e;exact⟨_,λt v=>.of_eq (V v),λbase _ _=>z9w (F base _ _ (zw4 l c k')) good⟩
def walkD{l:PySem.W.OpenLaw}{q:Program}{D:ik}{R:(Str->ka)->Heap->Prop}{J:World->Heap->Prop}{d:DefRec}{K:Params->ll}{s:Str}(U:Room k callerA)(V:l.most=some 63)(I:d.params.defaults=[])(Y:∀(w:World) (h:Heap),J w h->(K w.params).In h)(F:∀(w:World) (mg:Str->ka) (fa:Addr) (h:Heap),(K w.params).In h->h.Ns mainGlobals mg->mg d.name=some (.ref fa) ->
   ∃fd:FuncData,(∀(t:Shared) (u:Value),BindsTo t fd ⟨[u],[]⟩ [(s,u)])/\∀base:Heap,(K w.params).In base->base.Ns mainGlobals mg->FnOk l.prog w (K w.params) mg base CX0 k fa fd [s] (zue (K w.params))) :
  PySem.W.WalkO q D R J l.row.toRowW d [] (λf vs=>PySem.call f vs) :=
 z3l (n:=63) (k:=k) (x:=s) (CX:=λ_=>CX0) (sp:=λw=>zue (K w.params)) V (by decide) I U Y F (λ_ _ a Z b _ c=>⟨a,Z,rfl,c,b,λ_=>rfl⟩) λ_ _ _ _ _ z=>z
def def_mk{kV D I cdv ct:Value}(X:K.In h)(G:h.Ns mainGlobals mg)(a:PySem.W.nsIn K mainGlobals x=some (some (.ref f)))(l:K.lookup f=some ⟨oc,od,.func (PySem.W.fnOf x x (uv st) (l7 st) (f9 st) .none kV D I an cdv ct),osl⟩)(c:PySem.W.codeIn K cdv x=true)(k:PySem.W.keepIn K (.ref f)=true)(J:∀us:i0,us.length=ps.length->bindArgs (PySem.W.fnOf x x (uv st) (l7 st) (f9 st) .none kV D I an cdv ct) ⟨us,[]⟩=pure (ps.zip us)):Def K mg st x ps :=
 ⟨f,_,zw4 l c k,.all J,lh X G a⟩
def exc_mk{c:Str}(X:K.In h)(G:h.Ns mainGlobals mg)(a:PySem.W.nsIn K mainGlobals c=some (some (.ref C)))(b:PySem.W.excIn K C VEs "ValueError.__new__" = true)(d:okN c=true):Exc K mg c:=⟨C,a,b,lh X G a,(t6 d).1⟩
def con_mk{z:Int}{t:Tok}(X:K.In h)(G:h.Ns mainGlobals mg)(a:PySem.W.nsIn K mainGlobals x=some (some (.int z t))):∃t,mg x=some (.int z t):=⟨t,lh X G a⟩
def mef_mk{kV D I cdv ct:Value}(a:PySem.W.findIn K (.ref C) x=some (some (.ref f)))(l:K.lookup f=some ⟨oc,od,.func (PySem.W.fnOf x qual (uv st) (l7 st) (f9 st) .none kV D I an cdv ct),osl⟩)(c:PySem.W.codeIn K cdv qual=true)(k:PySem.W.keepIn K (.ref f)=true)(i:PySem.W.isFn K (.ref f)=true)(J:∀us:i0,us.length=ps.length->bindArgs (PySem.W.fnOf x qual (uv st) (l7 st) (f9 st) .none kV D I an cdv ct) ⟨us,[]⟩=pure (ps.zip us)):Mef K C st x qual ps :=
 ⟨f,_,zw4 l c k,.all J,a,i,k⟩
def ExcO(o:Obj)(C:Addr):Prop:=∃vs,o.cls=.ref C/\o.data=.fields vs/\vs[2]?=some .none
def zqg:entryFor table "proto.unchain" = some Builtin.«proto.unchain»:=entryFor_of_fast (by kernel_rfl)
variable{E:Value->Shared->Prop}{oc:Obj}{prog:Program}
def zv2{α:Type}{x c:Addr}{ox:Obj}{D:lx}{Q:α->Shared->Prop}(J:A.handled=some (.ref c))(R:s.heap.get? c=some oc)(U:ExcO oc C)(I:s.heap.get? x=some ox)(V:ox.data=.fields D)(h2:2<D.size)(Y:c≠x)(h:E (.ref x) { s with heap:=s.heap.update x (Obj.mapFields (·.setIfInBounds 2 (.ref c))) }):wpAny (model prog w) A (raiseNew (.ref x):Sem α) Q E s:=by
 refine wpAny_bind (wpAny_handled ?_);rw[J];dsimp only;rw[if_pos (by simp[Y])];obtain⟨b,d,Z,a⟩:=U;refine wpAny_bind (wpAny_holding (wpAny_runValue (codeAny_builtin zqg ?_)));refine wpAny_bind (wpAny_field R Z a ?_);refine wpAny_bind (wpAny_pure (wpAny_pure ?_));refine wpAny_bind ?_;refine wpAny_bind (wpAny_load I ?_);rw[V];dsimp only;rw[if_pos h2];exact wpAny_update I (wpAny_throw h)
theorem ztb{it:Addr}{x left step:Int}{c:Addr}{Q:ka->Shared->Prop}(R:A.handled=some (.ref c))(J:s.heap.get? c=some oc)(U:ExcO oc C)(D:IsRangeIter s.heap it x left step)(I:left<=0)(V:∀h',Heap.ExtBut it s.heap h'->Q none { s with heap:=h' }):wpAny (model prog w) A (pyNext (.ref it)) Q E s:=by
 have hT:s.TypeIs (.ref it) "range_iterator":=⟨_,D,rfl⟩;refine wpAny_bind (wpAny_attempt (wpAny_callSpecial?_slot (name:=Str.ofString "__next__") hT F.slot_range_iterator_next
  (wpAny_call_entry F.slot_range_iterator_next hT F.entry_range_iterator_next ?_ (F.args_range_iterator_next_1 _))))
 show wpAny _ _ (field (.ref it) 0 >>= _) _ _ s;refine wpAny_bind (wpAny_field D rfl (x:=rawInt x) rfl ?_);show wpAny _ _ (field (.ref it) 1 >>= _) _ _ s;refine wpAny_bind (wpAny_field D rfl (x:=rawInt left) rfl ?_);refine wpAny_bind (wpAny_field D rfl (x:=rawInt step) rfl ?_);show wpAny _ _ (if left<=0 then _ else _) _ _ s;rw[if_pos I];refine wpAny_bind (wpAny_rule ?_);refine wpAny_bind ?_;refine wpAny_bind ?_;refine wpAny_bind (m:=firstArgMember _ _) (wpAny_of_eq (a:=Value.none) (by first | rfl | (simp only[firstArgMember];rfl)) ?_);refine wpAny_newObj_type ?_ (by size_fits);refine zv2 (show A.in1.handled=some (.ref c) from R) (aq _ (aq _ J)) U (cq _ rfl) rfl (by simp;lia) (cf (by rw[jc];exact gh (bi J))) ?_;refine wpAny_bind (wpAny_isInstance (T:="StopIteration") (b:=true) ⟨_,f8 _ (cq _ rfl) (by rfl),rfl⟩ isSubtype_stop ?_);refine wpAny_pure (V _ λb o Y e=>?_);rw[cr _ _ (λz=>absurd (z ▸ bi e) (by rw[jc];exact Nat.not_lt.mpr (m4 _)))];exact aq _ (aq _ e)
end L2
namespace L2
open PySem PySem.Spec PyProof.Rows PySem.W
structure ECls (K:ll) (C:Addr):Prop where
 ga:PySem.W.findIn K (.ref C) "__getattribute__" = some (some (.builtin "BaseException.__getattribute__"))
 hk:PySem.W.findIn K (.ref C) "__getattr__" = some none
 fd:PySem.W.findObj K C none "__class__" = some (.bind (.builtin "getset_descriptor.__get__") (.builtin "object.__class__"))
 ob:PySem.W.mroIn K C (.type "object")=some true
 be:PySem.W.mroIn K C (.type "BaseException")=some true
variable{K:ll}{w:World}{A:Around}{E:Value->Shared->Prop}{s:Shared}{x:Str}{C:Addr}{Q:Unit->Shared->Prop}
theorem zx5{prog:Program}{x:Addr}{ox:Obj}{Q:ka->Shared->Prop}(c:ECls K C)(X:K.In s.heap)(I:PySem.W.InstAt s.heap x ox C none)(h:Q (some (.ref C)) { s with toks:=s.toks+1 }):wpAny (model prog w) A (getAttr? (.ref x) "__class__") Q E s:=by
 obtain⟨D,g,d,t,os⟩:=s;have J:=I.type (M:=model prog w);have R:=looks_findIn (M:=model prog w) X c.ga;have U:=looks_findIn (M:=model prog w) X c.hk;have V:=looks_find (M:=model prog w) X I c.fd;have Y:=looks_mroIn (M:=model prog w) X c.be;refine wpAny_bind (wpAny_mkText (wpAny_bind (wpAny_attempt (wpAny_holding (wpAny_bind (J.at (wpAny_bind (R.at ?_))))))));refine wpAny_bind (m:=hookBefore _) (U.at ?_);refine wpAny_bind (wpAny_attempt (wpAny_holding ?_));refine wpAny_bind (wpAny_pure (wpAny_call ?_));refine codeAny_call_builtin F.excAttr_ValueError.ga.plain F.entry_bexc_ga ?_;have Z:Looks (model prog w) D (isInstance (.ref x) (.type "BaseException")) true:=J.andThen Y;refine wpAny_bind (Z.at ?_);repeat (first | wp_step | assumption)
 refine wpAny_loadPart_at I.at_ ?_;rw[I.cls];refine wpAny_pure (wpAny_bind (V.at ?_));refine wpAny_bind (wpAny_holding (wpAny_call (class_get (s:=⟨D,g,d,t+1,os⟩) (ox:=ox) (od:=none) X I c.ob ?_)));exact wpAny_pure (handed_on rfl (wpAny_pure h))
def Exo(o:Obj)(C:Addr):Prop:=ExcO o C/\o.dict=none
variable{h:Heap}{ea:Addr}{o:Obj}
def Exo.inst(e:h.get? ea=some o)(x:Exo o C):PySem.W.InstAt h ea o C none:=by
 obtain⟨⟨vs,h1,h2,_⟩,D⟩:=x;exact⟨e,h1,by unfold notCls;rw[h2],by rw[D];trivial⟩
def z02(c:ECls K C):KitX K (.ref ea) (.ref C) (λh=>∃ox,PySem.W.InstAt h ea ox C none):=by
 obtain⟨Z,D,_⟩:=dm.mp c.fd;unfold clsIn at D;split at D;case h_2=>cases D
 rename_i a d' U V R;exact⟨λ_ _ _ ⟨_,I⟩=>I.type,λ_ _ X _ b d f s' k q=>by
   exact wpAny_bind (wpAny_loadPart (k _ _ (X _ _ R)) (wpAny_pure q)),
  λh Y dd its n sl X J=>Bool.eq_false_iff.mpr λq=>by
   have e:C=Y:=Value.ref.inj (beq_iff_eq.mp q);subst e;have z:=(X _ _ R).symm.trans J
   (injection z with z;injection z with _ _ z;cases z),
  λX ⟨_,I⟩ k=>zx5 c X I k⟩
structure Hd (ea C:Addr) (X:Cx):Prop where
 hh:X.A.handled=some (.ref ea)
 ob:∃o,X.s₀.heap.get? ea=some o/\Exo o C
 h0:X.H₀ ea=none
 nf:ea∉X.fs
 nx:ea∉X.ex
variable{X:Cx}{pins:ln}{σ:St}{H:Hp}
def Hd.at(h:Hd ea C X)(I:Inv X pins σ H s):∃o,s.heap.get? ea=some o/\Exo o C/\H ea=none :=
 let ⟨o,e,c⟩:=h.ob;⟨o,I.base.keep ea o e h.h0 h.nf h.nx,c,I.base.free ea o e h.h0 h.nx⟩
def Hd.comp{N':ik}{sc:Scope}{cl:List (Str×Addr)}{D:Addr}{fp:kb}(h:Hd ea C X)(I:Inv X pins σ H s)(J:∀b∈fp,FpOk X pins H b):Hd ea C (jd X x N' sc cl D s H fp):=by
 obtain⟨U,R,_⟩:=h.ob;obtain⟨o,e,c,n⟩:=h.at I;have lt:=bi R;refine⟨h.hh,⟨o,e,c⟩,n,λz=>?_,λz=>?_⟩
 ·rcases b8.mp (I.stkSub ea z) with q | q
  ·exact absurd (bh lt (q ▸ I.ok.above)) (fz _)
  ·exact h.nf q
 ·rcases(J ea z).2.2.2.1 with q | q
  ·exact h.nx q
  ·exact absurd (bh lt q) (fz _)
variable{P:Program}
theorem ztc{tg:Expr}(it:Addr)(lo:Int)(n:Nat):wx (Hd ea C) P w K tg (Itr lo n) [it] it (λi h=>IsRangeIter h it (lo+(i:Nat)*1) ((n:Int)-(i:Nat)) 1) where
 mem:=by simp
 obj:=(zkd (P:=P) (w:=w) (K:=K) (tg:=tg) it lo n).obj
 keep:=(zkd (P:=P) (w:=w) (K:=K) (tg:=tg) it lo n).keep
 item:=by
  intro X hP k l Y i pins s σ H E I U st V;obtain⟨Z,a,f2,d,f,g⟩:=U it (by simp);have V:i<n:=V;refine wpAny_pyNext_range_item st (by lia) λh' D j=>?_;have m:Inv X pins σ H { s with heap:=h',toks:=s.toks+1 }:=I.turned (λb o J e=>j.extBut b o J e) Z a d f g;have p:lo+((i+1:Nat):Int)*1=lo+(i:Int)*1+1:=by lia
  have q:(n:Int)-((i+1:Nat):Int)=(n:Int)-(i:Int)-1:=by lia
  have R:IsRangeIter h' it (lo+((i+1:Nat):Int)*1) ((n:Int)-((i+1:Nat):Int)) 1:=by rw[p,q];exact D
  refine⟨_,rfl,zzi (s:={ s with heap:=h',toks:=s.toks+1 }) (n:="range_iterator") R rfl rfl (by decide) ⟨.int (lo+i),H,m,⟨s.toks,?_⟩,⟨rfl,rfl⟩,R,λb J=>(U b J).1⟩⟩;rw[Int.mul_one]
 done:=by
  intro X hP k l Y i pins s σ H E I U st V;obtain⟨Z,a,f2,d,f,g⟩:=U it (by simp);obtain⟨o,e,⟨c,_⟩,_⟩:=Y.at I;exact ztb Y.hh e c st (by have:n<=i:=V;lia) λh' r=>⟨rfl,I.turned (t':=s.toks) (λb o J e=>r b o J e) Z a d f g⟩
 self:=(zkd (P:=P) (w:=w) (K:=K) (tg:=tg) it lo n).self
variable{a e:Expr}
def fIsx(ea:Addr)(i:Nat)(b:Bool):FE:=λe=>match e[i]? with | some (some (.sh (.exc a)))=>if a=ea then some (.bl b,e) else none | _=>none
variable{b:Expr}
def z03(J:Hd ea C X)(R:ECls X.K C):ph X (.builtin "isinstance") (λxs H Q=>∃v u b,xs=[.ref ea,v]/\RelV v u/\(∀D,RelV v D->D=u)/\PySem.W.kitOne X.K (.ref C) u=some b/\Q (.bl b) H):=by
 intro pins s σ H xs us Q I r h;obtain⟨v,u,b,rfl,_,U,e,q⟩:=h;obtain⟨V,D,rfl,Y,rt⟩:=zzk r;cases (show V=Value.ref ea from Y);cases U D rt;obtain⟨o,Z,a,_⟩:=J.at I;exact d9 (z02 R) I.kIn ⟨o,a.inst Z⟩ e (λz=>nomatch z) λtk=>⟨.bl b,H,I.tok tk,rfl,q⟩
variable{b:Bool}{Nn Cn:ik}{i:Nat}{cn:Str}{G:Gd}{H0:Hp}{pos p' p1 p2:Pos}
def z2h{v:V}{u:Value}(c:Hd ea C X)(e:ECls X.K C)(f:PE X (.Name cn p2) (tC v))(h:RelV v u)(j:∀U,RelV v U->U=u)(l:PySem.W.kitOne X.K (.ref C) u=some b)(an:Ats Nn Cn X)(Y:Bn X "isinstance":=by walk_at "b")(D:Nn[i]?=some x:=by rfl)(Z:starEach [.Name x p1,.Name cn p2] X.env=(false,eval (.Name x p1) X.env)::starEach [.Name cn p2] X.env:=by rfl)(I:starEach [.Name cn p2] X.env=(false,eval (.Name cn p2) X.env)::starEach [] X.env:=by rfl)(J:(backTo pos (starEach [.Name cn p2] X.env)).any (·.1)=false:=by rfl) :
  DEx X G H0 (.Call (.Name "isinstance" p') [.Name x p1,.Name cn p2] [] pos) (fIsx ea i b) :=
 ⟨(y9 (z03 c e) Y.g Y.m zub (nc ((an.a D).pe) (nc f pj I) Z) (by decide) (by decide) Z J).imp λσ H Q n=>by
  obtain⟨W,env,d,env',ok,q,k⟩:=n;unfold fIsx at q;split at q
  ·rename_i s o
   split at q;case isFalse=>cases q
   rename_i R;subst R;cases q;obtain⟨t,p,r⟩:=ok.slot i _ o;obtain rfl:=Rep.exc_ r;exact⟨_,p,v,u,b,rfl,h,j,l,k W _ H Step.refl ok (.bl b)⟩
  ·cases q⟩
variable{g:FE}
def z8c{R:Addr}(V:Hd ea C X)(Y:ECls X.K C)(Z:X.mg cn=some (.ref R))(a:PySem.W.kitOne X.K (.ref C) (.ref R)=some b)(an:Ats Nn Cn X)(c:Gl X cn:=by walk_at "g")(D:(cn==("__debug__" : Str))=false:=by decide)(d:Bn X "isinstance":=by walk_at "b")(I:Nn[i]?=some x:=by rfl)(e:starEach [.Name x p1,.Name cn p2] X.env=(false,eval (.Name x p1) X.env)::starEach [.Name cn p2] X.env:=by rfl)(J:starEach [.Name cn p2] X.env=(false,eval (.Name cn p2) X.env)::starEach [] X.env:=by rfl)(U:(backTo pos (starEach [.Name cn p2] X.env)).any (·.1)=false:=by rfl) :
  DEx X G H0 (.Call (.Name "isinstance" p') [.Name x p1,.Name cn p2] [] pos) (fIsx ea i b):=z2h V Y (zwf (v:=.ref R) c Z rfl D) rfl (λ_ z=>z) a an d I e J U
def z4j:bootBuiltins "ValueError" = some (.type "ValueError"):=by decide +kernel
def z4k(U:Hd ea C X)(V:ECls X.K C)(Y:PySem.W.kitOne X.K (.ref C) (.type "ValueError")=some b)(an:Ats Nn Cn X)(R:Bn X "ValueError":=by walk_at "b")(Z:Bn X "isinstance":=by walk_at "b")(D:Nn[i]?=some x:=by rfl)(a:starEach [.Name x p1,.Name "ValueError" p2] X.env=(false,eval (.Name x p1) X.env)::starEach [.Name "ValueError" p2] X.env:=by rfl)(I:starEach [.Name "ValueError" p2] X.env=(false,eval (.Name "ValueError" p2) X.env)::starEach [] X.env:=by rfl)(J:(backTo pos (starEach [.Name "ValueError" p2] X.env)).any (·.1)=false:=by rfl) :
  DEx X G H0 (.Call (.Name "isinstance" p') [.Name x p1,.Name "ValueError" p2] [] pos) (fIsx ea i b):=z2h U V (zwg (v:=.ty "ValueError") R.g R.m z4j rfl) rfl (λ_ z=>z) Y an Z D a I J
def bTup:mu->mv | [.lst ds]=>some (.tup ds) | _=>none
def z04:bootBuiltins "tuple" = some (.type "tuple"):=by decide +kernel
def z8d:uq X G H0 (λxs H Q=>∃p ys,xs=[.ref p]/\((SqL X.K H p ys/\∀l,H l=none->Q (.ref l) (upd H l (.tup ys)))\/(SqT X.K H p ys/\Q (.ref p) H))) bTup:=by
 intro W env σ H vs ds d Q ok r e k;unfold bTup at e;split at e
 ·cases e
  obtain⟨v,rfl,D⟩:=t0 r;obtain⟨a,us,rfl,h,r⟩:=D.lst_;refine⟨a,us,rfl,.inl ⟨h.sq,λl I=>?_⟩⟩;have sm:Same H (upd H l (.tup us)):=nn I;exact k _ _ (Step.same sm) (ok.same sm) (.tup kl (ok.reps (Step.same sm) r))
 ·cases e
variable{b:Expr}{F:FA}
def z4l(I:DAx X G H0 [e] F)(D:Bn X "tuple":=by walk_at "b")(J:starEach [e] X.env=(false,eval e X.env)::starEach [] X.env:=by rfl):DEx X G H0 (.Call (.Name "tuple" p') [e] [] pos) (du bTup F):=zua zpq z8d D.g D.m z04 I (by decide) (by decide) J rfl
abbrev Cx.hush(X:Cx)(A:Around)(p:ln):Cx:={ X with A:=A,calm:=false,pn:=p++X.pn }
variable{p:ln}
def Inv.hush(I:Inv X pins σ H s)(hA:A.frames=X.A.frames)(D:∀q∈p,s.heap.get? q.1=some q.2/\H q.1=none/\q.1≠X.env.locals/\q.1∉X.fs/\∀v,q.2.data≠.cell v):Inv (X.hush A p) pins σ H s :=
 ⟨⟨I.ok.mod,I.ok.kind,I.ok.glob,I.ok.blt,I.ok.above,I.ok.inj,I.ok.has,I.ok.cab,(λz=>nomatch z),hA.trans I.ok.frames,I.ok.stk,I.ok.exf,I.ok.bs,I.ok.bsz,I.ok.noex,I.ok.exfs,I.ok.funs,I.ok.frf⟩,I.os,I.bare,I.base,I.loc,I.cell,I.free,I.freeC,λq hq=>by
  rw[d5] at hq;rcases de.mp hq with hq | hq
  ·exact D q hq
  ·exact I.pin q hq,I.hok,I.len⟩
def Inv.unhush(ok:X.Ok)(J:Inv (X.hush A p) pins σ H s):Inv X pins σ H s :=
 ⟨ok,J.os,J.bare,J.base,J.loc,J.cell,J.free,J.freeC,λq D=>J.pin q (by rw[d5];exact cb _ D),J.hok,J.len⟩
structure KOk (P:Program) (w:World) (K:ll) (mg:Str->ka) (base:Heap) (k:Nat) (f:Addr) (fd:FuncData) (ps:ik) (kd:Str->mv):Prop where
 len:ps.length=1
 run:∀(A:Around) (outer:k7) (s:Shared) (H:Hp) (ea C:Addr) (c:Str) (o:Obj) (d:D) (O:Addr->Prop) (Q:VK) (args:Args),Room k { A with handled:=none }->A.handled=some (.ref ea)->Env0 P w K mg base A outer s H->BindsTo s fd args (ps.zip [.ref ea]) ->
  s.heap.get? ea=some o->Exo o C->Cl K c C->H ea=none->ea∉frs outer->kd c=some d->(∀v H',Same H H'->Rep K H' (λa=>O a\/H a=none) d v->Q v H')->codeAny (model P w) A (.call (.ref f) args) (CR CX0 outer P w H s Q E0) s
abbrev cxH(P:Program)(w:World)(K:ll)(mg:Str->ka)(base:Heap)(N:ik)(qual:Str)(scope:Scope)(f:Addr)(cdv:Value)(A:Around)(outer:k7)(s:Shared)(H:Hp):Cx :=
 ((cxOf CX0 P w K mg base N qual scope f cdv { A with handled:=none } outer s H E0).nox).hush (A.deeper (envOfC qual scope s.heap.objs.size f cdv)) []
def runK(n:Nat)(g:Addr->Str->FS)(c:Str)(d:D):Prop:=∀ea,∃e',g ea c (ji n [.exc ea])=some (.rt d,e')
variable{g:Addr->Str->FS}{st:Stmt}{N ps:ik}{k:Nat}{kd:Str->mv}{mg:Str->ka}{base:Heap}
theorem fn_K{qual:Str}{f:Addr}{fd:FuncData}{n:Nat}(F:Fun K x qual st f fd)(S:rn N ps (f9 st))(T:n=N.length)(E:ps.length=1)(j:∀c d,kd c=some d->runK n g c d)(U:∀(cdv:Value) (A:Around) (outer:k7) (s:Shared) (H:Hp) (ea C:Addr) (c:Str) (G:Gd) (H0:Hp),(kd c).isSome=true->Cl K c C->Hd ea C (cxH P w K mg base N qual (f9 st) f cdv A outer s H)->DBx (cxH P w K mg base N qual (f9 st) f cdv A outer s H) G H0 (l7 st) (g ea c)) :
  KOk P w K mg base (k+1) f fd ps kd:=by
 subst T;refine⟨E,λA outer s H ea C c o d O Q args X hh D hb ho hx hc hH l L hQ=>?_⟩;obtain⟨oc,od,kV,aa,pm,an,cdv,ct,osl,rfl,lk,m⟩:=F.ex;have hl:[V.ref ea].length=ps.length:=E.symm;have M:K.In s.heap:=D.mod.kin.keeps λb o e=>(D.bs b o e).1;have p:s.heap.NoLimit:=D.mod.nolimit.keeps λb o e=>(D.bs b o e).1;have Y:∀y∈ps.zip [Value.ref ea],(f9 st).names.lookup y.1=some .local\/((f9 st).names.lookup y.1=some .cell/\((cellsFrom (s.heap.objs.size+1) (f9 st).names []).lookup y.1).isSome=true):=λ⟨n,v⟩ hy=>by
  rcases S.par n (j6 hy).1 with q | q
  ·exact .inl q
  ·exact .inr ⟨q,l8 _ _ _ (.inl q)⟩
 refine codeAny_call_function (A:=A) X.depth (M _ _ lk) rfl S.co S.gen rfl (PySem.W.codeRec_of M m) (hb _ _ _ _ ?_);refine wpAny_newFunctionEnv_cells S.kind Y λenv he r x=>?_;subst he;refine⟨p.keeps x.toInCall.keep,codeAny_func ?_⟩;have e1:Env0 P w K mg base { A with handled:=none } outer s H:=⟨D.frames,D.mod,D.bs,D.bsz,D.funs,D.frf,D.hok,D.bare⟩;have I0:Inv (cxOf CX0 P w K mg base N qual (f9 st) f cdv { A with handled:=none } outer s H E0) [] (start N [.ref ea]) H r:=zrd S rfl e1 hl (.cons rfl .nil) x;have I:Inv (cxH P w K mg base N qual (f9 st) f cdv A outer s H) [] (start N [.ref ea]) H r:=(I0.wish _).hush rfl λq hq=>absurd hq (by simp);have hD:Hd ea C (cxH P w K mg base N qual (f9 st) f cdv A outer s H):=⟨hh,⟨o,ho,hx⟩,hH,l,by simp[cxOf]⟩;obtain⟨e',hg⟩:=j c d L ea;have t:=(U cdv A outer s H ea C c (gd λa=>O a\/H a=none) H (by rw[L];rfl) hc hD).out [] r (start N [.ref ea]) H { nx:=λ_ H'=>Q .non H',rt:=Q } I
  ⟨NoW,_,_,e',u4 (K:=K) (O:=O) (.cons (.exc ea) .nil),hg,λW' R v H' st z rp=>hQ v H' z.stay (rp.mono (λ_ _ h=>h) λa us o h=>⟨o.1,h⟩)⟩
 refine wpAny_mono t (λfl s' Z=>?_) λe s' Z=>False.elim Z;have i:∀ {R:St} {H':Hp} {v:V} {u:Value},Inv (cxH P w K mg base N qual (f9 st) f cdv A outer s H) [] R H' s'->RelV v u->Q v H'->CE outer P w H s Q u s' :=
  λ{R H' v u} J B q=>⟨v,H',J.os,J.bare,J.base,J.hok,B,q⟩
 cases fl with
 | ret u =>
   obtain⟨v,R,H',J,B,q⟩:=Z;exact i J B q
 | next =>
   obtain⟨R,H',J,q⟩:=Z;exact i (v:=V.non) (u:=Value.none) J rfl q
 | brk =>
   obtain⟨_,_,_,q⟩:=Z;exact False.elim q
 | cont =>
   obtain⟨_,_,_,q⟩:=Z;exact False.elim q
def KCl(P:Program)(w:World)(K:ll)(mg:Str->ka)(base:Heap)(x:Str)(k:Nat)(kd:Str->mv):Prop :=
 ∃f fd ps,KOk P w K mg base k f fd ps kd/\mg x=some (.ref f)/\PySem.W.keepIn K (.ref f)=true/\Binds K fd ps []/\(x==("__debug__" : Str))=false
def fKd(ea:Addr)(c:Str)(kd:Str->mv)(i:Nat):FE:=λe=>match e[i]? with | some (some (.sh (.exc a)))=>if a=ea then(kd c).map λd=>(d,e) else none | _=>none
variable{c:Str}
theorem z4m{y:Str}{p:Pos}(j:X.A.handled=some (.ref ea))(l:(ea,o)∈X.pn)(m:Exo o C)(n:Cl X.K c C)(t:KCl X.prog X.w X.K X.mg X.base x k kd)(B:Room k { X.A with handled:=none })(an:Ats Nn Cn X)(E:Gl X x)(R:Nn[i]?=some y)(b:starEach [.Name y p1] X.env=(false,eval (.Name y p1) X.env)::starEach [] X.env)(U:(backTo pos (starEach [] X.env)).any (·.1)=false):DEx X G H0 (.Call (.Name x p) [.Name y p1] [] pos) (fKd ea c kd i):=⟨λpins s σ H Q I Y=>by
 obtain⟨W,env,d,env',ok,q,k⟩:=Y;obtain⟨f,fd,ps,F,L,M,N,Z⟩:=t;unfold fKd at q;split at q;case h_2=>cases q
 rename_i a O;split at q;case isFalse=>cases q
 rename_i P;subst P;cases e2:kd c with
 | none=>rw[e2] at q;cases q
 | some d' =>
   rw[e2] at q;cases q;obtain⟨v',S,T⟩:=ok.slot i _ O;obtain rfl:=Rep.exc_ T;refine wpAny_Call_Name_kw (xq I E L ?_ Z);refine je (h₀:=X.base) I.ok.mod.kin M (thn ((nc (an.a R).pe pj b) pos pins s σ H (λvs H1=>vs=[V.ref a]/\H1=H) I ⟨_,S,rfl,rfl⟩) λus g Y=>?_) b U;obtain⟨vs,H1,D,r,q1,q2⟩:=Y;refine⟨D.kIn,?_⟩;subst q1 q2;obtain⟨u,rfl,hu⟩:=ww r;cases (show u=Value.ref a from hu);obtain⟨g1,g2,g3,g4,_⟩:=D.pin (a,o) (dy _ l);have hl:([Value.ref a]++[]).length=ps.length:=by rw[F.len];rfl
   have hz:=N g [Value.ref a] D.kIn hl;refine wpAny_call (codeAny_mono (F.run X.A X.stack g H1 a C c o _ (Ow G W) Q ⟨[.ref a],[]⟩ B j D.env0 hz g1 m n g2 (λz=>?_) e2 λv H2 sm r2=>?_) λr s' J=>?_)
   ·rcases b8.mp (D.stkSub a z) with z | z
    ·exact g3 z
    ·exact g4 z
   ·refine k W v H2 (Step.same sm) (ok.same sm) (r2.mono (λ_ _ h=>h) λa us o h=>⟨?_,h⟩)
    rcases o with o | o
    ·exact o
    ·exact⟨ok.good a (ok.stay.free o),λz=>by obtain⟨_,us,q⟩:=ok.wl a z;rw[o] at q;cases q⟩
   ·cases r with
    | error e=>exact False.elim J
    | ok fl =>
      cases fl with
      | ret u=>exact D.after J
      | next=>exact False.elim J
      | brk=>exact False.elim J
      | cont=>exact False.elim J⟩
variable{M:Model}
def zx6(I:Inv X pins σ H s)(r:X.N.Nodup)(hi:X.N[i]?=some x)(t:X.env.kindOf x=some .local)(h:∀s',Inv X pins (σ.set i none) H s'->Q () s'):wpAny M A (do bindName X.env x .none;unbindBehindTheSuite X.env x pos) Q E s:=by
 obtain⟨m,u,w⟩:=id I.loc;have R:(X.env.scope.kind==.class || (X.env.scope.kind==.module && X.env.locals != X.env.globals))=false:=by rw[I.ok.kind];rfl
 have U:i<σ.length:=by rw[I.len];exact(aj.mp hi).1
 refine wpAny_nameGoes_keeps t u R λh' v Z D=>?_;refine h _ ⟨I.ok,I.os,I.bare,⟨λb o e n a V=>?_,λb o e n a V=>?_,I.base.free,λb o e V=>?_,I.base.tups,I.base.frzs,I.base.tbls⟩,⟨_,Z,λj y B J Y C=>?_⟩,λy c e=>?_,I.free,I.freeC,λp F=>?_,λb G e=>?_,by simpa using I.len⟩
 ·exact(D.2 b (cf (bh (bi e) I.ok.above))).trans (I.base.keep b o e n a V)
 ·obtain⟨sl,J⟩:=I.base.slot b o e n a V
  exact⟨sl,(D.2 b (cf (bh (bi e) I.ok.above))).trans J⟩
 ·obtain⟨o',J⟩:=I.base.there b o e V
  exact⟨o',(D.2 b (cf (bh (bi e) I.ok.above))).trans J⟩
 ·by_cases f:j=i
  ·subst f
   rw[d8 U] at Y;cases Y
  ·rw[dh (Ne.symm f)] at Y
   obtain⟨K,L,q⟩:=w j y B J Y C;refine⟨K,L,?_⟩;rcases q with⟨k,e⟩ | ⟨k,c,e,z⟩
   ·refine .inl ⟨k,?_⟩
    have:y≠x:=λe=>f (zpl r J (e ▸ hi));simp[this,e]
   ·exact .inr ⟨k,c,e,z.sameBut D (I.cne y c e)⟩
 ·obtain⟨g,z⟩:=I.cell y c e
  exact⟨g,z.sameBut D (I.cne y c e)⟩
 ·obtain⟨e,n,l,O,d⟩:=I.pin p F
  exact⟨(D.2 p.1 l).trans e,n,l,O,d⟩
 ·refine(I.hok b G e).stay (λc g hc q=>(D.2 c ?_).trans q) (λ_ q=>q) λ_ _ q=>q
  rintro rfl;rcases hc with hc | hc
  ·rw[<-hc,I.free] at e;cases e
  ·rw[I.free] at hc;cases hc
def ObjOk.here{a:Addr}{o:HO}(x:ObjOk P w H h a o):∃u,h.get? a=some u:=by
 induction o with
 | lst xs=>obtain⟨_,_,_,_,e⟩:=x;exact⟨_,e⟩
 | tup xs=>obtain⟨_,_,_,o,e,_⟩:=x;exact⟨_,e⟩
 | dK kvs=>obtain⟨_,_,_,_,o,_,_,e,_⟩:=x;exact⟨_,e⟩
 | dT kvs=>obtain⟨_,_,_,_,o,_,_,e,_⟩:=x;exact⟨_,e⟩
 | set S n=>obtain⟨o,_,_,_,e,_⟩:=x;exact⟨_,e⟩
 | ins C dx fs=>exact⟨_,x.2.2.2.1⟩
 | own _=>exact x
 | xd fs=>obtain⟨_,⟨_,_,_,e,_⟩,_⟩:=x;exact⟨_,e⟩
 | met f y=>exact⟨_,x⟩
 | rng lo hi=>obtain⟨_,_,_,e⟩:=x;exact⟨_,e⟩
 | frz o u _=>exact⟨_,x.1⟩
 | tbl ps=>exact⟨_,x⟩
 | ext φ=>exact x.2.1
variable{W:Addr->Prop}{env:DE0}
def Ok.unset(ok:Ok K G H0 W env σ H)(i:Nat):Ok K G H0 W (env.set i none) (σ.set i none) H:=by
 have gt:∀ {α:Type} {l:List (Option α)} {j:Nat} {a:α},(l.set i none)[j]?=some (some a)->i≠j/\l[j]?=some (some a):=λ{α l j a} e=>by
  by_cases h:i=j
  ·subst h
   rw[gi] at e;simp at e
  ·rw[dh h] at e
   exact⟨h,e⟩
 refine⟨ok.stay,ok.good,ok.wl,λj s e=>?_,λj I s s' v J a D R U V=>ok.uniq j I s s' v J a (gt D).2 (gt R).2 (gt U).2 (gt V).2,by rw[dq,dq];exact ok.len⟩;obtain⟨h,e⟩:=gt e;obtain⟨v,D,h1⟩:=ok.slot j s e;exact⟨v,by rw[dh h];exact D,h1⟩
abbrev Cx.tr(X:Cx)(E:Value->Shared->Prop)(pp:ln):Cx:={ X with xe:=E,pn:=pp++X.pn }
def Inv.tr(I:Inv X pins σ H s):Inv (X.tr E pins) [] σ H s :=
 ⟨⟨I.ok.mod,I.ok.kind,I.ok.glob,I.ok.blt,I.ok.above,I.ok.inj,I.ok.has,I.ok.cab,I.ok.hd,I.ok.frames,I.ok.stk,I.ok.exf,I.ok.bs,I.ok.bsz,I.ok.noex,I.ok.exfs,I.ok.funs,I.ok.frf⟩,I.os,I.bare,I.base,I.loc,I.cell,I.free,I.freeC,λq D=>I.pin q (by
  rw[df] at D;exact de.mpr (de.mp D).symm),I.hok,I.len⟩
variable{pp:ln}
def Inv.untr(ok:X.Ok)(I:Inv (X.tr E pins) pp σ H s):Inv X pins σ H s :=
 ⟨ok,I.os,I.bare,I.base,I.loc,I.cell,I.free,I.freeC,λq D=>I.pin q (dy _ (de.mpr (de.mp D).symm)),I.hok,I.len⟩
variable{cs:ik}
def Ats.tr(h:Ats N cs X):Ats N cs (X.tr E pp):=⟨h.n,λi x e=>let z:=h.get i x e;⟨z.n,z.v,z.d,z.c⟩,h.ck⟩
def Tos.tr(h:Tos N X):Tos N (X.tr E pp):=⟨λi x e=>let z:=h.to i x e;⟨z.nd,z.n,z.l,z.f⟩⟩
def Ats.hush(h:Ats N cs X):Ats N cs (X.hush A pp):=⟨h.n,λi x e=>let z:=h.get i x e;⟨z.n,z.v,z.d,z.c⟩,h.ck⟩
def Tos.hush(h:Tos N X):Tos N (X.hush A pp):=⟨λi x e=>let z:=h.to i x e;⟨z.nd,z.n,z.l,z.f⟩⟩
def sTry(u:FS)(i j:Nat)(kd:Str->mv):FS:=λe=>(u e).bind λr=>match r.1 with | .xc c=>(kd c).map λd=>(.nx,((r.2.set i none).set j (some (.sh d))).set i none) | _=>some r
def set3{α:Type}(l:List (Option α))(i j:Nat)(a b:Option α):((l.set i a).set j b).set i none=((l.set i none).set j b).set i none:=by
 by_cases h:i=j
 ·subst h;simp[List.set_set]
 ·rw[List.set_comm _ _ h,List.set_set,List.set_comm _ _ h,List.set_set]
variable{e:Addr}{H':Hp}{s':Shared}
def Fly.obj(R:X.stack=X.env::X.outer)(U:X.env.frame=some X.env.locals)(f:Fly X.prog X.w X.stack H s C e H' s'):∃o,s'.heap.get? e=some o/\Exo o C/\H' e=none/\e≠X.env.locals/\e∉X.fs/\∀v,o.data≠.cell v:=by
 obtain⟨B,x,b,V,un,os,c⟩:=f;obtain⟨Y,vs,T,d,ts,J,Z,gd,I,g,a,_⟩:=x.tr;have D:e∉frs X.stack:=λz=>by
  obtain⟨_,h,y,n⟩:=x.fr.mem z;rw[J] at y;cases y;exact n vs I
 rw[R] at D;have D:e∉X.env.locals::X.fs:=by unfold frs at D;rw[j9,U] at D;exact D
 refine⟨Y,J,⟨⟨vs,Z,I,a⟩,gd⟩,?_,λz=>D (z ▸ bu),λz=>D (ay _ z),λv z=>by rw[I] at z;cases z⟩;cases q:H' e with
 | none=>rfl
 | some o =>
   obtain⟨u,z⟩:=(V e o q).here;rw[x.new] at z;cases z
def Fly.flight(I:Inv X pins σ H s)(f:Fly X.prog X.w X.stack H s C e H' s')(h:∀h2,Fly X.prog X.w X.stack H s C e H' { s' with heap:=h2 }->Q () { s' with heap:=h2 }):wpAny M A (setFlight (.ref e) none) Q E s':=by
 obtain⟨B,x,U,Y,un,os,Z⟩:=f;refine zsx x λh2 V a c=>h h2 ⟨B,V,U,Y,⟨λb o q n D _=>V.stay b o (U b o q n D),λb o q n D J=>?_,un.free,λb o q J=>?_,un.tups,un.frzs,un.tbls⟩,os,Z⟩
 ·obtain⟨sl,z⟩:=un.slot b o q n D J
  obtain⟨_,i,y,d⟩:=I.stack.mem D;rw[q] at y;cases y;obtain⟨R,g⟩:=a b _ z d;exact⟨R,g⟩
 ·obtain⟨o',z⟩:=un.there b o q J
  exact c b o' z
def z4n{body:List Stmt}{u:FS}{j jr:Nat}{R y z:Str}{RA:Addr}{T m P p6 p7:Pos}(hR:X.mg R=some (.ref RA))(B:∀c C,(kd c).isSome=true->Cl X.K c C->PySem.W.exmOne X.K (.ref C) (.ref RA)=some true)(kc:KCl X.prog X.w X.K X.mg X.base x k kd)(rm:Room jr X.A)(an:Ats Nn Cn X)(V:Tos Nn X)(hb:∀E pp,Ats Nn Cn (X.tr E pp)->Tos Nn (X.tr E pp)->DBx (X.tr E pp) G H0 body u)(F:k<=jr:=by decide)(aa:Gl X R:=by walk_at "g")(ab:Gl X x:=by walk_at "g")(hi:Nn[i]?=some y:=by rfl)(hj:Nn[j]?=some z:=by rfl)(hl:X.env.kindOf y=some .local:=by kernel_rfl)(hX:X.stack=X.env::X.outer:=by rfl)(hf:X.env.frame=some X.env.locals:=by rfl)(ag:(R==("__debug__" : Str))=false:=by decide)(he:starEach [.Name y m] X.env=(false,eval (.Name y m) X.env)::starEach [] X.env:=by rfl)(al:(backTo P (starEach [] X.env)).any (·.1)=false:=by rfl)(ap:swapsWith (.Call (.Name x T) [.Name y m] [] P) (some (.Name z p2)) p6.line X.env=pure false:=by rfl) :
  DSx X G H0 (.Try body [.ExceptHandler (some (.Name R p1)) (some y) [.Assign [.Name z p2] (.Call (.Name x T) [.Name y m] [] P) p6] p7] [] [] pos) (sTry u i j kd):=⟨λpins s σ H Dn I zq=>by
 obtain⟨W,env,fl,env',ok,q,k⟩:=zq;unfold sTry at q;cases e1:u env with
 | none=>rw[e1] at q;cases q
 | some r =>
   obtain⟨L,U⟩:=r;rw[e1,ac] at q;refine wpAny_Try_except ?_;refine wpAny_mono ((hb _ pins an.tr V.tr).out [] s σ H Dn I.tr ⟨W,env,L,U,ok,e1,?_⟩) (λf s1 h1=>?_) (λe s1 h1=>h1)
   ·cases L with
    | xc c=>?_
    | nx=>cases q;exact k
    | bk=>cases q;exact k
    | ct=>cases q;exact k
    | rt d=>cases q;exact k
    | rf d=>cases q;exact k
    | r2 d=>cases q;exact k
    | ra d d'=>cases q;exact k
    cases e2:kd c with
    | none=>simp only[e2,ma] at q;cases q
    | some d =>
      simp only[e2,ai] at q;cases q;intro W' D H' C hc st N ar e s' xs;refine xs.come hX hf λh2 s1 H1 I1 f=>?_;have J:Inv X pins D H' { s' with heap:=h2 }:=(f.inv I1).untr I.ok;obtain⟨o,Q,g2,_⟩:=Fly.obj (X:=X) hX hf f;refine wpAny_handleBy_cons (codeAny_handlers_test ?_) (λz=>nomatch z);refine xq (J.hush (A:=X.A.mark (some (.ref e))) (p:=[]) rfl (by simp)) aa hR ?_ ag;refine(exm_one (M:=model X.prog X.w) J.kIn (g2.inst Q).type (B c C (by rw[e2];rfl) hc)).here ?_;refine codeAny_handlers_suite_as ?_;refine f.flight I1 λh3 f3=>?_;have J3:Inv X pins D H' { s' with heap:=h3 }:=(f3.inv I1).untr I.ok;obtain⟨O,Q,g2,g3,g4,g5,g6⟩:=Fly.obj (X:=X) hX hf f3;have a0:i<U.length:=by
       rw[N.len,J3.len];exact(aj.mp (V.t hi).n).1
      refine znk (X:=X.hush (X.A.mark (some (.ref e))) []) (J3.hush rfl (by simp)) (V.t hi).nd (V.t hi).n (V.t hi).l (v:=.ref e) rfl (λs4 I4 zq=>?_) (V.t hi).f;obtain⟨a,sb,ha⟩:=zq;have ge:s4.heap.get? e=some O:=(sb.2 e λz=>by
       rcases ha with ha | ha
       ·exact g4 (z.trans ha)
       ·obtain⟨v,oc,h1,h2⟩:=J3.cell _ _ ha
        rw[<-z] at h1;cases Q.symm.trans h1;exact g6 v h2).trans Q
      have I5:Inv ((X.hush (X.A.mark (some (.ref e))) [(e,O)]).nox) pins (D.set i (some (.ref e))) H' s4:=((I4.unhush I.ok).hush (A:=X.A.mark (some (.ref e))) (p:=[(e,O)]) rfl (λq hq=>by cases cw.mp hq;exact⟨ge,g3,g4,g5,g6⟩)).wish _;have hs:=(di (fj (X:=(X.hush (X.A.mark (some (.ref e))) [(e,O)]).nox) (G:=G) (H0:=H0) (pos:=p6) (p':=p2) V.hush.nox (z4m (C:=C) (c:=c) (o:=O) (p:=T) (p1:=m) (pos:=P) rfl (dy _ bu) g2 hc kc ⟨rfl,(rm.mono F).dp,(rm.mono F).un⟩ an.hush.nox ab hi he al) hj ap)).out pins s4 _ H' { nx:=λY S=>∃g,Step W' H' g S/\Ok X.K G H0 g ((U.set i (some (.sh (.exc e)))).set j (some (.sh d))) Y S,rt:=λ_ _=>False } I5 ⟨W',U.set i (some (.sh (.exc e))),.nx,_,N.set (.exc e),by
       unfold sSet fKd;rw[d8 a0];dsimp only;rw[if_pos rfl,e2];rfl,λg Y S Z b=>⟨g,Z,b⟩⟩
      refine wpAny_mono hs (λf5 s5 h=>?_) (λx s5 h=>False.elim h);cases f5 with
      | next =>
        obtain⟨Y,S,J5,g,Z,b⟩:=h;refine zx6 (J5.unwish.unhush I.ok) (V.t hi).nd (V.t hi).n hl λs6 J7=>⟨_,_,J7,k g _ _ (st.trans Z) ?_⟩;rw[<-set3];exact b.unset i
      | brk=>obtain⟨_,_,_,z⟩:=h;exact z.elim
      | cont=>obtain⟨_,_,_,z⟩:=h;exact z.elim
      | ret u=>obtain⟨_,_,_,_,_,z⟩:=h;exact z.elim
   ·cases f with
    | next =>
      obtain⟨D,H',J,q⟩:=h1;exact wpAny_execs_nil ⟨D,H',J.untr I.ok,q⟩
    | brk=>obtain⟨D,H',J,q⟩:=h1;exact⟨D,H',J.untr I.ok,q⟩
    | cont=>obtain⟨D,H',J,q⟩:=h1;exact⟨D,H',J.untr I.ok,q⟩
    | ret u=>obtain⟨v,D,H',J,r,q⟩:=h1;exact⟨v,D,H',J.untr I.ok,r,q⟩⟩
def l4:ik:=["UnknownStack", "EmptyStack", "UnknownPlace", "BadHours", "BadLoss", "BadCount", "HouseFull", "DeedsFull", "NothingWaits", "NothingDone", "ShortOrder", "TooManyOrders", "NotGone"]
def qz:ik:=["unknown stack", "empty stack", "unknown place", "bad hours", "bad loss", "bad count", "house full", "deeds full", "nothing waits", "nothing done", "short order", "too many orders", "not gone"]
def yo(c:Str):k9:=(l4.zip qz).lookup c
def kdT(c:Str):mv:=(yo c).map λw=>.tup [.str "refused",.str w]
def z4o(K:ll)(C:Addr):Bool:=findIn K (.ref C) "__getattribute__"==some (some (.builtin "BaseException.__getattribute__")) && findIn K (.ref C) "__getattr__"==some none && (match findObj K C none "__class__" with | some (.bind (.builtin g) (.builtin a))=>g=="getset_descriptor.__get__" && a=="object.__class__" | _=>false) && mroIn K C (.type "object")==some true && mroIn K C (.type "BaseException")==some true
def refB(K:ll)(n:Str)(p:Addr->Bool):Bool:=match nsIn K mainGlobals n with | some (some (.ref R))=>p R | _=>false
def z8e(K:ll):Bool:=l4.all λc=>refB K c λC=>z4o K C && kitOne K (.ref C) (.type "ValueError")==some true && refB K "RotError" (λR=>exmOne K (.ref C) (.ref R)==some true) && l4.all λn=>refB K n λR=>kitOne K (.ref C) (.ref R)==some (c==n)
def zqh{n:Str}{p:Addr->Bool}(h:refB K n p=true):∃R,nsIn K mainGlobals n=some (some (.ref R))/\p R=true:=by
 unfold refB at h;split at h
 ·exact⟨_,by assumption,h⟩
 ·cases h
def z05(h:z4o K C=true):ECls K C:=by
 unfold z4o at h;simp only[dw,beq_iff_eq] at h;obtain⟨⟨⟨⟨h1,h2⟩,D⟩,I⟩,J⟩:=h;refine⟨h1,h2,?_,I,J⟩;split at D
 ·rename_i g a e
  rw[dw,beq_iff_eq,beq_iff_eq] at D;rw[e,D.1,D.2]
 ·cases D
def zpa(h:(kdT c).isSome=true):c∈l4:=by
 unfold kdT at h;rw[Option.isSome_map] at h;obtain⟨w,e⟩:=li.mp h;exact(j6 (eg e)).1
structure KFacts (K:ll) (mg:Str->ka):Prop where
 b:z8e K=true
 m:∀n∈("RotError" : Str)::l4,∀R,nsIn K mainGlobals n=some (some (.ref R))->mg n=some (.ref R)
def kf_mk(X:K.In h)(G:h.Ns mainGlobals mg)(b:z8e K=true):KFacts K mg:=⟨b,λ_ _ _ e=>mg_of X G e⟩
def KFacts.all(k:KFacts K mg)(U:(kdT c).isSome=true)(cl:Cl K c C):ECls K C/\kitOne K (.ref C) (.type "ValueError")=some true/\(∃R,mg "RotError" = some (.ref R)/\exmOne K (.ref C) (.ref R)=some true)/\∀n∈l4,∃R,mg n=some (.ref R)/\kitOne K (.ref C) (.ref R)=some (c==n):=by
 have h:=gv.mp k.b c (zpa U);obtain⟨Z,e,h⟩:=zqh h;cases e.symm.trans cl;simp only[dw,beq_iff_eq] at h;obtain⟨⟨⟨h1,h2⟩,D⟩,I⟩:=h;obtain⟨R,V,D⟩:=zqh D;refine⟨z05 h1,h2,⟨R,k.m _ bu R V,beq_iff_eq.mp D⟩,λn J=>?_⟩;obtain⟨R,Y,I⟩:=zqh (gv.mp I n J);exact⟨R,k.m _ (ay _ J) R Y,beq_iff_eq.mp I⟩
def KFacts.rot(k:KFacts K mg):∃R,mg "RotError" = some (.ref R)/\∀c C,(kdT c).isSome=true->Cl K c C->exmOne K (.ref C) (.ref R)=some true:=by
 have h:=gv.mp k.b "UnknownStack" (by decide);obtain⟨U,e,_⟩:=zqh h;obtain⟨_,_,⟨R,D,_⟩,_⟩:=k.all (c:="UnknownStack") (by decide) e;refine⟨R,D,λc C I cl=>?_⟩;obtain⟨_,_,⟨V,J,z⟩,_⟩:=k.all I cl;cases D.symm.trans J;exact z
def qk(V:KFacts X.K X.mg)(Y:(kdT c).isSome=true)(cl:Cl X.K c C)(Z:Hd ea C X)(an:Ats Nn Cn X)(a:cn∈l4:=by decide)(b:Gl X cn:=by walk_at "g")(D:(cn==("__debug__" : Str))=false:=by decide)(d:Bn X "isinstance":=by walk_at "b")(I:Nn[i]?=some x:=by rfl)(e:starEach [.Name x p1,.Name cn p2] X.env=(false,eval (.Name x p1) X.env)::starEach [.Name cn p2] X.env:=by rfl)(J:starEach [.Name cn p2] X.env=(false,eval (.Name cn p2) X.env)::starEach [] X.env:=by rfl)(U:(backTo pos (starEach [.Name cn p2] X.env)).any (·.1)=false:=by rfl) :
  DEx X G H0 (.Call (.Name "isinstance" p') [.Name x p1,.Name cn p2] [] pos) (fIsx ea i (c==cn)):=by
 obtain⟨f,_,_,h⟩:=V.all Y cl;obtain⟨R,g,j⟩:=h cn a;exact z8c Z f g j an b D d I e J U
def z8f(R:KFacts X.K X.mg)(U:(kdT c).isSome=true)(cl:Cl X.K c C)(V:Hd ea C X)(an:Ats Nn Cn X)(Y:Bn X "ValueError":=by walk_at "b")(Z:Bn X "isinstance":=by walk_at "b")(D:Nn[i]?=some x:=by rfl)(a:starEach [.Name x p1,.Name "ValueError" p2] X.env=(false,eval (.Name x p1) X.env)::starEach [.Name "ValueError" p2] X.env:=by rfl)(I:starEach [.Name "ValueError" p2] X.env=(false,eval (.Name "ValueError" p2) X.env)::starEach [] X.env:=by rfl)(J:(backTo pos (starEach [.Name "ValueError" p2] X.env)).any (·.1)=false:=by rfl) :
  DEx X G H0 (.Call (.Name "isinstance" p') [.Name x p1,.Name "ValueError" p2] [] pos) (fIsx ea i true):=z4k V (R.all U cl).1 (R.all U cl).2.1 an Y Z D a I J
theorem z99(T:Def K mg st x ps)(N:ik)(D:∀c d,kd c=some d->runK N.length g c d)(I:∀ {f:Addr} {cdv:Value} {A:Around} {outer:k7} {s:Shared} {H:Hp} {ea C:Addr} {c:Str} {G:Gd} {H0:Hp},(kd c).isSome=true->Cl K c C->Hd ea C (cxH P w K mg base N x (f9 st) f cdv A outer s H)->Ats N (celN N (f9 st)) (cxH P w K mg base N x (f9 st) f cdv A outer s H)->Tos N (cxH P w K mg base N x (f9 st) f cdv A outer s H) ->
   DBx (cxH P w K mg base N x (f9 st) f cdv A outer s H) G H0 (l7 st) (g ea c))(h:scB N ps (f9 st)=true:=by decide +kernel)(J:okN x=true:=by decide +kernel)(R:ps.length=1:=by rfl):KCl P w K mg base x (k+1) kd:=by
 obtain⟨f,fd,F,b,m⟩:=T;exact⟨f,fd,ps,fn_K F (o7 h).1 rfl R D λcdv A outer s H ea C c G H0 U V Y=>I U V Y (sv h).nox.hush (su h).nox.hush,m,F.kp,b,(t6 J).1⟩
def z4p(ea:Addr)(c:Str):FS:=sSeq (sSet 1 (fLst (fu (ao (fIsx ea 0 (c=="UnknownStack")) (ao (fIsx ea 0 (c=="EmptyStack")) fNil))))) (sSeq (sSet 1 (fLst (fCat (fVar 1) (fLst (fu (ao (fIsx ea 0 (c=="UnknownPlace")) (ao (fIsx ea 0 (c=="BadHours")) fNil))))))) (sSeq (sSet 1 (fLst (fCat (fVar 1) (fLst (fu (ao (fIsx ea 0 (c=="BadLoss")) (ao (fIsx ea 0 (c=="BadCount")) fNil))))))) (sSeq (sSet 1 (fLst (fCat (fVar 1) (fLst (fu (ao (fIsx ea 0 (c=="HouseFull")) (ao (fIsx ea 0 (c=="DeedsFull")) fNil))))))) (sSeq (sSet 1 (fLst (fCat (fVar 1) (fLst (fu (ao (fIsx ea 0 (c=="NothingWaits")) (ao (fIsx ea 0 (c=="NothingDone")) fNil))))))) (sSeq (sSet 1 (fLst (fCat (fVar 1) (fLst (fu (ao (fIsx ea 0 (c=="ShortOrder")) (ao (fIsx ea 0 (c=="TooManyOrders")) fNil))))))) (sSeq (sSet 1 (fLst (fCat (fVar 1) (fLst (fu (ao (fIsx ea 0 (c=="NotGone")) fNil)))))) (sSeq (sSet 2 (fLst (fu (ao (fC (.str "unknown stack")) (ao (fC (.str "empty stack")) (ao (fC (.str "unknown place")) (ao (fC (.str "bad hours")) (ao (fC (.str "bad loss")) (ao (fC (.str "bad count")) fNil))))))))) (sSeq (sSet 2 (fLst (fCat (fVar 2) (fLst (fu (ao (fC (.str "house full")) (ao (fC (.str "deeds full")) (ao (fC (.str "nothing waits")) (ao (fC (.str "nothing done")) (ao (fC (.str "short order")) fNil)))))))))) (sSeq (sSet 2 (fLst (fCat (fVar 2) (fLst (fu (ao (fC (.str "too many orders")) (ao (fC (.str "not gone")) fNil))))))) (sSeq (sSet 3 (fLst (iw (ip iR1 (ao (fC (.int 13)) fNil)) [2,1,0] (fAnd (fTst (fIxV 2 (fVar 0))) (fTst (fIsx ea 3 true))) (fIxV 1 (fVar 0))))) (sRet (du bTup (ao (fLst (fCat (fLst (fu (ao (fC (.str "refused")) fNil))) (fVar 3))) fNil)))))))))))))
end L2
namespace LB
open PySem L2
def zn1:FS:=sRet (fBin dSub (fBin dMul (fIxV 0 (fC (.int 1))) (fIxV 1 (fC (.int 0)))) (fBin dMul (fIxV 1 (fC (.int 1))) (fIxV 0 (fC (.int 0)))))
def zg:mu->mv:=runD 2 2 zn1
def zhm:FS:=sSeq (sSet 2 (du zg (ao (fVar 0) (ao (fVar 1) (fNil))))) (sSeq (sIf (fTst (fBin dGt (fVar 2) (fC (.int 0)))) (sRet (fC (.int 1))) (sNil)) (sSeq (sIf (fTst (fBin dLt (fVar 2) (fC (.int 0)))) (sRet (fUn dNeg (fC (.int 1)))) (sNil)) (sRet (fC (.int 0)))))
def u9:mu->mv:=runD 3 2 zhm
def zms:FS:=sRet (ur (fIsi "int" (fVar 0)) (z3n (fIsi "bool" (fVar 0))))
def tm:mu->mv:=runD 1 1 zms
def zn2:FS:=sSeq (sIf (fTst (fBin dLt (fVar 1) (gy 0))) (sRet (fIxV 0 (fVar 1))) (sNil)) (sRet (fC (.int 0)))
def zjp:mu->mv:=runD 2 2 zn2
def zfo:FS:=sSeq (sSet 5 (du zjp (ao (fVar 0) (ao (fVar 4) (fNil))))) (sSeq (sIf (fTst (fBin dEq (fBin dMod (gy 0) (fC (.int 2))) (fC (.int 1)))) (sSeq (sSet 3 (fBin dMod (fBin gn (fBin gn (fBin gn (fBin dMul (fVar 3) (fC (.int 48271))) (fVar 5)) (fVar 4)) (fC (.int 1))) (fC (.int 2147483647)))) (sSet 5 (fBin dMod (fBin dMul (fBin gn (fVar 3) (fVar 4)) (fC (.int 69621))) (fC (.int 2147483647))))) (sNil)) (iy (mw 2 (fVar 5))))
def zmt:FS:=sSeq (sOwn 2 (fu (fNil))) (sSeq (sSet 3 (fC (.int 7))) (sSeq (sFor 4 (ip iR1 (ao (fVar 1) (fNil))) (zfo)) (sRet (fVar 2))))
def zf8:mu->mv:=runD 6 2 zmt
def zr6:FS:=sRet (fIxV 0 (fC (.int 1)))
def u8:mu->mv:=runD 1 1 zr6
def ztd:FS:=sRet (fIxV 0 (fC (.int 2)))
def wj:mu->mv:=runD 1 1 ztd
def zol:FS:=sRet (fTup (ao (fC (.int 1)) (ao (du u8 (ao (fVar 0) (fNil))) (ao (du wj (ao (fVar 0) (fNil))) (fNil)))))
def zfp:mu->mv:=runD 1 1 zol
def zkw:FS:=sRet (fTup (ao (fBin gn (fIxV 0 (fC (.int 0))) (fIxV 1 (fC (.int 0)))) (ao (fBin gn (fIxV 0 (fC (.int 1))) (fIxV 1 (fC (.int 1)))) (ao (fBin gn (fIxV 0 (fC (.int 2))) (fIxV 1 (fC (.int 2)))) (fNil)))))
def zfq:mu->mv:=runD 2 2 zkw
def zlx:FS:=sRet (fTup (ao (fIxV 0 (fC (.int 1))) (ao (fIxV 0 (fC (.int 2))) (fNil))))
def zeq:mu->mv:=runD 1 1 zlx
def zc3:FS:=sRet (fBin dGt (du u9 (ao (du zeq (ao (fVar 0) (fNil))) (ao (du zeq (ao (fVar 1) (fNil))) (fNil)))) (fC (.int 0)))
def vg:mu->mv:=runD 2 2 zc3
def zd9:FS:=sSet 3 (du zfq (ao (fPop 1) (ao (fVar 3) (fNil))))
def zea:FS:=sSeq (sSet 3 (du zfp (ao (fVar 2) (fNil)))) (sSeq (nj (fAnd (fTst (fBin dGt (gy 1) (fC (.int 0)))) (fNot (fTst (du vg (ao (fIxV 1 (fUn dNeg (fC (.int 1)))) (ao (fVar 3) (fNil))))))) (zd9) 10000) (iy (mw 1 (fVar 3))))
def zhx:FS:=sSeq (sOwn 1 (fu (fNil))) (sSeq (sFor 2 (fiS (fVar 0)) (zea)) (sRet (fVar 1)))
def zhy:mu->mv:=runD 4 1 zhx
def x6:FS:=sSeq (sIf (fAnd (fTst (fIsi "str" (fIxV 1 (fVar 2)))) (fNot (fTst (fIsi "str" (fIxV 0 (fVar 2)))))) (sRet (fC (.bl false))) (sNil)) (sSeq (sIf (fAnd (fNot (fTst (fIsi "str" (fIxV 1 (fVar 2))))) (fNot (fTst (du tm (ao (fIxV 0 (fVar 2)) (fNil)))))) (sRet (fC (.bl false))) (sNil)) (sIf (fTst (fBin dNe (fIxV 0 (fVar 2)) (fIxV 1 (fVar 2)))) (sRet (fC (.bl false))) (sNil)))
def zdr:FS:=sSeq (sIf (fOr (fNot (fTst (fIsi "tuple" (fVar 0)))) (fTst (fBin dNe (gy 0) (gy 1)))) (sRet (fC (.bl false))) (sNil)) (sSeq (sFor 2 (ip iR1 (ao (gy 1) (fNil))) (x6)) (sRet (fC (.bl true))))
def vf:mu->mv:=runD 3 2 zdr
def zcl:FS:=sIf (fNot (fTst (du vf (ao (fIxV 0 (fVar 2)) (ao (fIxV 1 (fVar 2)) (fNil)))))) (sRet (fC (.bl false))) (sNil)
def zdd:FS:=sSeq (sIf (fOr (fNot (fTst (fIsi "list" (fVar 0)))) (fTst (fBin dNe (gy 0) (gy 1)))) (sRet (fC (.bl false))) (sNil)) (sSeq (sFor 2 (ip iR1 (ao (gy 1) (fNil))) (zcl)) (sRet (fC (.bl true))))
def qr:mu->mv:=runD 3 2 zdd
def zmu:FS:=sRet (fTup (ao (fIxV 0 (fC (.int 2))) (ao (fIxV 0 (fC (.int 3))) (fNil))))
def uh:mu->mv:=runD 1 1 zmu
def zct:FS:=sSet 2 (fBin gn (fVar 2) (fC (.int 1)))
def zg6:FS:=sSeq (sSet 2 (fC (.int 0))) (sSeq (nj (fAnd (fTst (fBin dLt (fVar 2) (gy 0))) (fTst (fBin dGe (du u9 (ao (du uh (ao (fIxV 0 (fVar 2)) (fNil))) (ao (du uh (ao (fVar 1) (fNil))) (fNil)))) (fC (.int 0))))) (zct) 10000) (sRet (fVar 2)))
def zg7:mu->mv:=runD 3 2 zg6
def zds:FS:=sSeq (sSet 7 (fTup (ao (fVar 2) (ao (fVar 4) (ao (fVar 5) (ao (fVar 6) (fNil))))))) (iy (zp3 1 (zrt zg7 (z0o 1 (ao (fVar 7) (fNil)))) (fVar 7)))
def zer:FS:=o9 [4,5,6] (fiS (du zhy (ao (fVar 3) (fNil)))) (zds)
def zie:FS:=sSeq (sOwn 1 (fu (fNil))) (sSeq (o9 [2,3] (ip (iEn 1) (ao (fVar 0) (fNil))) (zer)) (sRet (fVar 1)))
def x0:mu->mv:=runD 8 1 zie
def zd2:FS:=sIf (fNot (fTst (du qr (ao (fIxV 0 (fVar 2)) (ao (fIxV 1 (fVar 2)) (fNil)))))) (sRet (fC (.bl false))) (sNil)
def zes:FS:=sSeq (sIf (fOr (fNot (fTst (fIsi "list" (fVar 0)))) (fTst (fBin dNe (gy 0) (gy 1)))) (sRet (fC (.bl false))) (sNil)) (sSeq (sFor 2 (ip iR1 (ao (gy 1) (fNil))) (zd2)) (sRet (fC (.bl true))))
def zy:mu->mv:=runD 3 2 zes
def zk7:FS:=z3t (iw (fiS (fVar 0)) [] fYes (fLst (ip oo (ao (fVar 0) (fNil)))))
def zk8:mu->Option mu:=runF 1 1 zk7
def zfr:FS:=iy (zp5 1 (fRep (fu (ao (fVar 2) (fNil))) (fVar 3)))
def zjq:FS:=sSeq (sOwn 1 (fu (fNil))) (sSeq (o9 [2,3,4,5] (fiS (du x0 (ao (fVar 0) (fNil)))) (zfr)) (zz2 1))
def wm:mu->Option mu:=runF 6 1 zjq
def zet:FS:=sSeq (sSet 2 (fBin gn (fVar 2) (fBin dIx (fIxV 0 (fVar 4)) (fC (.int 1))))) (sSeq (sSet 3 (fBin gn (fVar 3) (fBin dIx (fIxV 0 (fVar 4)) (fC (.int 2))))) (sIf (fTst (fBin dGe (fBin dMul (fVar 3) (fIxV 1 (fC (.int 1)))) (fBin dMul (fIxV 1 (fC (.int 2))) (fVar 2)))) (sSet 1 (fLst (fu (ao (fBin gn (fVar 4) (fC (.int 1))) (ao (fVar 2) (ao (fVar 3) (fNil))))))) (sNil)))
def zif:FS:=sSeq (sSet 1 (fLst (fu (ao (fC (.int 0)) (ao (fC (.int 1)) (ao (fUn dNeg (fC (.int 1))) (fNil))))))) (sSeq (sSet 2 (fC (.int 0))) (sSeq (sSet 3 (fC (.int 0))) (sSeq (sFor 4 (ip iR1 (ao (gy 0) (fNil))) (zet)) (sRet (fVar 1)))))
def zg8:mu->mv:=runD 5 1 zif
def zu:FS:=sIf (fTst (fBin dGt (fBin dMul (fBin dIx (fIxV 3 (fVar 5)) (fC (.int 2))) (fBin dIx (fIxV 3 (fVar 4)) (fC (.int 1)))) (fBin dMul (fBin dIx (fIxV 3 (fVar 4)) (fC (.int 2))) (fBin dIx (fIxV 3 (fVar 5)) (fC (.int 1)))))) (sSet 4 (fVar 5)) (sNil)
def zfs:FS:=sSeq (sSet 3 (fLst (iw (fiV 1) [] fYes (du zg8 (ao (fVar 0) (fNil)))))) (sSeq (sSet 4 (fC (.int 0))) (sSeq (sFor 5 (ip iR1 (ao (gy 3) (fNil))) (zu)) (sSeq (iy (mw 2 (fTup (ao (fBin gn (fVar 4) (fC (.int 1))) (ao (fBin dIx (fIxV 3 (fVar 4)) (fC (.int 0))) (ao (fBin dIx (fIxV 3 (fVar 4)) (fC (.int 1))) (ao (fBin dIx (fIxV 3 (fVar 4)) (fC (.int 2))) (fNil)))))))) (uu 1 (fVar 4) (fLst (fSl (fIxV 1 (fVar 4)) (fO1 (fBin dIx (fIxV 3 (fVar 4)) (fC (.int 0)))) (fO0)))))))
def zjr:FS:=sSeq (sOwn 1 (iw (fiS (fVar 0)) [] fYes (fLst (ip oo (ao (fVar 0) (fNil)))))) (sSeq (sOwn 2 (fu (fNil))) (sSeq (nj (fTst (fBin dGt (du bSum (ao (fLst (iw (fiV 1) [] fYes (gy 0))) (fNil))) (fC (.int 0)))) (zfs) 10000) (sRet (fVar 2))))
def zl:mu->mv:=runD 6 1 zjr
def zig:FS:=sOwn 1 (fCat (fVar 1) (fLst (fRep (fu (ao (fIxV 2 (fC (.int 0))) (fNil))) (fIxV 2 (fC (.int 1))))))
def zk9:FS:=sSeq (sOwn 1 (fu (fNil))) (sSeq (sFor 2 (fiS (du zl (ao (fVar 0) (fNil)))) (zig)) (zz2 1))
def zla:mu->Option mu:=runF 3 1 zk9
def zdt:FS:=sIf (fOr (fNot (fTst (du tm (ao (fIxV 0 (fVar 2)) (fNil))))) (fTst (fBin dNe (fIxV 0 (fVar 2)) (fIxV 1 (fVar 2))))) (sRet (fC (.bl false))) (sNil)
def zed:FS:=sSeq (sIf (fOr (fNot (fTst (fIsi "list" (fVar 0)))) (fTst (fBin dNe (gy 0) (gy 1)))) (sRet (fC (.bl false))) (sNil)) (sSeq (sFor 2 (ip iR1 (ao (gy 1) (fNil))) (zdt)) (sRet (fC (.bl true))))
def zb9:mu->mv:=runD 3 2 zed
def zqi:FS:=sRet (fIxV 0 (fC (.int 0)))
def zgl:mu->mv:=runD 1 1 zqi
def zih:FS:=sIf (fOr (fTst (fBin dLt (fVar 1) (fC (.int 1)))) (fTst (fBin dGt (fVar 1) (gy 0)))) (zud) (sNil)
def zii:mu->mv:=runD 2 2 zih
def zeu:FS:=sSeq (sIf (fTst (fBin dEq (fIxV 2 (fBin dSub (fVar 3) (fC (.int 1)))) (fC (.int 0)))) (zud) (sNil)) (vo 2 dSub (fBin dSub (fVar 3) (fC (.int 1))) (fC (.int 1)))
def zij:FS:=sSeq (sOwn 2 (iw (fiS (fVar 0)) [] fYes (gy 0))) (sSeq (sFor 3 (fiS (fVar 1)) (zeu)) (sIf (fTst (fBin dGt (z0n 2) (fC (.int 0)))) (zud) (sNil)))
def zik:mu->mv:=runD 4 2 zij
def zev:FS:=iy (du zii (ao (fVar 0) (ao (fVar 2) (fNil))))
def zil:FS:=sSeq (sFor 2 (fiS (fVar 1)) (zev)) (iy (du zik (ao (fVar 0) (ao (fVar 1) (fNil)))))
def zim:mu->mv:=runD 3 2 zil
def zew:FS:=sSeq (iy (mw 3 (fBin dIx (fIxV 0 (fBin dSub (fVar 4) (fC (.int 1)))) (fIxV 2 (fBin dSub (fVar 4) (fC (.int 1))))))) (vo 2 gn (fBin dSub (fVar 4) (fC (.int 1))) (fC (.int 1)))
def zin:FS:=sSeq (iy (du zim (ao (fVar 0) (ao (fVar 1) (fNil))))) (sSeq (sOwn 2 (iw (fiS (fVar 0)) [] fYes (fC (.int 0)))) (sSeq (sOwn 3 (fu (fNil))) (sSeq (sFor 4 (fiS (fVar 1)) (zew)) (sRet (fVar 3)))))
def zgm:mu->mv:=runD 5 2 zin
def zhz:FS:=sSeq (sSet 6 (fBin gn (fVar 3) (du u8 (ao (fVar 5) (fNil))))) (sSeq (iy (mw 2 (fTup (ao (du zgl (ao (fVar 5) (fNil))) (ao (fVar 4) (ao (fVar 3) (ao (fVar 6) (fNil)))))))) (sSet 3 (fVar 6)))
def zjs:FS:=sSeq (sOwn 2 (fu (fNil))) (sSeq (sSet 3 (fC (.int 0))) (sSeq (o9 [4,5] (ip iZp (ao (fVar 1) (ao (du zgm (ao (fVar 0) (ao (fVar 1) (fNil)))) (fNil)))) (zhz)) (sRet (fVar 2))))
def zhn:mu->mv:=runD 7 2 zjs
def zho:FS:=zug (vp (fiS (fVar 0)) [] (ip oo (ao (fVar 0) (fNil))))
def zhp:mu->Option (List mu):=yb 1 1 zho
def zh0:FS:=sSeq (sSet 3 (fBin gn (fVar 3) (du u8 (ao (fVar 4) (fNil))))) (sSet 2 (fBin gn (fVar 2) (fBin dMul (du wj (ao (fVar 4) (fNil))) (fVar 3))))
def zjt:FS:=sSeq (sSet 2 (fC (.int 0))) (sSeq (sSet 3 (fC (.int 0))) (sSeq (sFor 4 (fiS (du zgm (ao (fVar 0) (ao (fVar 1) (fNil))))) (zh0)) (sRet (fVar 2))))
def zju:mu->mv:=runD 5 2 zjt
def zft:FS:=sSeq (iy (mw 3 (fBin dIx (fIxV 0 (fBin dSub (fVar 4) (fC (.int 1)))) (fIxV 2 (fBin dSub (fVar 4) (fC (.int 1))))))) (uu 2 (fBin dSub (fVar 4) (fC (.int 1))) (fBin gn (fIxV 2 (fBin dSub (fVar 4) (fC (.int 1)))) (fC (.int 1))))
def zjv:FS:=sSeq (sOwn 2 (iw (fiS (fVar 0)) [] fYes (fC (.int 0)))) (sSeq (sOwn 3 (fu (fNil))) (sSeq (sFor 4 (fiS (fVar 1)) (zft)) (sRet (fVar 3))))
def zjw:mu->mv:=runD 5 2 zjv
def zjx:FS:=sRet (du zju (ao (fVar 0) (ao (fLst (ip wm (ao (fVar 0) (fNil)))) (fNil))))
def zhq:mu->mv:=runD 1 1 zjx
def zio:FS:=sSeq (sSet 1 (fBin gn (fVar 1) (fIxV 3 (fC (.int 1))))) (sSet 2 (fBin gn (fVar 2) (fBin dMul (fIxV 3 (fC (.int 2))) (fVar 1))))
def zlb:FS:=sSeq (sSet 1 (fC (.int 0))) (sSeq (sSet 2 (fC (.int 0))) (sSeq (sFor 3 (fiS (fVar 0)) (zio)) (sRet (fVar 2))))
def zlc:mu->mv:=runD 4 1 zlb
def zfu:FS:=sSeq (sSet 8 (fIxV 2 (fBin dSub (fVar 4) (fC (.int 1))))) (sSeq (uu 2 (fBin dSub (fVar 4) (fC (.int 1))) (fBin gn (fVar 8) (fVar 5))) (iy (mw 3 (fLst (fSl (fIxV 0 (fBin dSub (fVar 4) (fC (.int 1)))) (fO1 (fVar 8)) (fO1 (fBin gn (fVar 8) (fVar 5))))))))
def zjy:FS:=sSeq (sOwn 2 (iw (fiS (fVar 0)) [] fYes (fC (.int 0)))) (sSeq (sOwn 3 (fu (fNil))) (sSeq (o9 [4,5,6,7] (fiS (fVar 1)) (zfu)) (sRet (fVar 3))))
def zjz:mu->mv:=runD 9 2 zjy
def zg9:FS:=sSeq (sSet 3 (fBin gn (fVar 3) (du u8 (ao (fVar 5) (fNil))))) (sSeq (sSet 4 (fBin gn (fVar 4) (du wj (ao (fVar 5) (fNil))))) (iy (mw 2 (du zg (ao (fVar 0) (ao (fTup (ao (fVar 3) (ao (fVar 4) (fNil)))) (fNil)))))))
def ziq:FS:=sSeq (sOwn 2 (fu (fNil))) (sSeq (sSet 3 (fC (.int 0))) (sSeq (sSet 4 (fC (.int 0))) (sSeq (sFor 5 (fiS (fLst (fSl (fVar 1) (fO0) (fO1 (fUn dNeg (fC (.int 1))))))) (zg9)) (sRet (fVar 2)))))
def zir:mu->mv:=runD 6 2 ziq
def zha:FS:=sSeq (sIf (fTst (fBin dEq (fBin gn (fVar 1) (fC (.int 1))) (gy 0))) (sRet (fC (.int 0))) (sNil)) (sRet (du zg (ao (du uh (ao (fIxV 0 (fVar 1)) (fNil))) (ao (du uh (ao (fIxV 0 (fBin gn (fVar 1) (fC (.int 1)))) (fNil))) (fNil)))))
def zld:mu->mv:=runD 2 2 zha
def zis:FS:=sSeq (sSet 5 (fIxV 1 (fVar 3))) (iy (mw 2 (fBin zxw (fVar 5) (fTup (ao (du zir (ao (du uh (ao (fVar 5) (fNil))) (ao (fVar 4) (fNil)))) (ao (du zld (ao (fVar 1) (ao (fVar 3) (fNil)))) (fNil)))))))
def zle:FS:=sSeq (sSet 1 (du x0 (ao (fVar 0) (fNil)))) (sSeq (sOwn 2 (fu (fNil))) (sSeq (o9 [3,4] (ip (iEn 0) (ao (du zjz (ao (fVar 0) (ao (fVar 1) (fNil)))) (fNil))) (zis)) (sRet (fVar 2))))
def zit:mu->mv:=runD 6 1 zle
def zh1:FS:=sSeq (sSet 4 (fBin gn (fVar 4) (fIxV 6 (fC (.int 1))))) (sSeq (sSet 5 (fBin gn (fVar 5) (fIxV 6 (fC (.int 2))))) (iy (mw 3 (fBin dSub (fBin dMul (fVar 2) (fVar 4)) (fBin dMul (fVar 1) (fVar 5))))))
def zj0:FS:=sSeq (sOwn 3 (fu (fNil))) (sSeq (sSet 4 (fC (.int 0))) (sSeq (sSet 5 (fC (.int 0))) (sSeq (sFor 6 (fiS (fLst (fSl (fVar 0) (fO0) (fO1 (fBin dSub (gy 0) (fC (.int 1))))))) (zh1)) (sRet (fVar 3)))))
def zj1:mu->mv:=runD 7 3 zj0
def zfg:FS:=sSeq (sUnp [5,6,7,8] (fIxV 2 (fVar 4))) (sSeq (sSet 9 (fC (.int 0))) (sSeq (sIf (fTst (fBin dLt (fBin gn (fVar 4) (fC (.int 1))) (gy 2))) (sSet 9 (fBin dSub (fBin dMul (fVar 8) (fBin dIx (fIxV 2 (fBin gn (fVar 4) (fC (.int 1)))) (fC (.int 2)))) (fBin dMul (fBin dIx (fIxV 2 (fBin gn (fVar 4) (fC (.int 1)))) (fC (.int 3))) (fVar 7)))) (sNil)) (sSeq (sSet 10 (du zj1 (ao (fLst (fSl (fIxV 3 (fBin dSub (fVar 5) (fC (.int 1)))) (fO0) (fO1 (fVar 6)))) (ao (fVar 7) (ao (fVar 8) (fNil)))))) (sSeq (uu 3 (fBin dSub (fVar 5) (fC (.int 1))) (fLst (fSl (fIxV 3 (fBin dSub (fVar 5) (fC (.int 1)))) (fO1 (fVar 6)) (fO0)))) (sSeq (sSet 11 (fIxV 0 (fVar 4))) (sSeq (sIf (fOr (fNot (fTst (fIsi "tuple" (fVar 11)))) (fOr (fTst (fBin dNe (gy 11) (fC (.int 6)))) (fNot (fTst (du vf (ao (fSlT (fVar 11) (fO0) (fO1 (fC (.int 4)))) (ao (fIxV 2 (fVar 4)) (fNil)))))))) (sRet (fC (.bl false))) (sNil)) (sIf (fOr (fNot (fTst (du zb9 (ao (fIxV 11 (fC (.int 4))) (ao (fVar 10) (fNil)))))) (fOr (fNot (fTst (du tm (ao (fIxV 11 (fC (.int 5))) (fNil))))) (fTst (fBin dNe (fIxV 11 (fC (.int 5))) (fVar 9))))) (sRet (fC (.bl false))) (sNil))))))))
def zhb:FS:=sSeq (sSet 2 (du zl (ao (fVar 1) (fNil)))) (sSeq (sOwn 3 (ip zk8 (ao (fVar 1) (fNil)))) (sSeq (sIf (fOr (fNot (fTst (fIsi "list" (fVar 0)))) (fTst (fBin dNe (gy 0) (gy 2)))) (sRet (fC (.bl false))) (sNil)) (sSeq (sFor 4 (ip iR1 (ao (gy 2) (fNil))) (zfg)) (sRet (fC (.bl true))))))
def zhc:mu->mv:=runD 12 2 zhb
def zh2:FS:=sRet (du bSum (ao (fLst (iw (fiS (fVar 0)) [] fYes (gy 0))) (fNil)))
def zfv:mu->mv:=runD 1 1 zh2
def zex:FS:=sSet 1 (fBin gn (fVar 1) (du bSum (ao (fLst (iw (fiS (fVar 2)) [] fYes (du wj (ao (fVar 0) (fNil))))) (fNil))))
def ziu:FS:=sSeq (sSet 1 (fC (.int 0))) (sSeq (sFor 2 (fiS (fVar 0)) (zex)) (sRet (fVar 1)))
def ziv:mu->mv:=runD 3 1 ziu
def zme:FS:=sRet (fBin dIx (fIxV 0 (fBin dSub (fVar 1) (fC (.int 1)))) (fC (.int 0)))
def zkj:mu->mv:=runD 2 2 zme
def zj2:FS:=sRet (fLst (fCat (fLst (fCat (fLst (fSl (fVar 0) (fO0) (fO1 (fBin dSub (fVar 1) (fC (.int 1)))))) (fLst (fu (ao (fVar 2) (fNil)))))) (fLst (fSl (fVar 0) (fO1 (fVar 1)) (fO0)))))
def zk:mu->mv:=runD 3 3 zj2
def ziw:FS:=sRet (du zk (ao (fVar 0) (ao (fVar 1) (ao (fLst (fSl (fIxV 0 (fBin dSub (fVar 1) (fC (.int 1)))) (fO1 (fC (.int 1))) (fO0))) (fNil)))))
def zgn:mu->mv:=runD 2 2 ziw
theorem yaa(I:k4)(k:Nat):∃c,zjp [.lst (I.map D.int),.int k]=some (.int c):=by
 by_cases h:(k:Int)<I.length
 ·obtain⟨x,h1,h2⟩:=z70 (xs:=I.map D.int) (i:=(k:Int)) (by lia) (by simpa using h)
  rw[bj] at h2;cases q:I[(k:Int).toNat]? with
  | none=>rw[q] at h2;cases h2
  | some c =>
    rw[q] at h2;cases h2;simp[zjp,runD,zn2,ji,h,h1]
 ·refine⟨0,?_⟩
  simp[zjp,runD,zn2,ji,h]
theorem z06(I:k4)(n:Nat)(h:n<=1000):∃cs:k4,cs.length=n/\zf8 [.lst (I.map D.int),.int n]=some (.lst (cs.map D.int)):=by
 have loop:=rq (i:=4) (g:=zfo)
  (λk e=>∃(cs:k4) (st:Int) (U V:nb),cs.length=k/\e=[some (.sh (.lst (I.map D.int))),some (.sh (.int n)),some (.ow (cs.map D.int)),some (.sh (.int st)),U,V])
  (rngD 0 n) [some (.sh (.lst (I.map D.int))),some (.sh (.int n)),some (.ow []),some (.sh (.int 7)),none,none] ⟨[],7,none,none,rfl,rfl⟩ ?_
 ·obtain⟨e',h1,cs,st,U,V,R,rfl⟩:=loop
  refine⟨cs,by rw[R,vb],?_⟩;have a:=n4 n (by lia);simp[zf8,runD,zmt,ji,a,h1]
 ·rintro k d e b ⟨cs,st,U,V,R,rfl⟩
  obtain⟨rfl,j⟩:=tf b;obtain⟨c,Y⟩:=yaa I k;have J:Few (cs.length+1):=few (by lia);by_cases Z:(I.length:Int) % 2=1
  ·refine⟨_,?_,cs++[((st*48271+c+k+1) % 2147483647+k)*69621 % 2147483647],(st*48271+c+k+1) % 2147483647,some (.sh (.int (0+k))),some (.sh (.int (((st*48271+c+k+1) % 2147483647+k)*69621 % 2147483647))),by simp[R],rfl⟩
   have f:ly 48271:=uc (by decide);have s2:ly 69621:=uc (by decide);simp[zfo,Y,Z,dMod,dMul,f,s2,J]
  ·refine⟨_,?_,cs++[c],st,some (.sh (.int (0+k))),some (.sh (.int c)),by simp[R],rfl⟩
   simp[zfo,Y,Z,dMod,J]
def zx7(a b c d:Int)(D:ly b)(I:ly d) :
  zg [.tup [.int a,.int b],.tup [.int c,.int d]]=some (.int (b*c-d*a)):=by
 simp[zg,runD,zn1,ji,dMul,D,I,atI,ixN]
theorem zuz(a b c d:Int)(R:ly b)(U:ly d) :
  u9 [.tup [.int a,.int b],.tup [.int c,.int d]]=some (.int (if d*a<b*c then 1 else if b*c<d*a then -1 else 0)):=by
 have I:=zx7 a b c d R U;by_cases h1:d*a<b*c
 ·have D:0<b*c-d*a:=by lia
  simp[u9,runD,zhm,ji,I,h1,D]
 ·have D:¬0<b*c-d*a:=by lia
  by_cases h2:b*c<d*a
  ·have J:b*c-d*a<0:=by lia
   simp[u9,runD,zhm,ji,I,h1,h2,D,J]
  ·have J:¬b*c-d*a<0:=by lia
   simp[u9,runD,zhm,ji,I,h1,h2,D,J]
def xr(i:Int):tm [.int i]=some (.bl true):=by
 simp[tm,runD,zms,ji]
abbrev Sk:=Int×Int×Int
abbrev nu:=List Sk
abbrev nw:=List (List Sk)
def sD(s:Sk):D:=.tup [.int s.1,.int s.2.1,.int s.2.2]
def i6(s:Sk):Prop:=1<=s.1/\s.1<=60/\1<=s.2.1/\s.2.1<=60/\0<=s.2.2/\s.2.2<=100
def b3:Bnd 1 1073741824 3:=⟨by decide,by decide⟩
def b12:Bnd 1 1073741824 12:=⟨by decide,by decide⟩
variable{n i:Nat}
def rj{i:Int}(D:0<=i)(h1:i<n):ixN n i=some i.toNat:=by unfold ixN;rw[if_pos D,if_pos h1]
noncomputable def hl:FS:=sSeq (sSet 10 (fBin gn (fC (.int 1)) (fBin dMod (fVar 9) (fC (.int 60))))) (sSeq (sSet 11 (fBin dMod (fBin dDiv (fVar 9) (fC (.int 60))) (fC (.int 101)))) (sSeq (sIf (fTst (fBin dEq (fVar 4) (fC (.int 1)))) (sSeq (sSet 10 (fBin gn (fC (.int 1)) (fBin dMod (fVar 9) (fBin dSub (fC (.int 4)) (fBin dMul (fC (.int 2)) (fVar 5)))))) (sSet 11 (fBin dMod (fBin dDiv (fVar 9) (fC (.int 60))) (fBin dSub (fC (.int 4)) (fBin dMul (fC (.int 2)) (fVar 5)))))) (sNil)) (sSeq (sIf (fTst (fBin dEq (fVar 4) (fC (.int 2)))) (sSeq (sSet 10 (fBin dIx (fLst (fu (ao (fC (.int 1)) (ao (fC (.int 60)) (ao (fC (.int 2)) (ao (fC (.int 59)) (fNil))))))) (fBin dMod (fVar 9) (fC (.int 4))))) (sSet 11 (fBin dIx (fLst (fu (ao (fC (.int 0)) (ao (fC (.int 100)) (ao (fC (.int 1)) (ao (fC (.int 99)) (fNil))))))) (fBin dMod (fBin dDiv (fVar 9) (fC (.int 60))) (fC (.int 4)))))) (sNil)) (sIf (fTst (fBin dEq (fVar 4) (fC (.int 3)))) (sSeq (sSet 10 (fBin dIx (fLst (fu (ao (fVar 10) (ao (fBin gn (fC (.int 58)) (fBin dMod (fVar 9) (fC (.int 3)))) (fNil))))) (fVar 5))) (sSet 11 (fVar 10))) (sNil)))))
noncomputable def pl:FS:=sSeq (sSet 12 (fBin dMod (fBin dIx (fLst (fu (ao (fBin dDiv (fVar 9) (fC (.int 6060))) (ao (fVar 8) (fNil))))) (fBin dMul (fBin dDiv (fVar 4) (fC (.int 3))) (fVar 5))) (fVar 2))) (sSeq (sSet 13 (z7o 7 (fBin dMod (fBin dDiv (fVar 9) (fC (.int 30300))) (gy 7)))) (iy (zz5 6 (fVar 12) (fTup (ao (fVar 13) (ao (fVar 10) (ao (fVar 11) (fNil))))))))
def yas(s:nu):nu:=match s.getLast? with
 | none=>[]
 | some x=>s.dropLast++[(x.1,x.2.1,x.2.2+1)]
structure SInv (menu:Int) (many k:Nat) (sss:nw) (pool:k4):Prop where
 len:sss.length=many
 tot:sss.flatten.length=k
 good:∀x∈sss.flatten,i6 x/\(menu=3->x.2.2<=60)
 perm:(pool++sss.flatten.map (·.1)).Perm (rngL 1 61)
structure Stk (most:Nat) (ss:nw):Prop where
 many:ss.length<=5
 tot:ss.flatten.length<=most
 good:∀x∈ss.flatten,i6 x
 nd:(ss.flatten.map (·.1)).Nodup
def iT(xs:k4):D:=.tup (xs.map D.int)
variable{α:Type}{k:Nat}
theorem kr(f:α->D){xs:List α}{x:α}(h:xs[k]?=some x):atI (xs.map f) (k:Int)=some (f x):=by
 have I:=(aj.mp h).1;unfold atI;rw[rj (by lia) (by rw[af];lia)];simp[h]
theorem zn3(xs:k4)(V:xs.length<=1000):vf [iT xs,iT xs]=some (.bl true):=by
 obtain⟨e',h1,v2,rfl⟩:=rq (i:=2) (g:=x6) (λk e=>∃v2,e=[some (.sh (iT xs)),some (.sh (iT xs)),v2]) (rngD 0 xs.length) [some (.sh (iT xs)),some (.sh (iT xs)),none] ⟨none,rfl⟩ (by
  rintro k d e J ⟨v2,rfl⟩;obtain⟨rfl,R⟩:=tf J;have U:atI (xs.map D.int) (k:Int)=some (.int xs[k]):=kr D.int (by simp[R]);exact⟨[some (.sh (iT xs)),some (.sh (iT xs)),some (.sh (.int (0+k)))],by simp[x6,iT,U,xr],_,rfl⟩)
 have hi:=n4 xs.length (by lia);refine jl (e':=?w) rfl ?h;show zdr [some (.sh (iT xs)),some (.sh (iT xs)),none]=_;have I:forL 2 x6 (rngD 0 xs.length) [some (.sh (.tup (xs.map D.int))),some (.sh (.tup (xs.map D.int))),none]=some (.nx,[some (.sh (.tup (xs.map D.int))),some (.sh (.tup (xs.map D.int))),v2]):=h1;simp[zdr,iT,hi,I];rfl
theorem zj3(f:α->k4)(xs:List α)(V:xs.length<=1000)(I:∀x∈xs,(f x).length<=1000):qr [.lst (xs.map λx=>iT (f x)),.lst (xs.map λx=>iT (f x))]=some (.bl true):=by
 obtain⟨e',h1,v2,rfl⟩:=rq (i:=2) (g:=zcl) (λk e=>∃v2,e=[some (.sh (.lst (xs.map λx=>iT (f x)))),some (.sh (.lst (xs.map λx=>iT (f x)))),v2]) (rngD 0 xs.length) [some (.sh (.lst (xs.map λx=>iT (f x)))),some (.sh (.lst (xs.map λx=>iT (f x)))),none] ⟨none,rfl⟩ (by
  rintro k d e J ⟨v2,rfl⟩;obtain⟨rfl,D⟩:=tf J;have R:atI (xs.map λx=>iT (f x)) (k:Int)=some (iT (f xs[k])):=kr _ (by simp[D]);have U:=zn3 (f xs[k]) (I _ (e7 D));exact⟨[some (.sh (.lst (xs.map λx=>iT (f x)))),some (.sh (.lst (xs.map λx=>iT (f x)))),some (.sh (.int (0+k)))],by simp[zcl,R,U],_,rfl⟩)
 have hi:=n4 xs.length (by lia);refine jl (e':=?w) rfl ?h;show zdd [some (.sh (.lst (xs.map λx=>iT (f x)))),some (.sh (.lst (xs.map λx=>iT (f x)))),none]=_;simp[zdd,hi,h1];rfl
abbrev Bk:=Int×Int×Int
def hrs(r:nu):Int:=(r.map (·.2.1)).sum
def lss(r:nu):Int:=(r.map (·.2.2)).sum
def blk(r:nu):Bk:=(r.length,hrs r,lss r)
def jn(u b:Bk):Bk:=(u.1+b.1,u.2.1+b.2.1,u.2.2+b.2.2)
def gt(u b:Bk):Prop:=b.2.2*u.2.1<u.2.2*b.2.1
instance (u b:Bk):Decidable (gt u b):=inferInstanceAs (Decidable (_<_))
def SmB(b:Bk):Prop:=ly b.2.1/\ly b.2.2
def zx8(s:Sk):zfp [sD s]=some (sD (1,s.2.1,s.2.2)):=by
 rfl
def zx9(u b:Bk):zfq [sD u,sD b]=some (sD (jn u b)):=by
 simp[zfq,runD,zkw,ji,sD,z71,xf,xb,jn]
def zv3(u b:Bk)(V:SmB u)(Y:SmB b):vg [sD u,sD b]=some (.bl (decide (gt u b))):=by
 obtain⟨Z,I,J⟩:=u;obtain⟨a,R,b3⟩:=b;have U:∀x y z:Int,zeq [sD (x,y,z)]=some (.tup [.int y,.int z]):=λx y z=>by simp[zeq,runD,zlx,ji,sD,xf,xb]
 have D:=zuz I J R b3 V.2 Y.2;by_cases h1:b3*I<J*R
 ·rw[if_pos h1] at D
  simp[vg,runD,zc3,ji,U,D,gt,h1]
 ·rw[if_neg h1] at D
  by_cases h2:J*R<b3*I
  ·rw[if_pos h2] at D
   simp[vg,runD,zc3,ji,U,D,gt,h1]
  ·rw[if_neg h2] at D
   simp[vg,runD,zc3,ji,U,D,gt,h1]
def zya(bs:mu)(x:D):atI (bs++[x]) (-1)=some x:=zzo bs x
def oz(a b:nu):hrs (a++b)=hrs a+hrs b:=by simp[hrs]
def rh(a b:nu):lss (a++b)=lss a+lss b:=by simp[lss]
def z8g(a b:nu):jn (blk a) (blk b)=blk (a++b):=by
 simp only[jn,blk,oz,rh,am];simp
theorem yk(r:nu)(h:∀x∈r,i6 x):(r.length:Int)<=hrs r/\hrs r<=60*r.length/\0<=lss r/\lss r<=100*r.length:=by
 induction r with
 | nil=>simp[hrs,lss]
 | cons x r ih =>
   obtain⟨h1,h2,D,I⟩:=ih λy J=>h y (ay _ J);obtain⟨_,_,R,U,V,Y⟩:=h x bu;simp[hrs,lss,gl] at h1 h2 D I ⊢
   lia
theorem smB(r:nu)(h:∀x∈r,i6 x)(D:r.length<=1000):SmB (blk r):=by
 obtain⟨h1,h2,I,J⟩:=yk r h;exact⟨uc (by show -1000000000000<hrs r/\hrs r<1000000000000;lia),uc (by show -1000000000000<lss r/\lss r<1000000000000;lia)⟩
def mh:nw->nu->nw×nu
 | [],b=>([],b)
 | u::r,b=>if gt (blk u) (blk b) then(u::r,b) else mh r (u++b)
def bD(r:nu):D:=sD (blk r)
def zte(v0 v2:nb)(bs:mu)(u b:nu):zd9 [v0,some (.ow (bs++[bD u])),v2,some (.sh (bD b))]=some (.nx,[v0,some (.ow bs),v2,some (.sh (bD (u++b)))]):=by
 have e:=zx9 (blk u) (blk b);rw[z8g] at e;simp[zd9,bD,e]
theorem zu0(v0 v2:nb):∀(n:Nat) (D:nw) (b:nu),D.length<n->(∀r∈D,∀x∈r,i6 x)->(∀x∈b,i6 x)->(D.flatten.length+b.length<=1000) ->
  nj (fAnd (fTst (fBin dGt (gy 1) (fC (.int 0)))) (fNot (fTst (du vg (ao (fIxV 1 (fUn dNeg (fC (.int 1)))) (ao (fVar 3) (fNil))))))) zd9 n
   [v0,some (.ow (D.reverse.map bD)),v2,some (.sh (bD b))]=some (.nx,[v0,some (.ow ((mh D b).1.reverse.map bD)),v2,some (.sh (bD (mh D b).2))])
 | n+1,[],b,_,_,_,_=>by simp[nj,mh]
 | n+1,u::r,b,h,hs,hb,hl=>by
   rw[db,am] at hl;have J:vg [bD u,bD b]=some (.bl (decide (gt (blk u) (blk b)))):=zv3 (blk u) (blk b) (smB u (hs u (by simp)) (by lia)) (smB b hb (by lia));have R:(0:Int)<(r.length:Int)+1:=by lia
   have I:=zte v0 v2 (r.reverse.map bD) u b;unfold nj;rw[List.reverse_cons,b6,bz,dc];by_cases h1:gt (blk u) (blk b)
   ·simp[mh,h1,J,R,zya]
   ·have U:=zu0 v0 v2 n r (u++b) (by simpa using h) (λt V=>hs t (by simp[V])) (λx hx=>by
     rcases de.mp hx with hx | hx
     ·exact hs u (by simp) x hx
     ·exact hb x hx) (by rw[am];lia)
    have Y:mh (u::r) b=mh r (u++b):=by simp[mh,h1]
    rw[Y];have Z:(fAnd (fTst (fBin dGt (gy 1) (fC (.int 0)))) (fNot (fTst (du vg (ao (fIxV 1 (fUn dNeg (fC (.int 1)))) (ao (fVar 3) (fNil)))))))
      [v0,some (.ow (r.reverse.map bD++[bD u])),v2,some (.sh (bD b))]=some (true,[v0,some (.ow (r.reverse.map bD++[bD u])),v2,some (.sh (bD b))]):=by
     simp[h1,J,R,zya]
    rw[Z,ac];rw[if_pos rfl,I,ac];exact U
structure Good (r:nu):Prop where
 ne:r≠[]
 beg:∀p,p <+: r->lss p*hrs r<=lss r*hrs p
theorem z2i(r:nu)(h:∀x∈r,i6 x):0<=hrs r:=by have:=yk r h;lia
theorem ua(r:nu)(h:∀x∈r,i6 x)(D:r≠[]):0<hrs r:=by
 have h1:=yk r h;have:0<r.length:=i8.mpr D
 lia
def ztf{α:Type}:∀ {u b p:List α},p <+: u++b->p <+: u\/∃t,p=u++t/\t <+: b
 | [],b,p,h=>.inr ⟨p,rfl,h⟩
 | a::u,b,[],h=>.inl List.nil_prefix
 | a::u,b,c::p,h=>by
   rw[j0,List.cons_prefix_cons] at h;obtain⟨rfl,h⟩:=h;rcases ztf h with h | ⟨t,rfl,ht⟩
   ·exact .inl (by rw[List.cons_prefix_cons];exact⟨rfl,h⟩)
   ·exact .inr ⟨t,rfl,ht⟩
variable{b:Bk}
theorem Good.join{u b:nu}(I:Good u)(R:Good b)(U:∀x∈u,i6 x)(V:∀x∈b,i6 x)(h:¬gt (blk u) (blk b)):Good (u++b):=by
 have h':lss u*hrs b<=lss b*hrs u:=Int.not_lt.mp h;have d:=ua u U I.ne;have Y:=ua b V R.ne;refine⟨by simp[I.ne],λp D=>?_⟩;rw[oz,rh];rcases ztf D with D | ⟨t,rfl,ht⟩
 ·-- within u
  have h1:=I.beg p D;have pp:0<=hrs p:=z2i p λx J=>U x (D.subset J);have l:lss p*hrs u*(hrs u+hrs b)<=lss u*hrs p*(hrs u+hrs b):=gw h1 (by lia);have m:hrs p*(lss u*hrs b)<=hrs p*(lss b*hrs u):=tu h' pp;have e:lss p*(hrs u+hrs b)*hrs u<=(lss u+lss b)*hrs p*hrs u:=by
   have Z:lss p*(hrs u+hrs b)*hrs u=lss p*hrs u*(hrs u+hrs b):=by rw[im,jq (hrs u+hrs b),<-im]
   have c:lss u*hrs p*(hrs u+hrs b)=lss u*hrs p*hrs u+hrs p*(lss u*hrs b):=by rw[jg,jq (lss u) (hrs p),im (hrs p) (lss u) (hrs b)]
   have f:(lss u+lss b)*hrs p*hrs u=lss u*hrs p*hrs u+hrs p*(lss b*hrs u):=by rw[i5,i5,jq (lss b) (hrs p),im (hrs p) (lss b) (hrs u)]
   lia
  exact wt e d
 ·-- u and a beginning of b
  rw[oz,rh];have h1:=R.beg t ht;obtain⟨q,rfl⟩:=ht;rw[oz,rh] at h1 h' ⊢;rw[oz] at Y;have g:0<=hrs q:=z2i q λx J=>V x (cb _ J);have i:lss t*hrs q<=lss q*hrs t:=by
   have Z:lss t*(hrs t+hrs q)=lss t*hrs t+lss t*hrs q:=jg _ _ _;have c:(lss t+lss q)*hrs t=lss t*hrs t+lss q*hrs t:=i5 _ _ _
   lia
  have n:lss u*(hrs t+hrs q)*hrs q<=(lss t+lss q)*hrs u*hrs q:=gw h' g;have j:0<=hrs u:=by lia
  have b3:hrs u*(lss t*hrs q)<=hrs u*(lss q*hrs t):=tu i j;have k:lss u*hrs q*(hrs t+hrs q)<=lss q*hrs u*(hrs t+hrs q):=by
   have Z:lss u*hrs q*(hrs t+hrs q)=lss u*(hrs t+hrs q)*hrs q:=by rw[im,jq (hrs q),<-im]
   have c:(lss t+lss q)*hrs u*hrs q=hrs u*(lss t*hrs q)+lss q*hrs u*hrs q:=by rw[i5,i5,jq (lss t) (hrs u),im (hrs u) (lss t) (hrs q)]
   have f:lss q*hrs u*(hrs t+hrs q)=hrs u*(lss q*hrs t)+lss q*hrs u*hrs q:=by rw[jg,jq (lss q) (hrs u),im (hrs u) (lss q) (hrs t)]
   lia
  have o:lss u*hrs q<=lss q*hrs u:=wt k Y;simp only[jg,i5]
  lia
def Desc:nw->Prop
 | []=>True
 | [_]=>True
 | b::u::r=>gt (blk u) (blk b)/\Desc (u::r)
structure Runs (rs:nw) (s:nu):Prop where
 flat:rs.reverse.flatten=s
 good:∀r∈rs,Good r
 desc:Desc rs
def zu1:∀(R:nw) (b:nu) (s:nu),Runs R s->Good b->(∀x∈s++b,i6 x)->Runs ((mh R b).2::(mh R b).1) (s++b)
 | [],b,s,h,gb,_=>by
   have:s=[]:=by have:=h.flat;simpa using this.symm
   subst this;exact⟨by simp[mh],λr I=>by simp[mh] at I;rw[I];exact gb,trivial⟩
 | u::r,b,s,h,gb,hx=>by
   have J:s=r.reverse.flatten++u:=by rw[<-h.flat];simp
   by_cases h1:gt (blk u) (blk b)
   ·have e:mh (u::r) b=(u::r,b):=by simp[mh,h1]
    rw[e];refine⟨by simp[J],λt ht=>?_,h1,h.desc⟩;rcases b8.mp ht with rfl | ht
    ·exact gb
    ·exact h.good t ht
   ·have e:mh (u::r) b=mh r (u++b):=by simp[mh,h1]
    rw[e];have I:Runs r r.reverse.flatten:=⟨rfl,λt ht=>h.good t (ay _ ht),by
     have:=h.desc;cases r with
     | nil=>trivial
     | cons v r=>exact this.2⟩
    have U:Good (u++b):=(h.good u (by simp)).join gb (λx D=>hx x (by rw[J];simp[D])) (λx D=>hx x (by simp[D])) h1;have:=zu1 r (u++b) r.reverse.flatten I U (λx D=>hx x (by rw[J];simpa[or_assoc] using D));rw[J,d5];exact this
def z07(x:Sk)(h:i6 x):Good [x]:=⟨by simp,λp I=>by
 have:p=[]\/p=[x]:=by
  obtain⟨t,D⟩:=I;cases p with
  | nil=>exact .inl rfl
  | cons y q=>simp at D;simp[D]
 rcases this with rfl | rfl
 ·simp[lss,hrs]
 ·exact Int.le_refl _⟩
def zyb(x:Sk):zfp [sD x]=some (bD [x]):=by
 rw[zx8];simp[bD,blk,hrs,lss]
theorem ztg(S:D)(I:nw)(s:nu)(x:Sk)(v2 f:nb)(h:Runs I s)(Y:∀y∈s++[x],i6 y)(n:s.length<900) :
  ∃R b,Runs R (s++[x])/\zea [some (.sh S),some (.ow (I.reverse.map bD)),some (.sh (sD x)),f]=some (.nx,[some (.sh S),some (.ow (R.reverse.map bD)),some (.sh (sD x)),b]):=by
 have U:I.flatten.length=s.length:=by
  rw[<-h.flat,i9,i9,List.map_reverse,List.sum_reverse]
 have g:I.length<=s.length:=by
  rw[<-U];have:∀(l:nw),(∀r∈l,r≠[])->l.length<=l.flatten.length:=λl=>by
   induction l with
   | nil=>intro _;simp
   | cons a l ih =>
     intro V;have:=ih λr J=>V r (ay _ J);have i:0<a.length:=i8.mpr (V a bu);rw[ak,db,am]
     lia
  exact this I λr J=>(h.good r J).ne
 have j:=zu0 (some (.sh S)) (some (.sh (sD x))) 10000 I [x] (by lia) (λr J y Z=>Y y (by
  rw[<-h.flat];exact dy _ (gc.mpr ⟨r,by simpa using J,Z⟩))) (λy Z=>Y y (by simp at Z;simp[Z])) (by rw[U];simp;lia)
 have J:=zu1 I [x] s h (z07 x (Y x (by simp))) Y;refine⟨_,some (.sh (bD (mh I [x]).2)),J,?_⟩;have d:(mh I [x]).1.length<=s.length:=by
  have e:=J.flat;have:∀(l:nw),(∀r∈l,r≠[])->l.length<=l.flatten.length:=λl=>by
   induction l with
   | nil=>intro _;simp
   | cons a l ih =>
     intro V;have:=ih λr J=>V r (ay _ J);have i:0<a.length:=i8.mpr (V a bu);rw[ak,db,am]
     lia
  have h2:=this _ λr c=>(J.good r c).ne;have k:(((mh I [x]).2::(mh I [x]).1).flatten).length=(s++[x]).length:=by
   rw[<-e,i9,i9,List.map_reverse,List.sum_reverse]
  rw[k] at h2;simp at h2;exact h2
 have m:Few ((mh I [x]).1.length+1):=few (by lia);unfold zea;simp only[sSeq,sSet,du,ao,fVar,fNil,ae,ah,ac,ai,zyb,au,av,j,iy,mw,yd,af,List.length_reverse,m,if_true];simp
theorem zj4(s:nu)(Y:∀y∈s,i6 y)(b:s.length<=14):∃D,Runs D s/\zhy [.lst (s.map sD)]=some (.lst (D.reverse.map bD)):=by
 obtain⟨e',h1,D,v2,I,J,rfl⟩:=qo (i:=2) (g:=zea) sD (λp e=>∃D v2 I,Runs D p/\e=[some (.sh (.lst (s.map sD))),some (.ow (D.reverse.map bD)),v2,I]) s
  [some (.sh (.lst (s.map sD))),some (.ow []),none,none] ⟨[],none,none,⟨rfl,λr J=>by simp at J,trivial⟩,rfl⟩ (by
   rintro p x q e R ⟨D,v2,I,J,rfl⟩;obtain⟨U,Z,V,a⟩:=ztg (.lst (s.map sD)) D p x v2 I J (λy hy=>Y y (by
    rw[R];rcases de.mp hy with hy | hy
    ·simp[hy]
    ·simp at hy;simp[hy])) (by
    have:s.length=p.length+(q.length+1):=by rw[R];simp
    lia)
   exact⟨_,a,U,_,_,V,rfl⟩)
 refine⟨D,J,?_⟩;refine jl (e':=[some (.sh (.lst (s.map sD))),some (.sh (.lst (D.reverse.map bD))),v2,I]) rfl ?_;show zhx [some (.sh (.lst (s.map sD))),none,none,none]=_;simp[zhx,h1]
theorem z4q(a b c:mu):cutD (a++(b++c)) (some ((a.length:Int))) (some ((a.length:Int)+(b.length:Int)))=b:=by
 unfold cutD;rw[HT.sIx_nat,show(a.length:Int)+(b.length:Int)=((a.length+b.length:Nat):Int) by lia,HT.sIx_nat];simp
def xl(f:α->Int)(r:List α):bSum [.lst (r.map λx=>.int (f x))]=some (.int (r.map f).sum):=by
 have:(r.map λx=>D.int (f x))=(r.map f).map D.int:=by rw[ig];rfl
 rw[this];show(ints? ((r.map f).map D.int)).map _=_;rw[zxc];rfl
def zr7{α:Type}{ix:kf}{g:FS}(I:α->mu)(P:List α->DE0->Prop)(all:List α)(R:∀x∈all,(I x).length=ix.length)(U:∀(p:List α) (x:α) (q:List α) (e:DE0),all=p++x::q->P p e->∃e',g (pi ix (I x) e)=some (.nx,e')/\P (p++[x]) e') :
  ∀(xs J:List α) (e:DE0),all=J++xs->P J e->∃e',forU ix g (xs.map λx=>D.tup (I x)) e=some (.nx,e')/\P all e'
 | [],J,e,h,hp=>⟨e,rfl,by rw[h,df];exact hp⟩
 | x::xs,J,e,h,hp=>by
   obtain⟨V,h1,p1⟩:=U J x xs e h hp;obtain⟨Y,h2,p2⟩:=zr7 I P all R U xs (J++[x]) V (by rw[h];simp) p1;have Z:=R x (by rw[h];simp);exact⟨Y,by simp[forU,unp,Z,h1,h2],p2⟩
variable{g:FS}
def we{ix:kf}(I:α->mu)(P:List α->DE0->Prop)(all:List α)(e:DE0)(J:P [] e)(R:∀x∈all,(I x).length=ix.length)(U:∀(p:List α) (x:α) (q:List α) (e:DE0),all=p++x::q->P p e->∃e',g (pi ix (I x) e)=some (.nx,e')/\P (p++[x]) e') :
  ∃e',forU ix g (all.map λx=>D.tup (I x)) e=some (.nx,e')/\P all e':=zr7 I P all R U all [] e rfl J
def zn5{α:Type}(f:α->D):∀(xs:List α) (c:Nat),qj c (xs.map f)=(xs.zipIdx c).map λp=>D.tup [.int (p.2:Nat),f p.1]
 | [],c=>rfl
 | x::xs,c=>by simp[qj,List.zipIdx_cons,zn5 f xs (c+1)]
def zu2{α β:Type}(f:α->D)(g:β->D):∀(xs:List α) (ys:List β),zipD (xs.map f) (ys.map g)=(xs.zip ys).map λp=>D.tup [f p.1,g p.2]
 | [],ys=>by simp[zipD]
 | x::xs,[]=>by simp[zipD]
 | x::xs,y::ys=>by simp[zipD,zu2 f g xs ys]
theorem wc{u:Bk}(h:gt u b):¬gt b u:=λz=>by
 unfold gt at h z
 lia
variable{c:Bk}
theorem z08{n:Bk}(J:0<n.2.1)(R:0<c.2.1)(D:0<b.2.1)(h1:gt n c)(h2:¬gt b c):gt n b:=by
 have h2:b.2.2*c.2.1<=c.2.2*b.2.1:=Int.not_lt.mp h2;have U:b.2.2*c.2.1*n.2.1<=c.2.2*b.2.1*n.2.1:=gw h2 (by lia);have V:c.2.2*n.2.1*b.2.1<n.2.2*c.2.1*b.2.1:=vh h1 D;have I:b.2.2*n.2.1*c.2.1<n.2.2*b.2.1*c.2.1:=by
  have Y:b.2.2*n.2.1*c.2.1=b.2.2*c.2.1*n.2.1:=ii ..;have Z:n.2.2*b.2.1*c.2.1=n.2.2*c.2.1*b.2.1:=ii ..;have a:c.2.2*b.2.1*n.2.1=c.2.2*n.2.1*b.2.1:=ii ..
  lia
 exact wq I (by lia)
theorem yab{n:Bk}(D:0<n.2.1)(J:0<c.2.1)(R:0<b.2.1)(h1:¬gt c n)(h2:gt c b):gt n b:=by
 have h1:c.2.2*n.2.1<=n.2.2*c.2.1:=Int.not_lt.mp h1;have U:c.2.2*n.2.1*b.2.1<=n.2.2*c.2.1*b.2.1:=gw h1 (by lia);have V:b.2.2*c.2.1*n.2.1<c.2.2*b.2.1*n.2.1:=vh h2 D;have I:b.2.2*n.2.1*c.2.1<n.2.2*b.2.1*c.2.1:=by
  have Y:b.2.2*n.2.1*c.2.1=b.2.2*c.2.1*n.2.1:=ii ..;have Z:n.2.2*b.2.1*c.2.1=n.2.2*c.2.1*b.2.1:=ii ..;have a:c.2.2*b.2.1*n.2.1=c.2.2*n.2.1*b.2.1:=ii ..
  lia
 exact wq I (by lia)
def z8h{n:Bk}(D:0<n.2.1)(I:0<c.2.1)(J:0<b.2.1)(h1:¬gt c n)(h2:¬gt b c):¬gt b n:=λz=>by
 have:=z08 (n:=b) (c:=n) (b:=c) J D I z h1;exact h2 this
abbrev Tn:=Nat×nu
abbrev n0:=List Tn
def tnD(t:Tn):D:=.tup [.int (t.1:Int),.int (t.2.length:Int),.int (hrs t.2),.int (lss t.2)]
def zn6(t:Tn):uh [tnD t]=some (.tup [.int (hrs t.2),.int (lss t.2)]):=by
 simp[uh,runD,zmu,ji,tnD,z93,z94]
def geT(a b:Tn):Bool:=!decide (gt (blk b.2) (blk a.2))
variable{b:Int}{a:Nat}
def z4r{a b:Tn}:geT a b=true↔¬gt (blk b.2) (blk a.2):=by simp[geT]
theorem z4s(t n:Tn)(D:SmB (blk t.2))(I:SmB (blk n.2)):∃z:Int,u9 [.tup [.int (hrs t.2),.int (lss t.2)],.tup [.int (hrs n.2),.int (lss n.2)]]=some (.int z)/\decide (0<=z)=geT t n:=by
 refine⟨_,zuz _ _ _ _ D.2 I.2,?_⟩;show decide ((0:Int)<=if lss n.2*hrs t.2<lss t.2*hrs n.2 then 1 else if lss t.2*hrs n.2<lss n.2*hrs t.2 then -1 else 0)=!decide (lss t.2*hrs n.2<lss n.2*hrs t.2);by_cases h1:lss n.2*hrs t.2<lss t.2*hrs n.2
 ·rw[if_pos h1]
  have h2:¬lss t.2*hrs n.2<lss n.2*hrs t.2:=by lia
  simp[h2]
 ·rw[if_neg h1]
  by_cases h2:lss t.2*hrs n.2<lss n.2*hrs t.2
  ·simp[h2]
  ·simp[h2]
def plc(ts:n0)(n:Tn):Nat:=(ts.takeWhile λt=>geT t n).length
noncomputable def zpc:FT:=fAnd (fTst (fBin dLt (fVar 2) (gy 0))) (fTst (fBin dGe (du u9 (ao (du uh (ao (fIxV 0 (fVar 2)) (fNil))) (ao (du uh (ao (fVar 1) (fNil))) (fNil)))) (fC (.int 0))))
theorem zn7(n:Tn)(Y:SmB (blk n.2)):∀(I D:n0) (J:Nat),I.length<J->(∀t∈I,SmB (blk t.2)) ->
  nj zpc zct J [some (.sh (.lst ((D++I).map tnD))),some (.sh (tnD n)),some (.sh (.int (D.length:Int)))]=some (.nx,[some (.sh (.lst ((D++I).map tnD))),some (.sh (tnD n)),some (.sh (.int ((D.length+plc I n:Nat):Int)))])
 | [],D,f+1,h,_=>by
   unfold nj zpc;simp[plc]
 | t::r,D,f+1,h,hs=>by
   obtain⟨z,a,b⟩:=z4s t n (hs t (by simp)) Y;have R:atI ((D++t::r).map tnD) (D.length:Int)=some (tnD t):=kr tnD (by simp);have U:(D.length:Int)<((D++t::r).map tnD).length:=by simp;lia
   have c:zpc [some (.sh (.lst ((D++t::r).map tnD))),some (.sh (tnD n)),some (.sh (.int (D.length:Int)))]=some (geT t n,[some (.sh (.lst ((D++t::r).map tnD))),some (.sh (tnD n)),some (.sh (.int (D.length:Int)))]):=by
    unfold zpc;generalize (D++t::r).map tnD=L at R U;simp[U,R,zn6,a,b]
   unfold nj;rw[c,ac];cases hg:geT t n with
   | false =>
     simp[plc,hg]
   | true =>
     rw[if_pos rfl];have d:zct [some (.sh (.lst ((D++t::r).map tnD))),some (.sh (tnD n)),some (.sh (.int (D.length:Int)))]=some (.nx,[some (.sh (.lst ((D++t::r).map tnD))),some (.sh (tnD n)),some (.sh (.int ((D++[t]).length:Int)))]):=by
      simp[zct]
     rw[d,ac];have Z:=zn7 n Y r (D++[t]) f (by simpa using h) λt' V=>hs t' (by simp[V]);rw[d5,jw] at Z;rw[Z];have:(D++[t]).length+plc r n=D.length+plc (t::r) n:=by simp[plc,hg];lia
     rw[this]
theorem z09(ts:n0)(n:Tn)(D:SmB (blk n.2))(I:∀t∈ts,SmB (blk t.2))(J:ts.length<9000):zg7 [.lst (ts.map tnD),tnD n]=some (.int (plc ts n:Int)):=by
 have h:=zn7 n D ts [] 10000 (by lia) I;refine jl (e':=[some (.sh (.lst (ts.map tnD))),some (.sh (tnD n)),some (.sh (.int (plc ts n:Int)))]) rfl ?_;show zg6 [some (.sh (.lst (ts.map tnD))),some (.sh (tnD n)),none]=_;have h':nj zpc zct 10000 [some (.sh (.lst (ts.map tnD))),some (.sh (tnD n)),some (.sh (.int 0))]=_:=h;unfold zpc at h';simp[zg6,h']
def ins(ts:n0)(n:Tn):n0:=(ts.takeWhile λt=>geT t n)++n::ts.dropWhile λt=>geT t n
def z8i(ts:n0)(n:Tn):(ts.map tnD).take (plc ts n)++tnD n::(ts.map tnD).drop (plc ts n)=(ins ts n).map tnD:=by
 have e:=jv (p:=λt=>geT t n) (l:=ts);have D:plc ts n=(ts.takeWhile λt=>geT t n).length:=rfl;have h1:ts.take (plc ts n)=ts.takeWhile λt=>geT t n:=by
  rw[D];generalize (ts.takeWhile λt=>geT t n)=A at e;rw[<-e];exact jo
 have h2:ts.drop (plc ts n)=ts.dropWhile λt=>geT t n:=by
  rw[D];generalize (ts.takeWhile λt=>geT t n)=A at e
  conv=>lhs;rw[<-e]
  exact List.drop_left
 rw[<-List.map_take,<-List.map_drop,h1,h2];simp[ins]
def z8j(ts:n0)(n:Tn):plc ts n<=ts.length:=(List.takeWhile_sublist _).length_le
theorem zv4(v0 J V:nb)(ts:n0)(I:Nat)(r:nu)(Y:SmB (blk r))(Z:∀t∈ts,SmB (blk t.2))(a:ts.length<9000) :
  zds [v0,some (.ow (ts.map tnD)),some (.sh (.int (I:Int))),J,some (.sh (.int (r.length:Int))),some (.sh (.int (hrs r))),some (.sh (.int (lss r))),V] =
   some (.nx,[v0,some (.ow ((ins ts (I,r)).map tnD)),some (.sh (.int (I:Int))),J,some (.sh (.int (r.length:Int))),some (.sh (.int (hrs r))),some (.sh (.int (lss r))),some (.sh (tnD (I,r)))]):=by
 have R:=z09 ts (I,r) Y Z a;have U:=z8i ts (I,r);have h1:(plc ts (I,r):Int)<=((ts.map tnD).length:Nat):=by rw[af];have:=z8j ts (I,r);lia
 have h2:Few ((ts.map tnD).length+1):=few (by rw[af];lia);have b:D.tup [.int (I:Int),.int (r.length:Int),.int (hrs r),.int (lss r)]=tnD (I,r):=rfl;have c:(0:Int)<=(plc ts (I,r):Int):=by lia
 generalize ts.map tnD=L at R U h1 h2;simp[zds,zp3,zrt,z0o,b,R,z37,z30,c,h1,h2,gk,U]
def bef(a b:Tn):Prop:=gt (blk a.2) (blk b.2)\/(¬gt (blk b.2) (blk a.2)/\a.1<b.1)
def ofS(ts:n0)(j:Nat):nw:=(ts.filter λt=>t.1==j+1).map (·.2)
structure TurnsOk (ss:nw) (ts:n0):Prop where
 lo:∀t∈ts,1<=t.1/\t.1<=ss.length
 good:∀t∈ts,Good t.2
 part:∀(j:Nat) (s:nu),ss[j]?=some s->(ofS ts j).flatten=s
 srt:ts.Pairwise bef
 perm:(ts.map (·.2)).flatten.Perm ss.flatten
variable{ss:nw}{ts:n0}
def TurnsOk.sk(h:TurnsOk ss ts)(D:∀x∈ss.flatten,i6 x):∀t∈ts,∀x∈t.2,i6 x:=λt I x J =>
 D x (h.perm.mem_iff.mp (gc.mpr ⟨t.2,fq.mpr ⟨t,I,rfl⟩,J⟩))
def TurnsOk.len1(h:TurnsOk ss ts):∀t∈ts,t.2.length<=ss.flatten.length:=λt D=>by
 rw[<-h.perm.length_eq];exact(d6 (fq.mpr ⟨t,D,rfl⟩)).length_le
theorem zyc{α:Type}:∀(l:List (List α)),(∀r∈l,r≠[])->l.length<=l.flatten.length
 | [],_=>by simp
 | a::l,h=>by
   have:=zyc l λr D=>h r (ay _ D);have I:0<a.length:=i8.mpr (h a bu);rw[ak,db,am]
   lia
def TurnsOk.len(h:TurnsOk ss ts):ts.length<=ss.flatten.length:=by
 have:=zyc (ts.map (·.2)) λr D=>by
  obtain⟨t,I,rfl⟩:=fq.mp D;exact(h.good t I).ne
 rw[af,h.perm.length_eq] at this;exact this
protected def TurnsOk.pos(h:TurnsOk ss ts)(I:∀x∈ss.flatten,i6 x):∀t∈ts,0<hrs t.2:=λt D=>ua t.2 (h.sk I t D) (h.good t D).ne
def TurnsOk.sm(h:TurnsOk ss ts)(I:∀x∈ss.flatten,i6 x)(J:ss.flatten.length<=1000):∀t∈ts,SmB (blk t.2):=λt D=>smB t.2 (h.sk I t D) (cy (h.len1 t D) J)
theorem TurnsOk.more(h:TurnsOk ss ts):TurnsOk (ss++[[]]) ts/\ofS ts ss.length=[]:=by
 have e:ofS ts ss.length=[]:=by
  unfold ofS;rw[List.filter_eq_nil_iff.mpr λt I=>by have:=(h.lo t I).2;simp;lia];rfl
 refine⟨⟨λt I=>⟨(h.lo t I).1,by have:=(h.lo t I).2;simp;lia⟩,h.good,λj s D=>?_,h.srt,by simpa using h.perm⟩,e⟩;by_cases J:j<ss.length
 ·rw[ax J] at D
  exact h.part j s D
 ·have:j=ss.length:=by
   have:=(aj.mp D).1;simp at this
   lia
  subst this;simp at D;subst D;rw[e];rfl
def z4t{ts:n0}{n t:Tn}:t∈ins ts n↔t∈ts\/t=n:=by
 unfold ins;have e:=jv (p:=λt=>geT t n) (l:=ts);have D:t∈ts↔t∈(ts.takeWhile λt=>geT t n)\/t∈ts.dropWhile λt=>geT t n:=by
  conv=>lhs;rw[<-e]
  exact de
 rw[D];simp[de];constructor
 ·rintro(h | h | h)
  ·exact .inl (.inl h)
  ·exact .inr h
  ·exact .inl (.inr h)
 ·rintro((h | h) | h)
  ·exact .inl h
  ·exact .inr (.inr h)
  ·exact .inr (.inl h)
theorem TurnsOk.ins{ss:nw}{ts:n0}{D r:nu}{p:nw}(h:TurnsOk (ss++[D]) ts)(Y:ofS ts ss.length=p)(n:Good r)(i:∀x∈r,i6 x)(w:∀x∈(ss++[D]).flatten,i6 x)(y:∀u∈p,gt (blk u) (blk r)):TurnsOk (ss++[D++r]) (LB.ins ts (ss.length+1,r))/\ofS (LB.ins ts (ss.length+1,r)) ss.length=p++[r]:=by
 have e:=jv (p:=λt=>geT t (ss.length+1,r)) (l:=ts);have hA:∀t∈(ts.takeWhile λt=>geT t (ss.length+1,r)),geT t (ss.length+1,r)=true:=λt R=>by
  have:=List.all_takeWhile (p:=λt=>geT t (ss.length+1,r)) (l:=ts);exact gv.mp this t R
 have C:0<hrs r:=ua r i n.ne;have I:=@z4t ts (ss.length+1,r);have k:∀U d,ts.dropWhile (λt=>geT t (ss.length+1,r))=U::d->gt (blk r) (blk U.2):=λU d hb=>by
  have:geT U (ss.length+1,r)=false:=by
   have:=List.head?_dropWhile_not (p:=λt=>geT t (ss.length+1,r)) ts;rw[hb] at this;simpa using this
  unfold geT at this;simpa using this
 unfold LB.ins at I ⊢;have srt:=h.srt;have pos:=h.pos w;have V:∀t∈ts,t.1=ss.length+1->gt (blk t.2) (blk r):=λt R Z=>y t.2 (by
  rw[<-Y];exact fq.mpr ⟨t,j7.mpr ⟨R,by simp[Z]⟩,rfl⟩)
 have lo:=h.lo;have part:=h.part;have J:=h.perm;rw[<-e] at srt pos V lo part J Y;generalize (ts.takeWhile λt=>geT t (ss.length+1,r))=A at *;generalize (ts.dropWhile λt=>geT t (ss.length+1,r))=B at *;have o:∀b∈B,gt (blk r) (blk b.2):=λb hb=>by
  cases B with
  | nil=>simp at hb
  | cons U d =>
    have q:=k U d rfl;rcases b8.mp hb with rfl | hb'
    ·exact q
    ·have E:=(iz.mp srt).2.1
     have:=(fg.mp E).1 b hb';have F:¬gt (blk b.2) (blk U.2):=by
      rcases this with z | z
      ·exact wc z
      ·exact z.1
     exact z08 C (pos U (by simp)) (pos b (by simp[hb'])) q F
 have v:(B.filter λt=>t.1==ss.length+1)=[]:=List.filter_eq_nil_iff.mpr λt R=>by
  intro z;exact wc (o t R) (V t (by simp[R]) (by simpa using z))
 have of:ofS (A++(ss.length+1,r)::B) ss.length=p++[r]:=by
  unfold ofS at Y ⊢;rw[jf,v,df] at Y;rw[jf,lv (by simp),v,b6,Y];rfl
 refine⟨⟨λt R=>?_,λt R=>?_,λj s f=>?_,?_,?_⟩,of⟩
 ·rcases(I.mp R) with z | z
  ·have:=h.lo t z;simp at this ⊢;lia
  ·subst z;simp
 ·rcases(I.mp R) with z | z
  ·exact h.good t z
  ·subst z;exact n
 ·by_cases c:j<ss.length
  ·rw[ax c] at f
   have:=part j s (by rw[ax c];exact f);rw[<-this];unfold ofS;rw[jf,jf,lw (by simp;lia)]
  ·have:j=ss.length:=by
    have:=(aj.mp f).1;simp at this
    lia
   subst this;have G:D++r=s:=by simpa using f
   rw[of,<-G];have:=part ss.length D (by simp);rw[show ofS (A++B) ss.length=p from Y] at this;simp[this]
 ·have m:=iz.mp srt
  refine iz.mpr ⟨m.1,fg.mpr ⟨λb hb=>.inl (o b hb),m.2.1⟩,λa g b hb=>?_⟩;rcases b8.mp hb with rfl | hb
  ·have H:=hA a g
   by_cases Z:a.1=ss.length+1
   ·exact .inl (V a (by simp[g]) Z)
   ·have:=(lo a (by simp[g])).2
    exact .inr ⟨z4r.mp H,by simp at this ⊢;lia⟩
  ·exact m.2.2 a g b hb
 ·have Z:((A++(ss.length+1,r)::B).map (·.2)).flatten=(A.map (·.2)).flatten++(r++(B.map (·.2)).flatten):=by simp
  have K:(ss++[D++r]).flatten=(ss++[D]).flatten++r:=by simp
  rw[Z,K];have L:((A++B).map (·.2)).flatten=(A.map (·.2)).flatten++(B.map (·.2)).flatten:=by simp
  rw[L] at J;refine List.Perm.trans ?_ (J.append_right r);rw[d5];exact List.Perm.append_left _ List.perm_append_comm
def zth:∀(D:nw),Desc D->(∀r∈D,0<hrs r)->D.Pairwise (λb u=>gt (blk u) (blk b))
 | [],_,_=>.nil
 | [b],_,_=>by simp
 | b::u::r,h,hp=>by
   have J:=zth (u::r) h.2 λx I=>hp x (ay _ I);refine fg.mpr ⟨λx I=>?_,J⟩;rcases b8.mp I with rfl | hx'
   ·exact h.1
   ·have:=(fg.mp J).1 x hx'
    exact z08 (hp x (by simp[hx'])) (hp u (by simp)) (hp b (by simp)) this (wc h.1)
theorem zti(S:D)(ss:nw)(s:nu)(ts:n0)(l m n o:nb)(h:TurnsOk ss ts)(B:∀x∈(ss++[s]).flatten,i6 x)(v:(ss++[s]).flatten.length<=14) :
  ∃I f i j Z,TurnsOk (ss++[s]) I/\zer [some (.sh S),some (.ow (ts.map tnD)),some (.sh (.int ((ss.length+1:Nat):Int))),some (.sh (.lst (s.map sD))),l,m,n,o] =
   some (.nx,[some (.sh S),some (.ow (I.map tnD)),some (.sh (.int ((ss.length+1:Nat):Int))),some (.sh (.lst (s.map sD))),f,i,j,Z]):=by
 have a:∀x∈s,i6 x:=λx hx=>B x (by simp[hx]);have w:s.length<=14:=by simp at v;lia
 obtain⟨V,t,E⟩:=zj4 s a w;have J:=t.flat;have c:∀r∈V.reverse,Good r:=λr h=>t.good r (List.mem_reverse.mp h);have d:∀r∈V.reverse,∀x∈r,i6 x:=λr h x hx=>a x (by rw[<-J];exact gc.mpr ⟨r,h,hx⟩);have k:V.reverse.Pairwise (λu b=>gt (blk u) (blk b)):=by
  rw[List.pairwise_reverse];exact zth V t.desc λr h=>ua r (d r (List.mem_reverse.mpr h)) (t.good r h).ne
 have C:=h.more;obtain⟨e',h1,I,f,i,j,Z,y,F,rfl⟩:=we (ix:=[4,5,6]) (g:=zds) (λr:nu=>[D.int (r.length:Int),.int (hrs r),.int (lss r)])
  (λp e=>∃I f i j Z,TurnsOk (ss++[p.flatten]) I/\ofS I ss.length=p/\e=[some (.sh S),some (.ow (I.map tnD)),some (.sh (.int ((ss.length+1:Nat):Int))),some (.sh (.lst (s.map sD))),f,i,j,Z]) V.reverse
  [some (.sh S),some (.ow (ts.map tnD)),some (.sh (.int ((ss.length+1:Nat):Int))),some (.sh (.lst (s.map sD))),l,m,n,o] ⟨ts,l,m,n,o,C.1,C.2,rfl⟩ (λ_ _=>rfl) (by
   rintro p r q e R ⟨I,f,i,j,Z,ok,of,rfl⟩;have U:r∈V.reverse:=by rw[R];simp
   have Y:∀x∈(ss++[p.flatten]).flatten,i6 x:=λx hx=>by
    rw[fc,de] at hx;rcases hx with hx | hx
    ·exact B x (by rw[fc];exact dy _ hx)
    ·refine a x ?_
     rw[<-J,R,fc];exact dy _ (by simpa using hx)
   have G:(ss++[p.flatten]).flatten.length<=14:=by
    have:p.flatten.length<=s.length:=by rw[<-J,R,fc,am];lia
    rw[fc,am] at v ⊢;simp only[db,List.flatten_nil,df] at v ⊢
    lia
   have z:∀u∈p,gt (blk u) (blk r):=λu H=>by
    rw[R] at k;exact(iz.mp k).2.2 u H r (by simp)
   obtain⟨K,L⟩:=ok.ins of (c r U) (d r U) Y z;have M:r.length<=14:=by
    have:r.length<=V.reverse.flatten.length:=(d6 U).length_le;rw[J] at this;lia
   have body:=zv4 (some (.sh S)) (some (.sh (.lst (s.map sD)))) Z I (ss.length+1) r (smB r (d r U) (by lia)) (ok.sm Y (by lia)) (by have:=ok.len;lia);exact⟨_,body,_,_,_,_,_,by simpa using K,L,rfl⟩)
 refine⟨I,f,i,j,Z,by rw[<-J];exact y,?_⟩;have A:forU [4,5,6] zds (V.reverse.map bD) [some (.sh S),some (.ow (ts.map tnD)),some (.sh (.int ((ss.length+1:Nat):Int))),some (.sh (.lst (s.map sD))),l,m,n,o]=_:=h1;simp only[zer,o9,fiS,du,ao,fVar,fNil,ae,ah,ac,ai,E,A]
def ssL(ss:nw):D:=.lst (ss.map λs=>D.lst (s.map sD))
theorem zkx(ss:nw)(h:∀x∈ss.flatten,i6 x)(i:ss.flatten.length<=14):∃ts,TurnsOk ss ts/\x0 [ssL ss]=some (.lst (ts.map tnD)):=by
 obtain⟨e',h1,ts,v2,Z,I,J,R,U,ok,rfl⟩:=we (ix:=[2,3]) (g:=zer) (λp:nu×Nat=>[D.int (p.2:Int),D.lst (p.1.map sD)])
  (λp e=>∃ts v2 Z I J R U,TurnsOk (p.map (·.1)) ts/\e=[some (.sh (ssL ss)),some (.ow (ts.map tnD)),v2,Z,I,J,R,U]) (ss.zipIdx 1)
  [some (.sh (ssL ss)),some (.ow []),none,none,none,none,none,none] ⟨[],none,none,none,none,none,none,⟨by simp,by simp,by simp,.nil,by simp⟩,rfl⟩ (λ_ _=>rfl) (by
   rintro p x q e V ⟨ts,v2,Z,I,J,R,U,ok,rfl⟩;have b:ss=p.map (·.1)++x.1::q.map (·.1):=by
    have:=congrArg (List.map (·.1)) V;simpa using this
   have c:x.2=(p.map (·.1)).length+1:=by
    have:(ss.zipIdx 1)[p.length]?=some x:=by rw[V];simp
    rw[m6] at this;cases hs:ss[p.length]? with
    | none=>rw[hs] at this;cases this
    | some s =>
      rw[hs] at this;cases this;simp;lia
   have Y:ss.flatten=(p.map (·.1)++[x.1]).flatten++(q.map (·.1)).flatten:=by rw[b];simp
   obtain⟨d,k,l,m,n,f,a⟩:=zti (ssL ss) (p.map (·.1)) x.1 ts I J R U ok (λy j=>h y (by rw[Y];exact dy _ j)) (by rw[Y,am] at i;lia);rw[<-c] at a;exact⟨_,a,d,_,_,_,_,_,_,by simpa using f,rfl⟩)
 refine⟨ts,by simpa using ok,?_⟩;refine jl (e':=[some (.sh (ssL ss)),some (.sh (.lst (ts.map tnD))),v2,Z,I,J,R,U]) rfl ?_;show zie [some (.sh (ssL ss)),none,none,none,none,none,none,none]=_;have a:iEn 1 [ssL ss]=some ((ss.zipIdx 1).map λp=>D.tup [D.int (p.2:Int),D.lst (p.1.map sD)]):=by
  show some (qj 1 (ss.map λs=>D.lst (s.map sD)))=_;rw[zn5]
 simp only[zie,sSeq,sOwn,fu,fNil,ac,ai,bq,ft,if_true,au,av,o9,ip,ao,fVar,ae,ah,a,h1,sRet]
def il(n:Nat)(ts:n0):nw:=(List.range n).map λj=>(ofS ts j).flatten
def mz(n:Nat)(ts:n0):(il n ts).length=n:=by simp[il]
variable{j:Nat}
def qp(h:j<n):(il n ts)[j]?=some ((ofS ts j).flatten):=by simp[il,h]
protected theorem TurnsOk.left(h:TurnsOk ss ts):il ss.length ts=ss:=by
 apply dz;intro j;by_cases D:j<ss.length
 ·rw[qp D,h.part j ss[j] (by simp[D])]
  simp[D]
 ·rw[ce (by rw[mz];lia),ce (by lia)]
def zf(t:Tn)(ts:n0)(j:Nat)(h:t.1=j+1):ofS (t::ts) j=t.2::ofS ts j:=by
 unfold ofS;rw[lv (by simp[h])];rfl
def zhd(t:Tn)(ts:n0)(j:Nat)(h:t.1≠j+1):ofS (t::ts) j=ofS ts j:=by
 unfold ofS;rw[lw (by simp[h])]
variable{t:Tn}
theorem zmf(h1:1<=t.1)(h2:t.1<=n):(il n (t::ts))[t.1-1]?=some (t.2++(ofS ts (t.1-1)).flatten):=by
 rw[qp (by lia),zf t ts (t.1-1) (by lia)];simp
theorem zn8(h1:1<=t.1)(h2:t.1<=n):il n ts=(il n (t::ts)).set (t.1-1) ((ofS ts (t.1-1)).flatten):=by
 apply dz;intro j;by_cases D:j<n
 ·rw[gi,qp D,qp D,mz]
  by_cases e:t.1-1=j
  ·subst e
   simp[D]
  ·rw[if_neg e,zhd t ts j (by lia)]
 ·rw[ce (by rw[mz];lia),ce (by rw[dq,mz];lia)]
theorem zr8(h1:1<=t.1)(h2:t.1<=n):il n (t::ts)=(il n ts).set (t.1-1) (t.2++(ofS ts (t.1-1)).flatten):=by
 apply dz;intro j;by_cases D:j<n
 ·rw[gi,qp D,qp D,mz]
  by_cases e:t.1-1=j
  ·subst e
   rw[zf t ts (t.1-1) (by lia)];simp[D]
  ·rw[if_neg e,zhd t ts j (by lia)]
 ·rw[ce (by rw[mz];lia),ce (by rw[dq,mz];lia)]
def zn9{α:Type}:∀ {l:List (List α)} {j:Nat} {s x:List α},l[j]?=some s->(l.set j (x++s)).flatten.Perm (x++l.flatten)
 | a::l,0,s,x,h=>by
   simp at h;subst h;simp
 | a::l,j+1,s,x,h=>by
   have D:=zn9 (l:=l) (j:=j) (s:=s) (x:=x) (by simpa using h);simp;refine(D.append_left a).trans ?_;rw[<-d5,<-d5];exact List.perm_append_comm.append_right _
theorem zlf{n:Nat}:∀ {ts:n0},(∀t∈ts,1<=t.1/\t.1<=n)->(ts.map (·.2)).flatten.Perm (il n ts).flatten
 | [],_=>by
   have:(il n []).flatten=[]:=by simp[il,ofS]
   rw[this];exact .nil
 | t::ts,h=>by
   have D:=zlf (n:=n) (ts:=ts) λt' I=>h t' (ay _ I);obtain⟨h1,h2⟩:=h t bu;rw[zr8 h1 h2,bz,db];exact(D.append_left t.2).trans (zn9 (qp (by lia))).symm
def TurnsOk.tail(h:TurnsOk (il n (t::ts)) (t::ts)):TurnsOk (il n ts) ts:=by
 have lo:∀t'∈ts,1<=t'.1/\t'.1<=n:=λt' D=>by
  have:=h.lo t' (ay _ D);rw[mz] at this;exact this
 refine⟨λt' D=>by rw[mz];exact lo t' D,λt' D=>h.good t' (ay _ D),λj s I=>?_,(fg.mp h.srt).2,zlf lo⟩;have J:=(aj.mp I).1;rw[mz] at J;rw[qp J] at I;exact bn I
def zyd(a b:mu):cutD (a++b) none (some (a.length:Int))=a:=by
 unfold cutD;rw[HT.sIx_none,HT.sIx_nat];simp
def ztj(a b:mu):cutD (a++b) (some (a.length:Int)) none=b:=by
 unfold cutD;rw[HT.sIx_none,HT.sIx_nat];simp
variable{ar:Nat}{ds:mu}{e':DE0}
def ztk{I:mu}(h:ds.length=ar)(J:g (ji n ds)=some (.rf I,e')):runF n ar g ds=some I:=by
 unfold runF;rw[if_pos h,J]
theorem z4u(ss:nw)(J:ss.length<=1000):zk8 [ssL ss]=some (ss.map λs=>D.lst (s.map sD)):=by
 have c:=oh (te:=fLst (ip oo (ao (fVar 0) (fNil)))) (base:=[]) (λs:nu=>D.lst (s.map sD)) (λs:nu=>D.lst (s.map sD)) ss λs _=>⟨_,by simp;rfl⟩;have I:Few ss.length:=few (by lia);refine ztk (e':=[some (.sh (ssL ss))]) rfl ?_;show zk7 [some (.sh (.lst (ss.map λs:nu=>D.lst (s.map sD))))]=_;simp[zk7,iw,I,c];rfl
theorem zky(ss:nw)(Z:ss.length<=1000)(R:∀s∈ss,s.length<=1000):zy [ssL ss,ssL ss]=some (.bl true):=by
 obtain⟨e',h1,v2,rfl⟩:=rq (i:=2) (g:=zd2) (λk e=>∃v2,e=[some (.sh (ssL ss)),some (.sh (ssL ss)),v2]) (rngD 0 ss.length) [some (.sh (ssL ss)),some (.sh (ssL ss)),none] ⟨none,rfl⟩ (by
  rintro k d e U ⟨v2,rfl⟩;obtain⟨rfl,J⟩:=tf U;have V:atI (ss.map λs=>D.lst (s.map sD)) (k:Int)=some (.lst (ss[k].map sD)):=kr (λs:nu=>D.lst (s.map sD)) (by simp[J]);have Y:=zj3 (λs:Sk=>[s.1,s.2.1,s.2.2]) ss[k] (R _ (e7 J)) (λ_ _=>by simp);have I:qr [.lst (ss[k].map sD),.lst (ss[k].map sD)]=some (.bl true):=Y;exact⟨[some (.sh (ssL ss)),some (.sh (ssL ss)),some (.sh (.int (0+k)))],by simp[zd2,ssL,V,I],_,rfl⟩)
 have hi:=n4 ss.length (by lia);refine jl (e':=[some (.sh (ssL ss)),some (.sh (ssL ss)),v2]) rfl ?_;show zes [some (.sh (ssL ss)),some (.sh (ssL ss)),none]=_;unfold ssL at h1 ⊢;simp[zes,hi,h1]
theorem zj6(xs:k4)(U:xs.length<=1000):zb9 [.lst (xs.map D.int),.lst (xs.map D.int)]=some (.bl true):=by
 obtain⟨e',h1,v2,rfl⟩:=rq (i:=2) (g:=zdt) (λk e=>∃v2,e=[some (.sh (.lst (xs.map D.int))),some (.sh (.lst (xs.map D.int))),v2]) (rngD 0 xs.length) [some (.sh (.lst (xs.map D.int))),some (.sh (.lst (xs.map D.int))),none] ⟨none,rfl⟩ (by
  rintro k d e I ⟨v2,rfl⟩;obtain⟨rfl,J⟩:=tf I;have R:atI (xs.map D.int) (k:Int)=some (.int xs[k]):=kr D.int (by simp[J]);exact⟨[some (.sh (.lst (xs.map D.int))),some (.sh (.lst (xs.map D.int))),some (.sh (.int (0+k)))],by simp[zdt,R,xr],_,rfl⟩)
 have hi:=n4 xs.length (by lia);refine jl (e':=[some (.sh (.lst (xs.map D.int))),some (.sh (.lst (xs.map D.int))),v2]) rfl ?_;show zed [some (.sh (.lst (xs.map D.int))),some (.sh (.lst (xs.map D.int))),none]=_;simp[zed,hi,h1]
def hT:nw->Bk
 | []=>(0,1,-1)
 | r::_=>blk r
def kD(b:Bk):D:=.lst [.int b.1,.int b.2.1,.int b.2.2]
variable{r:nu}{q:kf}
theorem z8k{b q:nu}(h1:gt (blk r) (blk b))(h2:gt (blk r) (blk q)):gt (blk r) (blk (b++q)):=by
 have h1:lss b*hrs r<lss r*hrs b:=h1;have h2:lss q*hrs r<lss r*hrs q:=h2;show lss (b++q)*hrs r<lss r*hrs (b++q);rw[rh,oz,i5,jg]
 lia
theorem z2j{r:nu}(I:0<hrs r):∀(rest:nw) (q:nu),(∀b∈rest,gt (blk r) (blk b))->(∀b∈rest,Good b)->(∀b∈rest,∀x∈b,i6 x)->q <+: rest.flatten->q≠[]->gt (blk r) (blk q)
 | [],q,_,_,_,hq,ne=>by simp at hq;exact absurd hq ne
 | b::rest,q,hd,hg,hs,hq,ne=>by
   have J:=hg b (by simp);have R:=hs b (by simp);rcases ztf hq with hq | ⟨q',rfl,hq'⟩
   ·have sq:∀x∈q,i6 x:=λx V=>R x (hq.subset V)
    refine z08 I (ua b R J.ne) (ua q sq ne) (hd b (by simp)) ?_;have:=J.beg q hq;show ¬(lss b*hrs q<lss q*hrs b)
    lia
   ·by_cases U:q'=[]
    ·subst U
     rw[df];exact hd b (by simp)
    ·exact z8k (hd b (by simp)) (z2j I rest q' (λc D=>hd c (by simp[D])) (λc D=>hg c (by simp[D])) (λc D=>hs c (by simp[D])) hq' U)
variable{s:nu}
def zqj(D:k<s.length):hrs (s.take (k+1))=hrs (s.take k)+s[k].2.1/\lss (s.take (k+1))=lss (s.take k)+s[k].2.2:=by
 rw[List.take_succ_eq_append_getElem D,oz,rh];simp[hrs,lss]
theorem z4v(D:∀x∈s,i6 x)(J:s.length<=14)(k:Nat):0<=hrs (s.take k)/\hrs (s.take k)<=840/\0<=lss (s.take k)/\lss (s.take k)<=1400:=by
 have:=yk (s.take k) λx I=>D x (List.mem_of_mem_take I);have h2:(s.take k).length<=14:=by rw[dn];lia
 lia
theorem z4w(J:nw)(P:J.Pairwise λu b=>gt (blk u) (blk b))(H:∀r∈J,Good r)(f:∀x∈J.flatten,i6 x)(K:J.flatten.length<=14):zg8 [.lst (J.flatten.map sD)]=some (kD (hT J)):=by
 cases J with
 | nil=>simp[zg8,runD,zif,ji,hT,kD,n4 0 (by lia),rngD,forL,show iR1 [.int 0]=some (rngD 0 0) from n4 0 (by lia)]
 | cons r rest =>
   have o:(r::rest).flatten=r++rest.flatten:=db ..;rw[o] at f K ⊢;have p:=H r (by simp);have L:∀x∈r,i6 x:=λx t=>f x (by simp[t]);have Q:=ua r L p.ne;have W:=yk r L;have v:=(fg.mp P).1;generalize Z:r++rest.flatten=s at *;have w:r.length<=s.length:=by rw[<-Z];simp
   have tk:∀k,k<=r.length->s.take k <+: r:=λk j=>by
    rw[<-Z,f7 j];exact List.take_prefix _ _
   obtain⟨e',h1,X,l,rfl,R,U⟩:=rq (i:=4) (g:=zet) (λk e=>∃(b:Bk) (l:nb),e=[some (.sh (.lst (s.map sD))),some (.sh (kD b)),some (.sh (.int (hrs (s.take k)))),some (.sh (.int (lss (s.take k)))),l] /\
     (k<r.length->b=(0,1,-1)\/∃q,q <+: r/\b=blk q)/\(r.length<=k->b=blk r)) (rngD 0 s.length)
    [some (.sh (.lst (s.map sD))),some (.sh (kD (0,1,-1))),some (.sh (.int 0)),some (.sh (.int 0)),none] ⟨(0,1,-1),none,by simp[hrs,lss],λ_=>.inl rfl,λh=>absurd (lu.mp (Nat.le_zero.mp h)) p.ne⟩ (by
     rintro k d e y ⟨b,l,rfl,R,U⟩;obtain⟨rfl,j⟩:=tf y;obtain⟨m,n⟩:=zqj j;have bd:=z4v f K (k+1);have M:atI (s.map sD) (0+(k:Int))=some (sD s[k]):=by rw[jp];exact kr sD (by simp[j])
     have D:ly (hrs (s.take (k+1))):=uc (by lia);have I:ly (lss (s.take (k+1))):=uc (by lia);have N:dIx (sD s[k]) (.int 1)=some (.int s[k].2.1):=rfl;have O:dIx (sD s[k]) (.int 2)=some (.int s[k].2.2):=rfl;have A:zet [some (.sh (.lst (s.map sD))),some (.sh (kD b)),some (.sh (.int (hrs (s.take k)))),some (.sh (.int (lss (s.take k)))),some (.sh (.int (0+(k:Int))))] =
       some (.nx,[some (.sh (.lst (s.map sD))),some (.sh (kD (if b.2.2*hrs (s.take (k+1))<=lss (s.take (k+1))*b.2.1 then blk (s.take (k+1)) else b))),some (.sh (.int (hrs (s.take (k+1))))),some (.sh (.int (lss (s.take (k+1))))),some (.sh (.int (0+(k:Int))))]):=by
      have c:((s.take (k+1)).length:Int)=0+(k:Int)+1:=by rw[dn];lia
      by_cases a:b.2.2*hrs (s.take (k+1))<=lss (s.take (k+1))*b.2.1
      ·rw[if_pos a,show blk (s.take (k+1))=(0+(k:Int)+1,hrs (s.take (k+1)),lss (s.take (k+1))) by unfold blk;rw[c]]
       rw[m] at D;rw[n] at I;rw[m,n] at a ⊢;simp only[zet,kD,sSeq,sSet,sIf,sNil,fBin,fVar,fIxV,ixSl,fC,fTst,fLst,fu,ao,fNil,ae,ah,ac,ai,au,av,M,N,O,gn,xf,xb,re I,z2d D,dGe,decide_eq_true a,if_true,ak,bq,show(0+1+1+1<=64)=True by simp]
      ·rw[if_neg a]
       rw[m] at D;rw[n] at I;rw[m,n] at a ⊢;simp only[zet,kD,sSeq,sSet,sIf,sNil,fBin,fVar,fIxV,ixSl,fC,fTst,fLst,fu,ao,fNil,ae,ah,ac,ai,au,av,M,N,O,gn,xf,xb,re I,z2d D,dGe,decide_eq_false a,bx,if_false]
     refine⟨_,A,_,_,rfl,λV=>?_,λS=>?_⟩
     ·split
      ·exact .inr ⟨_,tk (k+1) (by lia),rfl⟩
      ·exact R (by lia)
     ·by_cases B:r.length<=k
      ·have Y:=U B
       subst Y;rw[if_neg];have C:s.take (k+1)=r++rest.flatten.take (k+1-r.length):=by
        rw[<-Z,List.take_append,ib (by lia)]
       have E:(rest.flatten.take (k+1-r.length))≠[]:=by
        intro z;have:=congrArg List.length z;rw[dn] at this;have T:s.length=r.length+rest.flatten.length:=by rw[<-Z,am]
        simp only[bq] at this
        lia
       have V:=z2j Q rest _ v (λb Y=>H b (by simp[Y])) (λb Y x t=>f x (by rw[<-Z];exact cb _ (gc.mpr ⟨b,Y,t⟩))) (List.take_prefix (k+1-r.length) rest.flatten) E;rw[C,oz,rh];have V:lss (rest.flatten.take (k+1-r.length))*hrs r<lss r*hrs (rest.flatten.take (k+1-r.length)):=V;show ¬(lss r*(hrs r+hrs _)<=(lss r+lss _)*hrs r);rw[jg,i5]
       lia
      ·have F:k+1=r.length:=by lia
       have C:s.take (k+1)=r:=by rw[F,<-Z];exact jo
       rw[C,if_pos];rcases R (by lia) with rfl | ⟨q,E,rfl⟩
       ·show -1*hrs r<=lss r*1
        lia
       ·exact p.beg q E)
   rw[vb,List.take_length] at h1;have Y:=U (by rw[vb];exact w);subst Y;have hi:iR1 [.int (s.length:Int)]=some (rngD 0 s.length):=n4 s.length (by lia);refine jl (e':=[some (.sh (.lst (s.map sD))),some (.sh (kD (blk r))),some (.sh (.int (hrs s))),some (.sh (.int (lss s))),l]) rfl ?_;show zif [some (.sh (.lst (s.map sD))),none,none,none,none]=_;have G:kD (0,1,-1)=.lst [.int 0,.int 1,.int (-1)]:=rfl;rw[G] at h1;simp[zif,hi,h1];rfl
def ztl(h:r∈ofS ts j):(j+1,r)∈ts:=by
 obtain⟨t,D,rfl⟩:=fq.mp h;obtain⟨h1,h2⟩:=j7.mp D;have:t.1=j+1:=by simpa using h2
 rw[<-this];exact h1
theorem z8l(h:ts.Pairwise bef):(ofS ts j).Pairwise λu b=>gt (blk u) (blk b):=by
 unfold ofS;rw[List.pairwise_map,List.pairwise_filter];refine h.imp λ{a b} hab ha hb=>?_;rcases hab with z | z
 ·exact z
 ·have h1:a.1=j+1:=by simpa using ha
  have h2:b.1=j+1:=by simpa using hb
  lia
def pk(n:Nat)(ts:n0):List Bk:=(List.range n).map λj=>hT (ofS ts j)
def zoa(h:j<n):(pk n ts)[j]?=some (hT (ofS ts j)):=by simp[pk,h]
theorem zng(ok:TurnsOk (il n (t::ts)) (t::ts)):hT (ofS (t::ts) (t.1-1))=blk t.2:=by
 have h1:=(ok.lo t (by simp)).1;rw[zf t ts (t.1-1) (by lia)];rfl
theorem z2k(ok:TurnsOk (il n (t::ts)) (t::ts))(D:∀x∈(il n (t::ts)).flatten,i6 x)(j:Nat) :
  ¬gt (hT (ofS (t::ts) j)) (blk t.2)/\(j<t.1-1->gt (blk t.2) (hT (ofS (t::ts) j))):=by
 have pt:=ok.pos D t (by simp);have st:=yk t.2 (ok.sk D t (by simp));cases h:ofS (t::ts) j with
 | nil =>
   have g:gt (blk t.2) (0,1,-1):=by
    show -1*hrs t.2<lss t.2*1
    lia
   exact⟨wc g,λ_=>g⟩
 | cons r rest =>
   have hm:(j+1,r)∈t::ts:=ztl (by rw[h];simp);rcases b8.mp hm with e | hm
   ·subst e
    exact⟨λz=>wc z z,λz=>by simp at z⟩
   ·have I:=(fg.mp ok.srt).1 _ hm
    rcases I with z | ⟨z,z'⟩
    ·exact⟨wc z,λ_=>z⟩
    ·exact⟨z,λw=>by simp at z';lia⟩
def zv5(n:Nat)(ts:n0):(il n ts).map (λs=>D.lst (s.map sD))=(List.range n).map λj=>D.lst ((ofS ts j).flatten.map sD):=by
 unfold il;rw[ig];rfl
def zv6(h:j<n):∀x∈(ofS ts j).flatten,x∈(il n ts).flatten:=λx D =>
 gc.mpr ⟨_,bf (qp (ts:=ts) h),D⟩
def zye(h:j<n):(ofS ts j).flatten.length<=(il n ts).flatten.length :=
 (d6 (bf (qp (ts:=ts) h))).length_le
theorem z8m(ok:TurnsOk (il n ts) ts)(D:∀x∈(il n ts).flatten,i6 x)(I:(il n ts).flatten.length<=14)(j:Nat):SmB (hT (ofS ts j)):=by
 cases h:ofS ts j with
 | nil=>exact⟨uc (by decide),uc (by decide)⟩
 | cons r rest=>exact ok.sm D (by lia) (j+1,r) (ztl (by rw[h];simp))
def zyf(H:List Bk)(v0 v1 v2:nb)(k p:Nat)(bk D:Bk)(Z:H[k]?=some bk)(a:H[p]?=some D)(sk:SmB bk)(sp:SmB D) :
  zu [v0,v1,v2,some (.sh (.lst (H.map kD))),some (.sh (.int (p:Int))),some (.sh (.int (0+(k:Int))))] =
   some (.nx,[v0,v1,v2,some (.sh (.lst (H.map kD))),some (.sh (.int ((if gt bk D then k else p:Nat):Int))),some (.sh (.int (0+(k:Int))))]):=by
 rw[jp];have R:atI (H.map kD) (k:Int)=some (kD bk):=kr kD Z;have U:atI (H.map kD) (p:Int)=some (kD D):=kr kD a;have V:∀b:Bk,dIx (kD b) (.int 1)=some (.int b.2.1):=λ_=>rfl;have Y:∀b:Bk,dIx (kD b) (.int 2)=some (.int b.2.2):=λ_=>rfl;by_cases J:gt bk D
 ·have I:D.2.2*bk.2.1<bk.2.2*D.2.1:=J
  rw[if_pos J];simp only[zu,sIf,sSet,sNil,fTst,fBin,fIxV,ixSl,fVar,fC,ae,ah,ac,ai,au,av,R,U,V,Y,re sk.2,re sp.2,dGt,decide_eq_true I,if_true]
 ·have I:¬D.2.2*bk.2.1<bk.2.2*D.2.1:=J
  rw[if_neg J];simp only[zu,sIf,sSet,sNil,fTst,fBin,fIxV,ixSl,fVar,fC,ae,ah,ac,ai,au,av,R,U,V,Y,re sk.2,re sp.2,dGt,decide_eq_false I,bx,if_false]
theorem z4x(ok:TurnsOk (il n (t::ts)) (t::ts))(U:∀x∈(il n (t::ts)).flatten,i6 x)(c:(il n (t::ts)).flatten.length<=14)(v0 v1 v2 R:nb) :
  ∃I,forL 5 zu (rngD 0 n) [v0,v1,v2,some (.sh (.lst ((pk n (t::ts)).map kD))),some (.sh (.int 0)),R] =
   some (.nx,[v0,v1,v2,some (.sh (.lst ((pk n (t::ts)).map kD))),some (.sh (.int ((t.1-1:Nat):Int))),I]):=by
 have lo:=ok.lo t (by simp);rw[mz] at lo;have V:t.1-1<n:=by lia
 obtain⟨e',h1,p,I,rfl,_,J,D⟩:=rq (i:=5) (g:=zu) (λk e=>∃(p:Nat) (R:nb),e=[v0,v1,v2,some (.sh (.lst ((pk n (t::ts)).map kD))),some (.sh (.int (p:Int))),R]/\p<n/\(k<=t.1-1->p<=t.1-1/\(p<k\/p=0))/\(t.1-1<k->p=t.1-1))
  (rngD 0 n) [v0,v1,v2,some (.sh (.lst ((pk n (t::ts)).map kD))),some (.sh (.int 0)),R] ⟨0,R,rfl,by lia,λ_=>⟨ft _,.inr rfl⟩,λh=>absurd h (Nat.not_lt_zero _)⟩ (by
    rintro k d e Y ⟨p,R,rfl,hpn,J,D⟩;obtain⟨rfl,f⟩:=tf Y;have body:=zyf (pk n (t::ts)) v0 v1 v2 k p _ _ (zoa f) (zoa hpn) (z8m ok U c k) (z8m ok U c p);refine⟨_,body,_,_,rfl,?_,λj=>?_,λZ=>?_⟩
    ·split <;> lia
    ·have:=J (by lia)
     split
     ·exact⟨by lia,.inl (by lia)⟩
     ·exact⟨this.1,by lia⟩
    ·rcases Nat.lt_or_eq_of_le (Nat.le_of_lt_succ Z) with hlt' | heq
     ·have a:=D hlt'
      subst a;rw[zng ok,if_neg (z2k ok U k).1]
     ·have:=J (by lia)
      subst heq;rw[zng ok];by_cases b:p=t.1-1
      ·subst b
       rw[zng ok,if_neg (λz=>wc z z)]
      ·rw[if_pos ((z2k ok U p).2 (by lia))])
 rw[vb] at D;have a:=D V;subst a;exact⟨I,h1⟩
noncomputable def zu3:FT:=fTst (fBin dGt (du bSum (ao (fLst (iw (fiV 1) [] fYes (gy 0))) (fNil))) (fC (.int 0)))
theorem zv7(ok:TurnsOk (il n (t::ts)) (t::ts))(f:∀x∈(il n (t::ts)).flatten,i6 x)(g:(il n (t::ts)).flatten.length<=14)(E:n<=1000)(v0 i k h:nb)(M:mu)(F:M.length<=1000) :
  ∃l m Y,zfs [v0,some (.ow ((il n (t::ts)).map λs=>D.lst (s.map sD))),some (.ow M),i,k,h]=some (.nx,[v0,some (.ow ((il n ts).map λs=>D.lst (s.map sD))),some (.ow (M++[tnD t])),l,m,Y]):=by
 have lo:=ok.lo t (by simp);rw[mz] at lo;have c:=oh (te:=du zg8 (ao (fVar 0) (fNil))) (base:=[]) (λj:Nat=>D.lst ((ofS (t::ts) j).flatten.map sD)) (λj:Nat=>kD (hT (ofS (t::ts) j))) (List.range n) (λj V=>by
  have V:j<n:=i4.mp V;have o:=z4w (ofS (t::ts) j) (z8l ok.srt) (λr p=>ok.good _ (ztl p)) (λx q=>f x (zv6 V x q)) (cy (zye V) g);refine⟨[some (.sh (.lst ((ofS (t::ts) j).flatten.map sD)))],?_⟩;simp only[du,ao,fVar,fNil,ae,ac,o,ai])
 have u:(List.range n).map (λj:Nat=>kD (hT (ofS (t::ts) j)))=(pk n (t::ts)).map kD:=by unfold pk;rw[ig];rfl
 rw[u,<-zv5] at c;obtain⟨Y,v⟩:=z4x ok f g v0 (some (.ow ((il n (t::ts)).map λs=>D.lst (s.map sD)))) (some (.ow M)) h;have Z:atI ((pk n (t::ts)).map kD) ((t.1-1:Nat):Int)=some (kD (blk t.2)):=by
  rw[<-zng ok];exact kr kD (zoa (by lia))
 have R:=zmf (ts:=ts) lo.1 lo.2;have U:=zn8 (ts:=ts) lo.1 lo.2;have a:atI ((il n (t::ts)).map λs=>D.lst (s.map sD)) ((t.1-1:Nat):Int)=some (.lst ((t.2++(ofS ts (t.1-1)).flatten).map sD)):=kr (λs:nu=>D.lst (s.map sD)) R;have I:=ztj (t.2.map sD) ((ofS ts (t.1-1)).flatten.map sD);rw[<-b6,af] at I;have b:ixN ((il n (t::ts)).map λs=>D.lst (s.map sD)).length ((t.1-1:Nat):Int)=some (t.1-1):=by
  rw[rj (by lia) (by rw[af,mz];lia)];congr 1
 have J:((il n (t::ts)).map λs=>D.lst (s.map sD)).set (t.1-1) (.lst ((ofS ts (t.1-1)).flatten.map sD))=(il n ts).map λs=>D.lst (s.map sD):=by
  rw[U,ie]
 have w:Few ((il n (t::ts)).map λs=>D.lst (s.map sD)).length:=few (by rw[af,mz];lia);have d:Few (M.length+1):=few (by lia);have hi:iR1 [.int (((pk n (t::ts)).map kD).length:Int)]=some (rngD 0 n):=by
  rw[af,show(pk n (t::ts)).length=n by simp[pk]];exact n4 n (by lia)
 have y:((t.1-1:Nat):Int)+1=(t.1:Int):=by lia
 generalize ((pk n (t::ts)).map kD)=HL at *;generalize z:((t.1-1:Nat):Int)=pp at *;have A:dIx (kD (blk t.2)) (.int 0)=some (.int (t.2.length:Int)):=rfl;have B:dIx (kD (blk t.2)) (.int 1)=some (.int (hrs t.2)):=rfl;have C:dIx (kD (blk t.2)) (.int 2)=some (.int (lss t.2)):=rfl;have e:D.tup [.int (t.1:Int),.int (t.2.length:Int),.int (hrs t.2),.int (lss t.2)]=tnD t:=rfl;refine⟨some (.sh (.lst HL)),some (.sh (.int pp)),Y,?_⟩;simp only[zfs,sSeq,sSet,sFor,iy,uu,zxh,fLst,iw,fiV,ip,ao,fNil,gy,fC,mw,yd,fTup,fBin,gn,fIxV,ixSl,fVar,fSl,fO0,fO1,ae,ah,ac,ai,au,av,dc,w,d,if_true,c,hi,v,Z,A,B,C,y,e,a,I,b,J,ak,bq,show(0+1+1+1+1<=64)=True by simp]
theorem zob{n:Nat}(r:n<=1000)(v0:nb):∀(ts:n0) (I:Nat) (U V Y:nb) (M:mu),ts.length<I->M.length+ts.length<=1000->TurnsOk (il n ts) ts->(∀x∈(il n ts).flatten,i6 x)->(il n ts).flatten.length<=14 ->
  ∃b d g i,nj zu3 zfs I [v0,some (.ow ((il n ts).map λs=>D.lst (s.map sD))),some (.ow M),U,V,Y]=some (.nx,[v0,b,some (.ow (M++ts.map tnD)),d,g,i])
 | _,0,_,_,_,_,h,_,_,_,_=>by lia
 | ts,f+1,U,V,Y,M,h,hM,ok,hg,hl=>by
   have c:=oh (te:=gy 0) (base:=[]) (λs:nu=>D.lst (s.map sD)) (λs:nu=>D.int (s.length:Int)) (il n ts) λs _=>⟨_,by simp;rfl⟩;have u:=xl (λs:nu=>(s.length:Int)) (il n ts);have w:Few ((il n ts).map λs=>D.lst (s.map sD)).length:=few (by rw[af,mz];lia);have Z:((il n ts).map λs:nu=>(s.length:Int)).sum=((ts.map (·.2)).flatten.length:Int):=by
    have e:∀l:nw,(l.map λs:nu=>(s.length:Int)).sum=(l.flatten.length:Int):=λl=>by
     induction l with
     | nil=>rfl
     | cons a l j=>rw[bz,gl,j,db,am];lia
    rw[e,ok.perm.length_eq]
   rw[Z] at u;have y:zu3 [v0,some (.ow ((il n ts).map λs=>D.lst (s.map sD))),some (.ow M),U,V,Y]=some (decide (0<((ts.map (·.2)).flatten.length:Int)),[v0,some (.ow ((il n ts).map λs=>D.lst (s.map sD))),some (.ow M),U,V,Y]):=by
    unfold zu3;generalize ((il n ts).map λs=>D.lst (s.map sD))=L at *;simp[iw,fiV,w,c,u]
   unfold nj;rw[y,ac];dsimp only;cases ts with
   | nil =>
     rw[if_neg (by simp)];exact⟨some (.ow ((il n []).map λs=>D.lst (s.map sD))),U,V,Y,by rw[dc,df]⟩
   | cons t ts =>
     have v:0<t.2.length:=i8.mpr (ok.good t (by simp)).ne;rw[if_pos (by simp[decide_eq_true_eq];lia)];obtain⟨d,g,i,R⟩:=zv7 ok hg hl r v0 U V Y M (by simp at hM;lia);rw[R,ac];dsimp only;have k:=ok.tail;have lo:=ok.lo t (by simp);rw[mz] at lo;have J:(t.2++(il n ts).flatten).Perm (il n (t::ts)).flatten:=by
      rw[zr8 lo.1 lo.2];exact(zn9 (qp (by lia))).symm
     have m:=J.length_eq;rw[am] at m;obtain⟨b,o,p,q,j⟩:=zob r v0 ts f d g i (M++[tnD t]) (by simp at h;lia) (by simp at hM ⊢;lia) k (λx z=>hg x (J.mem_iff.mp (cb _ z))) (by lia);exact⟨b,o,p,q,by rw[j];simp⟩
theorem zqk(ok:TurnsOk ss ts)(J:∀x∈ss.flatten,i6 x)(R:ss.flatten.length<=14)(d:ss.length<=900):zl [ssL ss]=some (.lst (ts.map tnD)):=by
 have U:=ok.len;have I:=ok.left;have c:=oh (te:=fLst (ip oo (ao (fVar 0) (fNil)))) (base:=[]) (λs:nu=>D.lst (s.map sD)) (λs:nu=>D.lst (s.map sD)) ss λs _=>⟨_,by simp;rfl⟩;have V:Few (ss.map λs=>D.lst (s.map sD)).length:=few (by rw[af];lia);obtain⟨Y,Z,a,b,h⟩:=zob (n:=ss.length) (by lia) (some (.sh (ssL ss))) ts 10000 none none none [] (by lia) (by simp;lia) (by rw[I];exact ok) (by rw[I];exact J) (by rw[I];exact R);rw[I,uk] at h;refine jl (e':=[some (.sh (ssL ss)),Y,some (.sh (.lst (ts.map tnD))),Z,a,b]) rfl ?_;show zjr [some (.sh (.lst (ss.map λs=>D.lst (s.map sD)))),none,none,none,none,none]=_;unfold zu3 ssL at h;unfold ssL;generalize (ss.map λs=>D.lst (s.map sD))=L at *;simp[zjr,iw,V,c,h]
def js(ts:n0):kf:=(ts.map λt=>List.replicate t.2.length t.1).flatten
def iD(I:kf):mu:=I.map λn:Nat=>D.int (n:Int)
def u5(a b:n0):js (a++b)=js a++js b:=by simp[js]
def za(t:Tn):js [t]=List.replicate t.2.length t.1:=by simp[js]
def zr9(ts:n0):(js ts).length=(ts.map (·.2)).flatten.length:=by
 induction ts with
 | nil=>rfl
 | cons t ts ih =>
   rw[show t::ts=[t]++ts from rfl,u5,za,am,eh,ih];simp
def ztm(d:D)(k:Nat):(List.replicate k [d]).flatten=List.replicate k d:=by simp_all
def z2l(a b:kf):iD (a++b)=iD a++iD b:=by simp[iD]
def z2m(k a:Nat):iD (List.replicate k a)=List.replicate k (.int (a:Int)):=by simp[iD]
def z2n(a:kf):(iD a).length=a.length:=by simp[iD]
theorem bndN(k:Nat)(h:k<=1000000):Bnd (-(2 ^ 62)) (2 ^ 62) (k:Int):=⟨by lia,by lia⟩
theorem ztn(ok:TurnsOk ss ts)(U:∀x∈ss.flatten,i6 x)(R:ss.flatten.length<=14)(V:ss.length<=900):zla [ssL ss]=some (iD (js ts)):=by
 have Y:=zqk ok U R V;have I:(js ts).length<=14:=by rw[zr9,ok.perm.length_eq];exact R
 obtain⟨e',h1,v2,rfl⟩:=qo (i:=2) (g:=zig) tnD (λp e=>∃v2,e=[some (.sh (ssL ss)),some (.ow (iD (js p))),v2]) ts
  [some (.sh (ssL ss)),some (.ow []),none] ⟨none,rfl⟩ (by
   rintro p t q e J ⟨v2,rfl⟩;have Z:(js p).length+t.2.length<=14:=by
    rw[J,u5,show t::q=[t]++q from rfl,u5,za] at I;simp at I
    lia
   have a:Few (1*t.2.length):=few (by lia);have f2:Few ((iD (js p)).length+(List.replicate t.2.length (D.int (t.1:Int))).length):=few (by rw[z2n,eh];lia);have b:=bndN t.2.length (by lia);have c:iD (js p)++List.replicate t.2.length (D.int (t.1:Int))=iD (js (p++[t])):=by rw[u5,za,z2l,z2m]
   refine⟨[some (.sh (ssL ss)),some (.ow (iD (js (p++[t])))),some (.sh (tnD t))],?_,_,rfl⟩;rw[<-c];unfold tnD;simp only[zig,sOwn,fCat,fVar,fLst,fRep,fu,ao,fIxV,ixSl,fC,fNil,ae,ah,ac,ai,au,av,z91,z92,ak,bq,show(0+1<=64)=True by simp,if_true,gk,kh,a,b,and_self,ztm,f2])
 refine ztk (e':=[some (.sh (ssL ss)),some (.ow (iD (js ts))),v2]) rfl ?_;show zk9 [some (.sh (ssL ss)),none,none]=_;simp[zk9,Y,h1]
theorem ziy(ok:TurnsOk ss ts)(V:x0 [ssL ss]=some (.lst (ts.map tnD)))(a:ss.flatten.length<=14):wm [ssL ss]=some (iD (js ts)):=by
 have I:(js ts).length<=14:=by rw[zr9,ok.perm.length_eq];exact a
 obtain⟨e',h1,v2,J,R,U,rfl⟩:=we (ix:=[2,3,4,5]) (g:=zfr) (λt:Tn=>[D.int (t.1:Int),.int (t.2.length:Int),.int (hrs t.2),.int (lss t.2)]) (λp e=>∃v2 J R U,e=[some (.sh (ssL ss)),some (.ow (iD (js p))),v2,J,R,U]) ts
  [some (.sh (ssL ss)),some (.ow []),none,none,none,none] ⟨none,none,none,none,rfl⟩ (λ_ _=>rfl) (by
   rintro p t q e Y ⟨v2,J,R,U,rfl⟩;have b:(js p).length+t.2.length<=14:=by
    rw[Y,u5,show t::q=[t]++q from rfl,u5,za] at I;simp at I
    lia
   have c:Few (1*t.2.length):=few (by lia);have f2:Few ((iD (js p)).length+(List.replicate t.2.length (D.int (t.1:Int))).length):=few (by rw[z2n,eh];lia);have d:=bndN t.2.length (by lia);have f:iD (js p)++List.replicate t.2.length (D.int (t.1:Int))=iD (js (p++[t])):=by rw[u5,za,z2l,z2m]
   refine⟨[some (.sh (ssL ss)),some (.ow (iD (js (p++[t])))),some (.sh (.int (t.1:Int))),some (.sh (.int (t.2.length:Int))),some (.sh (.int (hrs t.2))),some (.sh (.int (lss t.2)))],?_,_,_,_,_,rfl⟩;rw[<-f];simp only[pi,zfr,iy,zp5,z34,fRep,fu,ao,fVar,fNil,ae,ah,ac,ai,au,av,ak,bq,show(0+1<=64)=True by simp,if_true,gk,kh,c,d,and_self,ztm,f2])
 refine ztk (e':=[some (.sh (ssL ss)),some (.ow (iD (js ts))),v2,J,R,U]) rfl ?_;show zjq [some (.sh (ssL ss)),none,none,none,none,none]=_;have Z:forU [2,3,4,5] zfr (ts.map tnD) [some (.sh (ssL ss)),some (.ow []),none,none,none,none]=_:=h1;simp[zjq,V,Z]
def z4y(I:kf):iD I=(I.map λn:Nat=>(n:Int)).map D.int:=by unfold iD;rw[ig];rfl
def zto(D:kf)(I:D.length<=1000):zb9 [.lst (iD D),.lst (iD D)]=some (.bl true):=by
 rw[z4y];exact zj6 _ (by rw[af];exact I)
structure Whole (ss:nw) (os:kf):Prop where
 lo:∀a∈os,1<=a/\a<=ss.length
 cnt:∀(j:Nat) (s:nu),ss[j]?=some s->os.count (j+1)=s.length
theorem zyg(m:Nat):∀n:Nat,((List.range n).map λj=>if j=m then 1 else 0).sum=if m<n then 1 else 0
 | 0=>by simp
 | n+1=>by
   rw[md,b6,uj,zyg m n];simp only[bz,dc,gl,List.sum_nil];by_cases h1:m<n
   ·rw[if_pos h1,if_neg (by lia),if_pos (by lia)];rfl
   ·rw[if_neg h1]
    by_cases h2:n=m
    ·rw[if_pos h2,if_pos (by lia)];rfl
    ·rw[if_neg h2,if_neg (by lia)];rfl
theorem zyh{α:Type}(f g:α->Nat):∀l:List α,(l.map λx=>f x+g x).sum=(l.map f).sum+(l.map g).sum
 | []=>rfl
 | x::l=>by
   simp[gl,zyh f g l]
   lia
theorem zyi(n:Nat):∀(p:kf),(∀a∈p,1<=a/\a<=n)->((List.range n).map λj=>p.count (j+1)).sum=p.length
 | [],_=>by
   have:∀l:kf,(l.map λj=>([]:kf).count (j+1)).sum=0:=λl=>by
    induction l with
    | nil=>rfl
    | cons a l D=>rw[bz,gl,D];rfl
   rw[this];rfl
 | a::p,h=>by
   have D:=zyi n p λb J=>h b (ay _ J);have R:=h a bu;have e:(λj=>(a::p).count (j+1))=λj=>p.count (j+1)+if j=a-1 then 1 else 0:=by
    funext j;rw[List.count_cons];by_cases I:j=a-1
    ·rw[if_pos I,if_pos (by simp;lia)]
    ·rw[if_neg I,if_neg (by simp;lia)]
   rw[e,zyh,D,zyg,if_pos (by lia),ak]
def z1a(ss:nw):((List.range ss.length).map λj=>(ss.getD j []).length).sum=ss.flatten.length:=by
 have:(List.range ss.length).map (λj=>(ss.getD j []).length)=ss.map List.length:=by
  apply dz;intro i;by_cases h:i<ss.length
  ·simp[h]
  ·simp[h]
 rw[this,i9]
variable{os:kf}
def Whole.len(h:Whole ss os):os.length=ss.flatten.length:=by
 rw[<-zyi ss.length os h.lo,<-z1a];congr 1;apply j8;intro j D;have D:j<ss.length:=i4.mp D;rw[h.cnt j ss[j] (by simp[D])];simp[D]
def z4z{P:List α->Prop}(D:P [])(I:∀p a,P p->P (p++[a]))(p:List α):P p:=by
 have:∀l:List α,P l.reverse:=λl=>by
  induction l with
  | nil=>exact D
  | cons a l ih=>rw[List.reverse_cons];exact I _ _ ih
 rw[<-List.reverse_reverse p];exact this _
def ni(ss:nw)(a c:Nat):Sk:=(ss.getD (a-1) []).getD c (0,0,0)
def tk(ss:nw)(os:kf):nu:=(List.range os.length).map λi=>ni ss (os.getD i 0) ((os.take i).count (os.getD i 0))
theorem zoc(ss:nw)(p:kf)(a:Nat):tk ss (p++[a])=tk ss p++[ni ss a (p.count a)]:=by
 unfold tk;rw[am,io,md,b6];congr 1
 ·apply j8
  intro i hi;have hi:i<p.length:=i4.mp hi;have D:(p++[a]).getD i 0=p.getD i 0:=by
   rw[ci,ci,ax hi]
  rw[D,f7 (by lia)]
 ·have D:(p++[a]).getD p.length 0=a:=by simp
  simp only[bz,dc];rw[D,jo]
def yj(ss:nw)(os:kf):(tk ss os).length=os.length:=by simp[tk]
theorem Whole.at{ss:nw}{p q:kf}{a:Nat}(h:Whole ss (p++a::q)):∃s,ss[a-1]?=some s/\p.count a<s.length/\s[p.count a]?=some (ni ss a (p.count a))/\1<=a/\a<=ss.length:=by
 obtain⟨h1,h2⟩:=h.lo a (by simp);have D:a-1<ss.length:=by lia
 have J:=h.cnt (a-1) ss[a-1] (by simp[D]);rw[show a-1+1=a by lia,List.count_append,List.count_cons_self] at J;have I:p.count a<ss[a-1].length:=by lia
 refine⟨ss[a-1],by simp[D],I,?_,h1,h2⟩;unfold ni;simp[D,I]
def Whole.mem(h:Whole ss os):∀(p:kf),∀(q:kf),os=p++q->∀x∈tk ss p,x∈ss.flatten:=by
 apply z4z
 ·intro q _ x hx
  simp[tk] at hx
 ·intro p a J q I x hx
  rw[zoc] at hx;rcases de.mp hx with hx | hx
  ·exact J (a::q) (by rw[I];simp) x hx
  ·rw[I,d5,jw] at h
   obtain⟨s,R,U,D,_⟩:=h.at;have e:x=ni ss a (p.count a):=by simpa using hx
   subst e;exact gc.mpr ⟨s,bf R,bf D⟩
def Whole.sk(h:Whole ss os):∀x∈tk ss os,x∈ss.flatten:=h.mem os [] (by simp)
theorem z1b(ts:n0)(j:Nat):(js ts).count (j+1)=(ofS ts j).flatten.length:=by
 induction ts with
 | nil=>simp[js,ofS]
 | cons t ts ih =>
   rw[show t::ts=[t]++ts from rfl,u5,za,List.count_append,ih];by_cases e:t.1=j+1
   ·rw[jw,zf t ts j e,db,am,e,List.count_replicate_self]
   ·rw[jw,zhd t ts j e,List.count_replicate,if_neg (by simpa using e)]
    lia
def TurnsOk.whole(ok:TurnsOk ss ts):Whole ss (js ts):=by
 refine⟨λa I=>?_,λj s J=>?_⟩
 ·obtain⟨l,R,D⟩:=gc.mp I
  obtain⟨t,U,rfl⟩:=fq.mp R;rw[List.eq_of_mem_replicate D];exact ok.lo t U
 ·rw[z1b,ok.part j s J]
def cntD(n:Nat)(f:Nat->Int):mu:=(List.range n).map λj=>D.int (f j)
def znh(n:Nat)(f:Nat->Int):(cntD n f).length=n:=by simp[cntD]
def ztp(n:Nat)(f:Nat->Int)(j:Nat)(h:j<n):atI (cntD n f) (j:Int)=some (.int (f j)):=kr (λj:Nat=>D.int (f j)) (by simp[h])
def zql(n:Nat)(f g:Nat->Int)(j:Nat)(h:∀i,i<n->i≠j->g i=f i):(cntD n f).set j (.int (g j))=cntD n g:=by
 apply dz;intro i;unfold cntD;rw[gi];by_cases hi:i<n
 ·by_cases e:j=i
  ·subst e;simp[hi]
  ·rw[if_neg e]
   simp[hi,h i hi (Ne.symm e)]
 ·by_cases e:j=i
  ·subst e;simp[hi]
  ·rw[if_neg e];simp[hi]
def zu4(n:Nat)(f:Nat->Int)(j:Nat)(h:j<n):(cntD n f)[j]?=some (.int (f j)):=by simp[cntD,h]
def ztq(h:ds.length=ar)(D:g (ji n ds)=some (.nx,e')):runD n ar g ds=some .non:=by
 unfold runD;rw[if_pos h,D]
theorem zom(J:1<=a)(R:a<=ss.length):zii [ssL ss,.int (a:Int)]=some .non:=by
 have I:decide ((a:Int)<1)=false:=by simp;lia
 have n2:decide (((ss.map λs=>D.lst (s.map sD)).length:Int)<(a:Int))=false:=by rw[af];simp;lia
 refine ztq (e':=[some (.sh (ssL ss)),some (.sh (.int (a:Int)))]) rfl ?_;show zih [some (.sh (ssL ss)),some (.sh (.int (a:Int)))]=_;unfold ssL;generalize (ss.map λs=>D.lst (s.map sD))=L at *;simp only[zih,sIf,sNil,fOr,fTst,fBin,fVar,fC,gy,dLt,dGt,ae,ah,ac,ai,au,av,I,n2,bx,if_false]
def lenF(ss:nw)(p:kf)(j:Nat):Int:=((ss.getD j []).length:Int)-(p.count (j+1):Int)
def z1c(ss:nw):(ss.map λs=>D.int (s.length:Int))=cntD ss.length (lenF ss []):=by
 apply dz;intro i;unfold cntD lenF;by_cases h:i<ss.length
 ·simp[h]
 ·simp[h]
def zyj(ss:nw):ny fYes (gy 0) [] (ss.map λs=>D.lst (s.map sD))=some (cntD ss.length (lenF ss [])):=by
 rw[<-z1c];exact oh (te:=gy 0) (base:=[]) (λs:nu=>D.lst (s.map sD)) (λs:nu=>D.int (s.length:Int)) ss λs _=>⟨_,by simp;rfl⟩
def zc(p:kf)(a b:Nat):(p++[a]).count b=p.count b+if a=b then 1 else 0:=by
 by_cases h:a=b
 ·simp[h]
 ·simp[h]
theorem zyk(ss:nw)(p:kf)(a:Nat)(h1:1<=a):lenF ss (p++[a]) (a-1)=lenF ss p (a-1)-1/\∀i,i≠a-1->lenF ss (p++[a]) i=lenF ss p i:=by
 unfold lenF;refine⟨?_,λi hi=>?_⟩
 ·rw[zc,if_pos (by lia)];lia
 ·rw[zc,if_neg (by lia)];lia
def zv8(h:Whole ss os)(j:Nat)(D:j<ss.length):lenF ss os j=0:=by
 unfold lenF;rw[h.cnt j ss[j] (by simp[D])];simp[D]
variable{p:kf}
theorem z1d(h:Whole ss (p++a::q)):0<lenF ss p (a-1):=by
 obtain⟨s,D,I,_,h1,h2⟩:=h.at;unfold lenF;rw[show a-1+1=a by lia,ci,D];simp
 lia
def zyl(n:Nat)(f:Nat->Int):ints? (cntD n f)=some ((List.range n).map f):=by
 have:cntD n f=((List.range n).map f).map D.int:=by unfold cntD;rw[ig];rfl
 rw[this,zxc]
theorem zu5(f:Nat->Int):∀n:Nat,(∀j,j<n->f j=0)->((List.range n).map f).sum=0
 | 0,_=>rfl
 | n+1,h=>by
   rw[md,b6,uj,zu5 f n λj D=>h j (by lia)];simp[h n (by lia)]
theorem zon(h:Whole ss os)(u:ss.length<=1000):zik [ssL ss,.lst (iD os)]=some .non:=by
 obtain⟨e',h1,V,rfl⟩:=qo (i:=3) (g:=zeu) (λa:Nat=>D.int (a:Int)) (λp e=>∃V,e=[some (.sh (ssL ss)),some (.sh (.lst (iD os))),some (.ow (cntD ss.length (lenF ss p))),V]) os
  [some (.sh (ssL ss)),some (.sh (.lst (iD os))),some (.ow (cntD ss.length (lenF ss []))),none] ⟨none,rfl⟩ (by
   rintro p a q e Y ⟨V,rfl⟩;have d:Whole ss (p++a::q):=by rw[<-Y];exact h
   obtain⟨s,v,f,_,k,w⟩:=d.at;have x:=z1d d;obtain⟨l,m⟩:=zyk ss p a k;have Z:(a:Int)-1=((a-1:Nat):Int):=by lia
   have b:=ztp ss.length (lenF ss p) (a-1) (by lia);have R:=zu4 ss.length (lenF ss p) (a-1) (by lia);have I:=zql ss.length (lenF ss p) (lenF ss (p++[a])) (a-1) (λi _ hi=>m i hi);rw[l] at I;have n:decide (lenF ss p (a-1)=0)=false:=by simp;lia
   have c:a-1<(cntD ss.length (lenF ss p)).length:=by rw[znh];lia
   have o:(0:Int)<=((a-1:Nat):Int):=by lia
   refine⟨[some (.sh (ssL ss)),some (.sh (.lst (iD os))),some (.ow (cntD ss.length (lenF ss (p++[a])))),some (.sh (.int (a:Int)))],?_,_,rfl⟩;rw[<-I];generalize cntD ss.length (lenF ss p)=L at *;simp only[zeu,sSeq,sIf,sNil,vo,z0i,fTst,fBin,fIxV,ixSl,fVar,fC,dSub,dEq,ae,ah,ac,ai,au,av,Z,b,n,bx,if_false,o,if_true,gk,R,c])
 have Z:((List.range ss.length).map (lenF ss os)).sum=0:=zu5 _ _ λj r=>zv8 h j r;have J:=zyl ss.length (lenF ss os);have f:=zyj ss;have t:Few (ss.map λs=>D.lst (s.map sD)).length:=few (by rw[af];lia);refine ztq (e':=[some (.sh (ssL ss)),some (.sh (.lst (iD os))),some (.ow (cntD ss.length (lenF ss os))),V]) rfl ?_;show zij [some (.sh (ssL ss)),some (.sh (.lst (iD os))),none,none]=_;have U:forL 3 zeu (iD os) [some (.sh (ssL ss)),some (.sh (.lst (iD os))),some (.ow (cntD ss.length (lenF ss []))),none]=_:=h1;unfold ssL at U ⊢;generalize iD os=O at *;generalize (ss.map λs=>D.lst (s.map sD))=L at *;simp[zij,iw,z0n,t,f,U,J,Z,Int.lt_irrefl]
def zoo(h:Whole ss os)(R:ss.length<=1000):zim [ssL ss,.lst (iD os)]=some .non:=by
 obtain⟨e',h1,v2,rfl⟩:=qo (i:=2) (g:=zev) (λa:Nat=>D.int (a:Int)) (λp e=>∃v2,e=[some (.sh (ssL ss)),some (.sh (.lst (iD os))),v2]) os
  [some (.sh (ssL ss)),some (.sh (.lst (iD os))),none] ⟨none,rfl⟩ (by
   rintro p a q e I ⟨v2,rfl⟩;obtain⟨U,V⟩:=h.lo a (by rw[I];simp);have Y:=zom (ss:=ss) U V;simp[zev,Y])
 have h2:=zon h R;refine ztq (e':=[some (.sh (ssL ss)),some (.sh (.lst (iD os))),v2]) rfl ?_;show zil [some (.sh (ssL ss)),some (.sh (.lst (iD os))),none]=_;have J:forL 2 zev (iD os) [some (.sh (ssL ss)),some (.sh (.lst (iD os))),none]=_:=h1;generalize iD os=O at *;simp[zil,J,h2]
def cntF(p:kf)(j:Nat):Int:=(p.count (j+1):Int)
theorem zym(p:kf)(a:Nat)(h1:1<=a):cntF (p++[a]) (a-1)=cntF p (a-1)+1/\∀i,i≠a-1->cntF (p++[a]) i=cntF p i:=by
 unfold cntF;refine⟨?_,λi hi=>?_⟩
 ·rw[zc,if_pos (by lia)];lia
 ·rw[zc,if_neg (by lia)];lia
def zmg(ss:nw):ny fYes (fC (.int 0)) [] (ss.map λs=>D.lst (s.map sD))=some (cntD ss.length (cntF [])):=by
 rw[oh (te:=fC (.int 0)) (base:=[]) (λs:nu=>D.lst (s.map sD)) (λs:nu=>D.int 0) ss λs _=>⟨_,by simp;rfl⟩];congr 1;apply dz;intro i;unfold cntD cntF;by_cases h:i<ss.length
 ·simp[h]
 ·simp[h]
theorem z2o(R:Whole ss (p++a::q)) :
  (a:Int)-1=((a-1:Nat):Int)/\atI (cntD ss.length (cntF p)) ((a-1:Nat):Int)=some (.int (p.count a:Int))/\(cntD ss.length (cntF p))[a-1]?=some (.int (p.count a:Int)) /\
    (cntD ss.length (cntF p)).set (a-1) (.int ((p.count a:Int)+1))=cntD ss.length (cntF (p++[a]))/\a-1<(cntD ss.length (cntF p)).length/\ixN (cntD ss.length (cntF p)).length ((a-1:Nat):Int)=some (a-1) /\
    ∃s:nu,atI (ss.map λs=>D.lst (s.map sD)) ((a-1:Nat):Int)=some (.lst (s.map sD))/\atI (s.map sD) (p.count a:Int)=some (sD (ni ss a (p.count a))):=by
 obtain⟨s,U,c,V,Y,d⟩:=R.at;obtain⟨Z,b⟩:=zym p a Y;have J:cntF p (a-1)=(p.count a:Int):=by unfold cntF;rw[show a-1+1=a by lia]
 have I:=zql ss.length (cntF p) (cntF (p++[a])) (a-1) (λi _ hi=>b i hi);rw[Z,J] at I;refine⟨by lia,?_,?_,I,by rw[znh];lia,?_,s,kr (λs:nu=>D.lst (s.map sD)) U,kr sD V⟩
 ·rw[ztp _ _ _ (by lia),J]
 ·rw[zu4 _ _ _ (by lia),J]
 ·rw[rj (by lia) (by rw[znh];lia)]
  congr 1
theorem zkz(h:Whole ss os)(k:ss.length<=1000)(j:os.length<=1000):zgm [ssL ss,.lst (iD os)]=some (.lst ((tk ss os).map sD)):=by
 obtain⟨e',h1,Y,rfl⟩:=qo (i:=4) (g:=zew) (λa:Nat=>D.int (a:Int)) (λp e=>∃Y,e=[some (.sh (ssL ss)),some (.sh (.lst (iD os))),some (.ow (cntD ss.length (cntF p))),some (.ow ((tk ss p).map sD)),Y]) os
  [some (.sh (ssL ss)),some (.sh (.lst (iD os))),some (.ow (cntD ss.length (cntF []))),some (.ow []),none] ⟨none,rfl⟩ (by
   rintro p a q e I ⟨Y,rfl⟩;have l:Whole ss (p++a::q):=by rw[<-I];exact h
   obtain⟨m,Z,J,R,b,n,s,c,d⟩:=z2o l;have f:Few (((tk ss p).map sD).length+1):=few (by rw[af,yj];rw[I] at j;simp at j;lia);have o:(0:Int)<=((a-1:Nat):Int):=by lia
   have r:dIx (.lst (s.map sD)) (.int (p.count a:Int))=some (sD (ni ss a (p.count a))):=d;refine⟨[some (.sh (ssL ss)),some (.sh (.lst (iD os))),some (.ow (cntD ss.length (cntF (p++[a])))),some (.ow ((tk ss (p++[a])).map sD)),some (.sh (.int (a:Int)))],?_,_,rfl⟩;rw[<-R,zoc,b6,bz,dc];unfold ssL;generalize (tk ss p).map sD=M at *;generalize s.map sD=S at *;simp only[zew,sSeq,iy,vo,z0i,mw,yd,fBin,fIxV,ixSl,fVar,fC,dSub,gn,ae,ah,ac,ai,au,av,m,Z,c,r,f,o,if_true,gk,J,b])
 have U:=zoo h k;have t:=zmg ss;have f:Few (ss.map λs=>D.lst (s.map sD)).length:=few (by rw[af];lia);refine jl (e':=[some (.sh (ssL ss)),some (.sh (.lst (iD os))),some (.ow (cntD ss.length (cntF os))),some (.sh (.lst ((tk ss os).map sD))),Y]) rfl ?_;show zin [some (.sh (ssL ss)),some (.sh (.lst (iD os))),none,none,none]=_;have V:forL 4 zew (iD os) [some (.sh (ssL ss)),some (.sh (.lst (iD os))),some (.ow (cntD ss.length (cntF []))),some (.ow []),none]=_:=h1;unfold ssL at V U ⊢;generalize (ss.map λs=>D.lst (s.map sD))=L at *;simp[zin,iw,U,f,t,V]
theorem zsa(h:Whole ss os)(o:ss.length<=1000)(d:os.length<=1000):zjw [ssL ss,.lst (iD os)]=some (.lst ((tk ss os).map sD)):=by
 obtain⟨e',h1,U,rfl⟩:=qo (i:=4) (g:=zft) (λa:Nat=>D.int (a:Int)) (λp e=>∃U,e=[some (.sh (ssL ss)),some (.sh (.lst (iD os))),some (.ow (cntD ss.length (cntF p))),some (.ow ((tk ss p).map sD)),U]) os
  [some (.sh (ssL ss)),some (.sh (.lst (iD os))),some (.ow (cntD ss.length (cntF []))),some (.ow []),none] ⟨none,rfl⟩ (by
   rintro p a q e I ⟨U,rfl⟩;have j:Whole ss (p++a::q):=by rw[<-I];exact h
   obtain⟨k,V,f,J,l,Y,s,Z,b⟩:=z2o j;have c:Few (((tk ss p).map sD).length+1):=few (by rw[af,yj];rw[I] at d;simp at d;lia);have m:dIx (.lst (s.map sD)) (.int (p.count a:Int))=some (sD (ni ss a (p.count a))):=b;refine⟨[some (.sh (ssL ss)),some (.sh (.lst (iD os))),some (.ow (cntD ss.length (cntF (p++[a])))),some (.ow ((tk ss (p++[a])).map sD)),some (.sh (.int (a:Int)))],?_,_,rfl⟩;rw[<-J,zoc,b6,bz,dc];unfold ssL;generalize (ss.map λs=>D.lst (s.map sD))=L at *;generalize (tk ss p).map sD=M at *;simp only[zft,sSeq,iy,uu,zxh,mw,yd,fBin,fIxV,ixSl,fVar,fC,dSub,gn,ae,ah,ac,ai,au,av,k,V,Z,m,c,if_true,Y])
 have n:=zmg ss;have c:Few (ss.map λs=>D.lst (s.map sD)).length:=few (by rw[af];lia);refine jl (e':=[some (.sh (ssL ss)),some (.sh (.lst (iD os))),some (.ow (cntD ss.length (cntF os))),some (.sh (.lst ((tk ss os).map sD))),U]) rfl ?_;show zjv [some (.sh (ssL ss)),some (.sh (.lst (iD os))),none,none,none]=_;have R:forL 4 zft (iD os) [some (.sh (ssL ss)),some (.sh (.lst (iD os))),some (.ow (cntD ss.length (cntF []))),some (.ow []),none]=_:=h1;unfold ssL at R ⊢;generalize (ss.map λs=>D.lst (s.map sD))=L at *;simp[zjv,iw,c,n,R]
def lm(h:Int):List (Nat×Sk)->List k4
 | []=>[]
 | x::r=>[x.2.1,(x.1:Int),h,h+x.2.2.1]::lm (h+x.2.2.1) r
def zu6(x:Sk)(r:nu):hrs (x::r)=x.2.1+hrs r:=rfl
def zmh(x:Nat×Sk):∀(p:List (Nat×Sk)) (h:Int),lm h (p++[x])=lm h p++[[x.2.1,(x.1:Int),h+hrs (p.map (·.2)),h+hrs (p.map (·.2))+x.2.2.1]]
 | [],h=>by simp[lm,hrs]
 | y::p,h=>by
   rw[j0,lm,lm,zmh x p,bz,zu6];rw[<-Int.add_assoc];rfl
def ng(h:Int):nu->Int
 | []=>0
 | x::r=>x.2.2*(h+x.2.1)+ng (h+x.2.1) r
theorem zmi(x:Sk):∀(p:nu) (h:Int),ng h (p++[x])=ng h p+x.2.2*(h+hrs p+x.2.1)
 | [],h=>by simp[ng,hrs]
 | y::p,h=>by
   rw[j0,ng,ng,zmi x p,zu6,<-Int.add_assoc h]
   lia
def zni(x:Sk):u8 [sD x]=some (.int x.2.1):=rfl
def zqm(x:Sk):wj [sD x]=some (.int x.2.2):=rfl
def zyn(x:Sk):zgl [sD x]=some (.int x.1):=rfl
def zly:∀(p:List (Nat×Sk)) (h:Int),(lm h p).length=p.length
 | [],_=>rfl
 | x::p,h=>by rw[lm,ak,ak,zly p]
theorem zqn(h:Whole ss os)(Y:ss.length<=1000)(f:os.length<=900):zhn [ssL ss,.lst (iD os)]=some (.lst ((lm 0 (os.zip (tk ss os))).map iT)):=by
 have Z:=zkz h Y (by lia);obtain⟨e',h1,I,J,R,U,rfl,rfl⟩:=we (ix:=[4,5]) (g:=zhz) (λx:Nat×Sk=>[D.int (x.1:Int),sD x.2])
  (λp e=>∃I J R U,e=[some (.sh (ssL ss)),some (.sh (.lst (iD os))),some (.ow ((lm 0 p).map iT)),I,J,R,U]/\I=some (.sh (.int (hrs (p.map (·.2)))))) (os.zip (tk ss os))
  [some (.sh (ssL ss)),some (.sh (.lst (iD os))),some (.ow []),some (.sh (.int 0)),none,none,none] ⟨_,none,none,none,rfl,rfl⟩ (λ_ _=>rfl) (by
   rintro p x q e V ⟨I,J,R,U,rfl,rfl⟩;have a:Few (((lm 0 p).map iT).length+1):=few (by
    rw[af,zly];have:=congrArg List.length V;simp[me] at this
    lia)
   have b:iT [x.2.1,(x.1:Int),0+hrs (p.map (·.2)),0+hrs (p.map (·.2))+x.2.2.1]=.tup [.int x.2.1,.int (x.1:Int),.int (hrs (p.map (·.2))),.int (hrs (p.map (·.2))+x.2.2.1)]:=by simp[iT]
   have c:hrs ((p++[x]).map (·.2))=hrs (p.map (·.2))+x.2.2.1:=by rw[b6,oz];simp[hrs]
   rw[zmh,b6,bz,dc,b,c];generalize (lm 0 p).map iT=M at *;simp[pi,zhz,zni,zyn,a])
 refine jl (e':=[some (.sh (ssL ss)),some (.sh (.lst (iD os))),some (.sh (.lst ((lm 0 (os.zip (tk ss os))).map iT))),some (.sh (.int (hrs ((os.zip (tk ss os)).map (·.2))))),J,R,U]) rfl ?_;show zjs [some (.sh (ssL ss)),some (.sh (.lst (iD os))),none,none,none,none,none]=_;have d:iZp [.lst (iD os),.lst ((tk ss os).map sD)]=some ((os.zip (tk ss os)).map λx=>D.tup [D.int (x.1:Int),sD x.2]):=by
  show some (zipD (iD os) ((tk ss os).map sD))=_;unfold iD;rw[zu2]
 simp only[zjs,sSeq,sOwn,sSet,o9,sRet,fu,fNil,fC,ip,du,ao,fVar,ae,ah,ac,ai,au,av,bq,ft,if_true,Z,d,h1]
theorem zqo(h:Whole ss os)(J:∀x∈ss.flatten,i6 x)(R:ss.length<=1000)(Z:os.length<=900):zju [ssL ss,.lst (iD os)]=some (.int (ng 0 (tk ss os))):=by
 have U:=zkz h R (by lia);obtain⟨e',h1,D,rfl⟩:=qo (i:=4) (g:=zh0) sD (λp e=>∃D,e=[some (.sh (ssL ss)),some (.sh (.lst (iD os))),some (.sh (.int (ng 0 p))),some (.sh (.int (hrs p))),D]) (tk ss os)
  [some (.sh (ssL ss)),some (.sh (.lst (iD os))),some (.sh (.int 0)),some (.sh (.int 0)),none] ⟨none,rfl⟩ (by
   rintro p x q e I ⟨D,rfl⟩;obtain⟨_,_,_,_,a,b⟩:=J x (h.sk x (by rw[I];simp));have sm:ly x.2.2:=uc (by lia);have V:hrs (p++[x])=hrs p+x.2.1:=by rw[oz];simp[hrs]
   have Y:ng 0 (p++[x])=ng 0 p+x.2.2*(hrs p+x.2.1):=by rw[zmi,jp]
   rw[V,Y];simp[zh0,zni,zqm,re sm])
 refine jl (e':=[some (.sh (ssL ss)),some (.sh (.lst (iD os))),some (.sh (.int (ng 0 (tk ss os)))),some (.sh (.int (hrs (tk ss os)))),D]) rfl ?_;show zjt [some (.sh (ssL ss)),some (.sh (.lst (iD os))),none,none,none]=_;simp[zjt,U,h1]
theorem ztr(T:nu)(J:∀x∈T,i6 x):zlc [.lst (T.map sD)]=some (.int (ng 0 T)):=by
 obtain⟨e',h1,D,rfl⟩:=qo (i:=3) (g:=zio) sD (λp e=>∃D,e=[some (.sh (.lst (T.map sD))),some (.sh (.int (hrs p))),some (.sh (.int (ng 0 p))),D]) T
  [some (.sh (.lst (T.map sD))),some (.sh (.int 0)),some (.sh (.int 0)),none] ⟨none,rfl⟩ (by
   rintro p x q e I ⟨D,rfl⟩;obtain⟨_,_,_,_,V,Y⟩:=J x (by rw[I];simp);have sm:ly x.2.2:=uc (by lia);have R:hrs (p++[x])=hrs p+x.2.1:=by rw[oz];simp[hrs]
   have U:ng 0 (p++[x])=ng 0 p+x.2.2*(hrs p+x.2.1):=by rw[zmi,jp]
   rw[R,U];generalize T.map sD=TT at *;unfold sD;simp[zio,xf,xb,re sm])
 refine jl (e':=[some (.sh (.lst (T.map sD))),some (.sh (.int (hrs T))),some (.sh (.int (ng 0 T))),D]) rfl ?_;show zlb [some (.sh (.lst (T.map sD))),none,none,none]=_;simp[zlb,h1]
theorem zqp(ok:TurnsOk ss ts)(I:x0 [ssL ss]=some (.lst (ts.map tnD)))(U:∀x∈ss.flatten,i6 x)(V:ss.length<=1000)(Y:ss.flatten.length<=14):zhq [ssL ss]=some (.int (ng 0 (tk ss (js ts)))):=by
 have D:=ziy ok I Y;have R:=ok.whole;have J:=zqo R U V (by rw[R.len];lia);refine jl (e':=[some (.sh (ssL ss))]) rfl ?_;show zjx [some (.sh (ssL ss))]=_;simp[zjx,D,J]
def zqq(p q:n0)(j:Nat):ofS (p++q) j=ofS p j++ofS q j:=by unfold ofS;rw[jf,b6]
def begF(p:n0)(j:Nat):Int:=((ofS p j).flatten.length:Int)
theorem zyo(p:n0)(t:Tn)(h1:1<=t.1):begF (p++[t]) (t.1-1)=begF p (t.1-1)+(t.2.length:Int)/\∀i,i≠t.1-1->begF (p++[t]) i=begF p i:=by
 unfold begF;refine⟨?_,λi hi=>?_⟩
 ·rw[zqq,zf t [] (t.1-1) (by lia)]
  simp[ofS]
 ·rw[zqq,zhd t [] i (by lia)]
  simp[ofS]
def slD(r:nu):D:=.lst (r.map sD)
theorem zqr(ok:TurnsOk ss ts)(y:ss.length<=1000)(z:ss.flatten.length<=14):zjz [ssL ss,.lst (ts.map tnD)]=some (.lst (ts.map λt=>slD t.2)):=by
 have m:=ok.len;obtain⟨e',h1,Y,Z,a,b,c,rfl⟩:=we (ix:=[4,5,6,7]) (g:=zfu) (λt:Tn=>[D.int (t.1:Int),.int (t.2.length:Int),.int (hrs t.2),.int (lss t.2)])
  (λp e=>∃Y Z a b c,e=[some (.sh (ssL ss)),some (.sh (.lst (ts.map tnD))),some (.ow (cntD ss.length (begF p))),some (.ow (p.map λt=>slD t.2)),Y,Z,a,b,c]) ts
  [some (.sh (ssL ss)),some (.sh (.lst (ts.map tnD))),some (.ow (cntD ss.length (begF []))),some (.ow []),none,none,none,none,none] ⟨none,none,none,none,none,rfl⟩ (λ_ _=>rfl) (by
   rintro p t q e R ⟨Y,Z,a,b,c,rfl⟩;obtain⟨n,A⟩:=ok.lo t (by rw[R];simp);obtain⟨o,r⟩:=zyo p t n;have u:(t.1:Int)-1=((t.1-1:Nat):Int):=by lia
   have d:=ztp ss.length (begF p) (t.1-1) (by lia);have f:ixN (cntD ss.length (begF p)).length ((t.1-1:Nat):Int)=some (t.1-1):=by
    rw[rj (by lia) (by rw[znh];lia)];congr 1
   have J:=zql ss.length (begF p) (begF (p++[t])) (t.1-1) (λi _ hi=>r i hi);rw[o] at J;have U:t.1-1<ss.length:=by lia
   have l:=ok.part (t.1-1) ss[t.1-1] (by simp[U]);rw[R,zqq,zf t q (t.1-1) (by lia),fc,db] at l;have h:atI (ss.map λs=>D.lst (s.map sD)) ((t.1-1:Nat):Int)=some (.lst (ss[t.1-1].map sD)):=kr (λs:nu=>D.lst (s.map sD)) (by simp[U]);have I:=z4q ((ofS p (t.1-1)).flatten.map sD) (t.2.map sD) ((ofS q (t.1-1)).flatten.map sD);rw[<-b6,<-b6,l,af,af] at I;have v:begF p (t.1-1)=((ofS p (t.1-1)).flatten.length:Int):=rfl;rw[<-v] at I;have w:p.length<=ts.length:=by rw[R];simp
   have j:Few ((p.map λt=>slD t.2).length+1):=few (by rw[af];lia);rw[<-J,b6,bz,dc];unfold ssL;generalize (p.map λt=>slD t.2)=M at *;have k:D.lst (t.2.map sD)=slD t.2:=rfl;simp[pi,zfu,u,d,f,h,I,k,j])
 have x:ny fYes (fC (.int 0)) [] (ss.map λs=>D.lst (s.map sD))=some (cntD ss.length (begF [])):=by
  rw[zmg];congr 1
 have j:Few (ss.map λs=>D.lst (s.map sD)).length:=few (by rw[af];lia);refine jl (e':=[some (.sh (ssL ss)),some (.sh (.lst (ts.map tnD))),some (.ow (cntD ss.length (begF ts))),some (.sh (.lst (ts.map λt=>slD t.2))),Y,Z,a,b,c]) rfl ?_;show zjy [some (.sh (ssL ss)),some (.sh (.lst (ts.map tnD))),none,none,none,none,none,none,none]=_;have V:forU [4,5,6,7] zfu (ts.map tnD) [some (.sh (ssL ss)),some (.sh (.lst (ts.map tnD))),some (.ow (cntD ss.length (begF []))),some (.ow []),none,none,none,none,none]=_:=h1;unfold ssL at V ⊢;generalize (ss.map λs=>D.lst (s.map sD))=L at *;simp[zjy,iw,j,x,V]
def qy(r p:nu):k4:=(List.range p.length).map λi=>lss r*hrs (p.take (i+1))-lss (p.take (i+1))*hrs r
theorem zpe(r p:nu)(x:Sk):qy r (p++[x])=qy r p++[lss r*hrs (p++[x])-lss (p++[x])*hrs r]:=by
 unfold qy;rw[am,io,md,b6];congr 1
 ·apply j8
  intro i hi;have hi:i<p.length:=i4.mp hi;rw[f7 (by lia)]
 ·simp
  rw[ib (by simp)]
def zod(r p:nu):(qy r p).length=p.length:=by simp[qy]
def debts(r:nu):k4:=qy r r.dropLast
theorem z1e(a:mu):cutD a none (some (-1))=a.dropLast:=by
 unfold cutD;rw[HT.sIx_none];have:HT.sIx a.length a.length (some (-1))=a.length-1:=by
  unfold HT.sIx;dsimp only;rw[if_pos (by lia)]
  lia
 rw[this,jx];simp
def zyp(a:mu):cutD a none (some ((a.length:Int)-1))=a.dropLast:=by
 unfold cutD;rw[HT.sIx_none,jx];cases a with
 | nil=>simp
 | cons x a =>
   rw[show(((x::a).length:Nat):Int)-1=((a.length:Nat):Int) by simp,HT.sIx_nat];simp
theorem zop(r:nu)(Z:∀x∈r,i6 x)(j:r.length<=14):zir [.tup [.int (hrs r),.int (lss r)],slD r]=some (.lst ((debts r).map D.int)):=by
 have a:=smB r Z (by lia);obtain⟨e',h1,U,rfl⟩:=qo (i:=5) (g:=zg9) sD (λp e=>∃U,e=[some (.sh (.tup [.int (hrs r),.int (lss r)])),some (.sh (slD r)),some (.ow ((qy r p).map D.int)),some (.sh (.int (hrs p))),some (.sh (.int (lss p))),U]) r.dropLast
  [some (.sh (.tup [.int (hrs r),.int (lss r)])),some (.sh (slD r)),some (.ow []),some (.sh (.int 0)),some (.sh (.int 0)),none] ⟨none,rfl⟩ (by
   rintro p x q e R ⟨U,rfl⟩;have b:hrs (p++[x])=hrs p+x.2.1:=by rw[oz];simp[hrs]
   have c:lss (p++[x])=lss p+x.2.2:=by rw[rh];simp[lss]
   have d:p.length+1<=r.length:=by
    have:=congrArg List.length R;simp at this
    lia
   have V:∀y∈p++[x],i6 y:=λy f=>Z y (List.dropLast_subset r (by rw[R];rw[show p++x::q=(p++[x])++q by simp];exact dy _ f));have Y:=smB (p++[x]) V (by simp;lia);have I:=zx7 (hrs r) (lss r) (hrs (p++[x])) (lss (p++[x])) a.2 Y.2;have h:Few (((qy r p).map D.int).length+1):=few (by rw[af,zod];lia);rw[zpe,b6,bz,dc];rw[b,c] at I ⊢;generalize (qy r p).map D.int=M at *;simp[zg9,zni,zqm,I,h])
 refine jl (e':=[some (.sh (.tup [.int (hrs r),.int (lss r)])),some (.sh (slD r)),some (.sh (.lst ((debts r).map D.int))),some (.sh (.int (hrs r.dropLast))),some (.sh (.int (lss r.dropLast))),U]) rfl ?_;show ziq [some (.sh (.tup [.int (hrs r),.int (lss r)])),some (.sh (slD r)),none,none,none,none]=_;have J:=z1e (r.map sD);rw[<-List.map_dropLast] at J;unfold slD at h1 ⊢;unfold debts;simp only[ziq,sSeq,sSet,sOwn,sFor,sRet,fu,fNil,fC,fiS,fLst,fSl,fO0,fO1,fUn,dNeg,fVar,ae,ah,ac,ai,au,av,bq,ft,if_true,J,h1]
theorem zsb(r:nu)(V:∀x∈r,i6 x)(d:r.length<=14):zj1 [slD r,.int (hrs r),.int (lss r)]=some (.lst ((debts r).map D.int)):=by
 have U:=smB r V (by lia);have Y:ly (hrs r):=U.1;have s2:ly (lss r):=U.2;obtain⟨e',h1,J,rfl⟩:=qo (i:=6) (g:=zh1) sD (λp e=>∃J,e=[some (.sh (slD r)),some (.sh (.int (hrs r))),some (.sh (.int (lss r))),some (.ow ((qy r p).map D.int)),some (.sh (.int (hrs p))),some (.sh (.int (lss p))),J]) r.dropLast
  [some (.sh (slD r)),some (.sh (.int (hrs r))),some (.sh (.int (lss r))),some (.ow []),some (.sh (.int 0)),some (.sh (.int 0)),none] ⟨none,rfl⟩ (by
   rintro p x q e R ⟨J,rfl⟩;have Z:hrs (p++[x])=hrs p+x.2.1:=by rw[oz];simp[hrs]
   have a:lss (p++[x])=lss p+x.2.2:=by rw[rh];simp[lss]
   have b:p.length+1<=r.length:=by
    have:=congrArg List.length R;simp at this
    lia
   have c:Few (((qy r p).map D.int).length+1):=few (by rw[af,zod];lia);rw[zpe,b6,bz,dc,Z,a,jq (lss p+x.2.2) (hrs r)];generalize (qy r p).map D.int=M at *;unfold sD;simp[zh1,xf,xb,re Y,re s2,c])
 refine jl (e':=[some (.sh (slD r)),some (.sh (.int (hrs r))),some (.sh (.int (lss r))),some (.sh (.lst ((debts r).map D.int))),some (.sh (.int (hrs r.dropLast))),some (.sh (.int (lss r.dropLast))),J]) rfl ?_;show zj0 [some (.sh (slD r)),some (.sh (.int (hrs r))),some (.sh (.int (lss r))),none,none,none,none]=_;have I:=zyp (r.map sD);rw[<-List.map_dropLast] at I;unfold slD at h1 ⊢;unfold debts;simp only[zj0,sSeq,sSet,sOwn,sFor,sRet,fu,fNil,fC,fiS,fLst,fSl,fO0,fO1,fBin,dSub,gy,fVar,ae,ah,ac,ai,au,av,bq,ft,if_true,I,h1]
def n9(ts:n0)(k:Nat):Int:=match ts[k]?,ts[k+1]? with
 | some t,some n=>lss t.2*hrs n.2-lss n.2*hrs t.2
 | _,_=>0
theorem zsc(ts:n0)(k:Nat)(J:k<ts.length)(V:∀t∈ts,SmB (blk t.2)):zld [.lst (ts.map tnD),.int (k:Int)]=some (.int (n9 ts k)):=by
 by_cases a:k+1=ts.length
 ·have R:n9 ts k=0:=by
   unfold n9;rw[ce (i:=k+1) (by lia)];cases ts[k]? <;> rfl
  rw[R];have U:decide ((k:Int)+1=((ts.map tnD).length:Int))=true:=by simp;lia
  refine jl (e':=[some (.sh (.lst (ts.map tnD))),some (.sh (.int (k:Int)))]) rfl ?_;show zha [some (.sh (.lst (ts.map tnD))),some (.sh (.int (k:Int)))]=_;generalize ts.map tnD=T at *;simp[zha,U]
 ·have D:k+1<ts.length:=by lia
  have R:n9 ts k=lss ts[k].2*hrs ts[k+1].2-lss ts[k+1].2*hrs ts[k].2:=by
   unfold n9;rw[aw J,aw D]
  rw[R];have U:decide ((k:Int)+1=((ts.map tnD).length:Int))=false:=by simp;lia
  have Y:atI (ts.map tnD) (k:Int)=some (tnD ts[k]):=kr tnD (by simp[J]);have Z:atI (ts.map tnD) ((k:Int)+1)=some (tnD ts[k+1]):=by
   exact kr tnD (by simp[D])
  have I:=zx7 (hrs ts[k].2) (lss ts[k].2) (hrs ts[k+1].2) (lss ts[k+1].2) (V _ (e7 J)).2 (V _ (e7 D)).2;refine jl (e':=[some (.sh (.lst (ts.map tnD))),some (.sh (.int (k:Int)))]) rfl ?_;show zha [some (.sh (.lst (ts.map tnD))),some (.sh (.int (k:Int)))]=_;generalize ts.map tnD=T at *;simp[zha,U,Y,Z,zn6,I]
def rowW(ts:n0)(x:Tn×Nat):D:=.tup [.int (x.1.1:Int),.int (x.1.2.length:Int),.int (hrs x.1.2),.int (lss x.1.2),.lst ((debts x.1.2).map D.int),.int (n9 ts x.2)]
theorem zse(ok:TurnsOk ss ts)(a:x0 [ssL ss]=some (.lst (ts.map tnD)))(i:∀x∈ss.flatten,i6 x)(m:ss.length<=1000)(j:ss.flatten.length<=14) :
  zit [ssL ss]=some (.lst ((ts.zipIdx).map (rowW ts))):=by
 have b:=zqr ok m j;have n:=ok.len;have c:=ok.sm i (by lia);obtain⟨e',h1,V,Y,Z,rfl⟩:=we (ix:=[3,4]) (g:=zis) (λx:Tn×Nat=>[D.int (x.2:Int),slD x.1.2])
  (λp e=>∃V Y Z,e=[some (.sh (ssL ss)),some (.sh (.lst (ts.map tnD))),some (.ow (p.map (rowW ts))),V,Y,Z]) ts.zipIdx
  [some (.sh (ssL ss)),some (.sh (.lst (ts.map tnD))),some (.ow []),none,none,none] ⟨none,none,none,rfl⟩ (λ_ _=>rfl) (by
   rintro p x q e J ⟨V,Y,Z,rfl⟩;have R:ts.zipIdx[p.length]?=some x:=by rw[J];simp
   have I:ts[x.2]?=some x.1:=by
    rw[m6] at R;cases hs:ts[p.length]? with
    | none=>rw[hs] at R;cases R
    | some t=>rw[hs] at R;cases R;simpa using hs
   obtain⟨t,k⟩:=x;have o:=(aj.mp I).1;have l:t∈ts:=bf I;have d:atI (ts.map tnD) (k:Int)=some (tnD t):=kr tnD I;have f:=zop t.2 (ok.sk i t l) (cy (ok.len1 t l) j);have h:=zsc ts k o c;have r:Few ((p.map (rowW ts)).length+1):=few (by
    rw[af];have:=congrArg List.length J;simp at this
    lia)
   have U:zxw (tnD t) (.tup [.lst ((debts t.2).map D.int),.int (n9 ts k)])=some (rowW ts (t,k)):=by
    rfl
   rw[b6,bz,dc];generalize p.map (rowW ts)=M at *;simp[pi,zis,d,zn6,f,h,U,r])
 refine jl (e':=[some (.sh (ssL ss)),some (.sh (.lst (ts.map tnD))),some (.sh (.lst ((ts.zipIdx).map (rowW ts)))),V,Y,Z]) rfl ?_;show zle [some (.sh (ssL ss)),none,none,none,none,none]=_;have s:iEn 0 [.lst (ts.map λt=>slD t.2)]=some (ts.zipIdx.map λx=>D.tup [D.int (x.2:Int),slD x.1.2]):=by
  show some (qj 0 (ts.map λt=>slD t.2))=_;rw[zn5]
 simp only[zle,sSeq,sSet,sOwn,o9,sRet,fu,fNil,ip,du,ao,fVar,ae,ah,ac,ai,au,av,bq,ft,if_true,a,b,s,h1]
def z1f(ts:n0)(t:Tn)(k:Nat):¬(HT.sIx 6 0 none=0/\HT.sIx 6 6 (some 4)=6)/\cutD [.int (t.1:Int),.int (t.2.length:Int),.int (hrs t.2),.int (lss t.2),.lst ((debts t.2).map D.int),.int (n9 ts k)] none (some 4)=[.int (t.1:Int),.int (t.2.length:Int),.int (hrs t.2),.int (lss t.2)]:=by
 refine⟨by decide,rfl⟩
theorem zts(ok:TurnsOk ss ts)(K:∀x∈ss.flatten,i6 x)(hn:ss.length<=900)(hl:ss.flatten.length<=14) :
  zhc [.lst ((ts.zipIdx).map (rowW ts)),ssL ss]=some (.bl true):=by
 have L:=zqk ok K hl hn;have M:=z4u ss (by lia);have ar:=ok.len;have u:=ok.sm K (by lia);have l:=ok.left;obtain⟨e',h1,B,C,E,F,G,H,Y,Z,rfl⟩:=rq (i:=4) (g:=zfg) (λk e=>∃B C E F G H Y Z,e=[some (.sh (.lst ((ts.zipIdx).map (rowW ts)))),some (.sh (ssL ss)),some (.sh (.lst (ts.map tnD))),some (.ow ((il ss.length (ts.drop k)).map λs=>D.lst (s.map sD))),B,C,E,F,G,H,Y,Z])
  (rngD 0 ts.length) [some (.sh (.lst ((ts.zipIdx).map (rowW ts)))),some (.sh (ssL ss)),some (.sh (.lst (ts.map tnD))),some (.ow (ss.map λs=>D.lst (s.map sD))),none,none,none,none,none,none,none,none] ⟨none,none,none,none,none,none,none,none,by rw[List.drop_zero,l]⟩ (by
    rintro k d e N ⟨B,C,E,F,G,H,Y,Z,rfl⟩;obtain⟨rfl,v⟩:=tf N;rw[jp];have w:ts[k]∈ts:=e7 v;have y:=fb v;rw[y];obtain⟨l1,l2⟩:=ok.lo _ w;have m:atI (ts.map tnD) (k:Int)=some (tnD ts[k]):=kr tnD (by simp[v]);have J:atI ((ts.zipIdx).map (rowW ts)) (k:Int)=some (rowW ts (ts[k],k)):=kr (rowW ts) (by simp[v]);have h:=zmf (ts:=ts.drop (k+1)) l1 l2;have j:=zn8 (ts:=ts.drop (k+1)) l1 l2;have O:=zsb ts[k].2 (ok.sk K _ w) (cy (ok.len1 _ w) hl);have P:=zj6 (debts ts[k].2) (by unfold debts;rw[zod,List.length_dropLast];have:=ok.len1 _ w;lia);have Q:=xr (n9 ts k);have S:vf [.tup [.int (ts[k].1:Int),.int (ts[k].2.length:Int),.int (hrs ts[k].2),.int (lss ts[k].2)],.tup [.int (ts[k].1:Int),.int (ts[k].2.length:Int),.int (hrs ts[k].2),.int (lss ts[k].2)]]=some (.bl true):=zn3 [(ts[k].1:Int),(ts[k].2.length:Int),hrs ts[k].2,lss ts[k].2] (by simp);obtain⟨W,X⟩:=z1f ts ts[k] k;have I:∃(fF:FS),fF=sIf (fTst (fBin dLt (fBin gn (fVar 4) (fC (.int 1))) (gy 2))) (sSet 9 (fBin dSub (fBin dMul (fVar 8) (fBin dIx (fIxV 2 (fBin gn (fVar 4) (fC (.int 1)))) (fC (.int 2)))) (fBin dMul (fBin dIx (fIxV 2 (fBin gn (fVar 4) (fC (.int 1)))) (fC (.int 3))) (fVar 7)))) (sNil) /\
      ∀(w0 w1 w3 w5 w6 n o:nb),fF [w0,w1,some (.sh (.lst (ts.map tnD))),w3,some (.sh (.int (k:Int))),w5,w6,some (.sh (.int (hrs ts[k].2))),some (.sh (.int (lss ts[k].2))),some (.sh (.int 0)),n,o] =
       some (.nx,[w0,w1,some (.sh (.lst (ts.map tnD))),w3,some (.sh (.int (k:Int))),w5,w6,some (.sh (.int (hrs ts[k].2))),some (.sh (.int (lss ts[k].2))),some (.sh (.int (n9 ts k))),n,o]):=by
     refine⟨_,rfl,λw0 w1 w3 w5 w6 n o=>?_⟩;by_cases he:k+1<ts.length
     ·have z:n9 ts k=lss ts[k].2*hrs ts[k+1].2-lss ts[k+1].2*hrs ts[k].2:=by
       unfold n9;rw[aw v,aw he]
      have hd:decide ((k:Int)+1<((ts.map tnD).length:Int))=true:=by simp;lia
      have a2:atI (ts.map tnD) ((k:Int)+1)=some (tnD ts[k+1]):=by
       exact kr tnD (by simp[he])
      have i2:dIx (tnD ts[k+1]) (.int 2)=some (.int (hrs ts[k+1].2)):=rfl;have i3:dIx (tnD ts[k+1]) (.int 3)=some (.int (lss ts[k+1].2)):=rfl;have m1:=(u _ w).2;have m2:=(u _ (e7 he)).2;have aa:ly (lss ts[k].2):=m1;have ab:ly (lss ts[k+1].2):=m2;rw[z];simp only[sIf,sSet,fTst,fBin,fVar,fC,gy,fIxV,ixSl,gn,dLt,dSub,ae,ah,ac,ai,au,av,hd,if_true,a2,i2,i3,re aa,re ab]
     ·have z:n9 ts k=0:=by
       unfold n9;rw[ce (i:=k+1) (by lia)];cases ts[k]? <;> rfl
      have hd:decide ((k:Int)+1<((ts.map tnD).length:Int))=false:=by simp;lia
      rw[z];generalize ts.map tnD=T at *;simp[hd]
    obtain⟨fF,ag,I⟩:=I;have J:atI ((ts.zipIdx).map (rowW ts)) (k:Int)=some (.tup [.int (ts[k].1:Int),.int (ts[k].2.length:Int),.int (hrs ts[k].2),.int (lss ts[k].2),.lst ((debts ts[k].2).map D.int),.int (n9 ts k)]):=J;have m:atI (ts.map tnD) (k:Int)=some (.tup [.int (ts[k].1:Int),.int (ts[k].2.length:Int),.int (hrs ts[k].2),.int (lss ts[k].2)]):=m;generalize ts.drop (k+1)=ts' at h j y ⊢;generalize n9 ts k=fl at *;generalize ts[k]=t at *;have z:(t.1:Int)-1=((t.1-1:Nat):Int):=by lia
    have al:atI ((il ss.length (t::ts')).map λs=>D.lst (s.map sD)) ((t.1-1:Nat):Int)=some (.lst ((t.2++(ofS ts' (t.1-1)).flatten).map sD)):=kr (λs:nu=>D.lst (s.map sD)) h;have U:=zyd (t.2.map sD) ((ofS ts' (t.1-1)).flatten.map sD);have V:=ztj (t.2.map sD) ((ofS ts' (t.1-1)).flatten.map sD);rw[<-b6,af] at U V;have an:ixN ((il ss.length (t::ts')).map λs=>D.lst (s.map sD)).length ((t.1-1:Nat):Int)=some (t.1-1):=by
     rw[rj (by lia) (by rw[af,mz];lia)];congr 1
    have p:((il ss.length (t::ts')).map λs=>D.lst (s.map sD)).set (t.1-1) (.lst ((ofS ts' (t.1-1)).flatten.map sD))=(il ss.length ts').map λs=>D.lst (s.map sD):=by
     rw[j,ie]
    have ap:D.lst (t.2.map sD)=slD t.2:=rfl;generalize ts.map tnD=T at *;generalize (ts.zipIdx).map (rowW ts)=R at *;generalize (debts t.2).map D.int=DB at *;have z6:decide (((6:Nat):Int)=6)=true:=by decide
    refine⟨[some (.sh (.lst R)),some (.sh (ssL ss)),some (.sh (.lst T)),some (.ow ((il ss.length ts').map λs=>D.lst (s.map sD))),some (.sh (.int (k:Int))),some (.sh (.int (t.1:Int))),some (.sh (.int (t.2.length:Int))),some (.sh (.int (hrs t.2))),some (.sh (.int (lss t.2))),some (.sh (.int fl)),some (.sh (.lst DB)),some (.sh (.tup [.int (t.1:Int),.int (t.2.length:Int),.int (hrs t.2),.int (lss t.2),.lst DB,.int fl]))],?_,_,_,_,_,_,_,_,_,rfl⟩;unfold zfg;rw[<-ag];have q:∀a b c d e f:D,atI [a,b,c,d,e,f] 4=some e:=λ_ _ _ _ _ _=>rfl;have r:∀a b c d e f:D,atI [a,b,c,d,e,f] 5=some f:=λ_ _ _ _ _ _=>rfl;simp only[sSeq,sUnp,pi,sSet,uu,zxh,sIf,sRet,sNil,fIxV,ixSl,fVar,fC,du,ao,fNil,fLst,fSl,fSlT,fO0,fO1,fOr,fNot,fTst,fIsi,tyD,isiT,fBin,dSub,dNe,gy,ae,ah,ac,ai,au,av,m,I,z,al,U,ap,O,V,an,p,J,W,X,S,P,Q,q,r,z6,ak,bq,Nat.reduceAdd,if_true,if_false,j2,bx,beq_self_eq_true,Bool.true_or,decide_true])
 rw[vb,jz] at h1;have hi:iR1 [.int ((ts.map tnD).length:Int)]=some (rngD 0 ts.length):=by rw[af];exact n4 _ (by lia)
 have A:decide ((((ts.zipIdx).map (rowW ts)).length:Int)=((ts.map tnD).length:Int))=true:=by simp
 refine jl (e':=[some (.sh (.lst ((ts.zipIdx).map (rowW ts)))),some (.sh (ssL ss)),some (.sh (.lst (ts.map tnD))),some (.ow ((il ss.length []).map λs=>D.lst (s.map sD))),B,C,E,F,G,H,Y,Z]) rfl ?_;show zhb [some (.sh (.lst ((ts.zipIdx).map (rowW ts)))),some (.sh (ssL ss)),none,none,none,none,none,none,none,none,none,none]=_;generalize ts.map tnD=T at *;generalize (ts.zipIdx).map (rowW ts)=R at *;simp[zhb,L,M,A,hi,h1,beq_self_eq_true,Bool.true_or]
def r3(r:k4):Int:=r.getD 2 0
def srt(r:k4):k4:=[if r.getD 0 0<=r.getD 1 0 then r.getD 0 0 else r.getD 1 0,if r.getD 0 0<=r.getD 1 0 then r.getD 1 0 else r.getD 0 0]
def cmp(h:Int):nu->Int->Int
 | [],_=>0
 | x::r,k=>if x.1=k then h+x.2.1 else cmp (h+x.2.1) r k
def PS(w C:Sk->Int)(P:Int):nu->Int
 | x::y::r=>-(P+w x)*(C y-C x-y.2.1)+PS w C (P+w x) (y::r)
 | _=>0
theorem zyq(l:nw):(l.map λs:nu=>(s.length:Int)).sum=(l.flatten.length:Int):=by
 induction l with
 | nil=>rfl
 | cons a l ih=>rw[bz,gl,ih,db,am];lia
theorem zsf(ss:nw)(R:ss.length<=1000):zfv [ssL ss]=some (.int (ss.flatten.length:Int)):=by
 have c:=oh (te:=gy 0) (base:=[]) (λs:nu=>D.lst (s.map sD)) (λs:nu=>D.int (s.length:Int)) ss λs _=>⟨_,by simp;rfl⟩;have I:=xl (λs:nu=>(s.length:Int)) ss;have J:Few (ss.map λs=>D.lst (s.map sD)).length:=few (by rw[af];lia);rw[zyq] at I;refine jl (e':=[some (.sh (ssL ss))]) rfl ?_;show zh2 [some (.sh (ssL ss))]=_;unfold ssL;generalize (ss.map λs=>D.lst (s.map sD))=L at *;simp[zh2,iw,J,c,I]
theorem ztt(ss:nw)(R:∀s∈ss,s.length<=1000):ziv [ssL ss]=some (.int (lss ss.flatten)):=by
 obtain⟨e',h1,v2,rfl⟩:=qo (i:=2) (g:=zex) (λs:nu=>D.lst (s.map sD)) (λp e=>∃v2,e=[some (.sh (ssL ss)),some (.sh (.int (lss p.flatten))),v2]) ss
  [some (.sh (ssL ss)),some (.sh (.int 0)),none] ⟨none,rfl⟩ (by
   rintro p s q e I ⟨v2,rfl⟩;have c:=oh (te:=du wj (ao (fVar 0) fNil)) (base:=[]) sD (λx:Sk=>D.int x.2.2) s λx _=>⟨_,by simp[zqm];rfl⟩;have U:=xl (λx:Sk=>x.2.2) s;have V:Few (s.map sD).length:=few (by rw[af];have:=R s (by rw[I];simp);lia);have Y:lss (p++[s]).flatten=lss p.flatten+(s.map λx:Sk=>x.2.2).sum:=by rw[fc,rh];simp[lss]
   rw[Y];generalize s.map sD=L at *;simp[zex,iw,V,c,U])
 refine jl (e':=[some (.sh (ssL ss)),some (.sh (.int (lss ss.flatten))),v2]) rfl ?_;show ziu [some (.sh (ssL ss)),none,none]=_;have J:forL 2 zex (ss.map λs=>D.lst (s.map sD)) [some (.sh (ssL ss)),some (.sh (.int 0)),none]=_:=h1;unfold ssL at *;simp[ziu,J]
theorem tx(h:ss[a-1]?=some s)(I:1<=a):atI (ss.map λs=>D.lst (s.map sD)) ((a:Int)-1)=some (.lst (s.map sD)):=by
 rw[show((a:Int)-1)=((a-1:Nat):Int) by lia];exact kr _ h
variable{x:Sk}
def z2p(h:ss[a-1]?=some (x::r))(D:1<=a):zkj [ssL ss,.int (a:Int)]=some (sD x):=by
 have h1:=tx h D;have h2:atI ((x::r).map sD) (0:Int)=some (sD x):=kr sD (k:=0) rfl;refine jl (e':=[some (.sh (ssL ss)),some (.sh (.int (a:Int)))]) rfl ?_;show zme [some (.sh (ssL ss)),some (.sh (.int (a:Int)))]=_;unfold ssL;generalize (x::r).map sD=M at *;simp[zme,h1,h2]
def zyr(l:List α)(k:Nat)(x:α)(h:k<l.length):l.take k++[x]++l.drop (k+1)=l.set k x:=by
 rw[List.set_eq_take_append_cons_drop,if_pos h];simp
def zqs(l:mu)(k:Nat)(h:k<=l.length):cutD l none (some (k:Int))=l.take k:=by
 have:=zyd (l.take k) (l.drop k);rwa [List.take_append_drop,dn,Nat.min_eq_left h] at this
def znj(l:mu)(k:Nat)(h:k<=l.length):cutD l (some (k:Int)) none=l.drop k:=by
 have:=ztj (l.take k) (l.drop k);rwa [List.take_append_drop,dn,Nat.min_eq_left h] at this
theorem ziz(s:nu)(Z:1<=a)(b:a<=ss.length)(c:ss.length<=1000):zk [ssL ss,.int (a:Int),.lst (s.map sD)]=some (ssL (ss.set (a-1) s)):=by
 have d:(ss.map λs=>D.lst (s.map sD)).length=ss.length:=af ..;have J:=zqs (ss.map λs=>D.lst (s.map sD)) (a-1) (by lia);have R:=znj (ss.map λs=>D.lst (s.map sD)) a (by lia);have U:((a:Int)-1)=((a-1:Nat):Int):=by lia
 have I:=zyr (ss.map λs=>D.lst (s.map sD)) (a-1) (D.lst (s.map sD)) (by lia);rw[show a-1+1=a by lia] at I;have V:Few ((((ss.map λs=>D.lst (s.map sD)).take (a-1)).length)+(0+1)):=few (by simp only[dn];lia);have f2:Few (((ss.map λs=>D.lst (s.map sD)).take (a-1)++[D.lst (s.map sD)]).length+((ss.map λs=>D.lst (s.map sD)).drop a).length):=few (by simp[dn,em];lia);have Y:ssL (ss.set (a-1) s)=.lst ((ss.map λs=>D.lst (s.map sD)).set (a-1) (D.lst (s.map sD))):=by unfold ssL;rw[ie]
 refine jl (e':=[some (.sh (ssL ss)),some (.sh (.int (a:Int))),some (.sh (.lst (s.map sD)))]) rfl ?_;show zj2 [some (.sh (ssL ss)),some (.sh (.int (a:Int))),some (.sh (.lst (s.map sD)))]=_;rw[Y,<-I];unfold ssL;generalize s.map sD=M at *;simp only[zj2,sRet,fLst,fCat,fSl,fO0,fO1,fu,ao,fNil,fVar,fBin,fC,dSub,U,ae,ah,ac,ai,J,R,V,f2,if_true,ak,bq,show(0+1<=64)=True by simp]
theorem zpf(h:ss[a-1]?=some (x::r))(D:1<=a)(I:ss.length<=1000):zgn [ssL ss,.int (a:Int)]=some (ssL (ss.set (a-1) r)):=by
 have h1:=tx h D;have R:=(aj.mp h).1;have c:cutD ((x::r).map sD) (some ((1:Nat):Int)) none=((x::r).map sD).drop 1:=znj _ 1 (by simp);have J:=ziz (ss:=ss) r D (by lia) I;refine jl (e':=[some (.sh (ssL ss)),some (.sh (.int (a:Int)))]) rfl ?_;show ziw [some (.sh (ssL ss)),some (.sh (.int (a:Int)))]=_;have c:cutD ((x::r).map sD) (some (1:Int)) none=r.map sD:=c;unfold ssL at *;generalize (x::r).map sD=M at *;simp[ziw,h1,c,J]
variable{p:List Hs}
theorem z8n{p b:nu}{B:nu}(h:B=p++b)(g:Good B):¬gt (blk B) (blk b):=by
 have h1:=g.beg p ⟨b,h.symm⟩;have D:hrs B=hrs p+hrs b:=by rw[h,oz]
 have I:lss B=lss p+lss b:=by rw[h,rh]
 show ¬lss b*hrs B<lss B*hrs b;rw[D,I] at h1 ⊢;simp only[i5,jg] at h1 ⊢
 lia
def z1g(a:Nat)(D:nw)(j:Nat):ofS (D.map λb=>(a,b)) j=if a=j+1 then D else[]:=by
 unfold ofS;induction D with
 | nil=>simp
 | cons b r ih =>
   rw[bz];by_cases h:a=j+1
   ·rw[lv (by simp[h]),bz,ih,if_pos h,if_pos h]
   ·rw[lw (by simp[h]),ih,if_neg h,if_neg h]
def zv9(a:Nat)(D:nw):js (D.map λb=>(a,b))=List.replicate D.flatten.length a:=by
 unfold js;induction D with
 | nil=>simp
 | cons b r ih =>
   rw[bz,bz,db,ih,db,am,List.replicate_append_replicate]
theorem zys(ok:TurnsOk ss ((a,x::r)::ts))(w:∀y∈ss.flatten,i6 y)(i:ss.flatten.length<=14) :
  ∃tl V,ss[a-1]?=some (x::tl)/\1<=a/\a<=ss.length/\TurnsOk (ss.set (a-1) tl) V/\js V=List.replicate r.length a++js ts/\(V.map (·.2)).flatten=r++(ts.map (·.2)).flatten:=by
 have lo:=ok.lo (a,x::r) (by simp);have G:=ok.good (a,x::r) (by simp);have Y:=ok.sk w (a,x::r) (by simp);have k:=ok.len1 (a,x::r) (by simp);have l:=ok.left;have J:=zmf (n:=ss.length) (t:=(a,x::r)) (ts:=ts) lo.1 lo.2;rw[l] at J;obtain⟨I,R,_⟩:=zj4 r (λy m=>Y y (by simp[m])) (by rw[ak] at k;lia);have pos:∀b∈I,0<hrs b:=λb D=>ua b (λy m=>Y y (ay _ (by rw[<-R.flat];exact gc.mpr ⟨b,by simpa using D,m⟩))) (R.good b D).ne;have o:0<hrs (x::r):=ua _ Y (by simp);have A:=zth I R.desc pos;have B:∀b∈I,¬gt (blk (x::r)) (blk b):=by
  cases I with
  | nil=>intro b D;cases D
  | cons bl rs' =>
    have p:x::r=(x::rs'.reverse.flatten)++bl:=by rw[<-R.flat];simp
    have C:=z8n p G;intro b D;rcases b8.mp D with rfl | hb'
    ·exact C
    ·exact z8h (pos b D) (pos bl (by simp)) o (λz=>wc ((fg.mp A).1 b hb') z) C
 have f:=ok.srt;obtain⟨q,v⟩:=fg.mp f;have g:∀t∈I.reverse.map (λb=>(a,b))++ts,1<=t.1/\t.1<=ss.length:=λt Z=>by
  rcases de.mp Z with h | h
  ·obtain⟨b,_,rfl⟩:=fq.mp h;exact lo
  ·exact ok.lo t (by simp[h])
 have d:il ss.length (I.reverse.map (λb=>(a,b))++ts)=ss.set (a-1) (r++(ofS ts (a-1)).flatten):=by
  apply dz;intro j;by_cases U:j<ss.length
  ·rw[qp U,gi,zqq,z1g]
   by_cases e:a-1=j
   ·subst e
    rw[if_pos (by lia),if_pos rfl,if_pos U,fc,R.flat]
   ·rw[if_neg (by lia),if_neg e]
    have:=ok.part j ss[j] (by simp[U]);rw[zhd _ _ _ (by simp;lia)] at this;simp[this,U]
  ·rw[ce (by rw[mz];lia),ce (by rw[dq];lia)]
 refine⟨r++(ofS ts (a-1)).flatten,I.reverse.map (λb=>(a,b))++ts,J,lo.1,lo.2,?_,?_,?_⟩
 ·rw[<-d]
  refine⟨λt Z=>by rw[mz];exact g t Z,λt Z=>?_,λj s U=>?_,?_,zlf g⟩
  ·rcases de.mp Z with h | h
   ·obtain⟨b,D,rfl⟩:=fq.mp h;exact R.good b (by simpa using D)
   ·exact ok.good t (by simp[h])
  ·have i:=(aj.mp U).1
   rw[mz] at i;rw[qp i] at U;exact bn U
  ·rw[iz]
   refine⟨?_,v,λt Z u E=>?_⟩
   ·rw[List.pairwise_map,List.pairwise_reverse]
    exact A.imp λh=>.inl h
   ·obtain⟨b,D,rfl⟩:=fq.mp Z
    have D:b∈I:=by simpa using D
    have F:0<hrs u.2:=ok.pos w u (by simp[E]);rcases q u E with z | ⟨z1,z2⟩
    ·exact .inl (yab (n:=blk b) (c:=blk (x::r)) (b:=blk u.2) (pos b D) o F (B b D) z)
    ·exact .inr ⟨z8h (n:=blk b) (c:=blk (x::r)) (b:=blk u.2) (pos b D) o F (B b D) z1,z2⟩
 ·rw[u5,zv9,R.flat]
 ·rw[b6,fc,ig]
  show((I.reverse.map λb=>b).flatten)++_=_;rw[List.map_id',R.flat]
def zd3:FS:=sIf (fOr (fTst (fBin dLt (fVar 1) (fC (.int 1)))) (fTst (fBin dGt (fVar 1) (gy 0)))) (lp "UnknownStack" (some)) (sNil)
def zt:np->mu->mv:=runQ 2 0 2 zd3
def wn:np->mu->k9:=xQ 2 0 2 zd3
def zj7:FS:=sSeq (sIf (fTst (fBin dEq (gy 0) (fC (.int 0)))) (sRet (fC (.int 0))) (sNil)) (sRet (fBin dIx (fIxV 0 (fUn dNeg (fC (.int 1)))) (fC (.int 1))))
def zga:mu->mv:=runD 1 1 zj7
def zh4:FS:=sIf (fOr (fTst (fBin dLt (fVar 0) (fC (.int 0)))) (fTst (fBin dGt (fVar 0) (fC (.int 5))))) (lp "BadCount" ((λz=>(some z).bind ((λz=>((vInt (fC (.int 5))) z).bind ((λz=>(some z).bind (some)))))))) (sNil)
def zfw:np->mu->mv:=runQ 1 0 1 zh4
def zfx:np->mu->k9:=xQ 1 0 1 zh4
def zd4:FS:=sIf (fOr (fTst (fBin dLt (fVar 0) (fC (.int 1)))) (fTst (fBin dGt (fVar 0) (fC (.int 60))))) (lp "BadHours" ((λz=>(some z).bind ((λz=>((vInt (fC (.int 60))) z).bind ((λz=>(some z).bind (some)))))))) (sNil)
def zfy:np->mu->mv:=runQ 1 0 1 zd4
def zr:np->mu->k9:=xQ 1 0 1 zd4
def ze0:FS:=sIf (fOr (fTst (fBin dLt (fVar 0) (fC (.int 0)))) (fTst (fBin dGt (fVar 0) (fC (.int 100))))) (lp "BadLoss" ((λz=>(some z).bind ((λz=>((vInt (fC (.int 100))) z).bind (some)))))) (sNil)
def ze1:np->mu->mv:=runQ 1 0 1 ze0
def xz:np->mu->k9:=xQ 1 0 1 ze0
def zgo:FS:=sIf (fTst (fBin dGe (du zfv (ao (fVar 0) (fNil))) (fC (.int 14)))) (lp "HouseFull" ((λz=>((vInt (fC (.int 14))) z).bind ((λz=>(some z).bind (some)))))) (sNil)
def zgp:np->mu->mv:=runQ 1 0 1 zgo
def zn:np->mu->k9:=xQ 1 0 1 zgo
def zfz:FS:=sIf (fTst (fBin dGe (gy 0) (fC (.int 60)))) (lp "DeedsFull" ((λz=>((vInt (fC (.int 60))) z).bind ((λz=>(some z).bind (some)))))) (sNil)
def xw:np->mu->mv:=runQ 1 0 1 zfz
def ve:np->mu->k9:=xQ 1 0 1 zfz
def zlz:FS:=sRet (fBin gn (fC (.int 1)) (du bLen (ao (fLst (iw (fiS (fVar 0)) [] (fTst (fBin dEq (fIxV 0 (fC (.int 0))) (fC (.str "put")))) (fVar 0))) (fNil))))
def zgq:mu->mv:=runD 1 1 zlz
def zdw:FS:=sSeq (sXp (lz zfx [] (ao (fVar 1) (fNil))) (iy (gp zfw [] (ao (fVar 1) (fNil))))) (sSeq (zx3 0 "House" "kept" (fu (fNil))) (zx3 0 "House" "states" (fu (ao (fTup (ao (fLst (iw (ip iR1 (ao (fVar 1) (fNil))) [] fYes (fLst (fu (fNil))))) (ao (fLst (fu (fNil))) (fNil)))) (fNil)))))
def zcu:np->mu->nq:=runL 2 1 1 zdw
def zfi:np->mu->Option (Str×np):=xL 2 1 1 zdw
def zh5:FS:=sRet (fBin dIx (pIx (.at (.ins false "House" gz)) 0 1 (-1)) (fC (.int 0)))
def oj:np->mu->mv:=runQ 1 1 0 zh5
def zor:np->mu->k9:=xQ 1 1 0 zh5
def zh6:FS:=sRet (fBin dIx (pIx (.at (.ins false "House" gz)) 0 1 (-1)) (fC (.int 1)))
def o6:np->mu->mv:=runQ 1 1 0 zh6
def zos:np->mu->k9:=xQ 1 1 0 zh6
def zi0:FS:=sSeq (iy (t9 (.at (.ins false "House" gz)) 0 0 (fVar 1))) (iy (t9 (.at (.ins false "House" gz)) 0 1 (fTup (ao (fVar 2) (ao (fVar 3) (fNil))))))
def tq:np->mu->nq:=runL 4 1 3 zi0
def zqt:np->mu->Option (Str×np):=xL 4 1 3 zi0
def u7:FS:=sSeq (sSet 4 (fK (.ins false "House" gz) 0 (gp oj [0] (fNil)))) (sSeq (sXp (lz wn [] (ao (fVar 4) (ao (fVar 1) (fNil)))) (iy (gp zt [] (ao (fVar 4) (ao (fVar 1) (fNil)))))) (sSeq (sXp (lz zr [] (ao (fVar 2) (fNil))) (iy (gp zfy [] (ao (fVar 2) (fNil))))) (sSeq (sXp (lz xz [] (ao (fVar 3) (fNil))) (iy (gp ze1 [] (ao (fVar 3) (fNil))))) (sSeq (sXp (lz zn [] (ao (fVar 4) (fNil))) (iy (gp zgp [] (ao (fVar 4) (fNil))))) (sSeq (sXp (xFrz true (lz ve [] (ao (qi (.ins false "House" gz) 0 0) (fNil)))) (iy (fFrz true (gp xw [] (ao (qi (.ins false "House" gz) 0 0) (fNil)))))) (sSeq (sSet 5 (fFrz true (du zgq (ao (qi (.ins false "House" gz) 0 0) (fNil))))) (sSeq (sSet 6 (fLst (fCat (fLst (fu (ao (fTup (ao (fVar 5) (ao (fVar 2) (ao (fVar 3) (fNil))))) (fNil)))) (fIxV 4 (fBin dSub (fVar 1) (fC (.int 1))))))) (sSeq (iy (fK (.ins false "House" gz) 0 (lb tq [0] (ao (fTup (ao (fC (.str "put")) (ao (fVar 1) (ao (fVar 2) (ao (fVar 3) (fNil)))))) (ao (du zk (ao (fVar 4) (ao (fVar 1) (ao (fVar 6) (fNil))))) (ao (fK (.ins false "House" gz) 0 (gp o6 [0] (fNil))) (fNil))))))) (sRet (fVar 5))))))))))
def zgb:np->mu->nq:=runL 7 1 3 u7
def zj:np->mu->Option (Str×np):=xL 7 1 3 u7
def zh7:FS:=sRet (fLst (wz (.at (.ins false "House" gz)) 0 0))
def zf0:np->mu->mv:=runQ 1 1 0 zh7
def zot:np->mu->k9:=xQ 1 1 0 zh7
def zhe:FS:=sRet (fLst (iw (fiS (fK (.ins false "House" gz) 0 (gp oj [0] (fNil)))) [] fYes (fLst (ip oo (ao (fVar 0) (fNil))))))
def zx:np->mu->mv:=runQ 1 1 0 zhe
def zoe:np->mu->k9:=xQ 1 1 0 zhe
def zi1:FS:=sRet (du zga (ao (fK (.ins false "House" gz) 0 (gp o6 [0] (fNil))) (fNil)))
def ze2:np->mu->mv:=runQ 1 1 0 zi1
def zqu:np->mu->k9:=xQ 1 1 0 zi1
def zgc:FS:=sIf (fTst (fBin dLt (fVar 3) (fVar 1))) (sSet 2 (fBin gn (fVar 2) (fBin dMul (fVar 5) (fBin dSub (du bMin (ao (fVar 1) (ao (fVar 4) (fNil)))) (fVar 3))))) (sNil)
def zkk:FS:=sSeq (sIf (fOr (fTst (fBin dLt (fVar 1) (fC (.int 0)))) (fTst (fBin dGt (fVar 1) (du zga (ao (fVar 0) (fNil)))))) (lp "NotGone" (some)) (sNil)) (sSeq (sSet 2 (fC (.int 0))) (sSeq (o9 [3,4,5] (fiS (fVar 0)) (zgc)) (sRet (fVar 2))))
def zkl:np->mu->mv:=runQ 6 0 2 zkk
def zkm:np->mu->k9:=xQ 6 0 2 zkk
def zf1:FS:=sIf (fTst (fBin dEq (du zfv (ao (fVar 0) (fNil))) (fC (.int 0)))) (lp "NothingWaits" (some)) (sNil)
def zf2:np->mu->mv:=runQ 1 0 1 zf1
def zp:np->mu->k9:=xQ 1 0 1 zf1
def zi:FS:=sSeq (sSet 1 (fK (.ins false "House" gz) 0 (gp oj [0] (fNil)))) (sSeq (sXp (lz zp [] (ao (fVar 1) (fNil))) (iy (gp zf2 [] (ao (fVar 1) (fNil))))) (sSeq (sXp (xFrz true (lz ve [] (ao (qi (.ins false "House" gz) 0 0) (fNil)))) (iy (fFrz true (gp xw [] (ao (qi (.ins false "House" gz) 0 0) (fNil)))))) (sSeq (sSet 2 (fBin dIx (fLst (ip wm (ao (fVar 1) (fNil)))) (fC (.int 0)))) (sSeq (sSet 3 (du zkj (ao (fVar 1) (ao (fVar 2) (fNil))))) (sSeq (sSet 4 (fK (.ins false "House" gz) 0 (gp ze2 [0] (fNil)))) (sSeq (sSet 5 (fTup (ao (fVar 4) (ao (fBin gn (fVar 4) (du u8 (ao (fVar 3) (fNil)))) (ao (du ziv (ao (fVar 1) (fNil))) (fNil)))))) (sSeq (iy (fK (.ins false "House" gz) 0 (lb tq [0] (ao (fTup (ao (fC (.str "dry")) (fNil))) (ao (du zgn (ao (fVar 1) (ao (fVar 2) (fNil)))) (ao (fLst (fCat (fK (.ins false "House" gz) 0 (gp o6 [0] (fNil))) (fLst (fu (ao (fVar 5) (fNil)))))) (fNil))))))) (sRet (fVar 3)))))))))
def zgd:np->mu->nq:=runL 6 1 0 zi
def zh:np->mu->Option (Str×np):=xL 6 1 0 zi
def zh8:FS:=sRet (fLst (ip wm (ao (fK (.ins false "House" gz) 0 (gp oj [0] (fNil))) (fNil))))
def zd5:np->mu->mv:=runQ 1 1 0 zh8
def zou:np->mu->k9:=xQ 1 1 0 zh8
def ze3:FS:=sRet (fLst (ip oo (ao (fK (.ins false "House" gz) 0 (gp o6 [0] (fNil))) (fNil))))
def zdm:np->mu->mv:=runQ 1 1 0 ze3
def zl0:np->mu->k9:=xQ 1 1 0 ze3
def zgr:FS:=sXp (lz zkm [] (ao (fK (.ins false "House" gz) 0 (gp o6 [0] (fNil))) (ao (fVar 1) (fNil)))) (sRet (gp zkl [] (ao (fK (.ins false "House" gz) 0 (gp o6 [0] (fNil))) (ao (fVar 1) (fNil)))))
def zgs:np->mu->mv:=runQ 2 1 1 zgr
def zgt:np->mu->k9:=xQ 2 1 1 zgr
def zlg:FS:=sRet (du bSum (ao (fLst (iw (fiS (fVar 0)) [] fYes (du bSum (ao (fLst (iw (fiS (fVar 0)) [] fYes (fIxV 0 (fC (.int 2))))) (fNil))))) (fNil)))
def zi2:mu->mv:=runD 1 1 zlg
def zf3:FS:=sSet 1 (fLst (fCat (fVar 1) (fLst (fRep (fu (ao (fVar 4) (fNil))) (fBin dSub (fVar 3) (fVar 2))))))
def zj8:FS:=sSeq (sSet 1 (fLst (fu (fNil)))) (sSeq (o9 [2,3,4] (fiS (fVar 0)) (zf3)) (sRet (fVar 1)))
def zhs:mu->mv:=runD 5 1 zj8
def zc6:FS:=sSeq (sXp (xK (.ins false "House" gz) 0 (lz zgt [0] (ao (fVar 4) (fNil)))) (sSet 5 (fK (.ins false "House" gz) 0 (gp zgs [0] (ao (fVar 4) (fNil)))))) (sIf (fOr (fNot (fTst (du tm (ao (fVar 5) (fNil))))) (fTst (fBin dNe (fVar 5) (du bSum (ao (fLst (fSl (fVar 2) (fO0) (fO1 (fVar 4)))) (fNil)))))) (sRet (fC (.bl false))) (sNil))
def zdx:FS:=sSeq (sSet 2 (du zhs (ao (fVar 1) (fNil)))) (sSeq (sSet 3 (fK (.ins false "House" gz) 0 (gp ze2 [0] (fNil)))) (sSeq (sIf (fOr (fNot (fTst (du tm (ao (fVar 3) (fNil))))) (fTst (fBin dNe (fVar 3) (gy 2)))) (sRet (fC (.bl false))) (sNil)) (sSeq (sFor 4 (fiS (fLst (fu (ao (fC (.int 0)) (ao (fBin dDiv (fVar 3) (fC (.int 3))) (ao (du bMax (ao (fC (.int 0)) (ao (fBin dSub (fVar 3) (fC (.int 1))) (fNil)))) (ao (fVar 3) (fNil)))))))) (zc6)) (sRet (du qr (ao (fK (.ins false "House" gz) 0 (gp zdm [0] (fNil))) (ao (fVar 1) (fNil))))))))
def zz:np->mu->mv:=runQ 6 1 1 zdx
def zmj:np->mu->k9:=xQ 6 1 1 zdx
def zof:FS:=sRet (fBin dIx (fLst (fu (ao (fC (.int 5)) (ao (fC (.int 3)) (ao (fC (.int 2)) (ao (fC (.int 4)) (ao (fC (.int 1)) (ao (fC (.int 5)) (ao (fC (.int 0)) (ao (fC (.int 4)) (ao (fC (.int 3)) (ao (fC (.int 5)) (ao (fC (.int 2)) (ao (fC (.int 4)) (fNil))))))))))))))) (fBin dMod (fVar 0) (fC (.int 12))))
def zi3:mu->mv:=runD 1 1 zof
def zi4:FS:=sRet (du zhn (ao (fK (.ins false "House" gz) 0 (gp oj [0] (fNil))) (ao (fK (.ins false "House" gz) 0 (gp zd5 [0] (fNil))) (fNil))))
def zgu:np->mu->mv:=runQ 1 1 0 zi4
def zqv:np->mu->k9:=xQ 1 1 0 zi4
def zi5:FS:=sRet (du zhq (ao (fK (.ins false "House" gz) 0 (gp oj [0] (fNil))) (fNil)))
def zgv:np->mu->mv:=runQ 1 1 0 zi5
def zqw:np->mu->k9:=xQ 1 1 0 zi5
def zj9:FS:=sRet (du zit (ao (fK (.ins false "House" gz) 0 (gp oj [0] (fNil))) (fNil)))
def zht:np->mu->mv:=runQ 1 1 0 zj9
def zsg:np->mu->k9:=xQ 1 1 0 zj9
def zog:FS:=sSeq (sSet 2 (gy 1)) (sSeq (sSet 3 (fLst (fu (ao (fC (.str "put")) (ao (fC (.str "put")) (ao (fC (.str "tell")) (ao (fC (.str "dry")) (ao (fC (.str "put")) (ao (fC (.str "go")) (ao (fC (.str "put")) (ao (fC (.str "put")) (ao (fC (.str "back")) (ao (fC (.str "tell")) (ao (fC (.str "put")) (ao (fC (.str "dry")) (fNil)))))))))))))))) (sSeq (sSet 4 (fIxV 3 (fBin dMod (fVar 0) (fC (.int 12))))) (sSeq (sSet 5 (fBin dMod (fBin dDiv (fVar 0) (fC (.int 12))) (fC (.int 16)))) (sSeq (sSet 6 (fBin dDiv (fVar 0) (fC (.int 192)))) (sSeq (sSet 7 (fBin gn (fC (.int 1)) (fBin dMod (fVar 6) (du bMax (ao (fVar 2) (ao (fC (.int 1)) (fNil))))))) (sSeq (sSet 6 (fBin dDiv (fVar 6) (fC (.int 5)))) (sSeq (sIf (fOr (fTst (fBin dEq (fVar 5) (fC (.int 5)))) (fTst (fBin dEq (fVar 2) (fC (.int 0))))) (sSet 7 (fBin dIx (fLst (fu (ao (fC (.int 0)) (ao (fBin gn (fVar 2) (fC (.int 1))) (ao (fUn dNeg (fC (.int 1))) (ao (fBin dPow (fC (.int 10)) (fC (.int 12))) (fNil))))))) (fBin dMod (fVar 6) (fC (.int 4))))) (sNil)) (sSeq (sSet 8 (fBin gn (fC (.int 1)) (fBin dMod (fVar 6) (fC (.int 60))))) (sSeq (sIf (fTst (fBin dEq (fVar 5) (fC (.int 6)))) (sSet 8 (fBin dIx (fLst (fu (ao (fC (.int 0)) (ao (fC (.int 61)) (ao (fUn dNeg (fC (.int 1))) (ao (fBin dPow (fC (.int 10)) (fC (.int 12))) (fNil))))))) (fBin dMod (fVar 6) (fC (.int 4))))) (sNil)) (sSeq (sSet 9 (fBin dMod (fBin dDiv (fVar 6) (fC (.int 60))) (fC (.int 101)))) (sSeq (sIf (fTst (fBin dGt (fVar 5) (fC (.int 9)))) (sSeq (sSet 8 (fBin gn (fC (.int 1)) (fBin dMod (fVar 8) (fC (.int 3))))) (sSet 9 (fBin dMod (fVar 9) (fC (.int 4))))) (sNil)) (sSeq (sIf (fTst (fBin dEq (fVar 5) (fC (.int 7)))) (sSet 9 (fBin dIx (fLst (fu (ao (fUn dNeg (fC (.int 1))) (ao (fC (.int 101)) (ao (fUn dNeg (fBin dPow (fC (.int 10)) (fC (.int 12)))) (ao (fBin dPow (fC (.int 10)) (fC (.int 12))) (fNil))))))) (fBin dMod (fBin dDiv (fVar 6) (fC (.int 60))) (fC (.int 4))))) (sNil)) (sSeq (sSet 10 (fC (.int 0))) (sSeq (sIf (fAnd (fTst (fBin dLe (fC (.int 1)) (fVar 7))) (fTst (fBin dLe (fVar 7) (fVar 2)))) (sSet 10 (du bLen (ao (fIxV 1 (fBin dSub (fVar 7) (fC (.int 1)))) (fNil)))) (sNil)) (sSeq (sSet 11 (fBin gn (fC (.int 1)) (fBin dMod (fBin dDiv (fVar 6) (fC (.int 6060))) (du bMax (ao (fVar 10) (ao (fC (.int 1)) (fNil))))))) (sSeq (sIf (fTst (fBin dEq (fVar 5) (fC (.int 8)))) (sSet 11 (fBin dIx (fLst (fu (ao (fC (.int 0)) (ao (fBin gn (fVar 10) (fC (.int 1))) (ao (fUn dNeg (fC (.int 1))) (ao (fBin dPow (fC (.int 10)) (fC (.int 12))) (fNil))))))) (fBin dMod (fBin dDiv (fVar 6) (fC (.int 6060))) (fC (.int 4))))) (sNil)) (sSeq (sIf (fTst (fBin dEq (fVar 4) (fC (.str "put")))) (sRet (fTup (ao (fC (.str "put")) (ao (fVar 7) (ao (fVar 8) (ao (fVar 9) (fNil))))))) (sNil)) (sSeq (sIf (fTst (fBin dEq (fVar 4) (fC (.str "tell")))) (sRet (fTup (ao (fC (.str "tell")) (ao (fVar 7) (ao (fVar 11) (ao (fVar 9) (fNil))))))) (sNil)) (sSeq (sIf (fTst (fBin dEq (fVar 4) (fC (.str "go")))) (sRet (fTup (ao (fC (.str "go")) (ao (fVar 7) (fNil))))) (sNil)) (sRet (fTup (ao (fVar 4) (fNil)))))))))))))))))))))))
def zhf:mu->mv:=runD 12 2 zog
def zk0:FS:=sSeq (sSet 3 (fIxV 2 (fC (.int 0)))) (sSeq (sIf (fTst (fBin dEq (fVar 3) (fC (.str "back")))) (sRet (fBin dIx (fLst (fu (ao (fC (.str "")) (ao (fC (.str "nothing done")) (fNil))))) (du bInt (ao (fBin dEq (fVar 1) (fC (.int 0))) (fNil))))) (sNil)) (sSeq (sIf (fTst (fBin dEq (fVar 3) (fC (.str "dry")))) (sIf (fTst (fBin dEq (du bSum (ao (fLst (iw (fiS (fVar 0)) [] fYes (gy 0))) (fNil))) (fC (.int 0)))) (sRet (fC (.str "nothing waits"))) (sNil)) (sIf (fOr (fTst (fBin dLt (fIxV 2 (fC (.int 1))) (fC (.int 1)))) (fTst (fBin dGt (fIxV 2 (fC (.int 1))) (gy 0)))) (sRet (fC (.str "unknown stack"))) (sIf (fAnd (fTst (fBin dNe (fVar 3) (fC (.str "put")))) (fTst (fBin dEq (du bLen (ao (fIxV 0 (fBin dSub (fIxV 2 (fC (.int 1))) (fC (.int 1)))) (fNil))) (fC (.int 0))))) (sRet (fC (.str "empty stack"))) (sNil)))) (sSeq (sIf (fAnd (fTst (fBin dEq (fVar 3) (fC (.str "tell")))) (fOr (fTst (fBin dLt (fIxV 2 (fC (.int 2))) (fC (.int 1)))) (fTst (fBin dGt (fIxV 2 (fC (.int 2))) (du bLen (ao (fIxV 0 (fBin dSub (fIxV 2 (fC (.int 1))) (fC (.int 1)))) (fNil))))))) (sRet (fC (.str "unknown place"))) (sNil)) (sSeq (sIf (fAnd (fTst (fBin dEq (fVar 3) (fC (.str "put")))) (fOr (fTst (fBin dLt (fIxV 2 (fC (.int 2))) (fC (.int 1)))) (fTst (fBin dGt (fIxV 2 (fC (.int 2))) (fC (.int 60)))))) (sRet (fC (.str "bad hours"))) (sNil)) (sSeq (sIf (fAnd (fOr (fTst (fBin dEq (fVar 3) (fC (.str "put")))) (fTst (fBin dEq (fVar 3) (fC (.str "tell"))))) (fOr (fTst (fBin dLt (fIxV 2 (fC (.int 3))) (fC (.int 0)))) (fTst (fBin dGt (fIxV 2 (fC (.int 3))) (fC (.int 100)))))) (sRet (fC (.str "bad loss"))) (sNil)) (sSeq (sIf (fAnd (fTst (fBin dEq (fVar 3) (fC (.str "put")))) (fTst (fBin dGe (du bSum (ao (fLst (iw (fiS (fVar 0)) [] fYes (gy 0))) (fNil))) (fC (.int 14))))) (sRet (fC (.str "house full"))) (sNil)) (sSeq (sIf (fTst (fBin dGe (fVar 1) (fC (.int 60)))) (sRet (fC (.str "deeds full"))) (sNil)) (sRet (fC (.str ""))))))))))
def zd6:mu->mv:=runD 4 3 zk0
def va:FS:=sSeq (yc 3 (vp (fiS (fVar 0)) [] (ip oo (ao (fVar 0) (fNil))))) (sSeq (sSet 4 (fC (.int 0))) (sSeq (sIf (fTst (fBin dGt (gy 1) (fC (.int 1)))) (sSet 4 (fBin dSub (fIxV 1 (fC (.int 1))) (fC (.int 1)))) (sNil)) (sSeq (sIf (fTst (fBin dEq (fIxV 1 (fC (.int 0))) (fC (.str "put")))) (sSeq (vm 3 (fVar 4) (um false (fCat (fLst (fu (ao (fTup (ao (fVar 2) (ao (fIxV 1 (fC (.int 2))) (ao (fIxV 1 (fC (.int 3))) (fNil))))) (fNil)))) (fIxV 3 (fVar 4))))) (sRet (fLst (fu (ao (fVar 3) (ao (fVar 2) (fNil))))))) (sNil)) (sSeq (sIf (fTst (fBin dEq (fIxV 1 (fC (.int 0))) (fC (.str "tell")))) (sSeq (sSet 5 (fFrz false (fBin dIx (fIxV 3 (fVar 4)) (fBin dSub (fIxV 1 (fC (.int 2))) (fC (.int 1)))))) (sSeq (zux 3 (fVar 4) (fBin dSub (fIxV 1 (fC (.int 2))) (fC (.int 1))) (fTup (ao (fIxV 5 (fC (.int 0))) (ao (fIxV 5 (fC (.int 1))) (ao (fIxV 1 (fC (.int 3))) (fNil)))))) (sRet (fLst (fu (ao (fVar 3) (ao (fIxV 5 (fC (.int 2))) (fNil)))))))) (sNil)) (sSeq (sIf (fTst (fBin dEq (fIxV 1 (fC (.int 0))) (fC (.str "dry")))) (sSet 4 (fBin dSub (fBin dIx (fBin dIx (du zl (ao (fVar 0) (fNil))) (fC (.int 0))) (fC (.int 0))) (fC (.int 1)))) (sNil)) (sSeq (sSet 5 (fFrz false (fBin dIx (fIxV 3 (fVar 4)) (fC (.int 0))))) (sSeq (vm 3 (fVar 4) (um false (fSl (fIxV 3 (fVar 4)) (fO1 (fC (.int 1))) (fO0)))) (sRet (fLst (fu (ao (fVar 3) (ao (fVar 5) (fNil)))))))))))))
def ue:mu->mv:=runD 6 3 va
def ze4:FS:=sSeq (sIf (fTst (fIsi "tuple" (fVar 1))) (sRet (du vf (ao (fVar 0) (ao (fVar 1) (fNil))))) (sNil)) (sRet (ur (du tm (ao (fVar 0) (fNil))) (fBin dEq (fVar 0) (fVar 1))))
def z7:mu->mv:=runD 2 2 ze4
def zlh:FS:=z0v (fAgL (pCd (fLst (iw (ip iR1 (ao (fVar 0) (fNil))) [] fYes (fLst (fu (fNil))))) (pCo (fu (fNil)) (pCo (fu (fNil)) (pCd (fLst (fu (fNil))) (pNil))))))
def zi6:mu->Option Ag:=runG 1 1 zlh
def ztu:mu->k9:=xG 1 1 zlh
def zgw:FS:=sSeq (sSet 6 (zsz 4 (fBin dSub (fVar 5) (fC (.int 1))) (fC (.int 0)))) (sSeq (iy (mw 2 (fTup (ao (fIxV 6 (fC (.int 0))) (ao (fVar 5) (ao (fVar 3) (ao (fBin gn (fVar 3) (fIxV 6 (fC (.int 1)))) (fNil)))))))) (sSet 3 (fBin gn (fVar 3) (fIxV 6 (fC (.int 1))))))
def zli:FS:=sSeq (sOwn 2 (fu (fNil))) (sSeq (sSet 3 (fC (.int 0))) (sSeq (yc 4 (zny zhp (ao (fVar 0) (fNil)))) (sSeq (sFor 5 (fiS (fVar 1)) (zgw)) (sRet (fVar 2)))))
def zlj:mu->mv:=runD 7 2 zli
def zf4:FS:=sSeq (sSet 2 (fIxV 1 (fC (.int 0)))) (sSeq (sIf (fOr (fNot (fTst (du zy (ao (fK (.ins false "House" gz) 0 (gp zx [0] (fNil))) (ao (fVar 2) (fNil)))))) (fNot (fTst (du qr (ao (fK (.ins false "House" gz) 0 (gp zf0 [0] (fNil))) (ao (fIxV 1 (fC (.int 1))) (fNil))))))) (sRet (fC (.bl false))) (sNil)) (sSeq (sSet 3 (fLst (ip zla (ao (fVar 2) (fNil))))) (sSeq (sIf (fNot (fTst (du zb9 (ao (fK (.ins false "House" gz) 0 (gp zd5 [0] (fNil))) (ao (fVar 3) (fNil)))))) (sRet (fC (.bl false))) (sNil)) (sSeq (sSet 4 (fK (.ins false "House" gz) 0 (gp zgv [0] (fNil)))) (sSeq (sIf (fOr (fNot (fTst (du tm (ao (fVar 4) (fNil))))) (fTst (fBin dNe (fVar 4) (du zlc (ao (du zjw (ao (fVar 2) (ao (fVar 3) (fNil)))) (fNil)))))) (sRet (fC (.bl false))) (sNil)) (sSeq (sIf (fNot (fTst (du qr (ao (fK (.ins false "House" gz) 0 (gp zgu [0] (fNil))) (ao (du zlj (ao (fVar 2) (ao (fVar 3) (fNil)))) (fNil)))))) (sRet (fC (.bl false))) (sNil)) (sRet (ur (gp zz [0] (ao (fIxV 1 (fC (.int 3))) (fNil))) (du zhc (ao (fK (.ins false "House" gz) 0 (gp zht [0] (fNil))) (ao (fVar 2) (fNil))))))))))))
def vd:np->mu->mv:=runQ 5 1 1 zf4
def zov:np->mu->k9:=xQ 5 1 1 zf4
def zf5:FS:=sSeq (iy (mw 1 (fVar 2))) (sIf (fTst (fBin dEq (fBin dMod (fBin dDiv (fVar 2) (fC (.int 12))) (fC (.int 4))) (fC (.int 1)))) (sSeq (iy (mw 1 (fVar 2))) (iy (mw 1 (fVar 2)))) (sNil))
def zmv:FS:=sSeq (sOwn 1 (fu (fNil))) (sSeq (sFor 2 (fiS (fVar 0)) (zf5)) (sRet (fVar 1)))
def zka:mu->mv:=runD 3 1 zmv
def zgx:FS:=sIf (fTst (fBin dEq (du bLen (ao (fIxV 0 (fBin dSub (fVar 1) (fC (.int 1)))) (fNil))) (fC (.int 0)))) (lp "EmptyStack" ((λz=>(some z).bind ((λz=>((vInt (fVar 1)) z).bind (some)))))) (sNil)
def ze5:np->mu->mv:=runQ 2 0 2 zgx
def xy:np->mu->k9:=xQ 2 0 2 zgx
def xv:FS:=sSeq (sSet 2 (fK (.ins false "House" gz) 0 (gp oj [0] (fNil)))) (sSeq (sXp (lz wn [] (ao (fVar 2) (ao (fVar 1) (fNil)))) (iy (gp zt [] (ao (fVar 2) (ao (fVar 1) (fNil)))))) (sSeq (sXp (lz xy [] (ao (fVar 2) (ao (fVar 1) (fNil)))) (iy (gp ze5 [] (ao (fVar 2) (ao (fVar 1) (fNil)))))) (sSeq (sXp (xFrz true (lz ve [] (ao (qi (.ins false "House" gz) 0 0) (fNil)))) (iy (fFrz true (gp xw [] (ao (qi (.ins false "House" gz) 0 0) (fNil)))))) (sSeq (iy (fK (.ins false "House" gz) 0 (lb tq [0] (ao (fTup (ao (fC (.str "go")) (ao (fVar 1) (fNil)))) (ao (du zgn (ao (fVar 2) (ao (fVar 1) (fNil)))) (ao (fK (.ins false "House" gz) 0 (gp o6 [0] (fNil))) (fNil))))))) (sRet (du zkj (ao (fVar 2) (ao (fVar 1) (fNil)))))))))
def zhg:np->mu->nq:=runL 3 1 1 xv
def ze:np->mu->Option (Str×np):=xL 3 1 1 xv
def zd7:FS:=sIf (fOr (fTst (fBin dLt (fVar 1) (fC (.int 1)))) (fTst (fBin dGt (fVar 1) (gy 0)))) (lp "UnknownPlace" (some)) (sNil)
def zf6:np->mu->mv:=runQ 2 0 2 zd7
def zo:np->mu->k9:=xQ 2 0 2 zd7
def ztv:FS:=sRet (fTup (ao (du zgl (ao (fVar 0) (fNil))) (ao (du u8 (ao (fVar 0) (fNil))) (ao (fVar 1) (fNil)))))
def zlk:mu->mv:=runD 2 2 ztv
def uf:FS:=sSeq (sSet 4 (fK (.ins false "House" gz) 0 (gp oj [0] (fNil)))) (sSeq (sXp (lz wn [] (ao (fVar 4) (ao (fVar 1) (fNil)))) (iy (gp zt [] (ao (fVar 4) (ao (fVar 1) (fNil)))))) (sSeq (sXp (lz xy [] (ao (fVar 4) (ao (fVar 1) (fNil)))) (iy (gp ze5 [] (ao (fVar 4) (ao (fVar 1) (fNil)))))) (sSeq (sSet 5 (fIxV 4 (fBin dSub (fVar 1) (fC (.int 1))))) (sSeq (sXp (lz zo [] (ao (fVar 5) (ao (fVar 2) (fNil)))) (iy (gp zf6 [] (ao (fVar 5) (ao (fVar 2) (fNil)))))) (sSeq (sXp (lz xz [] (ao (fVar 3) (fNil))) (iy (gp ze1 [] (ao (fVar 3) (fNil))))) (sSeq (sXp (xFrz true (lz ve [] (ao (qi (.ins false "House" gz) 0 0) (fNil)))) (iy (fFrz true (gp xw [] (ao (qi (.ins false "House" gz) 0 0) (fNil)))))) (sSeq (sSet 6 (fIxV 5 (fBin dSub (fVar 2) (fC (.int 1))))) (sSeq (sSet 7 (fLst (fCat (fLst (fCat (fLst (fSl (fVar 5) (fO0) (fO1 (fBin dSub (fVar 2) (fC (.int 1)))))) (fLst (fu (ao (du zlk (ao (fVar 6) (ao (fVar 3) (fNil)))) (fNil)))))) (fLst (fSl (fVar 5) (fO1 (fVar 2)) (fO0)))))) (sSeq (iy (fK (.ins false "House" gz) 0 (lb tq [0] (ao (fTup (ao (fC (.str "tell")) (ao (fVar 1) (ao (fVar 2) (ao (fVar 3) (fNil)))))) (ao (du zk (ao (fVar 4) (ao (fVar 1) (ao (fVar 7) (fNil))))) (ao (fK (.ins false "House" gz) 0 (gp o6 [0] (fNil))) (fNil))))))) (sRet (du wj (ao (fVar 6) (fNil)))))))))))))
def ze6:np->mu->nq:=runL 8 1 3 uf
def zm:np->mu->Option (Str×np):=xL 8 1 3 uf
inductive Deed where
 | put (a h l:Int) | tell (a p l:Int) | go (a:Int) | dry
abbrev n3:=List Deed
def dD:Deed->D
 | .put a h l=>.tup [.str "put",.int a,.int h,.int l]
 | .tell a p l=>.tup [.str "tell",.int a,.int p,.int l]
 | .go a=>.tup [.str "go",.int a]
 | .dry=>.tup [.str "dry"]
def Deed.isPut:Deed->Bool | .put ..=>true | _=>false
abbrev Spn:=Int×Int×Int
abbrev n7:=List Spn
abbrev Hs:=nw×n7
abbrev ot:=List Hs
def spL(sp:n7):D:=.lst (sp.map sD)
def stD(s:Hs):D:=.tup [ssL s.1,spL s.2]
abbrev kH:AK:=.ins false "House" gz
def hP(k:n3)(s:ot):mx:=[.o (k.map dD),.o (s.map stD)]
abbrev hA(k:n3)(s:ot):Ag:=(kH,hP k s)
variable{e:DE0}{κ:AK}{l:Option Nat}{ps:mx}
def zqx(h:e[i]?=some (some (.ag κ l ps)))(D:ps[j]?=some (.o ds)):lj (.at κ) i j e=some ds:=by
 unfold lj agAt;rw[if_pos (show Acc.ok (.at κ) e i j from(show isK κ e i from .inl ⟨_,_,h⟩)),h];dsimp;rw[D]
def zqy(h:e[i]?=some (some (.ro κ ps)))(D:ps[j]?=some (.o ds)):lj (.at κ) i j e=some ds:=by
 unfold lj agAt;rw[if_pos (show Acc.ok (.at κ) e i j from(show isK κ e i from .inr ⟨_,h⟩)),h];dsimp;rw[D]
variable{f:FE}
def z40(h:e[i]?=some (some (.ag κ l ps))):fK κ i f e=f e:=if_pos (.inl ⟨_,_,h⟩)
def zyt(h:e[i]?=some (some (.ro κ ps))):fK κ i f e=f e:=if_pos (.inr ⟨_,h⟩)
def z8o{f:XF}(h:e[i]?=some (some (.ag κ l ps))):xK κ i f e=f e:=if_pos (.inl ⟨_,_,h⟩)
def yac{f:XF}(h:e[i]?=some (some (.ro κ ps))):xK κ i f e=f e:=if_pos (.inr ⟨_,h⟩)
variable{r:mu×DE0}{m:np->mu->mv}{F:FA}
def zl1(h:e[i]?=some (some (.ro κ ps)))(D:F e=some r)(h2:r.2[i]?=some (some (.ro κ ps))):gp m [i] F e=(m [(κ,ps)] r.1).map λd=>(d,r.2):=by
 unfold gp;rw[if_pos (show aggs e [i] from λk I=>by rw[cw.mp I];exact⟨_,h⟩),D];simp[getR,h2]
def zqz(h:e[i]?=some (some (.ag κ l ps)))(D:F e=some r)(h2:r.2[i]?=some (some (.ag κ l ps))):gp m [i] F e=(m [(κ,ps)] r.1).map λd=>(d,r.2):=by
 unfold gp;rw[if_pos (show aggs e [i] from λk I=>by rw[cw.mp I];exact⟨_,h⟩),D];simp[getR,h2]
def my:gp m [] F e=(F e).bind λr=>(m [] r.1).map λd=>(d,r.2):=by
 unfold gp;rw[if_pos (show aggs e [] from λk D=>nomatch D)];rfl
variable{x:np->mu->Option (Str×np)}
def mq{x:np->mu->k9}:lz x [] F e=(F e).bind λr=>(x [] r.1).map λd=>(d,r.2):=by
 unfold lz;rw[if_pos (show aggs e [] from λk I=>nomatch I)];rfl
variable{d:D}{ps':mx}
def z1h{m:np->mu->nq}(h:e[i]?=some (some (.ag κ l ps)))(I:F e=some r)(h2:r.2[i]?=some (some (.ag κ l ps)))(J:m [(κ,ps)] r.1=some (d,[(κ,ps')])):lb m [i] F e=some (d,r.2.set i (some (.ag κ l ps'))):=by
 unfold lb;rw[if_pos (show aggs e [i] from λk R=>by rw[cw.mp R];exact⟨_,h⟩),I];simp[getA,h2,J,putA]
def zyu(h:e[i]?=some (some (.ag κ l ps)))(D:F e=some r)(h2:r.2[i]?=some (some (.ag κ l ps))){d:Str}(I:x [(κ,ps)] r.1=some (d,[(κ,ps')])):m8 x [i] F e=some (d,r.2.set i (some (.ag κ l ps'))):=by
 unfold m8;rw[if_pos (show aggs e [i] from λk J=>by rw[cw.mp J];exact⟨_,h⟩),D];simp[getA,h2,I,putA]
def zyv(h:e[i]?=some (some (.ag κ l ps)))(D:F e=some r)(h2:r.2[i]?=some (some (.ag κ l ps)))(I:x [(κ,ps)] r.1=none):m8 x [i] F e=none:=by
 unfold m8;rw[if_pos (show aggs e [i] from λk J=>by rw[cw.mp J];exact⟨_,h⟩),D];simp only[getA,h2,ai,ac,I];rfl
theorem ztw(xs:mu)(x:D):atI (xs++[x]) (-1)=some x:=by
 unfold atI ixN;rw[if_neg (by decide),if_pos (by simp;lia),show(-1+((xs++[x]).length:Int)).toNat=xs.length by simp;lia];simp
variable{k:n3}{s:Hs}
def qm:oj [hA k (p++[s])] []=some (ssL s.1):=by
 unfold oj runQ;have h:lj (.at kH) 0 1 (jt 1 [hA k (p++[s])] [])=some ((p++[s]).map stD):=zqy (ps:=hP k (p++[s])) rfl rfl;simp[zh5,pIx,h,ztw,stD];rfl
def xt:o6 [hA k (p++[s])] []=some (spL s.2):=by
 unfold o6 runQ;have h:lj (.at kH) 0 1 (jt 1 [hA k (p++[s])] [])=some ((p++[s]).map stD):=zqy (ps:=hP k (p++[s])) rfl rfl;simp[zh6,pIx,h,ztw,stD];rfl
def z1i:zf0 [hA k p] []=some (.lst (k.map dD)):=by
 unfold zf0 runQ;have h:lj (.at kH) 0 0 (jt 1 [hA k p] [])=some (k.map dD):=zqy (ps:=hP k p) rfl rfl;simp[zh7,wz,h]
theorem zpg(R:s.1.length<=1000):zx [hA k (p++[s])] []=some (ssL s.1):=by
 unfold zx runQ;have c:=oh (te:=fLst (ip oo (ao (fVar 0) (fNil)))) (base:=[]) (λs:nu=>D.lst (s.map sD)) (λs:nu=>D.lst (s.map sD)) s.1 λs _=>⟨_,by simp;rfl⟩;have J:Few (s.1.map λs=>D.lst (s.map sD)).length:=few (by rw[af];lia);have I:(jt 1 [hA k (p++[s])] [])[0]?=some (some (.ro kH (hP k (p++[s])))):=rfl;have h1:=zl1 (m:=oj) (F:=fNil) I (r:=([],jt 1 [hA k (p++[s])] [])) rfl I;have h2:=zyt (f:=gp oj [0] fNil) I;simp[qm] at h1;simp only[zhe,sRet,fLst,iw,fiS,h2,h1,ac,ssL] at c ⊢;generalize (s.1.map λs=>D.lst (s.map sD))=L at *;simp[J,c]
def hrOf(sp:n7):Int:=match sp.getLast? with | none=>0 | some x=>x.2.1
theorem zl2(sp:n7):zga [spL sp]=some (.int (hrOf sp)):=by
 unfold zga runD spL hrOf;cases h:sp.getLast? with
 | none =>
   rw[x9.mp h];simp[zj7,ji]
 | some x =>
   obtain⟨q,rfl⟩:=x8.mp h;have I:ji 1 [D.lst ((q++[x]).map sD)]=[some (.sh (.lst (q.map sD++[sD x])))]:=by simp[ji]
   have h1:atI (q.map sD++[sD x]) (-1)=some (sD x):=ztw _ _;have h2:((q.map sD++[sD x]).length:Int)≠0:=by simp;lia
   rw[I];generalize q.map sD++[sD x]=L at *;have J:decide ((L.length:Int)=0)=false:=decide_eq_false h2;simp only[zj7,sSeq,sIf,fTst,fBin,gy,ae,ac,fC,dEq,ai,J,bx,if_false,sNil,sRet,fIxV,fUn,dNeg,ixSl,h1,sD,dIx];rfl
def zyw:ze2 [hA k (p++[s])] []=some (.int (hrOf s.2)):=by
 unfold ze2 runQ;have D:(jt 1 [hA k (p++[s])] [])[0]?=some (some (.ro kH (hP k (p++[s])))):=rfl;have h1:=zl1 (m:=o6) (F:=fNil) D (r:=([],jt 1 [hA k (p++[s])] [])) rfl D;have h2:=zyt (f:=gp o6 [0] fNil) D;simp[xt] at h1;simp[zi1,h2,h1,zl2]
theorem y0{a:Int}(h1:1<=a)(h2:a<=ss.length):wn [] [ssL ss,.int a]=none/\zt [] [ssL ss,.int a]=some .non:=by
 have e:jt 2 [] [ssL ss,.int a]=[some (.sh (ssL ss)),some (.sh (.int a))]:=rfl;have l:((ss.map λs=>D.lst (s.map sD)).length:Int)=ss.length:=by rw[af]
 unfold wn zt xQ runQ;rw[if_pos ⟨rfl,rfl⟩,if_pos ⟨rfl,rfl⟩,e];unfold ssL at *;generalize (ss.map λs=>D.lst (s.map sD))=L at *;simp[zd3,show ¬a<1 by lia,show ¬((L.length:Int)<a) by lia]
theorem ztx{a:Int}(h:a<1\/ss.length<a):wn [] [ssL ss,.int a]=some ("UnknownStack" : Str):=by
 have e:jt 2 [] [ssL ss,.int a]=[some (.sh (ssL ss)),some (.sh (.int a))]:=rfl;have l:((ss.map λs=>D.lst (s.map sD)).length:Int)=ss.length:=by rw[af]
 unfold wn xQ;rw[if_pos ⟨rfl,rfl⟩,e];unfold ssL at *;generalize (ss.map λs=>D.lst (s.map sD))=L at *;by_cases h1:a<1
 ·simp[zd3,h1,lp]
 ·simp[zd3,h1,show((L.length:Int)<a) by lia,lp]
variable{h:Int}
theorem zu7(h1:1<=h)(h2:h<=60):zr [] [.int h]=none/\zfy [] [.int h]=some .non:=by
 unfold zr zfy xQ runQ;rw[if_pos ⟨rfl,rfl⟩,if_pos ⟨rfl,rfl⟩,show jt 1 [] [.int h]=[some (.sh (.int h))] from rfl];simp[zd4,show ¬h<1 by lia,show ¬60<h by lia]
theorem z41(D:h<1\/60<h):zr [] [.int h]=some ("BadHours" : Str):=by
 unfold zr xQ;rw[if_pos ⟨rfl,rfl⟩,show jt 1 [] [.int h]=[some (.sh (.int h))] from rfl];by_cases h1:h<1
 ·simp[zd4,h1,lp,vInt]
 ·simp[zd4,h1,show 60<h by lia,lp,vInt]
theorem zq0(h1:0<=h)(h2:h<=100):xz [] [.int h]=none/\ze1 [] [.int h]=some .non:=by
 unfold xz ze1 xQ runQ;rw[if_pos ⟨rfl,rfl⟩,if_pos ⟨rfl,rfl⟩,show jt 1 [] [.int h]=[some (.sh (.int h))] from rfl];simp[ze0,show ¬h<0 by lia,show ¬100<h by lia]
theorem z2q(D:h<0\/100<h):xz [] [.int h]=some ("BadLoss" : Str):=by
 unfold xz xQ;rw[if_pos ⟨rfl,rfl⟩,show jt 1 [] [.int h]=[some (.sh (.int h))] from rfl];by_cases h1:h<0
 ·simp[ze0,h1,lp,vInt]
 ·simp[ze0,h1,show 100<h by lia,lp,vInt]
theorem z1j(h1:0<=h)(h2:h<=5):zfx [] [.int h]=none/\zfw [] [.int h]=some .non:=by
 unfold zfx zfw xQ runQ;rw[if_pos ⟨rfl,rfl⟩,if_pos ⟨rfl,rfl⟩,show jt 1 [] [.int h]=[some (.sh (.int h))] from rfl];simp[zh4,show ¬h<0 by lia,show ¬5<h by lia]
theorem zyx(ss:nw)(D:ss.length<=1000):(if ss.flatten.length<14 then zn [] [ssL ss]=none/\zgp [] [ssL ss]=some .non else zn [] [ssL ss]=some ("HouseFull" : Str)):=by
 have h:=zsf ss D;generalize ss.flatten.length=n at *;split <;> rename_i I
 ·unfold zn zgp xQ runQ
  rw[if_pos ⟨rfl,rfl⟩,if_pos ⟨rfl,rfl⟩,show jt 1 [] [ssL ss]=[some (.sh (ssL ss))] from rfl];simp[zgo,h,show ¬(14:Int)<=(n:Int) by lia]
 ·unfold zn xQ
  rw[if_pos ⟨rfl,rfl⟩,show jt 1 [] [ssL ss]=[some (.sh (ssL ss))] from rfl];simp[zgo,h,show(14:Int)<=(n:Int) by lia,lp,vInt]
theorem wd(ds:mu):(if ds.length<60 then ve [] [.lst ds]=none/\xw [] [.lst ds]=some .non else ve [] [.lst ds]=some ("DeedsFull" : Str)):=by
 split <;> rename_i I
 ·unfold ve xw xQ runQ
  rw[if_pos ⟨rfl,rfl⟩,if_pos ⟨rfl,rfl⟩,show jt 1 [] [.lst ds]=[some (.sh (.lst ds))] from rfl];simp[zfz,show ¬(60:Int)<=(ds.length:Int) by lia]
 ·unfold ve xQ
  rw[if_pos ⟨rfl,rfl⟩,show jt 1 [] [.lst ds]=[some (.sh (.lst ds))] from rfl];simp[zfz,show(60:Int)<=(ds.length:Int) by lia,lp,vInt]
def kj(k:n3):Int:=1+(k.filter Deed.isPut).length
theorem z42(k:n3)(J:k.length<=1000):zgq [.lst (k.map dD)]=some (.int (kj k)):=by
 have c:=zna (tt:=fTst (fBin dEq (fIxV 0 (fC (.int 0))) (fC (.str "put")))) (te:=fVar 0) (base:=[]) dD dD Deed.isPut k λx _=>by
  cases x with
  | put a h l=>exact⟨_,rfl,λ_=>⟨_,rfl⟩⟩
  | tell a p l=>exact⟨_,rfl,λz=>nomatch z⟩
  | go a=>exact⟨_,rfl,λz=>nomatch z⟩
  | dry=>exact⟨_,rfl,λz=>nomatch z⟩
 have I:Few (k.map dD).length:=few (by rw[af];lia);unfold zgq runD;rw[if_pos (show[D.lst (k.map dD)].length=1 from rfl),show ji 1 [D.lst (k.map dD)]=[some (.sh (.lst (k.map dD)))] from rfl];unfold kj;generalize k.map dD=L at *;simp[zlz,iw,I,c]
def fK0:fK κ 0 f (some (.ag κ l ps)::e)=f (some (.ag κ l ps)::e):=z40 rfl
def fK0r:fK κ 0 f (some (.ro κ ps)::e)=f (some (.ro κ ps)::e):=zyt rfl
variable{sl:Sl}
def cQ0:gp m [0] F (some sl::e)=(F (some sl::e)).bind λr=>(getR r.2 [0]).bind λags=>(m ags r.1).map λd=>(d,r.2):=if_pos λk D=>by rw[cw.mp D];exact⟨_,rfl⟩
def cL0{m:np->mu->nq}:lb m [0] F (some sl::e)=(F (some sl::e)).bind λr=>(getA r.2 [0]).bind λags=>(m ags r.1).bind λq=>if q.2.map (·.1)=ags.map (·.1) then some (q.1,putA r.2 [0] q.2) else none:=if_pos λk I=>by rw[cw.mp I];exact⟨_,rfl⟩
def z1k:getA (some (.ag κ l ps)::e) [0]=some [(κ,ps)]:=rfl
variable{κ':AK}
def z1l:putA (some (.ag κ l ps)::e) [0] [(κ',ps')]=some (.ag κ' l ps')::e:=rfl
def m7:getR (some (.ag κ l ps)::e) [0]=some [(κ,ps)]:=rfl
def xg:getR (some (.ro κ ps)::e) [0]=some [(κ,ps)]:=rfl
def vj:qi kH 0 0 (frz true (some (.ag kH l (hP k p))::e))=some (.lst (k.map dD),frz true (some (.ag kH l (hP k p))::e)):=by
 unfold qi;rw[if_pos (show isK kH (frz true (some (.ag kH l (hP k p))::e)) 0 from .inr ⟨[.d (.lst (k.map dD)),.d (.lst (p.map stD))],rfl⟩)];rfl
variable{r:Nat}
def zph(h:e[i]?=some (some (.ag κ (some r) ps)))(I:∀c fs,κ≠.ins true c fs)(D:ps[j]?=some (.o ds))(J:f e=some (d,e))(R:Few (ds.length+1)) :
  t9 (.at κ) i j f e=some (.non,e.set i (some (.ag κ (some r) (ps.set j (.o (ds++[d])))))):=by
 unfold t9;rw[h];dsimp only;rw[if_pos (show labO κ (some r) from⟨rfl,I⟩),zqx h D,ac,J,ac];unfold appP;rw[h];dsimp only;rw[D];dsimp only;rw[if_pos ⟨rfl,rfl,rfl,R⟩];unfold setP;rw[h]
variable{sp:n7}
theorem zq1{d:Deed}(D:k.length<=1000)(I:p.length<=1000):tq [hA k p] [dD d,ssL ss,spL sp]=some (.non,[hA (k++[d]) (p++[(ss,sp)])]):=by
 have h1:=zph (e:=[some (.ag kH (some 0) (hP k p)),some (.sh (dD d)),some (.sh (ssL ss)),some (.sh (spL sp))]) (i:=0) (j:=0) (f:=fVar 1) rfl (λc fs z=>nomatch z) rfl rfl (few (by rw[af];lia));have h2:=zph (e:=[some (.ag kH (some 0) ((hP k p).set 0 (.o (k.map dD++[dD d])))),some (.sh (dD d)),some (.sh (ssL ss)),some (.sh (spL sp))]) (i:=0) (j:=1) (f:=fTup (ao (fVar 2) (ao (fVar 3) fNil))) (ds:=p.map stD) rfl (λc fs z=>nomatch z) rfl rfl (few (by rw[af];lia));unfold tq runL;rw[if_pos ⟨rfl,rfl⟩,show ke 4 [hA k p] [dD d,ssL ss,spL sp]=[some (.ag kH (some 0) (hP k p)),some (.sh (dD d)),some (.sh (ssL ss)),some (.sh (spL sp))] from rfl];simp[zi0,h1,h2];unfold hA hP;rw[b6,b6];rfl
def putX(ss:nw)(n:Nat)(a h l:Int):k9:=if a<1\/(ss.length:Int)<a then some "UnknownStack" else if h<1\/60<h then some "BadHours" else if l<0\/100<l then some "BadLoss" else if ss.flatten.length<14 then(if n<60 then none else some "DeedsFull") else some "HouseFull"
def putS(ss:nw)(a:Nat)(x:Sk):nw:=ss.set (a-1) (x::ss.getD (a-1) [])
theorem z8p{l:Int}(I:putX s.1 k.length a h l=none)(o:s.1.length<=5)(q:p.length<=100) :
  zj [hA k (p++[s])] [.int a,.int h,.int l]=none/\zgb [hA k (p++[s])] [.int a,.int h,.int l]=some (.int (kj k),[hA (k++[.put a h l]) (p++[s]++[(putS s.1 a (kj k,h,l),s.2)])]):=by
 unfold putX at I;split at I
 ·cases I
 split at I
 ·cases I
 split at I
 ·cases I
 split at I;case isFalse=>cases I
 rename_i Z;split at I;case isFalse=>cases I
 rename_i b;have k1:=y0 (ss:=s.1) (a:=a) (by lia) (by lia);have k2:=zu7 (h:=h) (by lia) (by lia);have k3:=zq0 (h:=l) (by lia) (by lia);have Y:=zyx s.1 (by lia);rw[if_pos Z] at Y;have k5:=wd (k.map dD);rw[if_pos (by rw[af];exact b)] at k5;have c:=z42 k (by lia);have J:(a-1:Nat)<s.1.length:=by lia
 have e:atI (s.1.map λs=>D.lst (s.map sD)) ((a:Int)-1)=some (.lst ((s.1.getD (a-1) []).map sD)):=by
  rw[show(a:Int)-1=((a-1:Nat):Int) by lia,kr (λs:nu=>D.lst (s.map sD)) (aw J),ci,aw J];rfl
 have f:=ziz (ss:=s.1) (a:=a) ((kj k,h,l)::s.1.getD (a-1) []) (by lia) (by lia) (by lia);have g:=zq1 (k:=k) (p:=p++[s]) (d:=.put a h l) (ss:=putS s.1 a (kj k,h,l)) (sp:=s.2) (by lia) (by simp;lia);have i:=qm (k:=k) (p:=p) (s:=s);have j:=xt (k:=k) (p:=p) (s:=s);have m:Few (0+1+((s.1.getD (a-1) []).map sD).length):=few (by
  have:(s.1.getD (a-1) []).length<=s.1.flatten.length:=by
   rw[ci,aw J];exact(d6 (e7 J)).length_le
  rw[af];lia)
 have n:ke 7 [hA k (p++[s])] [.int a,.int h,.int l]=[some (.ag kH (some 0) (hP k (p++[s]))),some (.sh (.int a)),some (.sh (.int h)),some (.sh (.int l)),none,none,none]:=rfl;have U:tq [(kH,hP k (p++[s]))] [.tup [.str "put",.int a,.int h,.int l],ssL (putS s.1 a (kj k,h,l)),spL s.2]=some (.non,[hA (k++[.put a h l]) (p++[s]++[(putS s.1 a (kj k,h,l),s.2)])]):=g;have V:zk [ssL s.1,.int a,.lst (.tup [.int (kj k),.int h,.int l]::(s.1.getD (a-1) []).map sD)]=some (ssL (putS s.1 a (kj k,h,l))):=f;have R:u7 (ke 7 [hA k (p++[s])] [.int a,.int h,.int l])=some (.rt (.int (kj k)),[some (.ag kH (some 0) (hP (k++[.put a h l]) (p++[s]++[(putS s.1 a (kj k,h,l),s.2)]))),some (.sh (.int a)),some (.sh (.int h)),some (.sh (.int l)),some (.sh (ssL s.1)),some (.sh (.int (kj k))),some (.sh (.lst (.tup [.int (kj k),.int h,.int l]::(s.1.getD (a-1) []).map sD)))]):=by
  rw[n];generalize (s.1.getD (a-1) []).map sD=TL at *;unfold ssL at *;simp[u7,fK0,cQ0,m7,i,mq,my,k1,k2,k3,Y,xFrz,fFrz,vj,k5,noL,c,e,m,cL0,z1k,V,j,U,z1l]
 exact⟨by unfold zj xL;rw[if_pos ⟨rfl,rfl⟩,R],by unfold zgb runL;rw[if_pos ⟨rfl,rfl⟩,R];rfl⟩
def newS(n:Nat):Hs:=(List.replicate n [],[])
theorem z43(Z:n<=5):zfi [(.ins true "House" [],[])] [.int n]=none/\zcu [(.ins true "House" [],[])] [.int n]=some (.non,[(.ins true "House" gz,hP [] [newS n])]):=by
 have k1:=z1j (h:=n) (by lia) (by lia);have J:Few (rngD 0 n).length:=few (by rw[vb];lia);have c:=oh (te:=fLst (fu fNil)) (base:=[]) (λi:Nat=>D.int (0+(i:Int))) (λ_:Nat=>D.lst []) (List.range n) λi _=>⟨_,rfl⟩;have R:=n4 n (by lia);have U:ke 2 [(AK.ins true "House" [],[])] [.int n]=[some (.ag (.ins true "House" []) (some 0) []),some (.sh (.int n))]:=rfl;have V:(List.range n).map (λ_=>D.lst [])=(List.replicate n ([]:nu)).map λs=>D.lst (s.map sD):=by
  rw[ul,ir,kn,dc]
 have I:zdw (ke 2 [(AK.ins true "House" [],[])] [.int n])=some (.nx,[some (.ag (.ins true "House" gz) (some 0) (hP [] [newS n])),some (.sh (.int n))]):=by
  rw[U];unfold rngD at R J;rw[V] at c;have Y:(True/\(Str.ofString "kept")∉([]:ik)/\0<900):=⟨trivial,by simp,by decide⟩;simp only[zdw,sSeq,sXp,mq,my,ao,fVar,fNil,ah,ae,ac,k1,ma,ai,iy,zx3,fu,bq,ft,if_true,au,uk,fTup,fLst,iw,ip,R,J,c,dc,ak,show 0+1+1<=64 by decide,show 0+1<=64 by decide];rw[if_pos Y];simp only[ac,ah,ae,R,J,c,if_true,ai,ak,bq,show 0+1+1<=64 by decide,show 0+1<=64 by decide];rfl
 exact⟨by unfold zfi xL;rw[if_pos ⟨rfl,rfl⟩,I],by unfold zcu runL;rw[if_pos ⟨rfl,rfl⟩,I];rfl⟩
def z44(D:n<=5)(I:F e=some ([.int n],e')):zx0 "House" zcu F e=some ((kH,hP [] [newS n]),e'):=by
 unfold zx0;rw[I,ac,(z43 D).2];rfl
def z2r(h:e[i]?=some (some (.ag kH l (hP k p)))):(frz false e)[i]?=some (some (.ro kH (hP k p))):=by
 unfold frz;rw[bj,h];rfl
def yad(h:e[i]?=some (some (.ag kH l (hP k p)))):fK kH i (gp m [i] fNil) e=(m [hA k p] []).map λd=>(d,e):=by
 rw[z40 h];exact zqz h (r:=([],e)) rfl h
variable{m:np->mu->Option (Str×np)}
def yu{m:np->mu->nq}(h:e[i]?=some (some (.ag κ l ps)))(I:F e=some (ds,e))(J:m [(κ,ps)] ds=some (d,[(κ,ps')])):lb m [i] F e=some (d,e.set i (some (.ag κ l ps'))):=z1h h (r:=(ds,e)) I h J
def zu8{d:Str}(h:e[i]?=some (some (.ag κ l ps)))(D:F e=some (ds,e))(I:m [(κ,ps)] ds=some (d,[(κ,ps')])):m8 m [i] F e=some (d,e.set i (some (.ag κ l ps'))):=zyu h (r:=(ds,e)) D h I
def zu9(h:e[i]?=some (some (.ag κ l ps)))(D:F e=some (ds,e))(I:m [(κ,ps)] ds=none):m8 m [i] F e=none:=zyv h (r:=(ds,e)) D h I
def plD:D->Prop | .int _=>True | .str _=>True | _=>False
theorem zi9(xs:mu)(R:∀x∈xs,plD x)(Y:xs.length<=1000):vf [.tup xs,.tup xs]=some (.bl true):=by
 obtain⟨e',h1,v2,rfl⟩:=rq (i:=2) (g:=x6) (λk e=>∃v2,e=[some (.sh (.tup xs)),some (.sh (.tup xs)),v2]) (rngD 0 xs.length) [some (.sh (.tup xs)),some (.sh (.tup xs)),none] ⟨none,rfl⟩ (by
  rintro k d e U ⟨v2,rfl⟩;obtain⟨rfl,I⟩:=tf U;have J:atI xs (k:Int)=some xs[k]:=by
   unfold atI;rw[rj (by lia) (by lia)];simp[I]
  have V:=R _ (e7 I);generalize xs[k]=x at *;cases x with
  | int i=>simp[x6,J,xr]
  | str i=>simp[x6,J]
  | _=>exact V.elim)
 have hi:=n4 xs.length (by lia);refine jl (e':=?w) rfl ?h;show zdr [some (.sh (.tup xs)),some (.sh (.tup xs)),none]=_;simp[zdr,hi,h1];rfl
theorem zsi(I:List mu)(Z:I.length<=1000)(R:∀x∈I,(∀y∈x,plD y)/\x.length<=1000):qr [.lst (I.map D.tup),.lst (I.map D.tup)]=some (.bl true):=by
 obtain⟨e',h1,v2,rfl⟩:=rq (i:=2) (g:=zcl) (λk e=>∃v2,e=[some (.sh (.lst (I.map D.tup))),some (.sh (.lst (I.map D.tup))),v2]) (rngD 0 I.length) [some (.sh (.lst (I.map D.tup))),some (.sh (.lst (I.map D.tup))),none] ⟨none,rfl⟩ (by
  rintro k d e U ⟨v2,rfl⟩;obtain⟨rfl,J⟩:=tf U;have V:atI (I.map D.tup) (k:Int)=some (.tup I[k]):=kr D.tup (by simp[J]);have Y:=zi9 I[k] (R _ (e7 J)).1 (R _ (e7 J)).2;exact⟨[some (.sh (.lst (I.map D.tup))),some (.sh (.lst (I.map D.tup))),some (.sh (.int (0+k)))],by simp[zcl,V,Y],_,rfl⟩)
 have hi:=n4 I.length (by lia);refine jl (e':=?w) rfl ?h;show zdd [some (.sh (.lst (I.map D.tup))),some (.sh (.lst (I.map D.tup))),none]=_;simp[zdd,hi,h1];rfl
def dR:Deed->mu
 | .put a h l=>[.str "put",.int a,.int h,.int l]
 | .tell a p l=>[.str "tell",.int a,.int p,.int l]
 | .go a=>[.str "go",.int a]
 | .dry=>[.str "dry"]
def dD_R(d:Deed):dD d=.tup (dR d):=by cases d <;> rfl
def yae(d:Deed):(∀y∈dR d,plD y)/\(dR d).length<=1000:=by
 cases d <;> simp[dR,plD]
def zpi(k:n3)(I:k.length<=1000):qr [.lst (k.map dD),.lst (k.map dD)]=some (.bl true):=by
 have:=zsi (k.map dR) (by rw[af];exact I) λx J=>by
  obtain⟨d,_,rfl⟩:=fq.mp J;exact yae d
 rw[ig] at this;rwa [show k.map dD=k.map (D.tup ∘ dR) from j8 λd _=>dD_R d]
variable{x:Sk}
def z45{x:nu}(h:x∈ss):x.length<=ss.flatten.length:=(d6 h).length_le
def zva(h:wm [ssL s.1]=some (iD os)):zd5 [hA k (p++[s])] []=some (.lst (iD os)):=by
 unfold zd5 runQ;have D:(jt 1 [hA k (p++[s])] [])[0]?=some (some (.ro kH (hP k (p++[s])))):=rfl;have h1:=zl1 (m:=oj) (F:=fNil) D (r:=([],jt 1 [hA k (p++[s])] [])) rfl D;have h2:=zyt (f:=gp oj [0] fNil) D;simp[qm] at h1;simp[zh8,h2,h1,h]
def zsj:zdm [hA k (p++[s])] []=some (spL s.2):=by
 unfold zdm runQ;rw[if_pos ⟨rfl,rfl⟩];have D:(jt 1 [hA k (p++[s])] [])[0]?=some (some (.ro kH (hP k (p++[s])))):=rfl;have h1:=zl1 (m:=o6) (F:=fNil) D (r:=([],jt 1 [hA k (p++[s])] [])) rfl D;have h2:=zyt (f:=gp o6 [0] fNil) D;simp[xt] at h1;simp[ze3,h2,h1,spL]
theorem zvb(ss:nw)(D:ss.length<=1000):(if 0<ss.flatten.length then zp [] [ssL ss]=none/\zf2 [] [ssL ss]=some .non else zp [] [ssL ss]=some ("NothingWaits" : Str)):=by
 have h:=zsf ss D;generalize ss.flatten.length=n at *;split <;> rename_i I
 ·unfold zp zf2 xQ runQ
  rw[if_pos ⟨rfl,rfl⟩,if_pos ⟨rfl,rfl⟩,show jt 1 [] [ssL ss]=[some (.sh (ssL ss))] from rfl];simp[zf1,h,show ¬n=0 by lia]
 ·unfold zp xQ
  rw[if_pos ⟨rfl,rfl⟩,show jt 1 [] [ssL ss]=[some (.sh (ssL ss))] from rfl];simp[zf1,h,show n=0 by lia,lp]
def dryS(s:Hs)(a:Nat)(x:Sk)(tl:nu):Hs:=(s.1.set (a-1) tl,s.2++[(hrOf s.2,hrOf s.2+x.2.1,lss s.1.flatten)])
variable{tl:nu}
theorem z8q(Y:wm [ssL s.1]=some (iD (a::os)))(R:s.1[a-1]?=some (x::tl))(U:1<=a)(Z:k.length<60)(q:s.1.length<=5)(r:p.length<=100)(b:∀y∈s.1,y.length<=1000)(c:s.2.length<=1000)(e:0<s.1.flatten.length) :
  zh [hA k (p++[s])] []=none/\zgd [hA k (p++[s])] []=some (sD x,[hA (k++[.dry]) (p++[s]++[dryS s a x tl])]):=by
 have k1:=zvb s.1 (by lia);rw[if_pos e] at k1;have k5:=wd (k.map dD);rw[if_pos (by rw[af];exact Z)] at k5;have f:=z2p R U;have g:=zpf R U (by lia);have h:=ztt s.1 b;have i:tq [(kH,hP k (p++[s]))] [.tup [.str "dry"],ssL (s.1.set (a-1) tl),.lst (s.2.map sD++[.tup [.int (hrOf s.2),.int (hrOf s.2+x.2.1),.int (lss s.1.flatten)]])]=some (.non,[hA (k++[.dry]) (p++[s]++[dryS s a x tl])]):=by
  have:=zq1 (k:=k) (p:=p++[s]) (d:=.dry) (ss:=s.1.set (a-1) tl) (sp:=s.2++[(hrOf s.2,hrOf s.2+x.2.1,lss s.1.flatten)]) (by lia) (by simp;lia);unfold spL at this;rw[b6] at this;exact this
 have j:=qm (k:=k) (p:=p) (s:=s);have V:=xt (k:=k) (p:=p) (s:=s);have l:=zyw (k:=k) (p:=p) (s:=s);have kd:u8 [sD x]=some (.int x.2.1):=zni x;have m:Few ((s.2.map sD).length+(0+1)):=few (by rw[af];lia);have J:atI (iD (a::os)) 0=some (.int (a:Int)):=by unfold iD;exact kr (k:=0) (λn:Nat=>D.int (n:Int)) rfl
 have o:ke 6 [hA k (p++[s])] []=[some (.ag kH (some 0) (hP k (p++[s]))),none,none,none,none,none]:=rfl;have I:∃e',zi (ke 6 [hA k (p++[s])] [])=some (.rt (sD x),some (.ag kH (some 0) (hP (k++[.dry]) (p++[s]++[dryS s a x tl])))::e'):=by
  rw[o];unfold spL at V;generalize s.2.map sD=SP at *;simp[zi,fK0,cQ0,m7,j,mq,my,k1,xFrz,fFrz,vj,k5,noL,f,Y,J,l,kd,h,g,V,m,cL0,z1k,i,z1l]
 obtain⟨e',I⟩:=I;exact⟨by unfold zh xL;rw[if_pos ⟨rfl,rfl⟩,I],by unfold zgd runL;rw[if_pos ⟨rfl,rfl⟩,I];rfl⟩
def qx:Int->n7->Prop
 | _,[]=>True
 | b,x::r=>x.1=b/\x.1<=x.2.1/\qx x.2.1 r
def qw:Int->n7->Int
 | b,[]=>b
 | _,x::r=>qw x.2.1 r
def zoi:∀(sp:n7) (b:Int) (x:Spn),qw b (sp++[x])=x.2.1
 | [],_,_=>rfl
 | y::r,_,x=>zoi r y.2.1 x
def yi(sp:n7):hrOf sp=qw 0 sp:=by
 unfold hrOf;cases h:sp.getLast? with
 | none=>rw[x9.mp h];rfl
 | some x=>obtain⟨q,rfl⟩:=x8.mp h;rw[zoi]
def zsk:∀(sp:n7) (b:Int) (x:Spn),qx b sp->x.1=qw b sp->x.1<=x.2.1->qx b (sp++[x])
 | [],_,_,_,h,h2=>⟨h,h2,trivial⟩
 | y::r,_,x,hc,h,h2=>⟨hc.1,hc.2.1,zsk r _ x hc.2.2 h h2⟩
theorem zvc:∀(sp:n7) (b:Int),qx b sp->b<=qw b sp
 | [],b,_=>Int.le_refl b
 | y::r,b,hc=>by have:=zvc r _ hc.2.2;have:=hc.1;have:=hc.2.1;show b<=qw y.2.1 r;lia
def rts(sp:n7):k4:=(sp.map λx=>List.replicate (x.2.1-x.1).toNat x.2.2).flatten
def nv(h:Int)(sp:n7):Int:=(sp.map λx=>if x.1<h then x.2.2*((if x.2.1<h then x.2.1 else h)-x.1) else 0).sum
theorem zq2:∀(sp:n7) (b:Int),qx b sp->((rts sp).length:Int)=qw b sp-b
 | [],b,_=>by show(0:Int)=b-b;lia
 | x::r,b,hc=>by
   have D:=zq2 r _ hc.2.2;have e:rts (x::r)=List.replicate (x.2.1-x.1).toNat x.2.2++rts r:=rfl;rw[e,am,eh];have:=hc.1;have:=hc.2.1;show _=qw x.2.1 r-b
   lia
theorem zsl:∀(sp:n7) (b h:Int),qx b sp->h<=b->nv h sp=0
 | [],_,_,_,_=>rfl
 | x::r,b,h,hc,hb=>by
   have:=hc.1;have:=hc.2.1;have D:=zsl r x.2.1 h hc.2.2 (by lia);unfold nv at D ⊢;rw[bz,gl,D,if_neg (by lia)];rfl
theorem z46(n:Nat)(c:Int):(List.replicate n c).sum=c*n:=by
 induction n with
 | zero=>simp
 | succ n ih=>rw[gq,gl,ih,Int.natCast_add,jg];lia
theorem zvd:∀(sp:n7) (b h:Int),qx b sp->b<=h->nv h sp=((rts sp).take (h-b).toNat).sum
 | [],b,h,_,_=>by simp[nv,rts]
 | x::r,b,h,hc,hb=>by
   have h1:=hc.1;have h2:=hc.2.1;have e:rts (x::r)=List.replicate (x.2.1-x.1).toNat x.2.2++rts r:=rfl;have I:nv h (x::r)=(if x.1<h then x.2.2*((if x.2.1<h then x.2.1 else h)-x.1) else 0)+nv h r:=rfl;rw[e,I,List.take_append,uj,List.take_replicate,eh,z46];by_cases c:x.2.1<h
   ·rw[zvd r x.2.1 h hc.2.2 (by lia),if_pos (by lia),if_pos c,show(h-b).toNat-(x.2.1-x.1).toNat=(h-x.2.1).toNat by lia,show min (h-b).toNat (x.2.1-x.1).toNat=(x.2.1-x.1).toNat by lia,show(((x.2.1-x.1).toNat:Nat):Int)=x.2.1-x.1 by lia]
   ·rw[zsl r x.2.1 h hc.2.2 (by lia),show(h-b).toNat-(x.2.1-x.1).toNat=0 by lia,show min (h-b).toNat (x.2.1-x.1).toNat=(h-b).toNat by lia]
    by_cases D:x.1<h
    ·rw[if_pos D,if_neg c,show(((h-b).toNat:Nat):Int)=h-x.1 by lia];simp
    ·rw[if_neg D,show(h-b).toNat=0 by lia];simp
theorem zwa(j:0<=h)(h1:h<=hrOf sp)(Z:∀x∈sp,0<=x.2.2/\x.2.2<=100000):zkm [] [spL sp,.int h]=none/\zkl [] [spL sp,.int h]=some (.int (nv h sp)):=by
 obtain⟨e',V,J,R,U,rfl⟩:=we (ix:=[3,4,5]) (g:=zgc) (λx:Spn=>[D.int x.1,.int x.2.1,.int x.2.2]) (λp e=>∃J R U,e=[some (.sh (spL sp)),some (.sh (.int h)),some (.sh (.int (nv h p))),J,R,U]) sp
  [some (.sh (spL sp)),some (.sh (.int h)),some (.sh (.int 0)),none,none,none] ⟨none,none,none,rfl⟩ (λ_ _=>rfl) (by
   rintro p x q e Y ⟨J,R,U,rfl⟩;have k:=Z x (by rw[Y];simp);have sm:ly x.2.2:=⟨by lia,by lia⟩;have a:∀z:Int,dMul (.int x.2.2) (.int z)=some (.int (x.2.2*z)):=λz=>by unfold dMul;exact if_pos (.inl sm)
   have b:nv h (p++[x])=nv h p+(if x.1<h then x.2.2*((if x.2.1<h then x.2.1 else h)-x.1) else 0):=by unfold nv;simp
   rw[b];by_cases c:x.1<h
   ·simp[pi,zgc,c,a]
   ·simp[pi,zgc,c])
 have V:forU [3,4,5] zgc (sp.map sD) [some (.sh (spL sp)),some (.sh (.int h)),some (.sh (.int 0)),none,none,none]=_:=V;have d:=zl2 sp;have f:decide (h<0)=false:=decide_eq_false (by lia);have i:decide (hrOf sp<h)=false:=decide_eq_false (by lia);have I:zkk (jt 6 [] [spL sp,.int h])=some (.rt (.int (nv h sp)),[some (.sh (spL sp)),some (.sh (.int h)),some (.sh (.int (nv h sp))),J,R,U]):=by
  rw[show jt 6 [] [spL sp,.int h]=[some (.sh (spL sp)),some (.sh (.int h)),none,none,none,none] from rfl];unfold spL at *;simp[zkk,d,f,i,V]
 exact⟨by unfold zkm xQ;rw[if_pos ⟨rfl,rfl⟩,I],by unfold zkl runQ;rw[if_pos ⟨rfl,rfl⟩,I]⟩
def z47(I:0<=h)(h1:h<=hrOf s.2)(J:∀x∈s.2,0<=x.2.2/\x.2.2<=100000):zgt [hA k (p++[s])] [.int h]=none/\zgs [hA k (p++[s])] [.int h]=some (.int (nv h s.2)):=by
 have l:=zwa I h1 J;have D:zgr (jt 2 [hA k (p++[s])] [.int h])=some (.rt (.int (nv h s.2)),[some (.ro kH (hP k (p++[s]))),some (.sh (.int h))]):=by
  rw[show jt 2 [hA k (p++[s])] [.int h]=[some (.ro kH (hP k (p++[s]))),some (.sh (.int h))] from rfl];simp[zgr,mq,my,fK0r,cQ0,xg,xt,l]
 exact⟨by unfold zgt xQ;rw[if_pos ⟨rfl,rfl⟩,D],by unfold zgs runQ;rw[if_pos ⟨rfl,rfl⟩,D]⟩
theorem z48(ss:nw)(U:ss.length<=1000)(R:∀s∈ss,s.length<=1000):zi2 [ssL ss]=some (.int (lss ss.flatten)):=by
 have c:=oh (te:=du bSum (ao (fLst (iw (fiS (fVar 0)) [] fYes (fIxV 0 (fC (.int 2))))) (fNil))) (base:=[]) (λs:nu=>D.lst (s.map sD)) (λs:nu=>D.int (s.map λx:Sk=>x.2.2).sum) ss λs V=>by
  have Y:=oh (te:=fIxV 0 (fC (.int 2))) (base:=[]) sD (λx:Sk=>D.int x.2.2) s λx _=>⟨_,by simp[sD,xb];rfl⟩;have I:=xl (λx:Sk=>x.2.2) s;have J:Few (s.map sD).length:=few (by rw[af];have:=R s V;lia);generalize s.map sD=L at *;exact⟨_,by simp[iw,J,Y,I];rfl⟩
 have I:=xl (λs:nu=>(s.map λx:Sk=>x.2.2).sum) ss;have J:Few (ss.map λs=>D.lst (s.map sD)).length:=few (by rw[af];lia);have Z:(ss.map λs:nu=>(s.map λx:Sk=>x.2.2).sum).sum=lss ss.flatten:=by
  clear c I J U R;induction ss with
  | nil=>rfl
  | cons a l ih=>rw[bz,gl,ih,db,rh];rfl
 rw[Z] at I;refine jl (e':=[some (.sh (ssL ss))]) rfl ?_;show zlg [some (.sh (ssL ss))]=_;unfold ssL;generalize (ss.map λs=>D.lst (s.map sD))=L at *;simp[zlg,iw,J] at c ⊢;simp[c,I]
def zyy(a b:n7):rts (a++b)=rts a++rts b:=by simp[rts]
theorem zve(sp:n7)(I:qx b sp)(i:qw b sp-b<=100000):zhs [spL sp]=some (.lst ((rts sp).map D.int)):=by
 have Z:=zq2 sp b I;obtain⟨e',V,v2,R,U,rfl⟩:=we (ix:=[2,3,4]) (g:=zf3) (λx:Spn=>[D.int x.1,.int x.2.1,.int x.2.2]) (λp e=>∃v2 R U,e=[some (.sh (spL sp)),some (.sh (.lst ((rts p).map D.int))),v2,R,U]) sp
  [some (.sh (spL sp)),some (.sh (.lst [])),none,none,none] ⟨none,none,none,rfl⟩ (λ_ _=>rfl) (by
   rintro p x q e J ⟨v2,R,U,rfl⟩;have a:(rts p).length+(x.2.1-x.1).toNat<=100000:=by
    have:(rts sp).length=(rts p).length+((x.2.1-x.1).toNat+(rts q).length):=by rw[J,zyy,am];congr 1;show(List.replicate _ _++rts q).length=_;simp
    lia
   have Y:Bnd (-(2 ^ 62)) (2 ^ 62) (x.2.1-x.1):=by
    have:-100000<=x.2.1-x.1:=by
     have c:∀(l:n7) (b:Int),qx b l->x∈l->x.1<=x.2.1:=by
      intro l;induction l with
      | nil=>intro b _ h;cases h
      | cons y r ih=>intro b I h;rcases b8.mp h with rfl | h;exact I.2.1;exact ih _ I.2.2 h
     have:=c sp b I (by rw[J];simp)
     lia
    exact⟨by lia,by lia⟩
   have d:Few ((0+1)*(x.2.1-x.1).toNat):=by show _<=_;lia
   have f2:Few (((rts p).map D.int).length+(List.replicate (x.2.1-x.1).toNat (D.int x.2.2)).length):=by show _<=_;rw[af,eh];lia
   have f:(rts (p++[x])).map D.int=(rts p).map D.int++List.replicate (x.2.1-x.1).toNat (D.int x.2.2):=by rw[zyy,b6,show rts [x]=List.replicate (x.2.1-x.1).toNat x.2.2 by simp[rts],kn]
   refine⟨[some (.sh (spL sp)),some (.sh (.lst ((rts (p++[x])).map D.int))),some (.sh (.int x.1)),some (.sh (.int x.2.1)),some (.sh (.int x.2.2))],?_,_,_,_,rfl⟩;rw[f];simp only[pi,zf3,sSet,fLst,fCat,fRep,fu,ao,fNil,fVar,fBin,dSub,ae,ah,ac,ai,au,av,ak,bq,show 0+1<=64 by decide,if_true,d,Y,and_self,ztm,f2])
 have V:forU [2,3,4] zf3 (sp.map sD) [some (.sh (spL sp)),some (.sh (.lst [])),none,none,none]=_:=V;refine jl (e':=[some (.sh (spL sp)),some (.sh (.lst ((rts sp).map D.int))),v2,R,U]) rfl ?_;show zj8 [some (.sh (spL sp)),none,none,none,none]=_;unfold spL at *;simp[zj8,V]
def xK0r{f:XF}:xK κ 0 f (some (.ro κ ps)::e)=f (some (.ro κ ps)::e):=yac rfl
def xcQ0{m:np->mu->k9}:lz m [0] F (some sl::e)=(F (some sl::e)).bind λr=>(getR r.2 [0]).bind λags=>(m ags r.1).map λd=>(d,r.2):=if_pos λk I=>by rw[cw.mp I];exact⟨_,rfl⟩
theorem zmw(Z:qx 0 s.2)(v:∀x∈s.2,0<=x.2.2/\x.2.2<=100000)(z:hrOf s.2<=100000)(w:s.2.length<=1000):zz [hA k (p++[s])] [spL s.2]=some (.bl true):=by
 have I:=zq2 s.2 0 Z;rw[<-yi] at I;have a:=zve s.2 Z (by rw[<-yi];lia);have b:=zyw (k:=k) (p:=p) (s:=s);have d:=zsj (k:=k) (p:=p) (s:=s);have f:qr [spL s.2,spL s.2]=some (.bl true):=zj3 (λx:Spn=>[x.1,x.2.1,x.2.2]) s.2 w λx _=>by simp
 have J:(((rts s.2).map D.int).length:Int)=hrOf s.2:=by rw[af];lia
 have R:∀h:Int,0<=h->h<=hrOf s.2->bSum [.lst (cutD ((rts s.2).map D.int) none (some h))]=some (.int (nv h s.2)):=λh h1 h2=>by
  have c:=zqs ((rts s.2).map D.int) h.toNat (by rw[af];lia);rw[show((h.toNat:Nat):Int)=h by lia] at c;rw[c,<-List.map_take,zvd s.2 0 h Z h1,Int.sub_zero];have:=xl (λx:Int=>x) ((rts s.2).take h.toNat);rw[List.map_id'] at this;exact this
 obtain⟨e',j,U,V,rfl⟩:=qo (i:=4) (g:=zc6) D.int (λq e=>∃U V,e=[some (.ro kH (hP k (p++[s]))),some (.sh (spL s.2)),some (.sh (.lst ((rts s.2).map D.int))),some (.sh (.int (hrOf s.2))),U,V]) [0,hrOf s.2 / 3,(if hrOf s.2-1 > 0 then hrOf s.2-1 else 0),hrOf s.2]
  [some (.ro kH (hP k (p++[s]))),some (.sh (spL s.2)),some (.sh (.lst ((rts s.2).map D.int))),some (.sh (.int (hrOf s.2))),none,none] ⟨none,none,rfl⟩ (by
   rintro q h r e m ⟨U,V,rfl⟩;have u:h∈[0,hrOf s.2 / 3,(if hrOf s.2-1 > 0 then hrOf s.2-1 else 0),hrOf s.2]:=by rw[m];simp
   have Y:0<=h/\h<=hrOf s.2:=by
    simp at u;rcases u with rfl | rfl | rfl | rfl
    ·lia
    ·lia
    ·split <;> lia
    ·lia
   have l:=z47 (k:=k) (p:=p) (s:=s) Y.1 Y.2 v;have sm:=R h Y.1 Y.2;have n:=xr (nv h s.2);simp[zc6,xK0r,xcQ0,fK0r,cQ0,xg,l,n,sm])
 have j:forL 4 zc6 [.int 0,.int (hrOf s.2 / 3),.int (if hrOf s.2-1 > 0 then hrOf s.2-1 else 0),.int (hrOf s.2)] [some (.ro kH (hP k (p++[s]))),some (.sh (spL s.2)),some (.sh (.lst ((rts s.2).map D.int))),some (.sh (.int (hrOf s.2))),none,none]=_:=j;have y:dDiv (.int (hrOf s.2)) (.int 3)=some (.int (hrOf s.2 / 3)):=by unfold dDiv;exact if_pos b3
 have n:=xr (hrOf s.2);have o:zdx (jt 6 [hA k (p++[s])] [spL s.2])=some (.rt (.bl true),[some (.ro kH (hP k (p++[s]))),some (.sh (spL s.2)),some (.sh (.lst ((rts s.2).map D.int))),some (.sh (.int (hrOf s.2))),U,V]):=by
  rw[show jt 6 [hA k (p++[s])] [spL s.2]=[some (.ro kH (hP k (p++[s]))),some (.sh (spL s.2)),none,none,none,none] from rfl];generalize (rts s.2).map D.int=L at *;have t:(!decide (hrOf s.2=(L.length:Int)))=false:=by rw[J];simp
  simp only[zdx,sSeq,sSet,du,ao,fNil,fVar,ae,ah,ac,ai,au,av,a,fK0r,cQ0,xg,b,sIf,fOr,fNot,fTst,n,j2,bx,if_false,fBin,gy,dNe,t,sNil,sFor,fiS,fLst,fu,fC,y,bMax,dSub,ak,bq,show 0+1+1+1+1<=64 by decide,if_true,j,sRet,d,f]
 unfold zz runQ;rw[if_pos ⟨rfl,rfl⟩,o]
def drP(ss:nw)(p:kf):List mu:=(List.range ss.length).map λj=>((ss.getD j []).drop (p.count (j+1))).map sD
def z49(ss:nw):ss.map (λs=>s.map sD)=drP ss []:=by
 unfold drP;apply dz;intro i;by_cases h:i<ss.length
 ·simp[h]
 ·simp[h]
theorem z1m(ss:nw)(J:ss.length<=1000):zhp [ssL ss]=some (drP ss []):=by
 rw[<-z49];have c:=zl7 (te:=ip oo (ao (fVar 0) (fNil))) (base:=[]) (λs:nu=>D.lst (s.map sD)) (λs:nu=>s.map sD) ss λs _=>⟨_,by simp;rfl⟩;have I:Few (ss.map λs=>D.lst (s.map sD)).length:=few (by rw[af];lia);unfold zhp yb;rw[if_pos (show[ssL ss].length=1 from rfl)];have:zho (ji 1 [ssL ss])=some (.r2 (ss.map λs=>s.map sD),[some (.sh (ssL ss))]):=by
  show zho [some (.sh (.lst (ss.map λs:nu=>D.lst (s.map sD))))]=_;unfold ssL;generalize (ss.map λs=>D.lst (s.map sD))=L at *;simp[zho,zug,vp,I,c]
 rw[this]
theorem zyz{p:kf}(U:Whole ss (p++a::q)) :
  ∃r:mu,(drP ss p)[a-1]?=some (sD (ni ss a (p.count a))::r)/\(drP ss p).set (a-1) r=drP ss (p++[a])/\ixN (drP ss p).length ((a:Int)-1)=some (a-1):=by
 obtain⟨s,V,J,R,Z,b⟩:=U.at;have Y:s.drop (p.count a)=ni ss a (p.count a)::s.drop (p.count a+1):=by
  rw[fb J];rw[aw J] at R;rw[bn R]
 have I:ss.getD (a-1) []=s:=by rw[ci,V];rfl
 refine⟨(s.drop (p.count a+1)).map sD,?_,?_,?_⟩
 ·unfold drP
  rw[bj,jb (by lia),ai,I,show a-1+1=a by lia,Y,bz]
 ·apply dz
  intro i;unfold drP;rw[gi];by_cases hi:i<ss.length
  ·by_cases e:a-1=i
   ·subst e
    simp only[af,ir,hi,if_true];rw[bj,jb hi,ai,I,zc,if_pos (by lia),show a-1+1=a by lia]
   ·rw[if_neg e,bj,bj,jb hi,ai,ai,zc,if_neg (by lia)];rfl
  ·by_cases e:a-1=i
   ·subst e;lia
   ·rw[if_neg e,ce (by simp;lia),ce (by simp;lia)]
 ·rw[rj (by lia) (by simp[drP];lia)]
  congr 1
  lia
def zy0:∀(p:List (Nat×Sk)) (h:Int),∀r∈lm h p,r.length<=1000:=λp=>by
 induction p with
 | nil=>intro h r hr;simp[lm] at hr
 | cons x p ih =>
   intro h r hr;rw[lm] at hr;rcases b8.mp hr with rfl | hr
   ·simp
   ·exact ih _ r hr
theorem zty(w:Whole ss os)(G:ss.length<=900)(y:ss.flatten.length<=14):zlj [ssL ss,.lst (iD os)]=some (.lst ((lm 0 (os.zip (tk ss os))).map iT)):=by
 have I:=z1m ss (by lia);have J:os.length<=14:=by rw[w.len];exact y
 have c:∀s∈ss,s.length<=14:=λs h=>cy (d6 h).length_le y;have d:∀(p:kf) (a:Nat),(p++[a]).zip (tk ss (p++[a]))=p.zip (tk ss p)++[(a,ni ss a (p.count a))]:=λp a=>by
  rw[zoc,List.zip_append (by rw[yj])];rfl
 have f:∀p:kf,(p.zip (tk ss p)).map (·.2)=tk ss p:=λp=>by
  rw[sg];rw[yj];exact bw _
 obtain⟨e',h1,V,Z,rfl⟩:=qo (i:=5) (g:=zgw) (λa:Nat=>D.int (a:Int)) (λp e=>∃V Z,e=[some (.sh (ssL ss)),some (.sh (.lst (iD os))),some (.ow ((lm 0 (p.zip (tk ss p))).map iT)),some (.sh (.int (hrs (tk ss p)))),some (.o2 (drP ss p)),V,Z]) os
  [some (.sh (ssL ss)),some (.sh (.lst (iD os))),some (.ow []),some (.sh (.int 0)),some (.o2 (drP ss [])),none,none] ⟨none,none,rfl⟩ (by
   rintro p a q e R ⟨V,Z,rfl⟩;have k:Whole ss (p++a::q):=by rw[<-R];exact w
   obtain⟨r,z,U,l⟩:=zyz k;have A:p.length<=14:=by rw[R] at J;simp at J;lia
   have B:Few (((lm 0 (p.zip (tk ss p))).map iT).length+1):=few (by rw[af,zly,me,yj];lia);have C:(sD (ni ss a (p.count a))::r).length<=100:=by
    have:∀ds∈drP ss p,ds.length<=14:=λds m=>by
     obtain⟨j,b,rfl⟩:=fq.mp m;have b:j<ss.length:=i4.mp b;rw[af,em];have:=c ss[j] (e7 b);simp[b]
     lia
    have:=this _ (bf z)
    lia
   have n:Few (sD (ni ss a (p.count a))::r).length:=few (by lia);have o:ixN (sD (ni ss a (p.count a))::r).length 0=some 0:=by rw[rj (by lia) (by simp)];rfl
   have E:hrs (tk ss (p++[a]))=hrs (tk ss p)+(ni ss a (p.count a)).2.1:=by rw[zoc,oz];simp[hrs]
   have F:(lm 0 ((p++[a]).zip (tk ss (p++[a])))).map iT=(lm 0 (p.zip (tk ss p))).map iT++[.tup [.int (ni ss a (p.count a)).1,.int (a:Int),.int (hrs (tk ss p)),.int (hrs (tk ss p)+(ni ss a (p.count a)).2.1)]]:=by
    rw[d,zmh,b6,f];simp[iT]
   generalize ni ss a (p.count a)=x at *;rw[F,E,<-U];generalize (lm 0 (p.zip (tk ss p))).map iT=M at *;have t:(sD x::r).eraseIdx 0=r:=rfl;have u:(sD x::r)[0]?=some (sD x):=rfl;generalize sD x::r=Y at *;simp[zgw,l,z,n,o,t,u,sD,z71,xf,B])
 refine jl (e':=[some (.sh (ssL ss)),some (.sh (.lst (iD os))),some (.sh (.lst ((lm 0 (os.zip (tk ss os))).map iT))),some (.sh (.int (hrs (tk ss os)))),some (.o2 (drP ss os)),V,Z]) rfl ?_;show zli [some (.sh (ssL ss)),some (.sh (.lst (iD os))),none,none,none,none,none]=_;have v:forL 5 zgw (iD os) [some (.sh (ssL ss)),some (.sh (.lst (iD os))),some (.ow []),some (.sh (.int 0)),some (.o2 (drP ss [])),none,none]=_:=h1;generalize iD os=O at *;simp[zli,zny,I,v]
def z5a(h:zhq [ssL s.1]=some d):zgv [hA k (p++[s])] []=some d:=by
 unfold zgv runQ;rw[if_pos ⟨rfl,rfl⟩,show jt 1 [hA k (p++[s])] []=[some (.ro kH (hP k (p++[s])))] from rfl];simp[zi5,fK0r,cQ0,xg,qm,h]
def z8r(h:zit [ssL s.1]=some d):zht [hA k (p++[s])] []=some d:=by
 unfold zht runQ;rw[if_pos ⟨rfl,rfl⟩,show jt 1 [hA k (p++[s])] []=[some (.ro kH (hP k (p++[s])))] from rfl];simp[zj9,fK0r,cQ0,xg,qm,h]
def z5b(D:wm [ssL s.1]=some (iD os))(h:zhn [ssL s.1,.lst (iD os)]=some d):zgu [hA k (p++[s])] []=some d:=by
 unfold zgu runQ;rw[if_pos ⟨rfl,rfl⟩,show jt 1 [hA k (p++[s])] []=[some (.ro kH (hP k (p++[s])))] from rfl];simp[zi4,fK0r,cQ0,xg,qm,zva D,h]
theorem zsm{X:D}(U:∀x∈s.1.flatten,i6 x)(I:s.1.flatten.length<=14)(K:s.1.length<=5)(c:k.length<=1000)(d:qx 0 s.2)(e:∀x∈s.2,0<=x.2.2/\x.2.2<=100000)(f:hrOf s.2<=100000)(Z:s.2.length<=1000) :
  vd [hA k (p++[s])] [.lst [ssL s.1,.lst (k.map dD),X,spL s.2]]=some (.bl true):=by
 have a:∀x∈s.1,x.length<=1000:=λx h=>by have:=z45 h;lia
 obtain⟨ts,ok,J⟩:=zkx s.1 U I;have V:=ziy ok J I;have b:=ztn ok U I (by lia);have Y:=ok.whole;have g:(js ts).length<=14:=by rw[Y.len];exact I
 have i:=zpg (k:=k) (p:=p) (s:=s) (by lia);have j:zy [ssL s.1,ssL s.1]=some (.bl true):=zky s.1 (by lia) a;have l:=z1i (k:=k) (p:=p++[s]);have m:=zpi k c;have n:=zva (k:=k) (p:=p) V;have o:=zto (js ts) (by lia);have q:=z5a (k:=k) (p:=p) (zqp ok J U (by lia) I);have t:=xr (ng 0 (tk s.1 (js ts)));have u:=zsa Y (by lia) (by lia);have v:=ztr (tk s.1 (js ts)) λx w=>U x (Y.sk x w);have y:=z5b (k:=k) (p:=p) V (zqn Y (by lia) (by lia));have z:=zty Y (by lia) I;have A:qr [.lst ((lm 0 ((js ts).zip (tk s.1 (js ts)))).map iT),.lst ((lm 0 ((js ts).zip (tk s.1 (js ts)))).map iT)]=some (.bl true):=zj3 (λr:k4=>r) (lm 0 ((js ts).zip (tk s.1 (js ts)))) (by rw[zly,me,yj];lia) (zy0 _ _);have B:=zmw (k:=k) (p:=p) d e f Z;have C:=z8r (k:=k) (p:=p) (zse ok J U (by lia) I);have E:=zts ok U (by lia) I;have F:atI [ssL s.1,.lst (k.map dD),X,spL s.2] 0=some (ssL s.1):=rfl;have G:atI [ssL s.1,.lst (k.map dD),X,spL s.2] 1=some (.lst (k.map dD)):=rfl;have H:atI [ssL s.1,.lst (k.map dD),X,spL s.2] 3=some (spL s.2):=rfl;have R:∃e',zf4 (jt 5 [hA k (p++[s])] [.lst [ssL s.1,.lst (k.map dD),X,spL s.2]])=some (.rt (.bl true),e'):=by
  rw[show jt 5 [hA k (p++[s])] [.lst [ssL s.1,.lst (k.map dD),X,spL s.2]]=[some (.ro kH (hP k (p++[s]))),some (.sh (.lst [ssL s.1,.lst (k.map dD),X,spL s.2])),none,none,none] from rfl];simp[zf4,F,G,H,fK0r,cQ0,xg,i,j,l,m,b,n,o,q,t,u,v,y,z,A,B,C,E]
 obtain⟨e',R⟩:=R;unfold vd runQ;rw[if_pos ⟨rfl,rfl⟩,R]
variable{t:nu}
theorem zq3(h:ss[a-1]?=some t)(I:1<=a)(J:ss.length<=1000):(if t.length=0 then xy [] [ssL ss,.int (a:Int)]=some ("EmptyStack" : Str) else xy [] [ssL ss,.int (a:Int)]=none/\ze5 [] [ssL ss,.int (a:Int)]=some .non):=by
 have h1:=tx h I;have R:=(aj.mp h).1;have e:jt 2 [] [ssL ss,.int (a:Int)]=[some (.sh (ssL ss)),some (.sh (.int (a:Int)))]:=rfl;have D:((t.map sD).length:Int)=t.length:=by rw[af]
 generalize t.map sD=T at *;split <;> rename_i U
 ·unfold xy xQ
  rw[if_pos ⟨rfl,rfl⟩,e];unfold ssL;have c:decide ((T.length:Int)=0)=true:=decide_eq_true (by lia);simp only[zgx,sIf,fTst,fBin,du,ao,fIxV,ixSl,fVar,fC,fNil,dSub,ae,ah,ac,ai,h1,bLen,dEq,c,if_true,lp,vInt,show((a:Int)).natAbs<1000000 by lia]
 ·unfold xy ze5 xQ runQ
  rw[if_pos ⟨rfl,rfl⟩,if_pos ⟨rfl,rfl⟩,e];unfold ssL;have c:decide ((T.length:Int)=0)=false:=decide_eq_false (by lia);simp only[zgx,sIf,fTst,fBin,du,ao,fIxV,ixSl,fVar,fC,fNil,dSub,ae,ah,ac,ai,h1,bLen,dEq,c,bx,if_false,sNil,and_self]
def goS(s:Hs)(a:Nat)(tl:nu):Hs:=(s.1.set (a-1) tl,s.2)
theorem yaf(I:s.1[a-1]?=some (x::tl))(J:1<=a)(R:k.length<60)(e:s.1.length<=5)(f:p.length<=100) :
  ze [hA k (p++[s])] [.int (a:Int)]=none/\zhg [hA k (p++[s])] [.int (a:Int)]=some (sD x,[hA (k++[.go a]) (p++[s]++[goS s a tl])]):=by
 have g:=(aj.mp I).1;have k1:=y0 (ss:=s.1) (a:=a) (by lia) (by lia);have k2:=zq3 I J (by lia);rw[if_neg (by simp)] at k2;have k5:=wd (k.map dD);rw[if_pos (by rw[af];exact R)] at k5;have U:=z2p I J;have V:=zpf I J (by lia);have Y:tq [(kH,hP k (p++[s]))] [.tup [.str "go",.int (a:Int)],ssL (s.1.set (a-1) tl),spL s.2]=some (.non,[hA (k++[.go a]) (p++[s]++[goS s a tl])]):=zq1 (k:=k) (p:=p++[s]) (d:=.go a) (ss:=s.1.set (a-1) tl) (sp:=s.2) (by lia) (by simp;lia);have Z:=qm (k:=k) (p:=p) (s:=s);have b:=xt (k:=k) (p:=p) (s:=s);have c:ke 3 [hA k (p++[s])] [.int (a:Int)]=[some (.ag kH (some 0) (hP k (p++[s]))),some (.sh (.int (a:Int))),none]:=rfl;have D:xv (ke 3 [hA k (p++[s])] [.int (a:Int)])=some (.rt (sD x),[some (.ag kH (some 0) (hP (k++[.go a]) (p++[s]++[goS s a tl]))),some (.sh (.int (a:Int))),some (.sh (ssL s.1))]):=by
  rw[c];generalize spL s.2=SP at *;simp[xv,fK0,cQ0,m7,Z,mq,my,k1,k2,xFrz,fFrz,vj,k5,noL,U,V,b,cL0,z1k,Y,z1l]
 exact⟨by unfold ze xL;rw[if_pos ⟨rfl,rfl⟩,D],by unfold zhg runL;rw[if_pos ⟨rfl,rfl⟩,D];rfl⟩
theorem zvf{m:Int}:(if m<1\/(t.length:Int)<m then zo [] [.lst (t.map sD),.int m]=some ("UnknownPlace" : Str) else zo [] [.lst (t.map sD),.int m]=none/\zf6 [] [.lst (t.map sD),.int m]=some .non):=by
 have e:jt 2 [] [.lst (t.map sD),.int m]=[some (.sh (.lst (t.map sD))),some (.sh (.int m))]:=rfl;have D:((t.map sD).length:Int)=t.length:=by rw[af]
 generalize t.map sD=T at *;split <;> rename_i I
 ·unfold zo xQ
  rw[if_pos ⟨rfl,rfl⟩,e];by_cases h1:m<1
  ·simp[zd7,h1,lp]
  ·simp[zd7,h1,show(T.length:Int)<m by lia,lp]
 ·unfold zo zf6 xQ runQ
  rw[if_pos ⟨rfl,rfl⟩,if_pos ⟨rfl,rfl⟩,e];simp[zd7,show ¬m<1 by lia,show ¬(T.length:Int)<m by lia]
def zso(x:Sk)(l:Int):zlk [sD x,.int l]=some (sD (x.1,x.2.1,l)):=by
 rfl
theorem z5c{m:Nat}{l:Int}(J:s.1[a-1]?=some t)(U:t[m-1]?=some x)(R:1<=a)(A:1<=m)(e:0<=l)(h1:l<=100)(f:k.length<60)(B:s.1.length<=5)(g:t.length<=1000)(C:p.length<=100) :
  zm [hA k (p++[s])] [.int (a:Int),.int (m:Int),.int l]=none/\ze6 [hA k (p++[s])] [.int (a:Int),.int (m:Int),.int l]=some (.int x.2.2,[hA (k++[.tell a m l]) (p++[s]++[(s.1.set (a-1) (t.set (m-1) (x.1,x.2.1,l)),s.2)])]):=by
 have E:=(aj.mp J).1;have F:=(aj.mp U).1;have k1:=y0 (ss:=s.1) (a:=a) (by lia) (by lia);have k2:=zq3 J R (by lia);rw[if_neg (by lia)] at k2;have k3:=zvf (t:=t) (m:=m);rw[if_neg (by lia)] at k3;have i:=zq0 (h:=l) e h1;have k5:=wd (k.map dD);rw[if_pos (by rw[af];exact f)] at k5;have j:=tx J R;have n:atI (t.map sD) ((m:Int)-1)=some (sD x):=by
  rw[show(m:Int)-1=((m-1:Nat):Int) by lia];exact kr sD U
 have V:=ziz (ss:=s.1) (a:=a) (t.set (m-1) (x.1,x.2.1,l)) R (by lia) (by lia);have G:(t.map sD).length=t.length:=af ..;have b:=zqs (t.map sD) (m-1) (by lia);rw[show((m-1:Nat):Int)=(m:Int)-1 by lia] at b;have o:=znj (t.map sD) m (by lia);have c:=zyr (t.map sD) (m-1) (sD (x.1,x.2.1,l)) (by lia);rw[show m-1+1=m by lia] at c;have q:Few (((t.map sD).take (m-1)).length+(0+1)):=few (by simp only[dn];lia);have f2:Few (((t.map sD).take (m-1)++[sD (x.1,x.2.1,l)]).length+((t.map sD).drop m).length):=few (by simp[dn,em];lia);have r:(t.set (m-1) (x.1,x.2.1,l)).map sD=(t.map sD).set (m-1) (sD (x.1,x.2.1,l)):=ie ..;rw[r,<-c] at V;have u:tq [(kH,hP k (p++[s]))] [.tup [.str "tell",.int (a:Int),.int (m:Int),.int l],ssL (s.1.set (a-1) (t.set (m-1) (x.1,x.2.1,l))),spL s.2]=some (.non,[hA (k++[.tell a m l]) (p++[s]++[(s.1.set (a-1) (t.set (m-1) (x.1,x.2.1,l)),s.2)])]):=zq1 (k:=k) (p:=p++[s]) (d:=.tell a m l) (ss:=s.1.set (a-1) (t.set (m-1) (x.1,x.2.1,l))) (sp:=s.2) (by lia) (by simp;lia);have v:=qm (k:=k) (p:=p) (s:=s);have w:=xt (k:=k) (p:=p) (s:=s);have y:=zso x l;have kd:=zqm x;have z:ke 8 [hA k (p++[s])] [.int (a:Int),.int (m:Int),.int l]=[some (.ag kH (some 0) (hP k (p++[s]))),some (.sh (.int (a:Int))),some (.sh (.int (m:Int))),some (.sh (.int l)),none,none,none,none]:=rfl;have I:∃e',uf (ke 8 [hA k (p++[s])] [.int (a:Int),.int (m:Int),.int l])=some (.rt (.int x.2.2),some (.ag kH (some 0) (hP (k++[.tell a m l]) (p++[s]++[(s.1.set (a-1) (t.set (m-1) (x.1,x.2.1,l)),s.2)])))::e'):=by
  rw[z];unfold ssL at *;generalize (s.1.map λs=>D.lst (s.map sD))=SL at *;generalize (t.map sD).take (m-1)=TA at *;generalize (t.map sD).drop m=TB at *;generalize t.map sD=T at *;generalize sD (x.1,x.2.1,l)=Y at *;generalize sD x=Z at *;refine⟨[some (.sh (.int (a:Int))),some (.sh (.int (m:Int))),some (.sh (.int l)),some (.sh (.lst SL)),some (.sh (.lst T)),some (.sh Z),some (.sh (.lst (TA++[Y]++TB)))],?_⟩;simp only[uf,sSeq,sSet,sXp,iy,fK0,cQ0,fNil,ac,m7,v,ai,av,au,mq,my,ao,fVar,ah,ae,k1,k2,k3,i,ma,xFrz,fFrz,vj,k5,noL,if_true,du,fIxV,ixSl,fBin,fC,dSub,j,n,fLst,fCat,fSl,fO0,fO1,b,o,fu,y,q,f2,fTup,ak,bq,show 0+1<=64 by decide,show 0+1+1+1+1<=64 by decide,V,w,cL0,z1k,u,bz,dc,z1l,sRet,kd]
 obtain⟨e',I⟩:=I;exact⟨by unfold zm xL;rw[if_pos ⟨rfl,rfl⟩,I],by unfold ze6 runL;rw[if_pos ⟨rfl,rfl⟩,I];rfl⟩
abbrev dsO(ss:nw):List mu:=ss.map λs=>s.map sD
def z2s(h:e[j]?=some (some (.sh d))):(frz false e)[j]?=some (some (.sh d)):=by
 unfold frz;rw[bj,h];rfl
def z2t(h:e[j]?=some (some (.o2 (dsO ss)))):(frz false e)[j]?=some (some (.sh (ssL ss))):=by
 unfold frz;rw[bj,h];show some (some (Sl.sh (.lst ((dsO ss).map D.lst))))=_;unfold dsO ssL;rw[ig];rfl
def z2u(r:nu):noLs (r.map sD)=true:=by
 induction r with
 | nil=>rfl
 | cons x r ih=>rw[bz];unfold noLs;rw[ih];rfl
variable{c w:Str}
def zy1(h:yo c=some w):((List.range 13).filter λk=>c==l4.getD k "").map (λk=>D.str (qz.getD k ""))=[D.str w]:=by
 have I:c∈l4:=zpa (by unfold kdT;rw[h];rfl);simp[l4] at I;rcases I with rfl | rfl | rfl | rfl | rfl | rfl | rfl | rfl | rfl | rfl | rfl | rfl | rfl <;> cases h <;> rfl
theorem z1n(c:Str)(d:D)(h:kdT c=some d):runK 4 z4p c d:=by
 obtain⟨w,J,rfl⟩:=h9.mp h;intro ea;have R:iR1 [.int 13]=some (rngD 0 13):=n4 13 (by decide);have U:∀n,n<=100->Few n=True:=λn a=>eq_true (few (by lia));have cmp:=zna (tt:=fAnd (fTst (fIxV 2 (fVar 0))) (fTst (fIsx ea 3 true))) (te:=fIxV 1 (fVar 0)) (base:=[some (.sh (.lst (qz.map D.str))),some (.sh (.lst (l4.map λn=>D.bl (c==n)))),some (.sh (.exc ea))]) (λj:Nat=>D.int (0+(j:Int))) (λk=>D.str (qz.getD k "")) (λk=>c==l4.getD k "") (List.range 13) (λk I=>by
  have I:=i4.mp I;have V:atI (l4.map λn=>D.bl (c==n)) (0+(k:Int))=some (.bl (c==l4.getD k "")):=by
   rw[jp,kr (λn:Str=>D.bl (c==n)) (aw (show k<l4.length from I)),ci,aw (show k<l4.length from I)];rfl
  have Y:atI (qz.map D.str) (0+(k:Int))=some (.str (qz.getD k "")):=by
   rw[jp,kr D.str (aw (show k<qz.length from I)),ci,aw (show k<qz.length from I)];rfl
  generalize (l4.map λn=>D.bl (c==n))=KL at *;generalize qz.map D.str=WL at *;refine⟨[some (.sh (.int (0+(k:Int)))),some (.sh (.lst WL)),some (.sh (.lst KL)),some (.sh (.exc ea))],?_,λ_=>⟨_,by simp only[fIxV,fVar,ixSl,ae,ah,ac,ai,Y];rfl⟩⟩;generalize (c==l4.getD k "")=bb at *;cases bb <;> simp only[fAnd,fTst,fIxV,fVar,ixSl,fIsx,V,ae,ah,ac,ai,bx,if_false,if_true])
 rw[zy1 J] at cmp;have cmp:ny (fAnd (fTst (fIxV 2 (fVar 0))) (fTst (fIsx ea 3 true))) (fIxV 1 (fVar 0)) [some (.sh (.lst (qz.map D.str))),some (.sh (.lst (l4.map λn=>D.bl (c==n)))),some (.sh (.exc ea))] (rngD 0 13)=some [D.str w]:=cmp;have Z:(rngD 0 13).length=13:=rfl;refine⟨[some (.sh (.exc ea)),some (.sh (.lst (l4.map λn=>D.bl (c==n)))),some (.sh (.lst (qz.map D.str))),some (.sh (.lst [.str w]))],?_⟩;show z4p ea c [some (.sh (.exc ea)),none,none,none]=_;simp[l4,qz] at cmp ⊢;simp[z4p,fIsx,U,iw,R,Z,capt,cmp,bTup]
def ze7:FS:=sSeq (sIf (fTst (fBin dEq (pLen (.at (.ins false "House" gz)) 0 0) (fC (.int 0)))) (lp "NothingDone" (some)) (sNil)) (sSeq (iy (pPop (.at (.ins false "House" gz)) 0 1)) (sRet (pPop (.at (.ins false "House" gz)) 0 0)))
def ze8:np->mu->nq:=runL 1 1 0 ze7
def zw:np->mu->Option (Str×np):=xL 1 1 0 ze7
def sf:FS:=sSeq (sIf (fTst (fBin dEq (fIxV 1 (fC (.int 0))) (fC (.str "put")))) (sXp (xK (.ins false "House" gz) 0 (m8 zj [0] (ao (fIxV 1 (fC (.int 1))) (ao (fIxV 1 (fC (.int 2))) (ao (fIxV 1 (fC (.int 3))) (fNil)))))) (sRet (fK (.ins false "House" gz) 0 (lb zgb [0] (ao (fIxV 1 (fC (.int 1))) (ao (fIxV 1 (fC (.int 2))) (ao (fIxV 1 (fC (.int 3))) (fNil)))))))) (sNil)) (sSeq (sIf (fTst (fBin dEq (fIxV 1 (fC (.int 0))) (fC (.str "tell")))) (sXp (xK (.ins false "House" gz) 0 (m8 zm [0] (ao (fIxV 1 (fC (.int 1))) (ao (fIxV 1 (fC (.int 2))) (ao (fIxV 1 (fC (.int 3))) (fNil)))))) (sRet (fK (.ins false "House" gz) 0 (lb ze6 [0] (ao (fIxV 1 (fC (.int 1))) (ao (fIxV 1 (fC (.int 2))) (ao (fIxV 1 (fC (.int 3))) (fNil)))))))) (sNil)) (sSeq (sIf (fTst (fBin dEq (fIxV 1 (fC (.int 0))) (fC (.str "go")))) (sXp (xK (.ins false "House" gz) 0 (m8 ze [0] (ao (fIxV 1 (fC (.int 1))) (fNil)))) (sRet (fK (.ins false "House" gz) 0 (lb zhg [0] (ao (fIxV 1 (fC (.int 1))) (fNil)))))) (sNil)) (sSeq (sIf (fTst (fBin dEq (fIxV 1 (fC (.int 0))) (fC (.str "dry")))) (sXp (xK (.ins false "House" gz) 0 (m8 zh [0] (fNil))) (sRet (fK (.ins false "House" gz) 0 (lb zgd [0] (fNil))))) (sNil)) (sXp (xK (.ins false "House" gz) 0 (m8 zw [0] (fNil))) (sRet (fK (.ins false "House" gz) 0 (lb ze8 [0] (fNil))))))))
def zja:np->mu->nq:=runL 2 1 1 sf
def zd:np->mu->Option (Str×np):=xL 2 1 1 sf
def zhv:FS:=sSeq (sSet 2 (fTup (ao (fC (.str "refused")) (ao (fC (.str "")) (fNil))))) (sSeq (sTry (sXp (m8 zd [0] (ao (fVar 1) (fNil))) (sRet (lb zja [0] (ao (fVar 1) (fNil))))) 3 2 kdT) (sRet (fVar 2)))
def ug:np->mu->nq:=runL 4 1 1 zhv
def zsp:np->mu->Option (Str×np):=xL 4 1 1 zhv
def zb:FS:=sSeq (wy 1 [3,4,5,6]) (sSeq (sSet 7 (du zd6 (ao (fVar 3) (ao (pLen (.al 4) 1 1) (ao (fVar 2) (fNil)))))) (sSeq (sSet 8 (lb ug [0] (ao (fVar 2) (fNil)))) (sSeq (sIf (fTst (fBin dNe (fVar 7) (fC (.str "")))) (sRet (du vf (ao (fVar 8) (ao (fTup (ao (fC (.str "refused")) (ao (fVar 7) (fNil)))) (fNil))))) (sNil)) (sSeq (sIf (fTst (fBin dEq (fIxV 2 (fC (.int 0))) (fC (.str "back")))) (sSeq (sSet 9 (pPop (.al 5) 1 2)) (sSeq (tz 1 0 (fIxV 9 (fC (.int 0)))) (sSeq (tz 1 3 (fIxV 9 (fC (.int 1)))) (sRet (du vf (ao (fVar 8) (ao (pPop (.al 4) 1 1) (fNil)))))))) (sNil)) (sSeq (sSet 10 (du ue (ao (fVar 3) (ao (fVar 2) (ao (fFrz false (fBin gn (fC (.int 1)) (du bLen (ao (fLst (iw (fiS (fVar 4)) [] (fTst (fBin dEq (fIxV 0 (fC (.int 0))) (fC (.str "put")))) (fVar 0))) (fNil))))) (fNil)))))) (sSeq (iy (t9 (.al 5) 1 2 (fTup (ao (fVar 3) (ao (fVar 6) (fNil)))))) (sSeq (iy (t9 (.al 4) 1 1 (fVar 2))) (sSeq (tz 1 0 (fIxV 10 (fC (.int 0)))) (sSeq (sIf (fTst (fBin dEq (fIxV 2 (fC (.int 0))) (fC (.str "dry")))) (sSeq (sSet 11 (du bLen (ao (du zhs (ao (fVar 6) (fNil))) (fNil)))) (tz 1 3 (fLst (fCat (fVar 6) (fLst (fu (ao (fTup (ao (fVar 11) (ao (fBin gn (fVar 11) (fBin dIx (fIxV 10 (fC (.int 1))) (fC (.int 1)))) (ao (du zi2 (ao (fVar 3) (fNil))) (fNil))))) (fNil)))))))) (sNil)) (sRet (du z7 (ao (fVar 8) (ao (fIxV 10 (fC (.int 1))) (fNil))))))))))))))
def r8:np->mu->nq:=runL 12 2 1 zb
def zwb:np->mu->Option (Str×np):=xL 12 2 1 zb
variable{ags:np}
def ya{p:Nat}{t:np}(h1:ags.length=p)(h2:ds.length=ar)(D:g (ke n ags ds)=some (.xc c,e))(I:outA e 0 (List.range p)=some t):xL n p ar g ags ds=some (c,t):=by
 unfold xL;rw[if_pos ⟨h1,h2⟩,D];dsimp only;rw[I];rfl
variable{a:Int}
theorem yag{l:Int}(D:putX s.1 k.length a h l=some c)(d:s.1.length<=5):zj [hA k (p++[s])] [.int a,.int h,.int l]=some (c,[hA k (p++[s])]):=by
 have I:=qm (k:=k) (p:=p) (s:=s);have U:ke 7 [hA k (p++[s])] [.int a,.int h,.int l]=[some (.ag kH (some 0) (hP k (p++[s]))),some (.sh (.int a)),some (.sh (.int h)),some (.sh (.int l)),none,none,none]:=rfl;have k5:=wd (k.map dD);rw[af] at k5;refine ya (e:=[some (.ag kH (some 0) (hP k (p++[s]))),some (.sh (.int a)),some (.sh (.int h)),some (.sh (.int l)),some (.sh (ssL s.1)),none,none]) rfl rfl ?_ rfl;rw[U];unfold putX at D;have J:=zyx s.1 (by lia);split at D
 ·cases D
  rename_i V;have k1:=ztx (ss:=s.1) (a:=a) V;simp[u7,fK0,cQ0,m7,I,mq,k1]
 have k1:=y0 (ss:=s.1) (a:=a) (by lia) (by lia);split at D
 ·cases D
  rename_i Y;have k2:=z41 (h:=h) Y;simp[u7,fK0,cQ0,m7,I,mq,my,k1,k2]
 have k2:=zu7 (h:=h) (by lia) (by lia);split at D
 ·cases D
  rename_i Z;have k3:=z2q (h:=l) Z;simp[u7,fK0,cQ0,m7,I,mq,my,k1,k2,k3]
 have k3:=zq0 (h:=l) (by lia) (by lia);split at D
 ·rename_i R
  rw[if_pos R] at J;split at D
  ·cases D
  ·cases D
   rename_i b;rw[if_neg b] at k5;simp[u7,fK0,cQ0,m7,I,mq,my,k1,k2,k3,J,xFrz,vj,k5]
 ·cases D
  rename_i R;rw[if_neg R] at J;simp[u7,fK0,cQ0,m7,I,mq,my,k1,k2,k3,J]
def vi(ss:nw)(n:Nat)(a m l:Int):k9:=if a<1\/(ss.length:Int)<a then some "UnknownStack" else if (ss.getD (a.toNat-1) []).length=0 then some "EmptyStack" else if m<1\/((ss.getD (a.toNat-1) []).length:Int)<m then some "UnknownPlace" else if l<0\/100<l then some "BadLoss" else if n<60 then none else some "DeedsFull"
def goX(ss:nw)(n:Nat)(a:Int):k9:=if a<1\/(ss.length:Int)<a then some "UnknownStack" else if (ss.getD (a.toNat-1) []).length=0 then some "EmptyStack" else if n<60 then none else some "DeedsFull"
def dryX(ss:nw)(n:Nat):k9:=if 0<ss.flatten.length then(if n<60 then none else some "DeedsFull") else some "NothingWaits"
theorem vy(h:¬(a<1\/(ss.length:Int)<a)):ss[a.toNat-1]?=some (ss.getD (a.toNat-1) []):=by
 rw[ci,aw (by lia)];rfl
theorem go_x(D:goX s.1 k.length a=some c)(V:s.1.length<=5):ze [hA k (p++[s])] [.int a]=some (c,[hA k (p++[s])]):=by
 have I:=qm (k:=k) (p:=p) (s:=s);have k5:=wd (k.map dD);rw[af] at k5;refine ya (e:=[some (.ag kH (some 0) (hP k (p++[s]))),some (.sh (.int a)),some (.sh (ssL s.1))]) rfl rfl ?_ rfl;rw[show ke 3 [hA k (p++[s])] [.int a]=[some (.ag kH (some 0) (hP k (p++[s]))),some (.sh (.int a)),none] from rfl];unfold goX at D;split at D
 ·cases D
  rename_i J;have k1:=ztx (ss:=s.1) (a:=a) J;simp[xv,fK0,cQ0,m7,I,mq,my,k1]
 rename_i J;have k1:=y0 (ss:=s.1) (a:=a) (by lia) (by lia);have k2:=zq3 (vy J) (by lia) (by lia);rw[show((a.toNat:Nat):Int)=a by lia] at k2;split at D
 ·cases D
  rename_i R;rw[if_pos R] at k2;simp[xv,fK0,cQ0,m7,I,mq,my,k1,k2]
 rename_i R;rw[if_neg R] at k2;split at D
 ·cases D
 ·cases D
  rename_i U;rw[if_neg U] at k5;simp[xv,fK0,cQ0,m7,I,mq,my,k1,k2,xFrz,vj,k5]
theorem z8s{m l:Int}(I:vi s.1 k.length a m l=some c)(i:s.1.length<=5):zm [hA k (p++[s])] [.int a,.int m,.int l]=some (c,[hA k (p++[s])]):=by
 have J:=qm (k:=k) (p:=p) (s:=s);have k5:=wd (k.map dD);rw[af] at k5;have d:ke 8 [hA k (p++[s])] [.int a,.int m,.int l]=[some (.ag kH (some 0) (hP k (p++[s]))),some (.sh (.int a)),some (.sh (.int m)),some (.sh (.int l)),none,none,none,none]:=rfl;suffices V:∃e,uf (ke 8 [hA k (p++[s])] [.int a,.int m,.int l])=some (.xc c,[some (.ag kH (some 0) (hP k (p++[s]))),some (.sh (.int a)),some (.sh (.int m)),some (.sh (.int l)),some (.sh (ssL s.1)),e,none,none]) from let ⟨_,V⟩:=V;ya rfl rfl V rfl;rw[d];unfold vi at I;split at I
 ·cases I
  rename_i R;have k1:=ztx (ss:=s.1) (a:=a) R;exact⟨_,by simp[uf,fK0,cQ0,m7,J,mq,my,k1];rfl⟩
 rename_i R;have k1:=y0 (ss:=s.1) (a:=a) (by lia) (by lia);have k2:=zq3 (vy R) (by lia) (by lia);have U:=tx (vy R) (by lia);rw[show((a.toNat:Nat):Int)=a by lia] at k2 U;split at I
 ·cases I
  rename_i Y;rw[if_pos Y] at k2;generalize ssL s.1=SL at *;exact⟨_,by simp[uf,fK0,cQ0,m7,J,mq,my,k1,k2];rfl⟩
 rename_i Y;rw[if_neg Y] at k2;have k3:=zvf (t:=s.1.getD (a.toNat-1) []) (m:=m);unfold ssL at *;split at I
 ·cases I
  rename_i Z;rw[if_pos Z] at k3;generalize (s.1.getD (a.toNat-1) []).map sD=TL at *;exact⟨_,by simp[uf,fK0,cQ0,m7,J,mq,my,k1,k2,U,k3];rfl⟩
 rename_i Z;rw[if_neg Z] at k3;generalize (s.1.getD (a.toNat-1) []).map sD=TL at *;generalize (s.1.map λs=>D.lst (s.map sD))=SL at *;split at I
 ·cases I
  rename_i f;have b:=z2q (h:=l) f;exact⟨_,by simp[uf,fK0,cQ0,m7,J,mq,my,k1,k2,U,k3,b];rfl⟩
 have b:=zq0 (h:=l) (by lia) (by lia);split at I
 ·cases I
 ·cases I
  rename_i g;rw[if_neg g] at k5;exact⟨_,by simp[uf,fK0,cQ0,m7,J,mq,my,k1,k2,U,k3,b,xFrz,vj,k5];rfl⟩
theorem yah(D:dryX s.1 k.length=some c)(U:s.1.length<=5):zh [hA k (p++[s])] []=some (c,[hA k (p++[s])]):=by
 have J:=qm (k:=k) (p:=p) (s:=s);have k5:=wd (k.map dD);rw[af] at k5;have k1:=zvb s.1 (by lia);refine ya (e:=[some (.ag kH (some 0) (hP k (p++[s]))),some (.sh (ssL s.1)),none,none,none,none]) rfl rfl ?_ rfl;rw[show ke 6 [hA k (p++[s])] []=[some (.ag kH (some 0) (hP k (p++[s]))),none,none,none,none,none] from rfl];unfold dryX at D;split at D
 ·rename_i I
  rw[if_pos I] at k1;split at D
  ·cases D
  ·cases D
   rename_i R;rw[if_neg R] at k5;simp[zi,fK0,cQ0,m7,J,mq,my,k1,xFrz,vj,k5]
 ·cases D
  rename_i I;rw[if_neg I] at k1;simp[zi,fK0,cQ0,m7,J,mq,my,k1]
def zq4(D:ps[j]?=some (.o ds)):lj (.at kH) 0 j (some (.ag kH (some 0) ps)::e)=some ds:=zqx rfl D
variable{s':Hs}
theorem z5d{d:Deed}:zw [hA (k++[d]) (p++[s]++[s'])] []=none/\ze8 [hA (k++[d]) (p++[s]++[s'])] []=some (dD d,[hA k (p++[s])]):=by
 have R:ke 1 [hA (k++[d]) (p++[s]++[s'])] []=[some (.ag kH (some 0) (hP (k++[d]) (p++[s]++[s'])))]:=rfl;have h1:lj (.at kH) 0 0 [some (.ag kH (some 0) (hP (k++[d]) (p++[s]++[s'])))]=some (k.map dD++[dD d]):=by rw[zq4 (j:=0) rfl];simp
 have h2:lj (.at kH) 0 1 [some (.ag kH (some 0) (hP (k++[d]) (p++[s]++[s'])))]=some ((p++[s]).map stD++[stD s']):=by rw[zq4 (j:=1) rfl];simp
 have I:ze7 (ke 1 [hA (k++[d]) (p++[s]++[s'])] [])=some (.rt (dD d),[some (.ag kH (some 0) (hP k (p++[s])))]):=by
  rw[R];have U:∀(l:mu) (x:D),(l++[x])[(l++[x]).length-1]?=some x:=λl x=>by simp
  have V:∀(l:mu) (x:D),(l++[x]).dropLast=l:=λl x=>by simp
  have Y:¬(((k.map dD++[dD d]).length:Nat):Int)=0:=by simp;lia
  have J:lj (.at kH) 0 0 [some (.ag kH (some 0) [.o (k.map dD++[dD d]),.o ((p++[s]).map stD)])]=some (k.map dD++[dD d]):=zq4 (j:=0) rfl;unfold hP at *;rw[show((k++[d]).map dD)=k.map dD++[dD d] by simp,show((p++[s]++[s']).map stD)=(p++[s]).map stD++[stD s'] by simp] at *;generalize (p++[s]).map stD=PL at *;simp only[ze7,sSeq,sIf,fTst,fBin,pLen,h1,ai,ac,fC,dEq,Y,decide_false,bx,if_false,sNil,iy,pPop,ae,h2,U,V,setP,av,au,J,sRet]
 exact⟨by unfold zw xL;rw[if_pos ⟨rfl,rfl⟩,I],by unfold ze8 runL;rw[if_pos ⟨rfl,rfl⟩,I];rfl⟩
def z8t:zw [hA [] p] []=some (("NothingDone" : Str),[hA [] p]):=by
 have h1:lj (.at kH) 0 0 [some (.ag kH (some 0) (hP [] p))]=some []:=zq4 (j:=0) rfl;refine ya (e:=[some (.ag kH (some 0) (hP [] p))]) rfl rfl ?_ rfl;rw[show ke 1 [hA [] p] []=[some (.ag kH (some 0) (hP [] p))] from rfl];simp[ze7,pLen,h1,show(((0:Nat):Int)=0) from rfl,lp]
inductive Cmd where
 | d (x:Deed) | back
def cD:Cmd->D
 | .d x=>dD x
 | .back=>.tup [.str "back"]
def cmdX(ss:nw)(n:Nat):Cmd->k9
 | .d (.put a h l)=>putX ss n a h l
 | .d (.tell a m l)=>vi ss n a m l
 | .d (.go a)=>goX ss n a
 | .d .dry=>dryX ss n
 | .back=>if n=0 then some "NothingDone" else none
def dueW(o:k9):Str:=match o with | none=>"" | some c=>(yo c).getD ""
theorem z1o(R:ss.length<=1000)(e:DE0):du bSum (ao (fLst (iw (fiS (fVar 0)) [] fYes (gy 0))) fNil) (some (.sh (ssL ss))::e)=some (.int (ss.flatten.length:Int),some (.sh (ssL ss))::e):=by
 have c:=oh (te:=gy 0) (base:=[]) (λs:nu=>D.lst (s.map sD)) (λs:nu=>D.int (s.length:Int)) ss λs _=>⟨_,by simp;rfl⟩;have I:=xl (λs:nu=>(s.length:Int)) ss;have J:Few (ss.map λs=>D.lst (s.map sD)).length:=few (by rw[af];lia);rw[zyq] at I;unfold ssL;generalize (ss.map λs=>D.lst (s.map sD))=L at *;simp only[du,ao,fLst,iw,fiS,fVar,fNil,ae,ac,ai,J,if_true,dc,c,I]
def Rt(r:Option (Fl×DE0))(x:Str):Prop:=∃e',r=some (.rt (.str x),e')
section
variable {c p q:FT} {f g:FE} {u v w:FS} {e:DE0} {i:Nat} {d:D} {x y:Str} {A B:Prop} [Decidable A] [Decidable B] {a b:Int}
def setT(h:f e=some (d,e))(k:Rt (u (e.set i (some (.sh d)))) x):Rt (sSeq (sSet i f) u e) x:=by
 rw[show sSeq (sSet i f) u e=u (e.set i (some (.sh d))) by simp[h]];exact k
def ifN(h:c e=some (false,e))(k:Rt (sSeq v w e) x):Rt (sSeq (sIf c u v) w e) x:=by
 rw[show sSeq (sIf c u v) w e=sSeq v w e by simp[h]];exact k
def ifP(h:c e=some (true,e))(k:Rt (sSeq u w e) x):Rt (sSeq (sIf c u v) w e) x:=by
 rw[show sSeq (sIf c u v) w e=sSeq u w e by simp[h]];exact k
def ifT(h:c e=some (decide A,e))(k:A->y=x)(k':¬A->Rt (sSeq v w e) x):Rt (sSeq (sIf c (sRet (fC (.str y))) v) w e) x:=by
 by_cases z:A
 ·exact⟨e,by simp[h,z,k z]⟩
 ·exact ifN (by rw[h,decide_eq_false z]) (k' z)
def ifN0(h:c e=some (false,e))(k:Rt (w e) x):Rt (sSeq (sIf c u sNil) w e) x:=ifN h k
def ifT0(h:c e=some (decide A,e))(k:A->y=x)(k':¬A->Rt (w e) x):Rt (sSeq (sIf c (sRet (fC (.str y))) sNil) w e) x:=ifT h k k'
def orq(h:p e=some (decide A,e))(h':¬A->q e=some (decide B,e)):fOr p q e=some (decide (A\/B),e):=by
 by_cases z:A
 ·simp[h,z]
 ·simp[h,h' z,z]
def andF(h:p e=some (false,e)):fAnd p q e=some (false,e):=by simp[h]
def andT(h:p e=some (true,e)):fAnd p q e=q e:=by simp[h]
def ltq(h:f e=some (.int a,e))(h':g e=some (.int b,e)):fTst (fBin dLt f g) e=some (decide (a<b),e):=by simp[h,h']
def gtq(h:f e=some (.int a,e))(h':g e=some (.int b,e)):fTst (fBin dGt f g) e=some (decide (b<a),e):=by simp[h,h']
def geq(h:f e=some (.int a,e))(h':g e=some (.int b,e)):fTst (fBin dGe f g) e=some (decide (b<=a),e):=by simp[h,h']
def eqq(h:f e=some (.int a,e))(h':g e=some (.int b,e)):fTst (fBin dEq f g) e=some (decide (a=b),e):=by simp[h,h']
end
def sne:(("put" : Str) = "back")=False/\(("put" : Str) = "dry")=False/\(("put" : Str) = "tell")=False/\(("tell" : Str) = "back")=False/\(("tell" : Str) = "dry")=False/\(("tell" : Str) = "put")=False/\(("go" : Str) = "back")=False/\(("go" : Str) = "dry")=False/\(("go" : Str) = "put")=False/\(("go" : Str) = "tell")=False/\(("dry" : Str) = "back")=False/\(("dry" : Str) = "put")=False/\(("dry" : Str) = "tell")=False:=by
 refine⟨?_,?_,?_,?_,?_,?_,?_,?_,?_,?_,?_,?_,?_⟩ <;> exact eq_false (by decide)
variable{x:Str}
def at_4{x y z w:D}:atI [x,y,z,w] 0=some x/\atI [x,y,z,w] 1=some y/\atI [x,y,z,w] 2=some z/\atI [x,y,z,w] 3=some w:=⟨rfl,rfl,rfl,rfl⟩
theorem zko(ss:nw)(n:Nat)(c:Cmd)(j:ss.length<=5):zd6 [ssL ss,.int (n:Int),cD c]=some (.str (dueW (cmdX ss n c))):=by
 have V:=λe=>z1o (ss:=ss) (by lia) e;suffices J:Rt (zk0 [some (.sh (ssL ss)),some (.sh (.int (n:Int))),some (.sh (cD c)),none]) (dueW (cmdX ss n c)) from let ⟨_,J⟩:=J;jl rfl J;have I:∀(d w:D),Rt (sSeq (sIf (fTst (fBin dGe (fVar 1) (fC (.int 60)))) (sRet (fC (.str "deeds full"))) (sNil)) (sRet (fC (.str ""))) [some (.sh (ssL ss)),some (.sh (.int (n:Int))),some (.sh d),some (.sh w)]) (dueW (if n<60 then none else some "DeedsFull")):=λd w =>
  ifT0 (geq rfl rfl) (λh=>by rw[if_neg (by lia)];rfl) λh=>by rw[if_pos (by lia)];exact⟨_,rfl⟩
 have R:∀r:DE0,gy 0 (some (.sh (ssL ss))::r)=some (.int (ss.length:Int),some (.sh (ssL ss))::r):=λr=>by unfold ssL;simp
 have len1:∀(d:D) (w:D) (a:Int),fIxV 2 (fC (.int 1)) [some (.sh (ssL ss)),some (.sh (.int (n:Int))),some (.sh d),some (.sh w)]=some (.int a,[some (.sh (ssL ss)),some (.sh (.int (n:Int))),some (.sh d),some (.sh w)])->¬(a<1\/(ss.length:Int)<a)->du bLen (ao (fIxV 0 (fBin dSub (fIxV 2 (fC (.int 1))) (fC (.int 1)))) fNil) [some (.sh (ssL ss)),some (.sh (.int (n:Int))),some (.sh d),some (.sh w)]=some (.int ((ss.getD (a.toNat-1) []).length:Int),[some (.sh (ssL ss)),some (.sh (.int (n:Int))),some (.sh d),some (.sh w)]):=λd w a h Y=>by
  have g:=tx (vy Y) (by lia);rw[show((a.toNat:Nat):Int)=a by lia] at g;have U:∀F:FE,F [some (.sh (ssL ss)),some (.sh (.int (n:Int))),some (.sh d),some (.sh w)]=some (.int (a-1),[some (.sh (ssL ss)),some (.sh (.int (n:Int))),some (.sh d),some (.sh w)])->du bLen (ao (fIxV 0 F) fNil) [some (.sh (ssL ss)),some (.sh (.int (n:Int))),some (.sh d),some (.sh w)]=some (.int ((ss.getD (a.toNat-1) []).length:Int),[some (.sh (ssL ss)),some (.sh (.int (n:Int))),some (.sh d),some (.sh w)]):=λF Z=>by
   unfold ssL at *;simp only[du,ao,fIxV,Z,fNil,ixSl,ae,g,bLen,ac,ai,af]
  refine U _ ?_;simp only[fBin,h,fC,dSub,ac,ai]
 cases c with
 | back =>
   refine setT (d:=.str "back") rfl ?_;by_cases z:n=0
   ·subst z;exact⟨_,rfl⟩
   ·have b:((n:Int)=0)=False:=eq_false (by lia)
    refine⟨[some (.sh (ssL ss)),some (.sh (.int (n:Int))),some (.sh (cD .back)),some (.sh (.str "back"))],?_⟩;rw[show dueW (cmdX ss n .back) = "" by unfold cmdX;rw[if_neg z];rfl];generalize ssL ss=SL at *;have f:dIx (.lst [.str "",.str "nothing done"]) (.int 0)=some (.str ""):=rfl;simp only[sSeq,sIf,fTst,fBin,fVar,fC,dEq,av,au,ah,ae,ac,ai,decide_true,if_true,sRet,fLst,fu,ao,fNil,du,ak,bq,show 0+1+1<=64 by decide,b,decide_false,bInt,f];rfl
 | d x =>
   cases x with
   | dry =>
     refine setT (d:=.str "dry") rfl (ifN0 (by rfl) (ifP (by rfl) ?_));show Rt _ (dueW (dryX ss n));unfold dryX;refine ifT0 (by exact eqq (V _) rfl) (λz=>by rw[if_neg (by lia)];rfl) λz=>?_;rw[if_pos (by lia)];refine ifN0 (by exact andF rfl) (ifN0 (by exact andF rfl) (ifN0 (by exact andF rfl) (ifN0 (by exact andF rfl) ?_)));exact I _ _
   | put a h l =>
     refine setT (d:=.str "put") rfl (ifN0 (by rfl) (ifN (by rfl) ?_));show Rt _ (dueW (putX ss n a h l));unfold putX;refine ifT (by exact orq (ltq (a:=a) rfl rfl) λ_=>gtq (a:=a) rfl (R _)) (λz=>by rw[if_pos z];rfl) λz=>?_;rw[if_neg z];refine ifN0 (by exact andF rfl) (ifN0 (by exact andF rfl) ?_);refine ifT0 (by exact(andT rfl).trans (orq (ltq (a:=h) rfl rfl) λ_=>gtq (a:=h) rfl rfl)) (λz=>by rw[if_pos z];rfl) λz=>?_;rw[if_neg z];refine ifT0 (by exact(andT rfl).trans (orq (ltq (a:=l) rfl rfl) λ_=>gtq (a:=l) rfl rfl)) (λz=>by rw[if_pos z];rfl) λz=>?_;rw[if_neg z];refine ifT0 (by exact(andT rfl).trans (geq (V _) rfl)) (λz=>by rw[if_neg (by lia)];rfl) λz=>?_;rw[if_pos (by lia)];exact I _ _
   | tell a m l =>
     refine setT (d:=.str "tell") rfl (ifN0 (by rfl) (ifN (by rfl) ?_));show Rt _ (dueW (vi ss n a m l));unfold vi;refine ifT (by exact orq (ltq (a:=a) rfl rfl) λ_=>gtq (a:=a) rfl (R _)) (λz=>by rw[if_pos z];rfl) λz=>?_;rw[if_neg z];refine ifT0 (by exact(andT rfl).trans (eqq (len1 _ _ a rfl z) rfl)) (λz=>by rw[if_pos (by lia)];rfl) λi=>?_;rw[if_neg (by lia)];refine ifT0 (by exact(andT rfl).trans (orq (ltq (a:=m) rfl rfl) λ_=>gtq (a:=m) rfl (len1 _ _ a rfl z))) (λz=>by rw[if_pos z];rfl) λz=>?_;rw[if_neg z];refine ifN0 (by exact andF rfl) ?_;refine ifT0 (by exact(andT rfl).trans (orq (ltq (a:=l) rfl rfl) λ_=>gtq (a:=l) rfl rfl)) (λz=>by rw[if_pos z];rfl) λz=>?_;rw[if_neg z];refine ifN0 (by exact andF rfl) ?_;exact I _ _
   | go a =>
     refine setT (d:=.str "go") rfl (ifN0 (by rfl) (ifN (by rfl) ?_));show Rt _ (dueW (goX ss n a));unfold goX;refine ifT (by exact orq (ltq (a:=a) rfl rfl) λ_=>gtq (a:=a) rfl (R _)) (λz=>by rw[if_pos z];rfl) λz=>?_;rw[if_neg z];refine ifT0 (by exact(andT rfl).trans (eqq (len1 _ _ a rfl z) rfl)) (λz=>by rw[if_pos (by lia)];rfl) λi=>?_;rw[if_neg (by lia)];refine ifN0 (by exact andF rfl) (ifN0 (by exact andF rfl) (ifN0 (by exact andF rfl) (ifN0 (by exact andF rfl) ?_)));exact I _ _
def askX:Cmd->np->mu->Option (Str×np)
 | .d (.put _ _ _)=>zj | .d (.tell _ _ _)=>zm | .d (.go _)=>ze | .d .dry=>zh | .back=>zw
def askM:Cmd->np->mu->nq
 | .d (.put _ _ _)=>zgb | .d (.tell _ _ _)=>ze6 | .d (.go _)=>zhg | .d .dry=>zgd | .back=>ze8
def askD:Cmd->mu
 | .d (.put a h l)=>[.int a,.int h,.int l] | .d (.tell a m l)=>[.int a,.int m,.int l] | .d (.go a)=>[.int a] | _=>[]
def xm{p:Nat}{t:np}(h1:ags.length=p)(h2:ds.length=ar)(D:g (ke n ags ds)=some (.rt d,e))(I:outA e 0 (List.range p)=some t):runL n p ar g ags ds=some (d,t)/\xL n p ar g ags ds=none:=by
 unfold runL xL;rw[if_pos ⟨h1,h2⟩,if_pos ⟨h1,h2⟩,D];dsimp only;rw[I];exact⟨rfl,rfl⟩
def xask(D:F (some (.ag kH l ps)::e)=some (ds,some (.ag kH l ps)::e))(I:m [(kH,ps)] ds=some (x,[(kH,ps')])):xK kH 0 (m8 m [0] F) (some (.ag kH l ps)::e)=some (x,some (.ag kH l ps')::e):=by
 rw[z8o (i:=0) rfl];exact zu8 (i:=0) rfl D I
def xasn(D:F (some (.ag kH l ps)::e)=some (ds,some (.ag kH l ps)::e))(I:m [(kH,ps)] ds=none):xK kH 0 (m8 m [0] F) (some (.ag kH l ps)::e)=none:=by
 rw[z8o (i:=0) rfl];exact zu9 (i:=0) rfl D I
variable{m:np->mu->nq}
def mask{x:D}(I:F (some (.ag kH l ps)::e)=some (ds,some (.ag kH l ps)::e))(J:m [(kH,ps)] ds=some (x,[(kH,ps')])):fK kH 0 (lb m [0] F) (some (.ag kH l ps)::e)=some (x,some (.ag kH l ps')::e):=by
 rw[z40 (i:=0) rfl];exact yu (i:=0) rfl I J
def yai(c:Cmd)(h:askX c [(kH,ps)] (askD c)=some (x,[(kH,ps')])):zd [(kH,ps)] [cD c]=some (x,[(kH,ps')]):=by
 refine ya (e:=[some (.ag kH (some 0) ps'),some (.sh (cD c))]) rfl rfl ?_ rfl;rw[show ke 2 [(kH,ps)] [cD c]=[some (.ag kH (some 0) ps),some (.sh (cD c))] from rfl];have sn:=sne;cases c with
 | back =>
   have R:atI [D.str "back"] 0=some (.str "back"):=rfl;have J:(("back" : Str) = "put")=False/\(("back" : Str) = "tell")=False/\(("back" : Str) = "go")=False/\(("back" : Str) = "dry")=False:=by refine⟨?_,?_,?_,?_⟩ <;> exact eq_false (by decide)
   have q:=xask (l:=some 0) (F:=fNil) (e:=[some (.sh (cD .back))]) rfl h;simp only[cD,askX] at q ⊢;simp only[sf,sSeq,sIf,fTst,fBin,fIxV,ixSl,fC,dEq,ae,ah,ac,ai,decide_false,bx,if_false,sNil,sXp,sRet, *]
 | d y =>
   cases y with
   | put a b z =>
     have I:=at_4 (x:=D.str "put") (y:=.int a) (z:=.int b) (w:=.int z);have q:=xask (l:=some 0) (F:=ao (fIxV 1 (fC (.int 1))) (ao (fIxV 1 (fC (.int 2))) (ao (fIxV 1 (fC (.int 3))) fNil))) (e:=[some (.sh (cD (.d (.put a b z))))]) rfl h;simp only[cD,dD,askX] at q ⊢;simp only[sf,sSeq,sIf,fTst,fBin,fIxV,ixSl,fC,dEq,ae,ah,ac,ai,decide_true,if_true,sNil,sXp,sRet, *]
   | tell a b z =>
     have I:=at_4 (x:=D.str "tell") (y:=.int a) (z:=.int b) (w:=.int z);have q:=xask (l:=some 0) (F:=ao (fIxV 1 (fC (.int 1))) (ao (fIxV 1 (fC (.int 2))) (ao (fIxV 1 (fC (.int 3))) fNil))) (e:=[some (.sh (cD (.d (.tell a b z))))]) rfl h;simp only[cD,dD,askX] at q ⊢;simp only[sf,sSeq,sIf,fTst,fBin,fIxV,ixSl,fC,dEq,ae,ah,ac,ai,decide_true,decide_false,bx,if_false,if_true,sNil,sXp,sRet, *]
   | go a =>
     have I:atI [D.str "go",.int a] 0=some (.str "go"):=rfl;have q:=xask (l:=some 0) (F:=ao (fIxV 1 (fC (.int 1))) fNil) (e:=[some (.sh (cD (.d (.go a))))]) rfl h;simp only[cD,dD,askX] at q ⊢;simp only[sf,sSeq,sIf,fTst,fBin,fIxV,ixSl,fC,dEq,ae,ah,ac,ai,decide_true,decide_false,bx,if_false,if_true,sNil,sXp,sRet, *]
   | dry =>
     have I:atI [D.str "dry"] 0=some (.str "dry"):=rfl;have J:(("dry" : Str) = "go")=False:=eq_false (by decide);have q:=xask (l:=some 0) (F:=fNil) (e:=[some (.sh (cD (.d .dry)))]) rfl h;simp only[cD,dD,askX] at q ⊢;simp only[sf,sSeq,sIf,fTst,fBin,fIxV,ixSl,fC,dEq,ae,ah,ac,ai,decide_true,decide_false,bx,if_false,if_true,sNil,sXp,sRet, *]
def yaj(c:Cmd)(J:askX c [(kH,ps)] (askD c)=none)(h:askM c [(kH,ps)] (askD c)=some (d,[(kH,ps')])):zja [(kH,ps)] [cD c]=some (d,[(kH,ps')])/\zd [(kH,ps)] [cD c]=none:=by
 refine xm (e:=[some (.ag kH (some 0) ps'),some (.sh (cD c))]) rfl rfl ?_ rfl;rw[show ke 2 [(kH,ps)] [cD c]=[some (.ag kH (some 0) ps),some (.sh (cD c))] from rfl];have sn:=sne;cases c with
 | back =>
   have V:atI [D.str "back"] 0=some (.str "back"):=rfl;have U:(("back" : Str) = "put")=False/\(("back" : Str) = "tell")=False/\(("back" : Str) = "go")=False/\(("back" : Str) = "dry")=False:=by refine⟨?_,?_,?_,?_⟩ <;> exact eq_false (by decide)
   have I:=xasn (l:=some 0) (F:=fNil) (e:=[some (.sh (cD .back))]) rfl J;have q:=mask (l:=some 0) (F:=fNil) (e:=[some (.sh (cD .back))]) rfl h;simp only[cD,askX,askM] at I q ⊢;simp only[sf,sSeq,sIf,fTst,fBin,fIxV,ixSl,fC,dEq,ae,ah,ac,ai,decide_false,bx,if_false,sNil,sXp,sRet, *]
 | d y =>
   cases y with
   | put a b z =>
     have R:=at_4 (x:=D.str "put") (y:=.int a) (z:=.int b) (w:=.int z);have I:=xasn (l:=some 0) (F:=ao (fIxV 1 (fC (.int 1))) (ao (fIxV 1 (fC (.int 2))) (ao (fIxV 1 (fC (.int 3))) fNil))) (e:=[some (.sh (cD (.d (.put a b z))))]) rfl J;have q:=mask (l:=some 0) (F:=ao (fIxV 1 (fC (.int 1))) (ao (fIxV 1 (fC (.int 2))) (ao (fIxV 1 (fC (.int 3))) fNil))) (e:=[some (.sh (cD (.d (.put a b z))))]) rfl h;simp only[cD,dD,askX,askM] at I q ⊢;simp only[sf,sSeq,sIf,fTst,fBin,fIxV,ixSl,fC,dEq,ae,ah,ac,ai,decide_true,if_true,sNil,sXp,sRet, *]
   | tell a b z =>
     have R:=at_4 (x:=D.str "tell") (y:=.int a) (z:=.int b) (w:=.int z);have I:=xasn (l:=some 0) (F:=ao (fIxV 1 (fC (.int 1))) (ao (fIxV 1 (fC (.int 2))) (ao (fIxV 1 (fC (.int 3))) fNil))) (e:=[some (.sh (cD (.d (.tell a b z))))]) rfl J;have q:=mask (l:=some 0) (F:=ao (fIxV 1 (fC (.int 1))) (ao (fIxV 1 (fC (.int 2))) (ao (fIxV 1 (fC (.int 3))) fNil))) (e:=[some (.sh (cD (.d (.tell a b z))))]) rfl h;simp only[cD,dD,askX,askM] at I q ⊢;simp only[sf,sSeq,sIf,fTst,fBin,fIxV,ixSl,fC,dEq,ae,ah,ac,ai,decide_true,decide_false,bx,if_false,if_true,sNil,sXp,sRet, *]
   | go a =>
     have R:atI [D.str "go",.int a] 0=some (.str "go"):=rfl;have I:=xasn (l:=some 0) (F:=ao (fIxV 1 (fC (.int 1))) fNil) (e:=[some (.sh (cD (.d (.go a))))]) rfl J;have q:=mask (l:=some 0) (F:=ao (fIxV 1 (fC (.int 1))) fNil) (e:=[some (.sh (cD (.d (.go a))))]) rfl h;simp only[cD,dD,askX,askM] at I q ⊢;simp only[sf,sSeq,sIf,fTst,fBin,fIxV,ixSl,fC,dEq,ae,ah,ac,ai,decide_true,decide_false,bx,if_false,if_true,sNil,sXp,sRet, *]
   | dry =>
     have R:atI [D.str "dry"] 0=some (.str "dry"):=rfl;have U:(("dry" : Str) = "go")=False:=eq_false (by decide);have I:=xasn (l:=some 0) (F:=fNil) (e:=[some (.sh (cD (.d .dry)))]) rfl J;have q:=mask (l:=some 0) (F:=fNil) (e:=[some (.sh (cD (.d .dry)))]) rfl h;simp only[cD,dD,askX,askM] at I q ⊢;simp only[sf,sSeq,sIf,fTst,fBin,fIxV,ixSl,fC,dEq,ae,ah,ac,ai,decide_true,decide_false,bx,if_false,if_true,sNil,sXp,sRet, *]
def z8u(c:Cmd)(h:askX c [(kH,ps)] (askD c)=some (x,[(kH,ps)]))(D:yo x=some w):ug [(kH,ps)] [cD c]=some (.tup [.str "refused",.str w],[(kH,ps)]):=by
 have q:=zu8 (m:=zd) (F:=ao (fVar 1) fNil) (e:=[some (.ag kH (some 0) ps),some (.sh (cD c)),some (.sh (.tup [.str "refused",.str ""])),none]) (i:=0) (l:=some 0) (ps:=ps) (ds:=[cD c]) rfl rfl (yai c h);have k1:kdT x=some (.tup [.str "refused",.str w]):=by unfold kdT;rw[D];rfl
 refine(xm (e:=[some (.ag kH (some 0) ps),some (.sh (cD c)),some (.sh (.tup [.str "refused",.str w])),none]) rfl rfl ?_ rfl).1;rw[show ke 4 [(kH,ps)] [cD c]=[some (.ag kH (some 0) ps),some (.sh (cD c)),none,none] from rfl];simp[zhv] at q ⊢;simp[sTry,q,k1]
def zy2(c:Cmd)(I:askX c [(kH,ps)] (askD c)=none)(h:askM c [(kH,ps)] (askD c)=some (d,[(kH,ps')])):ug [(kH,ps)] [cD c]=some (d,[(kH,ps')]):=by
 obtain⟨J,R⟩:=yaj c I h;have D:=zu9 (m:=zd) (F:=ao (fVar 1) fNil) (e:=[some (.ag kH (some 0) ps),some (.sh (cD c)),some (.sh (.tup [.str "refused",.str ""])),none]) (i:=0) (l:=some 0) (ps:=ps) (ds:=[cD c]) rfl rfl R;have q:=yu (m:=zja) (F:=ao (fVar 1) fNil) (e:=[some (.ag kH (some 0) ps),some (.sh (cD c)),some (.sh (.tup [.str "refused",.str ""])),none]) (i:=0) (l:=some 0) (ps:=ps) (ds:=[cD c]) rfl rfl J;refine(xm (e:=[some (.ag kH (some 0) ps'),some (.sh (cD c)),some (.sh (.tup [.str "refused",.str ""])),none]) rfl rfl ?_ rfl).1;rw[show ke 4 [(kH,ps)] [cD c]=[some (.ag kH (some 0) ps),some (.sh (cD c)),none,none] from rfl];simp[zhv] at D q ⊢;simp[sTry,D,q]
theorem cp_o(ss:nw)(J:ss.length<=1000)(e:DE0):vp (fiS (fVar 0)) [] (ip oo (ao (fVar 0) fNil)) (some (.sh (ssL ss))::e)=some (dsO ss,some (.sh (ssL ss))::e):=by
 have c:=zl7 (te:=ip oo (ao (fVar 0) (fNil))) (base:=[]) (λs:nu=>D.lst (s.map sD)) (λs:nu=>s.map sD) ss λs _=>⟨_,by simp;rfl⟩;have I:Few (ss.map λs=>D.lst (s.map sD)).length:=few (by rw[af];lia);unfold ssL dsO;generalize (ss.map λs=>D.lst (s.map sD))=L at *;simp[vp,I,c]
def zy3(ss:nw):D.lst ((dsO ss).map D.lst)=ssL ss:=by unfold dsO ssL;rw[ig];rfl
variable{x:Sk}
def at_0{x:D}{l:mu}:atI (x::l) 0=some x:=by unfold atI ixN;simp
variable{a:Nat}{num:Int}
theorem z1p{l:Int}(R:1<=a)(d:a<=ss.length)(f:ss.length<=5)(g:(ss.getD (a-1) []).length<=1000):ue [ssL ss,dD (.put a h l),.int num]=some (.lst [ssL (putS ss a (num,h,l)),.int num]):=by
 have i:=λe=>cp_o ss (by lia) e;have U:=at_4 (x:=D.str "put") (y:=.int (a:Int)) (z:=.int h) (w:=.int l);have j:((1:Int)<((0+1+1+1+1:Nat):Int))=True:=eq_true (by decide);have I:ss[a-1]?=some (ss.getD (a-1) []):=by rw[ci,aw (by lia)];rfl
 have k:ixN (dsO ss).length ((a:Int)-1)=some (a-1):=by
  rw[rj (by lia) (by unfold dsO;rw[af];lia)];congr 1;lia
 have V:(dsO ss).set (a-1) (((num,h,l)::ss.getD (a-1) []).map sD)=dsO (putS ss a (num,h,l)):=by unfold putS dsO;rw[ie]
 have Y:=tx I R;have Z:Few (0+1+((ss.getD (a-1) []).map sD).length):=few (by rw[af];lia);have b:noLs (D.tup [.int num,.int h,.int l]::(ss.getD (a-1) []).map sD)=true:=z2u ((num,h,l)::ss.getD (a-1) []);have ct:um false (fCat (fLst (fu (ao (fTup (ao (fVar 2) (ao (fIxV 1 (fC (.int 2))) (ao (fIxV 1 (fC (.int 3))) (fNil))))) (fNil)))) (fIxV 3 (fVar 4))) [some (.sh (ssL ss)),some (.sh (dD (.put a h l))),some (.sh (.int num)),some (.o2 (dsO ss)),some (.sh (.int ((a:Int)-1))),none]=some (((num,h,l)::ss.getD (a-1) []).map sD,[some (.sh (ssL ss)),some (.sh (dD (.put a h l))),some (.sh (.int num)),some (.o2 (dsO ss)),some (.sh (.int ((a:Int)-1))),none]):=by
  have c:frz false [some (.sh (ssL ss)),some (.sh (dD (.put a h l))),some (.sh (.int num)),some (.o2 (dsO ss)),some (.sh (.int ((a:Int)-1))),none]=[some (.sh (ssL ss)),some (.sh (dD (.put a h l))),some (.sh (.int num)),some (.sh (ssL ss)),some (.sh (.int ((a:Int)-1))),none]:=by
   rw[<-zy3];rfl
  unfold um;rw[c,show((num,h,l)::ss.getD (a-1) []).map sD=D.tup [.int num,.int h,.int l]::(ss.getD (a-1) []).map sD from rfl];unfold ssL dD;generalize (ss.getD (a-1) []).map sD=TL at *;generalize (ss.map λs=>D.lst (s.map sD))=SL at *;simp[U,Y,Z,b]
 rw[<-zy3 (putS ss a (num,h,l)),<-V];suffices J:∃e',va [some (.sh (ssL ss)),some (.sh (dD (.put a h l))),some (.sh (.int num)),none,none,none]=some (.rt (.lst [.lst (((dsO ss).set (a-1) (((num,h,l)::ss.getD (a-1) []).map sD)).map D.lst),.int num]),e') from let ⟨_,J⟩:=J;jl rfl J;simp only[dD] at ct ⊢;simp only[va,sSeq,yc,sSet,fC,gy,fIxV,ixSl,fVar,fBin,fTst,sIf,sNil,dGt,dEq,dSub,ae,ah,ac,ai,au,av,ak,bq,decide_true,if_true,sRet,fLst,fu,ao,fNil,vm,frsE,frs1,bz,dc, *];exact⟨_,rfl⟩
theorem zy4{m:Nat}{l:Int}(I:ss[a-1]?=some t)(R:t[m-1]?=some x)(U:1<=a)(h:1<=m)(i:ss.length<=5):ue [ssL ss,dD (.tell a m l),.int num]=some (.lst [ssL (ss.set (a-1) (t.set (m-1) (x.1,x.2.1,l))),.int x.2.2]):=by
 have j:=λe=>cp_o ss (by lia) e;have sn:=sne;have V:=at_4 (x:=D.str "tell") (y:=.int (a:Int)) (z:=.int (m:Int)) (w:=.int l);have k:atI [D.int x.1,.int x.2.1,.int x.2.2] 0=some (.int x.1)/\atI [D.int x.1,.int x.2.1,.int x.2.2] 1=some (.int x.2.1)/\atI [D.int x.1,.int x.2.1,.int x.2.2] 2=some (.int x.2.2):=⟨rfl,rfl,rfl⟩;have n:((1:Int)<((0+1+1+1+1:Nat):Int))=True:=eq_true (by decide);have Y:(0+1+1<=64)=True/\(0+1+1+1<=64)=True:=⟨eq_true (by decide),eq_true (by decide)⟩;have o:=(aj.mp I).1;have p:=(aj.mp R).1;have q:ixN (dsO ss).length ((a:Int)-1)=some (a-1):=by
  rw[rj (by lia) (by unfold dsO;rw[af];lia)];congr 1;lia
 have Z:(dsO ss)[a-1]?=some (t.map sD):=by unfold dsO;rw[bj,I];rfl
 have b:ixN (t.map sD).length ((m:Int)-1)=some (m-1):=by
  rw[rj (by lia) (by rw[af];lia)];congr 1;lia
 have c:(dsO ss).set (a-1) ((t.map sD).set (m-1) (.tup [.int x.1,.int x.2.1,.int l]))=dsO (ss.set (a-1) (t.set (m-1) (x.1,x.2.1,l))):=by
  unfold dsO;rw[ie,ie];rfl
 have d:=tx I U;have f:atI (t.map sD) ((m:Int)-1)=some (sD x):=by
  rw[show(m:Int)-1=((m-1:Nat):Int) by lia];exact kr sD R
 have ct:fFrz false (fBin dIx (fIxV 3 (fVar 4)) (fBin dSub (fIxV 1 (fC (.int 2))) (fC (.int 1)))) [some (.sh (ssL ss)),some (.sh (dD (.tell a m l))),some (.sh (.int num)),some (.o2 (dsO ss)),some (.sh (.int ((a:Int)-1))),none]=some (sD x,[some (.sh (ssL ss)),some (.sh (dD (.tell a m l))),some (.sh (.int num)),some (.o2 (dsO ss)),some (.sh (.int ((a:Int)-1))),none]):=by
  have g:frz false [some (.sh (ssL ss)),some (.sh (dD (.tell a m l))),some (.sh (.int num)),some (.o2 (dsO ss)),some (.sh (.int ((a:Int)-1))),none]=[some (.sh (ssL ss)),some (.sh (dD (.tell a m l))),some (.sh (.int num)),some (.sh (ssL ss)),some (.sh (.int ((a:Int)-1))),none]:=by
   rw[<-zy3];rfl
  unfold fFrz;rw[g];unfold ssL dD;simp[V,d,f];rfl
 rw[<-zy3 (ss.set (a-1) (t.set (m-1) (x.1,x.2.1,l))),<-c];suffices J:∃e',va [some (.sh (ssL ss)),some (.sh (dD (.tell a m l))),some (.sh (.int num)),none,none,none]=some (.rt (.lst [.lst (((dsO ss).set (a-1) ((t.map sD).set (m-1) (.tup [.int x.1,.int x.2.1,.int l]))).map D.lst),.int x.2.2]),e') from let ⟨_,J⟩:=J;jl rfl J;simp only[dD,sD] at ct ⊢;simp only[va,sSeq,yc,sSet,fC,gy,fIxV,ixSl,fVar,fBin,fTst,sIf,sNil,dGt,dEq,dSub,ae,ah,ac,ai,au,av,ak,bq,decide_true,decide_false,bx,if_false,if_true,sRet,fLst,fu,ao,fNil,vm,frsE, *];simp only[zux,fTup];simp only[fC,fIxV,ixSl,fVar,fBin,dSub,ae,ah,ac,ai,au,av,ak,bq,if_true,ao,fNil,frsE,frs1,bz,dc, *];exact⟨_,rfl⟩
theorem zvg{v1 v2:nb}(U:ss[a-1]?=some (x::tl))(V:1<=a)(h:ss.length<=5)(Y:tl.length<=1000) :
  ∃e',(sSeq (sSet 5 (fFrz false (fBin dIx (fIxV 3 (fVar 4)) (fC (.int 0))))) (sSeq (vm 3 (fVar 4) (um false (fSl (fIxV 3 (fVar 4)) (fO1 (fC (.int 1))) (fO0)))) (sRet (fLst (fu (ao (fVar 3) (ao (fVar 5) (fNil)))))))) [some (.sh (ssL ss)),v1,v2,some (.o2 (dsO ss)),some (.sh (.int ((a:Int)-1))),none]=some (.rt (.lst [ssL (ss.set (a-1) tl),sD x]),e'):=by
 have i:=(aj.mp U).1;have Z:ixN (dsO ss).length ((a:Int)-1)=some (a-1):=by
  rw[rj (by lia) (by unfold dsO;rw[af];lia)];congr 1;lia
 have b:(dsO ss).set (a-1) (tl.map sD)=dsO (ss.set (a-1) tl):=by unfold dsO;rw[ie]
 have I:=tx U V;have c:atI (sD x::tl.map sD) 0=some (sD x):=at_0;have J:=znj (sD x::tl.map sD) 1 (by simp);have d:noLs (tl.map sD)=true:=z2u tl;have R:(0+1+1<=64)=True:=eq_true (by decide);have e:(frz false [some (.sh (ssL ss)),v1,v2,some (.o2 (dsO ss)),some (.sh (.int ((a:Int)-1))),none])[3]?=some (some (.sh (ssL ss)))/\(frz false [some (.sh (ssL ss)),v1,v2,some (.o2 (dsO ss)),some (.sh (.int ((a:Int)-1))),none])[4]?=some (some (.sh (.int ((a:Int)-1)))):=⟨z2t rfl,z2s rfl⟩;have f:(frz false [some (.sh (ssL ss)),v1,v2,some (.o2 (dsO ss)),some (.sh (.int ((a:Int)-1))),some (.sh (sD x))])[3]?=some (some (.sh (ssL ss)))/\(frz false [some (.sh (ssL ss)),v1,v2,some (.o2 (dsO ss)),some (.sh (.int ((a:Int)-1))),some (.sh (sD x))])[4]?=some (some (.sh (.int ((a:Int)-1)))):=⟨z2t rfl,z2s rfl⟩;have ct:fFrz false (fBin dIx (fIxV 3 (fVar 4)) (fC (.int 0))) [some (.sh (ssL ss)),v1,v2,some (.o2 (dsO ss)),some (.sh (.int ((a:Int)-1))),none]=some (sD x,[some (.sh (ssL ss)),v1,v2,some (.o2 (dsO ss)),some (.sh (.int ((a:Int)-1))),none]):=by
  unfold fFrz;unfold ssL at *;simp[e,I,c];rfl
 have g:um false (fSl (fIxV 3 (fVar 4)) (fO1 (fC (.int 1))) (fO0)) [some (.sh (ssL ss)),v1,v2,some (.o2 (dsO ss)),some (.sh (.int ((a:Int)-1))),some (.sh (sD x))]=some (tl.map sD,[some (.sh (ssL ss)),v1,v2,some (.o2 (dsO ss)),some (.sh (.int ((a:Int)-1))),some (.sh (sD x))]):=by
  unfold um;unfold ssL at *;rw[bz] at I;generalize tl.map sD=TL at *;generalize (ss.map λs=>D.lst (s.map sD))=SL at *;have J:cutD (sD x::TL) (some 1) none=TL:=J;simp[f,I,J,d]
 rw[<-zy3 (ss.set (a-1) tl),<-b];generalize tl.map sD=TL at *;generalize dsO ss=SO at *;simp only[sSeq,sSet,ct,ai,ac,au,av,vm,g,ae,ah,frsE,frs1,bz,dc,fVar,Z,sRet,fLst,fu,ao,fNil,ak,bq,R,if_true];exact⟨_,rfl⟩
theorem z5e(J:ss[a-1]?=some (x::tl))(R:1<=a)(U:ss.length<=5)(I:tl.length<=1000):ue [ssL ss,dD (.go a),.int num]=some (.lst [ssL (ss.set (a-1) tl),sD x]):=by
 obtain⟨e',st⟩:=zvg (v1:=some (.sh (dD (.go a)))) (v2:=some (.sh (.int num))) J R U I;have V:=λe=>cp_o ss (by lia) e;have sn:=sne;have Y:atI [D.str "go",.int (a:Int)] 0=some (.str "go")/\atI [D.str "go",.int (a:Int)] 1=some (.int (a:Int)):=⟨rfl,rfl⟩;have Z:((1:Int)<((0+1+1:Nat):Int))=True:=eq_true (by decide);refine jl (e':=e') rfl (?_:va [some (.sh (ssL ss)),some (.sh (dD (.go a))),some (.sh (.int num)),none,none,none]=_);rw[<-st];simp only[dD];simp[va,V,Y,sn]
variable{v:D}
theorem z1q{u w:D}{ts:mu}(J:zl [ssL ss]=some (.lst (.tup [.int (a:Int),u,v,w]::ts)))(R:ss[a-1]?=some (x::tl))(U:1<=a)(V:ss.length<=5)(I:tl.length<=1000):ue [ssL ss,dD .dry,.int num]=some (.lst [ssL (ss.set (a-1) tl),sD x]):=by
 obtain⟨e',st⟩:=zvg (v1:=some (.sh (dD .dry))) (v2:=some (.sh (.int num))) R U V I;have Y:=λe=>cp_o ss (by lia) e;have sn:=sne;have Z:atI [D.str "dry"] 0=some (.str "dry"):=rfl;have b:atI (.tup [.int (a:Int),u,v,w]::ts) 0=some (.tup [.int (a:Int),u,v,w]):=at_0;have c:atI [D.int (a:Int),u,v,w] 0=some (.int (a:Int)):=rfl;have d:((1:Int)<((0+1:Nat):Int))=False:=eq_false (by decide);refine jl (e':=e') rfl (?_:va [some (.sh (ssL ss)),some (.sh (dD .dry)),some (.sh (.int num)),none,none,none]=_);rw[<-st];simp only[dD];simp[va,Y,Z,sn,J,b,c]
def stP(k:n3)(p:ot)(s:Hs):mx:=[.d (ssL s.1),.o (k.map dD),.o (p.map stD),.d (spL s.2)]
structure SI (n i:Nat) (s:Hs):Prop where
 len:s.1.length=n
 few:s.1.flatten.length<=14
 good:∀x∈s.1.flatten,i6 x
 chain:qx 0 s.2
 rate:∀x∈s.2,0<=x.2.2/\x.2.2<=100000
 sp:s.2.length<=i
 hour:qw 0 s.2<=60*s.2.length
def Stp(k:n3)(s:Hs)(d:Deed)(s':Hs):Prop:=cmdX s.1 k.length (.d d)=none/\∃ans,ue [ssL s.1,dD d,.int (kj k)]=some (.lst [ssL s'.1,ans])/\match d with | .dry=>∃x:Sk,ans=sD x/\s'.2=s.2++[(hrOf s.2,hrOf s.2+x.2.1,lss s.1.flatten)] | _=>s'.2=s.2
structure HI (n:Nat) (k:n3) (p:ot) (s:Hs):Prop where
 n5:n<=5
 k60:k.length<=60
 kp:p.length=k.length
 all:∀i t,(p++[s])[i]?=some t->SI n i t
 st0:(p++[s])[0]?=some (newS n)
 tr:∀i d t t',k[i]?=some d->(p++[s])[i]?=some t->(p++[s])[i+1]?=some t'->Stp (k.take i) t d t'
def HI.at(h:HI n k p s):SI n k.length s:=h.all k.length s (by rw[<-h.kp];simp)
variable{x:Str}
def yt{x:Nat}(h:e[i]?=some (some (.ag .ls (some r) ps)))(h2:e[x]?=some (some (.al r (qu ps j))))(D:ps[j]?=some (.o ds)):lj (.al x) i j e=some ds:=by
 unfold lj agAt;rw[if_pos (show Acc.ok (.al x) e i j from⟨_,_,_,h,h2⟩),h];dsimp;rw[D]
def z8v(h:c∈l4):∃w,yo c=some w/\(w=("" : Str))=False:=by
 simp[l4] at h;rcases h with rfl | rfl | rfl | rfl | rfl | rfl | rfl | rfl | rfl | rfl | rfl | rfl | rfl <;> exact⟨_,rfl,eq_false (by decide)⟩
variable{c:Cmd}
def z1r(h:cmdX ss n c=some x):x∈l4:=by
 cases c with
 | back =>
   simp only[cmdX] at h;split at h
   ·cases h;decide
   ·cases h
 | d y =>
   cases y with
   | put a b l=>simp only[cmdX,putX] at h;(repeat' split at h) <;> (first | cases h) <;> decide
   | tell a b l=>simp only[cmdX,vi] at h;(repeat' split at h) <;> (first | cases h) <;> decide
   | go a=>simp only[cmdX,goX] at h;(repeat' split at h) <;> (first | cases h) <;> decide
   | dry=>simp only[cmdX,dryX] at h;(repeat' split at h) <;> (first | cases h) <;> decide
def z5f(hi:HI n k p s)(h:cmdX s.1 k.length c=some x):askX c [hA k (p++[s])] (askD c)=some (x,[hA k (p++[s])]):=by
 have l5:s.1.length<=5:=by rw[hi.at.len];exact hi.n5
 cases c with
 | back =>
   simp only[cmdX] at h;split at h
   ·cases h
    rename_i q;obtain rfl:=ff q;exact z8t
   ·cases h
 | d y =>
   cases y with
   | put a b l=>exact yag h l5
   | tell a b l=>exact z8s h l5
   | go a=>exact go_x h l5
   | dry=>exact yah h l5
def z8w(hi:HI n k p s)(h:cmdX s.1 k.length c=some x):r8 [hA k (p++[s]),(.ls,stP k p s)] [cD c]=some (.bl true,[hA k (p++[s]),(.ls,stP k p s)]):=by
 obtain⟨w,I,D⟩:=z8v (z1r h);have rf:=zko s.1 k.length c (by rw[hi.at.len];exact hi.n5);rw[h,show dueW (some x)=w by show(yo x).getD "" = w;rw[I];rfl] at rf;have cl:=z8u c (z5f hi h) I;have R:=zi9 [.str "refused",.str w] (by simp[plD]) (by simp);have U:((k.map dD).length:Int)=k.length:=by rw[af]
 have pl:=yt (e:=[some (.ag kH (some 0) (hP k (p++[s]))),some (.ag .ls (some 1) (stP k p s)),some (.sh (cD c)),some (.sh (ssL s.1)),some (.al 1 0),some (.al 1 1),some (.sh (spL s.2)),none,none,none,none,none]) (i:=1) (x:=4) (j:=1) (ds:=k.map dD) rfl rfl rfl;have J:=yu (m:=ug) (F:=ao (fVar 2) fNil) (e:=[some (.ag kH (some 0) (hP k (p++[s]))),some (.ag .ls (some 1) (stP k p s)),some (.sh (cD c)),some (.sh (ssL s.1)),some (.al 1 0),some (.al 1 1),some (.sh (spL s.2)),some (.sh (.str w)),none,none,none,none]) (i:=0) (l:=some 0) (ps:=hP k (p++[s])) (ds:=[cD c]) rfl rfl cl;refine(xm (e:=[some (.ag kH (some 0) (hP k (p++[s]))),some (.ag .ls (some 1) (stP k p s)),some (.sh (cD c)),some (.sh (ssL s.1)),some (.al 1 0),some (.al 1 1),some (.sh (spL s.2)),some (.sh (.str w)),some (.sh (.tup [.str "refused",.str w])),none,none,none]) rfl rfl ?_ rfl).1;rw[show ke 12 [hA k (p++[s]),(.ls,stP k p s)] [cD c]=[some (.ag kH (some 0) (hP k (p++[s]))),some (.ag .ls (some 1) (stP k p s)),some (.sh (cD c)),none,none,none,none,none,none,none,none,none] from rfl];have un:wy 1 [3,4,5,6] [some (.ag kH (some 0) (hP k (p++[s]))),some (.ag .ls (some 1) (stP k p s)),some (.sh (cD c)),none,none,none,none,none,none,none,none,none]=some (.nx,[some (.ag kH (some 0) (hP k (p++[s]))),some (.ag .ls (some 1) (stP k p s)),some (.sh (cD c)),some (.sh (ssL s.1)),some (.al 1 0),some (.al 1 1),some (.sh (spL s.2)),none,none,none,none,none]):=rfl;generalize hP k (p++[s])=HP at *;generalize spL s.2=SP at *;rw[<-U] at rf;generalize k.map dD=KL at *;simp at J;simp[zb,un,pLen,pl,rf];simp[J,D,R]
theorem z8x(D:e[4]?=some (some (.sh (.lst (k.map dD)))))(J:k.length<=1000):fBin gn (fC (.int 1)) (du bLen (ao (fLst (iw (fiS (fVar 4)) [] (fTst (fBin dEq (fIxV 0 (fC (.int 0))) (fC (.str "put")))) (fVar 0))) (fNil))) e=some (.int (kj k),e):=by
 have c:=zna (tt:=fTst (fBin dEq (fIxV 0 (fC (.int 0))) (fC (.str "put")))) (te:=fVar 0) (base:=[]) dD dD Deed.isPut k λx _=>by
  cases x with
  | put a h l=>exact⟨_,rfl,λ_=>⟨_,rfl⟩⟩
  | tell a p l=>exact⟨_,rfl,λz=>nomatch z⟩
  | go a=>exact⟨_,rfl,λz=>nomatch z⟩
  | dry=>exact⟨_,rfl,λz=>nomatch z⟩
 have I:Few (k.map dD).length:=few (by rw[af];lia);unfold kj;generalize k.map dD=L at *;simp[iw,D,I,c]
variable{x:Sk}
def zvh{x:Nat}(h:e[1]?=some (some (.ag .ls (some r) ps)))(h2:e[x]?=some (some (.al r (qu ps j))))(D:ps[j]?=some (.o ds))(I:f e=some (d,e))(J:Few (ds.length+1)) :
  t9 (.al x) 1 j f e=some (.non,e.set 1 (some (.ag .ls (some r) (ps.set j (.o (ds++[d])))))):=by
 unfold t9;rw[h];dsimp only;rw[if_pos (show labO .ls (some r) from⟨rfl,λ_ _ z=>nomatch z⟩),yt h h2 D,ac,I,ac];unfold appP;rw[h];dsimp only;rw[D];dsimp only;rw[if_pos ⟨rfl,rfl,rfl,J⟩];unfold setP;rw[h]
def z8y:Deed->Bool | .dry=>true | _=>false
variable{d:Deed}{ss':nw}{ans:D}
theorem yak(hi:HI n k p s)(V:z8y d=false)(h:cmdX s.1 k.length (.d d)=none)(c:k.length<=100)(cl:ug [hA k (p++[s])] [dD d]=some (ans,[hA (k++[d]) (p++[s]++[(ss',s.2)])]))(st:ue [ssL s.1,dD d,.int (kj k)]=some (.lst [ssL ss',ans]))(I:z7 [ans,ans]=some (.bl true))(g:noL ans=true) :
  r8 [hA k (p++[s]),(.ls,stP k p s)] [dD d]=some (.bl true,[hA (k++[d]) (p++[s]++[(ss',s.2)]),(.ls,stP (k++[d]) (p++[s]) (ss',s.2))]):=by
 have rf:=zko s.1 k.length (.d d) (by rw[hi.at.len];exact hi.n5);rw[h,show dueW none = "" from rfl] at rf;have D:((k.map dD).length:Int)=k.length:=by rw[af]
 obtain⟨w,ws,ew,hb,hdr⟩:∃w ws,dD d=.tup (.str w::ws)/\(w=("back" : Str))=False/\(w=("dry" : Str))=False:=by
  cases d with
  | put a h l=>exact⟨_,_,rfl,eq_false (by decide),eq_false (by decide)⟩
  | tell a h l=>exact⟨_,_,rfl,eq_false (by decide),eq_false (by decide)⟩
  | go a=>exact⟨_,_,rfl,eq_false (by decide),eq_false (by decide)⟩
  | dry=>cases V
 have pl:=yt (e:=[some (.ag kH (some 0) (hP k (p++[s]))),some (.ag .ls (some 1) (stP k p s)),some (.sh (dD d)),some (.sh (ssL s.1)),some (.al 1 0),some (.al 1 1),some (.sh (spL s.2)),none,none,none,none,none]) (i:=1) (x:=4) (j:=1) (ds:=k.map dD) rfl rfl rfl;have Y:=yu (m:=ug) (F:=ao (fVar 2) fNil) (e:=[some (.ag kH (some 0) (hP k (p++[s]))),some (.ag .ls (some 1) (stP k p s)),some (.sh (dD d)),some (.sh (ssL s.1)),some (.al 1 0),some (.al 1 1),some (.sh (spL s.2)),some (.sh (.str "")),none,none,none,none]) (i:=0) (l:=some 0) (ps:=hP k (p++[s])) (ds:=[dD d]) rfl rfl cl;have nm:fFrz false (fBin gn (fC (.int 1)) (du bLen (ao (fLst (iw (fiS (fVar 4)) [] (fTst (fBin dEq (fIxV 0 (fC (.int 0))) (fC (.str "put")))) (fVar 0))) (fNil)))) [some (.ag kH (some 0) (hP (k++[d]) (p++[s]++[(ss',s.2)]))),some (.ag .ls (some 1) (stP k p s)),some (.sh (dD d)),some (.sh (ssL s.1)),some (.al 1 0),some (.al 1 1),some (.sh (spL s.2)),some (.sh (.str "")),some (.sh ans),none,none,none]=some (.int (kj k),[some (.ag kH (some 0) (hP (k++[d]) (p++[s]++[(ss',s.2)]))),some (.ag .ls (some 1) (stP k p s)),some (.sh (dD d)),some (.sh (ssL s.1)),some (.al 1 0),some (.al 1 1),some (.sh (spL s.2)),some (.sh (.str "")),some (.sh ans),none,none,none]):=by
  unfold fFrz;rw[z8x (k:=k) rfl (by lia)];rfl
 have Z:=zvh (e:=[some (.ag kH (some 0) (hP (k++[d]) (p++[s]++[(ss',s.2)]))),some (.ag .ls (some 1) (stP k p s)),some (.sh (dD d)),some (.sh (ssL s.1)),some (.al 1 0),some (.al 1 1),some (.sh (spL s.2)),some (.sh (.str "")),some (.sh ans),none,some (.sh (.lst [ssL ss',ans])),none]) (x:=5) (j:=2) (ds:=p.map stD) (f:=fTup (ao (fVar 3) (ao (fVar 6) fNil))) (d:=stD s) rfl rfl rfl rfl (few (by rw[af];have:=hi.kp;lia));have b:=zvh (e:=[some (.ag kH (some 0) (hP (k++[d]) (p++[s]++[(ss',s.2)]))),some (.ag .ls (some 1) [.d (ssL s.1),.o (k.map dD),.o (p.map stD++[stD s]),.d (spL s.2)]),some (.sh (dD d)),some (.sh (ssL s.1)),some (.al 1 0),some (.al 1 1),some (.sh (spL s.2)),some (.sh (.str "")),some (.sh ans),none,some (.sh (.lst [ssL ss',ans])),none]) (x:=4) (j:=1) (ds:=k.map dD) (f:=fVar 2) (d:=dD d) rfl rfl rfl rfl (few (by rw[af];lia));have J:atI (.str w::ws) 0=some (.str w):=at_0;have R:atI [ssL ss',ans] 0=some (ssL ss')/\atI [ssL ss',ans] 1=some ans:=⟨rfl,rfl⟩;refine(xm (e:=[some (.ag kH (some 0) (hP (k++[d]) (p++[s]++[(ss',s.2)]))),some (.ag .ls (some 1) (stP (k++[d]) (p++[s]) (ss',s.2))),some (.sh (dD d)),some (.sh (ssL s.1)),some (.al 1 0),some (.al 1 1),some (.sh (spL s.2)),some (.sh (.str "")),some (.sh ans),none,some (.sh (.lst [ssL ss',ans])),none]) rfl rfl ?_ rfl).1;rw[show ke 12 [hA k (p++[s]),(.ls,stP k p s)] [dD d]=[some (.ag kH (some 0) (hP k (p++[s]))),some (.ag .ls (some 1) (stP k p s)),some (.sh (dD d)),none,none,none,none,none,none,none,none,none] from rfl];have un:wy 1 [3,4,5,6] [some (.ag kH (some 0) (hP k (p++[s]))),some (.ag .ls (some 1) (stP k p s)),some (.sh (dD d)),none,none,none,none,none,none,none,none,none]=some (.nx,[some (.ag kH (some 0) (hP k (p++[s]))),some (.ag .ls (some 1) (stP k p s)),some (.sh (dD d)),some (.sh (ssL s.1)),some (.al 1 0),some (.al 1 1),some (.sh (spL s.2)),none,none,none,none,none]):=rfl;have U:stP (k++[d]) (p++[s]) (ss',s.2)=[.d (ssL ss'),.o (k.map dD++[dD d]),.o (p.map stD++[stD s]),.d (spL s.2)]:=by unfold stP;simp
 have rf:zd6 [ssL s.1,.int (k.length:Int),dD d]=some (.str ""):=rf;rw[U];rw[<-D] at rf;unfold stP at *;generalize dD d=DD at *;subst ew;clear U D cl;generalize hP (k++[d]) (p++[s]++[(ss',s.2)])=HP2 at *;generalize k.map dD=KL at *;simp[zb,un,pLen,pl,rf];simp[Y,J,hb];simp[nm,st,Z,b,tz,R,hdr,I];simp[R,J,hdr,I]
def z2v{x:Nat}{d:D}(h:e[1]?=some (some (.ag .ls (some r) ps)))(h2:e[x]?=some (some (.al r (qu ps j))))(I:ps[j]?=some (.o (ds++[d]))) :
  pPop (.al x) 1 j e=some (d,e.set 1 (some (.ag .ls (some r) (ps.set j (.o ds))))):=by
 unfold pPop;rw[yt h h2 I,ac,show(ds++[d])[(ds++[d]).length-1]?=some d by simp,ai,show(ds++[d]).dropLast=ds by simp];unfold setP;rw[h]
def yal(d:Deed):∃xs,dD d=.tup xs/\(∀x∈xs,plD x)/\xs.length<=1000:=by
 cases d <;> exact⟨_,rfl,by simp[plD],by simp⟩
def z5g(hi:HI n (k++[d]) (p++[s]) s') :
  r8 [hA (k++[d]) (p++[s]++[s']),(.ls,stP (k++[d]) (p++[s]) s')] [cD .back]=some (.bl true,[hA k (p++[s]),(.ls,stP k p s)]):=by
 have h:cmdX s'.1 (k++[d]).length .back=none:=by simp[cmdX]
 have rf:=zko s'.1 (k++[d]).length .back (by rw[hi.at.len];exact hi.n5);rw[h,show dueW none = "" from rfl] at rf;obtain⟨xs,ex,U,V⟩:=yal d;have J:=zi9 xs U V;rw[<-ex] at J;have R:=z5d (k:=k) (p:=p) (s:=s) (d:=d) (s':=s');have cl:=zy2 .back R.1 R.2;have Y:stP (k++[d]) (p++[s]) s'=[.d (ssL s'.1),.o (k.map dD++[dD d]),.o (p.map stD++[stD s]),.d (spL s'.2)]:=by unfold stP;simp
 have I:((k.map dD++[dD d]).length:Int)=(k++[d]).length:=by simp
 rw[<-I] at rf;rw[Y];have pl:=yt (e:=[some (.ag kH (some 0) (hP (k++[d]) (p++[s]++[s']))),some (.ag .ls (some 1) [.d (ssL s'.1),.o (k.map dD++[dD d]),.o (p.map stD++[stD s]),.d (spL s'.2)]),some (.sh (cD .back)),some (.sh (ssL s'.1)),some (.al 1 0),some (.al 1 1),some (.sh (spL s'.2)),none,none,none,none,none]) (i:=1) (x:=4) (j:=1) (ds:=k.map dD++[dD d]) rfl rfl rfl;have Z:=yu (m:=ug) (F:=ao (fVar 2) fNil) (e:=[some (.ag kH (some 0) (hP (k++[d]) (p++[s]++[s']))),some (.ag .ls (some 1) [.d (ssL s'.1),.o (k.map dD++[dD d]),.o (p.map stD++[stD s]),.d (spL s'.2)]),some (.sh (cD .back)),some (.sh (ssL s'.1)),some (.al 1 0),some (.al 1 1),some (.sh (spL s'.2)),some (.sh (.str "")),none,none,none,none]) (i:=0) (l:=some 0) (ps:=hP (k++[d]) (p++[s]++[s'])) (ds:=[cD .back]) rfl rfl cl;have a:=z2v (e:=[some (.ag kH (some 0) (hP k (p++[s]))),some (.ag .ls (some 1) [.d (ssL s'.1),.o (k.map dD++[dD d]),.o (p.map stD++[stD s]),.d (spL s'.2)]),some (.sh (cD .back)),some (.sh (ssL s'.1)),some (.al 1 0),some (.al 1 1),some (.sh (spL s'.2)),some (.sh (.str "")),some (.sh (dD d)),none,none,none]) (x:=5) (j:=2) rfl rfl rfl;have b:=z2v (e:=[some (.ag kH (some 0) (hP k (p++[s]))),some (.ag .ls (some 1) [.d (ssL s.1),.o (k.map dD++[dD d]),.o (p.map stD),.d (spL s.2)]),some (.sh (cD .back)),some (.sh (ssL s'.1)),some (.al 1 0),some (.al 1 1),some (.sh (spL s'.2)),some (.sh (.str "")),some (.sh (dD d)),some (.sh (.tup [ssL s.1,spL s.2])),none,none]) (x:=4) (j:=1) rfl rfl rfl;refine(xm (e:=[some (.ag kH (some 0) (hP k (p++[s]))),some (.ag .ls (some 1) (stP k p s)),some (.sh (cD .back)),some (.sh (ssL s'.1)),some (.al 1 0),some (.al 1 1),some (.sh (spL s'.2)),some (.sh (.str "")),some (.sh (dD d)),some (.sh (.tup [ssL s.1,spL s.2])),none,none]) rfl rfl ?_ rfl).1;rw[show ke 12 [hA (k++[d]) (p++[s]++[s']),(.ls,[.d (ssL s'.1),.o (k.map dD++[dD d]),.o (p.map stD++[stD s]),.d (spL s'.2)])] [cD .back]=[some (.ag kH (some 0) (hP (k++[d]) (p++[s]++[s']))),some (.ag .ls (some 1) [.d (ssL s'.1),.o (k.map dD++[dD d]),.o (p.map stD++[stD s]),.d (spL s'.2)]),some (.sh (cD .back)),none,none,none,none,none,none,none,none,none] from rfl];have un:wy 1 [3,4,5,6] [some (.ag kH (some 0) (hP (k++[d]) (p++[s]++[s']))),some (.ag .ls (some 1) [.d (ssL s'.1),.o (k.map dD++[dD d]),.o (p.map stD++[stD s]),.d (spL s'.2)]),some (.sh (cD .back)),none,none,none,none,none,none,none,none,none]=some (.nx,[some (.ag kH (some 0) (hP (k++[d]) (p++[s]++[s']))),some (.ag .ls (some 1) [.d (ssL s'.1),.o (k.map dD++[dD d]),.o (p.map stD++[stD s]),.d (spL s'.2)]),some (.sh (cD .back)),some (.sh (ssL s'.1)),some (.al 1 0),some (.al 1 1),some (.sh (spL s'.2)),none,none,none,none,none]):=rfl;have c:cD .back=.tup [.str "back"]:=rfl;have f:atI [ssL s.1,spL s.2] 0=some (ssL s.1)/\atI [ssL s.1,spL s.2] 1=some (spL s.2):=⟨rfl,rfl⟩;have g:atI [D.str "back"] 0=some (.str "back"):=rfl;have es:stD s=.tup [ssL s.1,spL s.2]:=rfl;unfold stP;generalize hP (k++[d]) (p++[s]++[s'])=HP2 at *;generalize stD s=SD at *;generalize cD .back=CD at *;subst c es;simp only[zb,sSeq,un,ac,sSet,du,ao,fNil,fVar,pLen,pl,ai,ae,ah,rf,au,av];simp[Z,g];simp[a,tz,f,b,J]
def z5h(i:Int):tm [.int i]=some (.bl true):=by
 rfl
def zy5(i:Int):z7 [.int i,.int i]=some (.bl true)/\noL (.int i)=true:=by
 refine⟨?_,rfl⟩;have w:=z5h i;refine jl (e':=[some (.sh (.int i)),some (.sh (.int i))]) rfl ?_;rw[show ji 2 [D.int i,.int i]=[some (.sh (.int i)),some (.sh (.int i))] from rfl];simp only[ze4,sSeq,sIf,fTst,fIsi,fVar,sNil,sRet,ur,du,ao,fNil,w,fBin,dEq,ae,ah,ac,ai];simp[w]
def z2w(x:Sk):z7 [sD x,sD x]=some (.bl true)/\noL (sD x)=true:=by
 refine⟨?_,rfl⟩;have w:=zi9 [.int x.1,.int x.2.1,.int x.2.2] (by simp[plD]) (by simp);refine jl (e':=[some (.sh (sD x)),some (.sh (sD x))]) rfl ?_;rw[show ji 2 [sD x,sD x]=[some (.sh (sD x)),some (.sh (sD x))] from rfl];simp only[ze4,sSeq,sIf,fTst,fIsi,fVar,sNil,sRet,du,ao,fNil,sD,w,ae,ah,ac,ai];simp
theorem z8z(hi:HI n k p s)(h:cmdX s.1 k.length (.d .dry)=none)(cl:ug [hA k (p++[s])] [dD .dry]=some (sD x,[hA (k++[.dry]) (p++[s]++[dryS s a x tl])]))(st:ue [ssL s.1,dD .dry,.int (kj k)]=some (.lst [ssL (s.1.set (a-1) tl),sD x])) :
  r8 [hA k (p++[s]),(.ls,stP k p s)] [dD .dry]=some (.bl true,[hA (k++[.dry]) (p++[s]++[dryS s a x tl]),(.ls,stP (k++[.dry]) (p++[s]) (dryS s a x tl))]):=by
 have I:=hi.at;have l5:s.1.length<=5:=by rw[I.len];exact hi.n5
 have rf:=zko s.1 k.length (.d .dry) l5;rw[h,show dueW none = "" from rfl] at rf;have J:((k.map dD).length:Int)=k.length:=by rw[af]
 have Y:=(z2w x).1;have R:∀y∈s.1,y.length<=1000:=λy Z=>by
  have h1:=I.few;have h2:=(d6 Z).length_le
  lia
 have b:=z48 s.1 (by lia) R;have c:=I.sp;have C:=I.hour;have E:=hi.k60;have g:=zve s.2 I.chain (by lia);have q:(((rts s.2).map D.int).length:Int)=hrOf s.2:=by rw[af,zq2 _ _ I.chain,yi];lia
 have pl:=yt (e:=[some (.ag kH (some 0) (hP k (p++[s]))),some (.ag .ls (some 1) (stP k p s)),some (.sh (dD .dry)),some (.sh (ssL s.1)),some (.al 1 0),some (.al 1 1),some (.sh (spL s.2)),none,none,none,none,none]) (i:=1) (x:=4) (j:=1) (ds:=k.map dD) rfl rfl rfl;have r:=yu (m:=ug) (F:=ao (fVar 2) fNil) (e:=[some (.ag kH (some 0) (hP k (p++[s]))),some (.ag .ls (some 1) (stP k p s)),some (.sh (dD .dry)),some (.sh (ssL s.1)),some (.al 1 0),some (.al 1 1),some (.sh (spL s.2)),some (.sh (.str "")),none,none,none,none]) (i:=0) (l:=some 0) (ps:=hP k (p++[s])) (ds:=[dD .dry]) rfl rfl cl;have nm:fFrz false (fBin gn (fC (.int 1)) (du bLen (ao (fLst (iw (fiS (fVar 4)) [] (fTst (fBin dEq (fIxV 0 (fC (.int 0))) (fC (.str "put")))) (fVar 0))) (fNil)))) [some (.ag kH (some 0) (hP (k++[.dry]) (p++[s]++[dryS s a x tl]))),some (.ag .ls (some 1) (stP k p s)),some (.sh (dD .dry)),some (.sh (ssL s.1)),some (.al 1 0),some (.al 1 1),some (.sh (spL s.2)),some (.sh (.str "")),some (.sh (sD x)),none,none,none]=some (.int (kj k),[some (.ag kH (some 0) (hP (k++[.dry]) (p++[s]++[dryS s a x tl]))),some (.ag .ls (some 1) (stP k p s)),some (.sh (dD .dry)),some (.sh (ssL s.1)),some (.al 1 0),some (.al 1 1),some (.sh (spL s.2)),some (.sh (.str "")),some (.sh (sD x)),none,none,none]):=by
  unfold fFrz;rw[z8x (k:=k) rfl (by lia)];rfl
 have t:=zvh (e:=[some (.ag kH (some 0) (hP (k++[.dry]) (p++[s]++[dryS s a x tl]))),some (.ag .ls (some 1) (stP k p s)),some (.sh (dD .dry)),some (.sh (ssL s.1)),some (.al 1 0),some (.al 1 1),some (.sh (spL s.2)),some (.sh (.str "")),some (.sh (sD x)),none,some (.sh (.lst [ssL (s.1.set (a-1) tl),sD x])),none]) (x:=5) (j:=2) (ds:=p.map stD) (f:=fTup (ao (fVar 3) (ao (fVar 6) fNil))) (d:=stD s) rfl rfl rfl rfl (few (by rw[af];have:=hi.kp;lia));have u:=zvh (e:=[some (.ag kH (some 0) (hP (k++[.dry]) (p++[s]++[dryS s a x tl]))),some (.ag .ls (some 1) [.d (ssL s.1),.o (k.map dD),.o (p.map stD++[stD s]),.d (spL s.2)]),some (.sh (dD .dry)),some (.sh (ssL s.1)),some (.al 1 0),some (.al 1 1),some (.sh (spL s.2)),some (.sh (.str "")),some (.sh (sD x)),none,some (.sh (.lst [ssL (s.1.set (a-1) tl),sD x])),none]) (x:=4) (j:=1) (ds:=k.map dD) (f:=fVar 2) (d:=dD .dry) rfl rfl rfl rfl (few (by rw[af];lia));have V:atI [D.str "dry"] 0=some (.str "dry"):=rfl;have v:dD .dry=.tup [.str "dry"]:=rfl;have sn:=sne;have U:atI [ssL (s.1.set (a-1) tl),sD x] 0=some (ssL (s.1.set (a-1) tl))/\atI [ssL (s.1.set (a-1) tl),sD x] 1=some (sD x):=⟨rfl,rfl⟩;have w:dIx (sD x) (.int 1)=some (.int x.2.1):=rfl;have ct:fLst (fCat (fVar 6) (fLst (fu (ao (fTup (ao (fVar 11) (ao (fBin gn (fVar 11) (fBin dIx (fIxV 10 (fC (.int 1))) (fC (.int 1)))) (ao (du zi2 (ao (fVar 3) fNil)) fNil)))) fNil))))
   [some (.ag kH (some 0) (hP (k++[.dry]) (p++[s]++[dryS s a x tl]))),some (.ag .ls (some 1) [.d (ssL (s.1.set (a-1) tl)),.o (k.map dD++[dD .dry]),.o (p.map stD++[stD s]),.d (spL s.2)]),some (.sh (dD .dry)),some (.sh (ssL s.1)),some (.al 1 0),some (.al 1 1),some (.sh (spL s.2)),some (.sh (.str "")),some (.sh (sD x)),none,some (.sh (.lst [ssL (s.1.set (a-1) tl),sD x])),some (.sh (.int (hrOf s.2)))]=some (spL (s.2++[(hrOf s.2,hrOf s.2+x.2.1,lss s.1.flatten)]),[some (.ag kH (some 0) (hP (k++[.dry]) (p++[s]++[dryS s a x tl]))),some (.ag .ls (some 1) [.d (ssL (s.1.set (a-1) tl)),.o (k.map dD++[dD .dry]),.o (p.map stD++[stD s]),.d (spL s.2)]),some (.sh (dD .dry)),some (.sh (ssL s.1)),some (.al 1 0),some (.al 1 1),some (.sh (spL s.2)),some (.sh (.str "")),some (.sh (sD x)),none,some (.sh (.lst [ssL (s.1.set (a-1) tl),sD x])),some (.sh (.int (hrOf s.2)))]):=by
  have z:Few ((s.2.map sD).length+1):=few (by rw[af];lia);have A:spL (s.2++[(hrOf s.2,hrOf s.2+x.2.1,lss s.1.flatten)])=.lst (s.2.map sD++[.tup [.int (hrOf s.2),.int (hrOf s.2+x.2.1),.int (lss s.1.flatten)]]):=by unfold spL;rw[b6];rfl
  rw[A];unfold spL;simp only[fLst,fCat,fVar,fu,ao,fNil,fTup,fBin,fIxV,ixSl,fC,du,ae,ah,ac,ai,U,w,gn,b,ak,bq,show 0+1+1+1<=64 by decide,show 0+1<=64 by decide,z,if_true]
 refine(xm (e:=[some (.ag kH (some 0) (hP (k++[.dry]) (p++[s]++[dryS s a x tl]))),some (.ag .ls (some 1) (stP (k++[.dry]) (p++[s]) (dryS s a x tl))),some (.sh (dD .dry)),some (.sh (ssL s.1)),some (.al 1 0),some (.al 1 1),some (.sh (spL s.2)),some (.sh (.str "")),some (.sh (sD x)),none,some (.sh (.lst [ssL (s.1.set (a-1) tl),sD x])),some (.sh (.int (hrOf s.2)))]) rfl rfl ?_ rfl).1;rw[show ke 12 [hA k (p++[s]),(.ls,stP k p s)] [dD .dry]=[some (.ag kH (some 0) (hP k (p++[s]))),some (.ag .ls (some 1) (stP k p s)),some (.sh (dD .dry)),none,none,none,none,none,none,none,none,none] from rfl];have un:wy 1 [3,4,5,6] [some (.ag kH (some 0) (hP k (p++[s]))),some (.ag .ls (some 1) (stP k p s)),some (.sh (dD .dry)),none,none,none,none,none,none,none,none,none]=some (.nx,[some (.ag kH (some 0) (hP k (p++[s]))),some (.ag .ls (some 1) (stP k p s)),some (.sh (dD .dry)),some (.sh (ssL s.1)),some (.al 1 0),some (.al 1 1),some (.sh (spL s.2)),none,none,none,none,none]):=rfl;have B:stP (k++[.dry]) (p++[s]) (dryS s a x tl)=[.d (ssL (s.1.set (a-1) tl)),.o (k.map dD++[dD .dry]),.o (p.map stD++[stD s]),.d (spL (s.2++[(hrOf s.2,hrOf s.2+x.2.1,lss s.1.flatten)]))]:=by unfold stP dryS;simp
 have rf:zd6 [ssL s.1,.int (k.length:Int),dD .dry]=some (.str ""):=rf;rw[B];rw[<-J] at rf;unfold stP at *;generalize dD .dry=DD at *;subst v;simp only[zb,sSeq,un,ac,sSet,du,ao,fNil,fVar,pLen,pl,ai,ae,ah,rf,au,av];simp only[r,ai,ac,au,av,sIf,fTst,fBin,fVar,fC,fIxV,ixSl,ae,ah,dNe,dEq,V,sn,decide_true,decide_false,j2,bx,if_false,sNil];simp only[nm,ai,ac,du,ao,fNil,fVar,ae,ah,au,av,st,iy,t,u,tz,U,fIxV,ixSl,fC];simp only[sSeq,sSet,V,decide_true,if_true,du,ao,fNil,fVar,ae,ah,au,av,ai,ac,g,bLen,q,tz,ct,sRet,fIxV,ixSl,fC,U,Y]
def zq5{α:Type}:∀(ss:List (List α)) (i:Nat) (t t':List α),ss[i]?=some t->∃A B,ss.flatten=A++(t++B)/\(ss.set i t').flatten=A++(t'++B)
 | y::r,0,t,t',h=>by
   simp at h;subst h;exact⟨[],r.flatten,rfl,rfl⟩
 | y::r,i+1,t,t',h=>by
   obtain⟨A,B,h1,h2⟩:=zq5 r i t t' (by simpa using h);exact⟨y++A,B,by simp[h1],by simp[h2]⟩
theorem HI.push(h:HI n k p s)(V:k.length<60)(R:SI n (k.length+1) s')(st:Stp k s d s'):HI n (k++[d]) (p++[s]) s':=by
 have U:(p++[s]).length=k.length+1:=by simp[h.kp]
 have lt:∀i,i<=k.length->(p++[s]++[s'])[i]?=(p++[s])[i]?:=λi c=>ax (by lia);have J:(p++[s]++[s'])[k.length+1]?=some s':=by rw[<-U,iu]
 refine⟨h.n5,by simp;lia,by simp[h.kp],λi t D=>?_,by rw[lt 0 (by lia)];exact h.st0,λi d' t t' h1 h2 I=>?_⟩
 ·by_cases c:i<=k.length
  ·exact h.all i t (lt i c ▸ D)
  ·obtain rfl:i=k.length+1:=by have:=(aj.mp D).1;simp[h.kp] at this;lia
   rw[J] at D;cases D;exact R
 ·by_cases c:i<k.length
  ·rw[f7 (by lia)]
   exact h.tr i d' t t' (by rwa [ax c] at h1) (by rwa [lt i (by lia)] at h2) (by rwa [lt _ c] at I)
  ·obtain rfl:i=k.length:=by have:=(aj.mp h1).1;simp at this;lia
   rw[iu] at h1;rw[lt _ (bw _),<-h.kp,iu] at h2;rw[J] at I;cases h1;cases h2;cases I;rw[jo];exact st
theorem HI.pop(h:HI n (k++[d]) (p++[s]) s'):HI n k p s:=by
 have kp:p.length=k.length:=by have:=h.kp;simp at this;exact this
 have I:∀ {i t},(p++[s])[i]?=some t->(p++[s]++[s'])[i]?=some t:=λD=>by rw[ax (aj.mp D).1];exact D
 refine⟨h.n5,by have:=h.k60;simp at this;lia,kp,λi t D=>h.all i t (I D),by have:=h.st0;rwa [ax (by simp)] at this,λi d' t t' h1 h2 J=>?_⟩;have c:=(aj.mp h1).1;have:=h.tr i d' t t' (by rw[ax c];exact h1) (I h2) (I J);rwa [f7 (by lia)] at this
theorem SI.swap{t':nu}(h:SI n i s)(I:s.1[a]?=some t)(J:s.1.flatten.length+t'.length<=14+t.length)(R:∀x∈t',(∀y∈t,i6 y)->i6 x):SI n (i+1) (s.1.set a t',s.2):=by
 obtain⟨A,B,h1,h2⟩:=zq5 s.1 a t t' I;have g:=h.good;rw[h1] at g J;refine⟨by rw[dq];exact h.len,?_,?_,h.chain,h.rate,qh h.sp,h.hour⟩
 ·show(s.1.set a t').flatten.length<=14
  rw[h2];simp at *
  lia
 ·intro x D
  rw[h2,de,de] at D;rcases D with q | q | q
  ·exact g x (by simp[q])
  ·exact R x q λy U=>g y (by simp[U])
  ·exact g x (by simp[q])
theorem z5i(k:n3):1<=kj k/\kj k<=k.length+1:=by
 unfold kj;have:=List.length_filter_le Deed.isPut k
 lia
theorem z2x:∀(l:nu),(∀x∈l,i6 x)->0<=lss l/\lss l<=100*l.length
 | [],_=>⟨by decide,by decide⟩
 | x::r,h=>by
   have J:=z2x r λy D=>h y (by simp[D]);have I:=h x (by simp);unfold i6 at I;have e:lss (x::r)=x.2.2+lss r:=by simp[lss]
   rw[e,ak]
   lia
theorem SI.dry(h:SI n i s)(I:s.1[a-1]?=some (x::tl)):SI n (i+1) (dryS s a x tl):=by
 have q:=h.swap (t':=tl) I (by have:=h.few;rw[ak];lia) λy D J=>J y (by simp[D]);have R:i6 x:=h.good x (by
  obtain⟨A,B,h1,_⟩:=zq5 s.1 (a-1) (x::tl) tl I;rw[h1];simp)
 have U:=z2x s.1.flatten h.good;have Y:=h.few;have Z:=h.hour;have V:=h.sp;unfold i6 at R;refine⟨q.len,q.few,q.good,?_,?_,?_,?_⟩
 ·exact zsk _ _ _ h.chain (yi s.2) (by show hrOf s.2<=hrOf s.2+x.2.1;lia)
 ·intro y D
  have D:y∈s.2++[(hrOf s.2,hrOf s.2+x.2.1,lss s.1.flatten)]:=D;rw[de,cw] at D;rcases D with D | rfl
  ·exact h.rate y D
  ·show 0<=lss s.1.flatten/\lss s.1.flatten<=100000
   lia
 ·show(s.2++[_]).length<=i+1
  simp;lia
 ·show qw 0 (s.2++[(hrOf s.2,hrOf s.2+x.2.1,lss s.1.flatten)])<=60*((s.2++[(hrOf s.2,hrOf s.2+x.2.1,lss s.1.flatten)]).length:Int)
  rw[zoi,yi,am];simp
  lia
def zy6{l:List α}(h:l≠[]):∃m x,l=m++[x]:=⟨l.dropLast,l.getLast h,(List.dropLast_concat_getLast h).symm⟩
def Mv(k:n3)(p:ot)(s:Hs)(c:Cmd)(k':n3)(p':ot)(s':Hs):Prop:=match cmdX s.1 k.length c with | some _=>k'=k/\p'=p/\s'=s | none=>match c with | .back=>∃d,k=k'++[d]/\p=p'++[s'] | .d d=>k'=k++[d]/\p'=p++[s]
def Done(n:Nat)(k:n3)(p:ot)(s:Hs)(c:Cmd):Prop:=∃k' p' s',HI n k' p' s'/\r8 [hA k (p++[s]),(.ls,stP k p s)] [cD c]=some (.bl true,[hA k' (p'++[s']),(.ls,stP k' p' s')])/\Mv k p s c k' p' s'
protected def Mv.d(h:cmdX s.1 k.length (.d d)=none):Mv k p s (.d d) (k++[d]) (p++[s]) s':=by
 unfold Mv;rw[h];exact⟨rfl,rfl⟩
def HI.l5(hi:HI n k p s):s.1.length<=5:=by rw[hi.at.len];exact hi.n5
theorem HI.r14(hi:HI n k p s):∀y∈s.1,y.length<=14:=λy D=>by
 have h2:=(d6 D).length_le;have:=hi.at.few
 lia
theorem ztz(hi:HI n k p s)(D:z8y d=false)(I:k.length<60)(h:cmdX s.1 k.length (.d d)=none)(J:askX (.d d) [hA k (p++[s])] (askD (.d d))=none)(h1:askM (.d d) [hA k (p++[s])] (askD (.d d))=some (ans,[hA (k++[d]) (p++[s]++[(ss',s.2)])]))(st:ue [ssL s.1,dD d,.int (kj k)]=some (.lst [ssL ss',ans]))(R:z7 [ans,ans]=some (.bl true))(U:noL ans=true)(V:SI n (k.length+1) (ss',s.2)):Done n k p s (.d d) :=
 ⟨_,_,_,hi.push I V ⟨h,ans,st,by cases d <;> first | rfl | cases D⟩,yak hi D h (by lia) (zy2 (.d d) J h1) st R U,Mv.d h⟩
variable{a:Int}
theorem z1s{l:Int}(hi:HI n k p s)(h:cmdX s.1 k.length (.d (.put a b l))=none):Done n k p s (.d (.put a b l)):=by
 have hx:putX s.1 k.length a b l=none:=h;have D:=hx;have l5:=hi.l5;have kp:=hi.kp;have e:=hi.k60;unfold putX at D
 (repeat' split at D) <;> try cases D
 rename_i R f g i U;obtain⟨a,rfl⟩:=jh (show 0<=a by lia);have J:=z8p (p:=p) hx l5 (by lia);have I:=vy R;rw[show((a:Int).toNat-1)=a-1 by simp] at I;have j:=hi.r14 _ (bf I);have sp:=z1p (num:=kj k) (h:=b) (l:=l) (a:=a) (ss:=s.1) (by lia) (by lia) l5 (by lia);have V:=z5i k;have Y:i6 (kj k,b,l):=⟨V.1,by show kj k<=60;lia,by show 1<=b;lia,by show b<=60;lia,by show 0<=l;lia,by show l<=100;lia⟩;have Z:SI n (k.length+1) (putS s.1 a (kj k,b,l),s.2):=hi.at.swap I (by rw[ak];lia) λx hx c=>by
  rw[b8] at hx;rcases hx with hx | hx
  ·rw[hx];exact Y
  ·exact c x hx
 exact ztz hi rfl U h J.1 J.2 sp (zy5 _).1 rfl Z
theorem zy7{m l:Int}(hi:HI n k p s)(h:cmdX s.1 k.length (.d (.tell a m l))=none):Done n k p s (.d (.tell a m l)):=by
 have D:vi s.1 k.length a m l=none:=h;have l5:=hi.l5;have kp:=hi.kp;have e:=hi.at.few;unfold vi at D
 (repeat' split at D) <;> try cases D
 rename_i V Y Z f J;obtain⟨a,rfl⟩:=jh (show 0<=a by lia);obtain⟨m,rfl⟩:=jh (show 0<=m by lia);have I:=vy V;rw[show((a:Int).toNat-1)=a-1 by simp] at I Y Z;have i:=hi.r14 _ (bf I);obtain⟨x,hx2⟩:∃x,(s.1.getD (a-1) [])[m-1]?=some x:=⟨_,aw (by lia)⟩;have R:=z5c (k:=k) (p:=p) (s:=s) (l:=l) I hx2 (by lia) (by lia) (by lia) (by lia) J l5 (by lia) (by lia);have sp:=zy4 (num:=kj k) (l:=l) I hx2 (by lia) (by lia) l5;have b:SI n (k.length+1) (s.1.set (a-1) ((s.1.getD (a-1) []).set (m-1) (x.1,x.2.1,l)),s.2):=hi.at.swap I (by rw[dq];lia) λz c U=>by
  rcases List.mem_or_eq_of_mem_set c with q | q
  ·exact U z q
  ·have g:=U x (bf hx2)
   rw[q];exact⟨g.1,g.2.1,g.2.2.1,g.2.2.2.1,by show 0<=l;lia,by show l<=100;lia⟩
 exact ztz hi rfl J h R.1 R.2 sp (zy5 _).1 rfl b
theorem z5j(hi:HI n k p s)(h:cmdX s.1 k.length (.d (.go a))=none):Done n k p s (.d (.go a)):=by
 have D:goX s.1 k.length a=none:=h;have l5:=hi.l5;have kp:=hi.kp;have e:=hi.at.few;unfold goX at D
 (repeat' split at D) <;> try cases D
 rename_i Y J U;obtain⟨a,rfl⟩:=jh (show 0<=a by lia);have I:=vy Y;rw[show((a:Int).toNat-1)=a-1 by simp] at I J;have R:=hi.r14 _ (bf I);obtain⟨x,tl,et⟩:∃x tl,s.1.getD (a-1) []=x::tl:=by
  cases q:s.1.getD (a-1) [] with
  | nil=>rw[q] at J;simp at J
  | cons x tl=>exact⟨x,tl,rfl⟩
 rw[et] at I R;have R:tl.length+1<=14:=by simpa using R
 have V:=yaf (k:=k) (p:=p) (s:=s) I (by lia) U l5 (by lia);have sp:=z5e (num:=kj k) I (by lia) l5 (by lia);have Z:SI n (k.length+1) (s.1.set (a-1) tl,s.2):=hi.at.swap I (by rw[ak];lia) λz b c=>c z (by simp[b]);exact ztz hi rfl U h V.1 V.2 sp (z2w x).1 rfl Z
theorem z1t(hi:HI n k p s)(h:cmdX s.1 k.length (.d .dry)=none):Done n k p s (.d .dry):=by
 have D:dryX s.1 k.length=none:=h;have l5:=hi.l5;have kp:=hi.kp;have I:=hi.at;have J:=I.few;unfold dryX at D
 (repeat' split at D) <;> try cases D
 rename_i c U;obtain⟨ts,ok,R⟩:=zkx s.1 I.good J;have e:=ziy ok R J;have f:=zqk ok I.good J (by lia);cases ts with
 | nil =>
   have:=ok.perm.length_eq;simp only[dc,List.flatten_nil,bq] at this
   lia
 | cons t ts =>
   obtain⟨a,b⟩:=t;have g:=(ok.good (a,b) (by simp)).ne;cases b with
   | nil=>exact absurd rfl g
   | cons x r =>
     obtain⟨tl,i,h1,h2,m,_⟩:=zys ok I.good J;have V:=hi.r14;have Y:=V _ (bf h1);have Y:tl.length+1<=14:=by simpa using Y
     have j:=I.sp;have Z:=z8q (k:=k) (p:=p) (s:=s) e h1 h2 U l5 (by lia) (λy l=>by have:=V y l;lia) (by lia) c;have sp:=z1q (num:=kj k) f h1 h2 l5 (by lia);exact⟨_,_,_,hi.push U (I.dry h1) ⟨h,sD x,sp,x,rfl,rfl⟩,z8z hi h (zy2 (.d .dry) Z.1 Z.2) sp,Mv.d h⟩
def z80(c:Cmd)(hi:HI n k p s):Done n k p s c:=by
 cases h:cmdX s.1 k.length c with
 | some x=>exact⟨k,p,s,hi,z8w hi h,by unfold Mv;rw[h];exact⟨rfl,rfl,rfl⟩⟩
 | none =>
 cases c with
 | back =>
   have D:k≠[]:=λe=>by subst e;simp[cmdX] at h
   have I:p≠[]:=λe=>by subst e;exact D (ff hi.kp.symm)
   obtain⟨k0,d,rfl⟩:=zy6 D;obtain⟨J,R,rfl⟩:=zy6 I;exact⟨k0,J,R,hi.pop,z5g hi,by unfold Mv;rw[h];exact⟨d,rfl,rfl⟩⟩
 | d y =>
   cases y with
   | put a b l=>exact z1s hi h
   | tell a m l=>exact zy7 hi h
   | go a=>exact z5j hi h
   | dry=>exact z1t hi h
theorem z81(V:n<=5):zi6 [.int n]=some (.ls,stP [] [] (newS n)):=by
 have I:Few (rngD 0 n).length:=few (by rw[vb];lia);have c:=oh (te:=fLst (fu fNil)) (base:=[]) (λi:Nat=>D.int (0+(i:Int))) (λ_:Nat=>D.lst []) (List.range n) λi _=>⟨_,rfl⟩;have R:rngD 0 n=(List.range n).map λi:Nat=>D.int (0+(i:Int)):=rfl;have U:(List.range n).map (λ_:Nat=>D.lst [])=(List.replicate n ([]:nu)).map λs=>D.lst (s.map sD):=by rw[ul,ir,kn,dc]
 have J:=n4 n (by lia);unfold rngD at J;rw[U] at c;rw[R] at I;unfold zi6 runG;rw[if_pos (show[D.int (n:Int)].length=1 from rfl),show ji 1 [D.int (n:Int)]=[some (.sh (.int n))] from rfl];simp only[zlh,z0v,fAgL,pCd,pCo,pNil,fLst,iw,ip,ao,fVar,fNil,fu,ae,ac,ai,J,I,if_true,dc,c,bq,ft];rw[show frsE [some (Sl.sh (D.int (n:Int)))]=[some (.sh (.int n))] from rfl];simp only[ae,ac,ai,J,I,if_true,c,ak,bq,show 0+1+1+1+1<=64 by decide];rfl
def HI.new(D:n<=5):HI n [] [] (newS n) :=
 ⟨D,by simp,rfl,λi t h=>by
  have e:i=0/\t=newS n:=by
   cases i with
   | zero=>simp at h;exact⟨rfl,h.symm⟩
   | succ m=>simp at h
  obtain⟨rfl,rfl⟩:=e;have z:(newS n).1.flatten=[]:=by simp[newS]
  exact⟨by simp[newS],by rw[z];simp,by rw[z];simp,trivial,λx h=>by simp[newS] at h,by simp[newS],by simp[newS,qw]⟩,rfl,λi d t t' h=>by simp at h⟩
theorem z5k(z:Int):∃n:Nat,n<=5/\zi3 [.int z]=some (.int n):=by
 have h:z % 12=0\/z % 12=1\/z % 12=2\/z % 12=3\/z % 12=4\/z % 12=5\/z % 12=6\/z % 12=7\/z % 12=8\/z % 12=9\/z % 12=10\/z % 12=11:=by lia
 have q:∀r:Int,dMod (.int z) (.int 12)=some (.int r)->∀v,dIx (.lst [.int 5,.int 3,.int 2,.int 4,.int 1,.int 5,.int 0,.int 4,.int 3,.int 5,.int 2,.int 4]) (.int r)=some v->zi3 [.int z]=some v:=λr h1 v h2=>by
  refine jl (e':=[some (.sh (.int z))]) rfl ?_;rw[show ji 1 [D.int z]=[some (.sh (.int z))] from rfl];simp only[zof,sRet,fBin,fLst,fu,ao,fNil,fC,fVar,ae,ac,ai];rw[if_pos (by decide)];simp only[h1,h2,ac,ai,ae]
 have m:dMod (.int z) (.int 12)=some (.int (z % 12)):=by
  simp[dMod]
 rcases h with h | h | h | h | h | h | h | h | h | h | h | h <;> rw[h] at m <;> exact⟨_,by decide,q _ m (.int ((_:Nat):Int)) rfl⟩
theorem z1u(I:k4)(a:I.length<=200):∃cs:k4,cs.length<=3*I.length/\zka [.lst (I.map D.int)]=some (.lst (cs.map D.int)):=by
 have loop:=rq (i:=2) (g:=zf5)
  (λk e=>∃(cs:k4) (v2:nb),cs.length<=3*k/\e=[some (.sh (.lst (I.map D.int))),some (.ow (cs.map D.int)),v2])
  (I.map D.int) [some (.sh (.lst (I.map D.int))),some (.ow []),none] ⟨[],none,by simp,rfl⟩ ?_
 ·obtain⟨e',h1,cs,v2,J,rfl⟩:=loop
  rw[af] at J;refine⟨cs,J,?_⟩;refine jl (e':=[some (.sh (.lst (I.map D.int))),some (.sh (.lst (cs.map D.int))),v2]) rfl ?_;rw[show ji 3 [D.lst (I.map D.int)]=[some (.sh (.lst (I.map D.int))),none,none] from rfl];have Y:Few (I.map D.int).length:=few (by rw[af];lia);simp[zmv,Y,h1]
 ·rintro k d e R ⟨cs,v2,J,rfl⟩
  obtain⟨z,Z,rfl⟩:=fq.mp (bf R);have b:k<I.length:=by have:=(aj.mp R).1;rwa [af] at this
  have U:Few (cs.length+1):=few (by lia);have f2:Few (cs.length+1+1):=few (by lia);have V:Few (cs.length+1+1+1):=few (by lia);by_cases q:z / 12 % 4=1
  ·exact⟨_,by simp[zf5,dDiv,dMod,b12,q,U,f2,V];rfl,cs++[z,z,z],_,by simp;lia,by simp;rfl⟩
  ·exact⟨_,by simp[zf5,dDiv,dMod,b12,q,U,f2,V];rfl,cs++[z],_,by simp;lia,by simp;rfl⟩
theorem ix4(a b c d x:Int):∃v:Int,dIx (.lst [.int a,.int b,.int c,.int d]) (.int (x % 4))=some (.int v):=by
 have h:x % 4=0\/x % 4=1\/x % 4=2\/x % 4=3:=by lia
 rcases h with h | h | h | h <;> rw[h] <;> exact⟨_,rfl⟩
theorem ixW(x:Int):∃w:Str,atI [D.str "put",.str "put",.str "tell",.str "dry",.str "put",.str "go",.str "put",.str "put",.str "back",.str "tell",.str "put",.str "dry"] (x % 12)=some (.str w)/\(w = "put"\/w = "tell"\/w = "go"\/w = "dry"\/w = "back"):=by
 have h:x % 12=0\/x % 12=1\/x % 12=2\/x % 12=3\/x % 12=4\/x % 12=5\/x % 12=6\/x % 12=7\/x % 12=8\/x % 12=9\/x % 12=10\/x % 12=11:=by lia
 rcases h with h | h | h | h | h | h | h | h | h | h | h | h <;> rw[h] <;> exact⟨_,rfl,by simp⟩
variable{b:Bool}{F:FE}{v0:Int}
def ifx{c:FT}(D:c e=some (b,e))(I:e[i]?=some (some (.sh (.int v0))))(J:b=true->∃v:Int,F e=some (.int v,e)):∃v:Int,sIf c (sSet i F) sNil e=some (.nx,e.set i (some (.sh (.int v)))):=by
 cases b with
 | false =>
   refine⟨v0,?_⟩;have:e.set i (some (.sh (.int v0)))=e:=by
    apply dz;intro j;rw[gi];split
    ·rename_i q
     subst q;rw[I,if_pos (aj.mp I).1]
    ·rfl
   rw[this];simp[D]
 | true =>
   obtain⟨v,R⟩:=J rfl;exact⟨v,by simp[D,R]⟩
theorem wu(x j:Int)(h:1<=j/\j<=10000):dDiv (.int x) (.int j)=some (.int (x / j)):=by
 exact if_pos ⟨by lia,by lia⟩
theorem tw(x j:Int)(h:1<=j):dMod (.int x) (.int j)=some (.int (x % j)):=if_pos (by lia)
def zy8{z n I o f a h l t p:D}{J:D}{A H L P:Int}(R:w = "put"\/w = "tell"\/w = "go"\/w = "dry"\/w = "back") :
  ∃c e',(sSeq (sIf (fTst (fBin dEq (fVar 4) (fC (.str "put")))) (sRet (fTup (ao (fC (.str "put")) (ao (fVar 7) (ao (fVar 8) (ao (fVar 9) (fNil))))))) (sNil)) (sSeq (sIf (fTst (fBin dEq (fVar 4) (fC (.str "tell")))) (sRet (fTup (ao (fC (.str "tell")) (ao (fVar 7) (ao (fVar 11) (ao (fVar 9) (fNil))))))) (sNil)) (sSeq (sIf (fTst (fBin dEq (fVar 4) (fC (.str "go")))) (sRet (fTup (ao (fC (.str "go")) (ao (fVar 7) (fNil))))) (sNil)) (sRet (fTup (ao (fVar 4) (fNil)))))))
   [some (.sh z),some (.sh J),some (.sh n),some (.sh I),some (.sh (.str w)),some (.sh o),some (.sh f),some (.sh (.int A)),some (.sh (.int H)),some (.sh (.int L)),some (.sh t),some (.sh (.int P))]=some (.rt (cD c),e'):=by
 have sn:=sne;have s2:(("back" : Str) = "put")=False/\(("back" : Str) = "tell")=False/\(("back" : Str) = "go")=False/\(("dry" : Str) = "put")=False/\(("dry" : Str) = "tell")=False/\(("dry" : Str) = "go")=False:=by
  refine⟨?_,?_,?_,?_,?_,?_⟩ <;> exact eq_false (by decide)
 rcases R with rfl | rfl | rfl | rfl | rfl
 ·exact⟨.d (.put A H L),_,by simp[cD,dD];rfl⟩
 ·exact⟨.d (.tell A P L),_,by simp[cD,dD,sn];rfl⟩
 ·exact⟨.d (.go A),_,by simp[cD,dD,sn];rfl⟩
 ·exact⟨.d .dry,_,by simp[cD,dD,sn,s2];rfl⟩
 ·exact⟨.back,_,by simp[cD,dD,sn,s2];rfl⟩
def Res(r:Option (Fl×DE0)):Prop:=∃c e',r=some (.rt (cD c),e')
def setR(h:F e=some (v,e))(k:Res (g (e.set i (some (.sh v))))):Res (sSeq (sSet i F) g e):=by
 rw[show sSeq (sSet i F) g e=g (e.set i (some (.sh v))) by simp[h]];exact k
def ifR{c:FT}(D:c e=some (b,e))(I:e[i]?=some (some (.sh (.int v0))))(J:b=true->∃v:Int,F e=some (.int v,e))(k:∀v:Int,Res (g (e.set i (some (.sh (.int v)))))):Res (sSeq (sIf c (sSet i F) sNil) g e):=by
 obtain⟨v,R⟩:=ifx D I J;rw[show sSeq (sIf c (sSet i F) sNil) g e=g (e.set i (some (.sh (.int v)))) by simp only[sSeq,R,ac]];exact k v
def seqR{f:FS}{D:DE0}(h:f e=some (.nx,D))(k:Res (g D)):Res (sSeq f g e):=by
 rw[show sSeq f g e=g D by simp[h]];exact k
theorem z5l(z:Int)(ss:nw):∃c,zhf [.int z,ssL ss]=some (cD c):=by
 suffices R:Res (zog [some (.sh (.int z)),some (.sh (ssL ss)),none,none,none,none,none,none,none,none,none,none]) from let ⟨c,_,R⟩:=R;⟨c,jl rfl R⟩;obtain⟨w,g,k⟩:=ixW z;have U:=wu z 12 (by decide);have V:=tw z 12 (by decide);have J:dPow (.int 10) (.int 12)=some (.int 1000000000000):=rfl;refine setR (v:=.int (ss.length:Int)) (by unfold ssL;simp) ?_;refine setR (v:=.lst [.str "put",.str "put",.str "tell",.str "dry",.str "put",.str "go",.str "put",.str "put",.str "back",.str "tell",.str "put",.str "dry"]) rfl ?_;refine setR (v:=.str w) (by simp[V,g]) ?_;refine setR (v:=.int (z / 12 % 16)) (by simp[U,tw]) ?_;refine setR (v:=.int (z / 192)) (by simp[wu]) ?_;generalize z / 12 % 16=O at *;generalize z / 192=F at *;have Z:∀(x:Int) (t:Int),∃v:Int,(match D.int x,D.int (if 1 > t then 1 else t) with | .int i,.int j=>dMod (.int i) (.int j) | _,_=>none)=some (.int v):=λx t=>⟨_,tw x _ (by split <;> lia)⟩;obtain⟨d,m⟩:=Z F ss.length;refine setR (v:=.int (1+d)) (by simp[m]) ?_;refine setR (v:=.int (F / 5)) (by simp[wu]) ?_;simp only[au,av];generalize F / 5=G at *;refine ifR (b:=decide (O=5) || decide ((ss.length:Int)=0)) (v0:=1+d) (by by_cases q:O=5 <;> simp[q]) rfl (λ_=>?_) λA=>?_
 ·obtain⟨v,I⟩:=ix4 0 (ss.length+1) (-1) 1000000000000 G
  exact⟨v,by simp only[fBin,fLst,fu,ao,fNil,fC,fVar,fUn,dNeg,gn,J,tw G 4 (by decide),I,ae,ah,ac,ai,ak,bq,show 0+1+1+1+1<=64 by decide,if_true]⟩
 refine setR (v:=.int (1+G % 60)) (by simp[tw]) ?_;simp only[au,av];refine ifR (b:=decide (O=6)) (v0:=1+G % 60) (by simp) rfl (λ_=>?_) λH=>?_
 ·obtain⟨v,I⟩:=ix4 0 61 (-1) 1000000000000 G
  exact⟨v,by simp only[fBin,fLst,fu,ao,fNil,fC,fVar,fUn,dNeg,J,tw G 4 (by decide),I,ae,ah,ac,ai,ak,bq,show 0+1+1+1+1<=64 by decide,if_true]⟩
 refine setR (v:=.int (G / 60 % 101)) (by simp[tw,wu]) ?_;generalize G / 60 % 101=L at *;obtain⟨H2,Y,h2⟩:∃H2 Y:Int,sIf (fTst (fBin dGt (fVar 5) (fC (.int 9)))) (sSeq (sSet 8 (fBin gn (fC (.int 1)) (fBin dMod (fVar 8) (fC (.int 3))))) (sSet 9 (fBin dMod (fVar 9) (fC (.int 4))))) sNil [some (.sh (.int z)),some (.sh (ssL ss)),some (.sh (.int (ss.length:Int))),some (.sh (.lst [.str "put",.str "put",.str "tell",.str "dry",.str "put",.str "go",.str "put",.str "put",.str "back",.str "tell",.str "put",.str "dry"])),some (.sh (.str w)),some (.sh (.int O)),some (.sh (.int G)),some (.sh (.int A)),some (.sh (.int H)),some (.sh (.int L)),none,none]=some (.nx,[some (.sh (.int z)),some (.sh (ssL ss)),some (.sh (.int (ss.length:Int))),some (.sh (.lst [.str "put",.str "put",.str "tell",.str "dry",.str "put",.str "go",.str "put",.str "put",.str "back",.str "tell",.str "put",.str "dry"])),some (.sh (.str w)),some (.sh (.int O)),some (.sh (.int G)),some (.sh (.int A)),some (.sh (.int H2)),some (.sh (.int Y)),none,none]):=by
  by_cases q:9<O
  ·exact⟨1+H % 3,L % 4,by simp[q,tw]⟩
  ·exact⟨H,L,by simp[q]⟩
 refine seqR h2 ?_;refine ifR (b:=decide (O=7)) (v0:=Y) (by simp) rfl (λ_=>?_) λo=>?_
 ·obtain⟨v,I⟩:=ix4 (-1) 101 (-1000000000000) 1000000000000 (G / 60)
  exact⟨v,by simp only[fBin,fLst,fu,ao,fNil,fC,fVar,fUn,dNeg,J,wu G 60 (by decide),tw (G / 60) 4 (by decide),I,ae,ah,ac,ai,ak,bq,show 0+1+1+1+1<=64 by decide,if_true]⟩
 refine ifR (b:=decide (1<=A) && decide (A<=(ss.length:Int))) (v0:=0) (by by_cases q:1<=A <;> simp[q]) rfl (λq=>?_) λT=>?_
 ·simp only[dw,decide_eq_true_eq] at q
  have e:=tx (a:=A.toNat) (vy (ss:=ss) (a:=A) (by lia)) (by lia);rw[show((A.toNat:Nat):Int)=A by lia] at e;exact⟨_,by unfold ssL at *;simp[e];rfl⟩
 obtain⟨f,n⟩:=Z (G / 6060) T;refine setR (v:=.int (1+f)) (by simp[wu G 6060 (by decide),n]) ?_;simp only[au,av];refine ifR (b:=decide (O=8)) (v0:=1+f) (by simp) rfl (λ_=>?_) λP=>?_
 ·obtain⟨v,I⟩:=ix4 0 (T+1) (-1) 1000000000000 (G / 6060)
  exact⟨v,by simp only[fBin,fLst,fu,ao,fNil,fC,fVar,fUn,dNeg,gn,J,wu G 6060 (by decide),tw (G / 6060) 4 (by decide),I,ae,ah,ac,ai,ak,bq,show 0+1+1+1+1<=64 by decide,if_true]⟩
 exact zy8 (z:=.int z) (h:=.non) (l:=.non) (a:=.non) (p:=.non) k
variable{F:FA}{l':Option Nat}
def zy9{J I:mx}{d:D}(U:i≠j)(h:e[i]?=some (some (.ag κ l ps)))(h':e[j]?=some (some (.ag κ' l' J)))(V:F e=some (ds,e))(Y:m [(κ,ps),(κ',J)] ds=some (d,[(κ,ps'),(κ',I)])) :
  lb m [i,j] F e=some (d,(e.set i (some (.ag κ l ps'))).set j (some (.ag κ' l' I))):=by
 unfold lb;rw[if_pos (show aggs e [i,j] from λk R=>by
  simp at R;rcases R with rfl | rfl
  ·exact⟨_,h⟩
  ·exact⟨_,h'⟩),V]
 have Z:(e.set i (some (.ag κ l ps')))[j]?=some (some (.ag κ' l' J)):=by rw[dh U];exact h'
 simp[getA,h,h',Y,putA,Z]
def z5m{x:Nat}{z:Int}(J:i≠j)(hi:HI n k p s)(h:e[i]?=some (some (.ag kH l (hP k (p++[s])))))(h':e[j]?=some (some (.ag .ls l' (stP k p s))))(R:e[x]?=some (some (.sh (.int z)))) :
  ∃k' p' s',HI n k' p' s'/\lb r8 [i,j] (ao (du zhf (ao (fVar x) (ao (fDat j 0) fNil))) fNil) e=some (.bl true,(e.set i (some (.ag kH l (hP k' (p'++[s']))))).set j (some (.ag .ls l' (stP k' p' s')))):=by
 obtain⟨c,U⟩:=z5l z s.1;obtain⟨k',p',s',I,V,_⟩:=z80 c hi;refine⟨k',p',s',I,zy9 J h h' ?_ V⟩;have D:fDat j 0 e=some (ssL s.1,e):=by unfold fDat;rw[h'];rfl
 simp[R,D,U]
theorem zza(cs:k4)(a b:la):∃I:k4,cutD (cs.map D.int) a b=I.map D.int/\I.length<=cs.length:=by
 unfold cutD;rw[<-List.map_drop,<-List.map_take];exact⟨_,rfl,by simp only[dn,em];lia⟩
def z2y(h:e[j]?=some (some (.ag .ls l ps))):(frz false e)[j]?=some (some (.sh (.lst (ps.map ptD)))):=by
 unfold frz;rw[bj,h];rfl
theorem HI.hrs(hi:HI n k p s):0<=hrOf s.2/\hrOf s.2<=3600:=by
 have h:=hi.at;have h1:=h.hour;have h2:=h.sp;have D:=hi.k60;have I:=zvc _ _ h.chain;rw[yi]
 lia
theorem zsr(hi:HI n k p s)(h:e[i]?=some (some (.ag kH l (hP k (p++[s])))))(h':e[j]?=some (some (.ag .ls l' (stP k p s)))):fFrz false (gp vd [i] (ao (fVar j) fNil)) e=some (.bl true,e):=by
 have a:=hi.at;have D:=hi.k60;have I:=hi.hrs;have sp:=a.sp;have st:=zsm (k:=k) (p:=p) (s:=s) (X:=.lst (p.map stD)) a.good a.few hi.l5 (by lia) a.chain a.rate (by lia) (by lia);unfold fFrz;rw[zl1 (z2r h) (r:=([.lst [ssL s.1,.lst (k.map dD),.lst (p.map stD),spL s.2]],frz false e)) (by simp[z2y h'];rfl) (z2r h),st];rfl
def z5n(a:FS):sSeq a sNil=a:=by
 funext e;simp;cases a e with
 | none=>rfl
 | some r=>obtain⟨fl,D⟩:=r;cases fl <;> rfl
abbrev EL(A B C:nb)(k:n3)(p:ot)(s:Hs)(r:DE0):DE0:=A::B::C::some (.ag kH none (hP k (p++[s])))::some (.ag .ls none (stP k p s))::r
def bDo(x:Nat)(R:FS):FS:=sSeq (sIf (fNot (fTst (lb r8 [3,4] (ao (du zhf (ao (fVar x) (ao (fDat 4 0) fNil))) fNil)))) (sRet (fC (.bl false))) sNil) R
def zzb{A B C:nb}{r:DE0}{n:Nat}{R:FS}(U:∀k p s z,HI n k p s->R (EL A B C k p s (some (.sh (.int z))::r))=some (.nx,EL A B C k p s (some (.sh (.int z))::r))):∀(I:k4) (k:n3) (p:ot) (s:Hs) (v:nb),HI n k p s ->
  ∃k' p' s' V,HI n k' p' s'/\forL 5 (bDo 5 R) (I.map D.int) (EL A B C k p s (v::r))=some (.nx,EL A B C k' p' s' (V::r))
 | [],k,p,s,v,hi=>⟨k,p,s,v,hi,rfl⟩
 | z::I,k,p,s,v,hi=>by
   obtain⟨k1,p1,J,h1,Y⟩:=z5m (e:=EL A B C k p s (some (.sh (.int z))::r)) (i:=3) (j:=4) (x:=5) (by decide) hi rfl rfl rfl;obtain⟨k2,p2,s2,v2,h2,Z⟩:=zzb U I k1 p1 J (some (.sh (.int z))) h1;refine⟨k2,p2,s2,v2,h2,?_⟩;have a:=U k1 p1 J z h1;have b:bDo 5 R (EL A B C k p s (some (.sh (.int z))::r))=some (.nx,EL A B C k1 p1 J (some (.sh (.int z))::r)):=by
    simp[bDo,Y];exact a
   rw[bz,forL,show(EL A B C k p s (v::r)).set 5 (some (.sh (.int z)))=EL A B C k p s (some (.sh (.int z))::r) from rfl,b];exact Z
def z82(I:i≠j)(hi:HI n k p s)(h:e[i]?=some (some (.ag kH l (hP k (p++[s])))))(h':e[j]?=some (some (.ag .ls l' (stP k p s))))(J:F e=some ([cD c],e)) :
  ∃k' p' s',HI n k' p' s'/\lb r8 [i,j] F e=some (.bl true,(e.set i (some (.ag kH l (hP k' (p'++[s']))))).set j (some (.ag .ls l' (stP k' p' s'))))/\Mv k p s c k' p' s':=by
 obtain⟨k',p',s',D,R,U⟩:=z80 c hi;exact⟨k',p',s',D,zy9 I h h' J R,U⟩
def sD_inj{y:Sk}(h:sD x=sD y):x=y:=by
 obtain⟨a,b,c⟩:=x;obtain⟨d,e,f⟩:=y;simp[sD] at h;simp[h]
def ssL_inj{x y:nw}(h:ssL x=ssL y):x=y:=by
 unfold ssL at h;exact(ko λa b e=>(ko λ_ _=>sD_inj).mp (D.lst.inj e)).mp (D.lst.inj h)
def flat(ts:n0):nu:=(ts.map (·.2)).flatten
end LB
namespace SQ
open PySem L2 LB
def zpk:FS:=sRet (fLst (fu (ao (fLst (iw (ip iR1 (ao (fVar 0) (fNil))) [] fYes (fLst (fu (fNil))))) (ao (fLst (fu (fNil))) (ao (fLst (fu (fNil))) (ao (fLst (fu (fNil))) (fNil)))))))
def zkp:mu->mv:=runD 1 1 zpk
def zt1:FS:=sIf (fNot (fTst (lb r8 [3,4] (ao (du zhf (ao (fVar 5) (ao (fDat 4 0) (fNil)))) (fNil))))) (sRet (fC (.bl false))) (sNil)
def zq6:FS:=sSeq (sIf (fNot (fTst (lb r8 [3,4] (ao (fTup (ao (fC (.str "back")) (fNil))) (fNil))))) (sRet (fC (.bl false))) (sNil)) (sIf (fOr (fNot (fTst (du zy (ao (fK (.ins false "House" gz) 3 (gp zx [3] (fNil))) (ao (fDat 4 0) (fNil)))))) (fNot (fTst (gp zz [3] (ao (fDat 4 3) (fNil)))))) (sRet (fC (.bl false))) (sNil))
def zt2:FS:=sIf (fNot (fTst (lb r8 [3,4] (ao (fVar 8) (fNil))))) (sRet (fC (.bl false))) (sNil)
def z83:FS:=sSeq (sSet 1 (du zf8 (ao (fVar 0) (ao (fC (.int 61)) (fNil))))) (sSeq (sSet 2 (du zi3 (ao (fIxV 1 (fC (.int 0))) (fNil)))) (sSeq (zxz 3 (zx0 "House" zcu (ao (fVar 2) (fNil)))) (sSeq (zxz 4 (zut zi6 (ao (fVar 2) (fNil)))) (sSeq (sFor 5 (fiS (du zka (ao (fLst (fSl (fVar 1) (fO1 (fC (.int 1))) (fO1 (fBin dSub (fC (.int 61)) (fBin dMod (fBin dDiv (fIxV 1 (fC (.int 0))) (fC (.int 12))) (fC (.int 61))))))) (fNil)))) (zt1)) (sSeq (sIf (fNot (fTst (fFrz false (gp vd [3] (ao (fVar 4) (fNil)))))) (sRet (fC (.bl false))) (sNil)) (sSeq (sSet 6 (fLst (wz (.at .ls) 4 1))) (sSeq (sFor 7 (ip iR1 (ao (fBin gn (gy 6) (fC (.int 1))) (fNil))) (zq6)) (sSeq (sIf (fNot (fTst (gp vd [3] (ao (du zkp (ao (fVar 2) (fNil))) (fNil))))) (sRet (fC (.bl false))) (sNil)) (sSeq (sFor 8 (fiS (fVar 6)) (zt2)) (sRet (ur (fFrz false (du qr (ao (fVar 6) (ao (fIxV 4 (fC (.int 1))) (fNil))))) (fFrz false (gp vd [3] (ao (fVar 4) (fNil)))))))))))))))
def z84:mu->mv:=runD 9 1 z83
end SQ
namespace SQ
open PySem L2 LB PyProof.Rows
def top(i:Nat):Stmt:=PySem.Challenge.pw_rotstacks_k43_whole_taken_back.main.body.getD i (.Pass ⟨0,0,0,0⟩)
def mth(j:Nat):Stmt:=match top 70 with | .ClassDef _ _ _ b _ _ _ _ _ _ _=>b.getD j (.Pass ⟨0,0,0,0⟩) | _=>.Pass ⟨0,0,0,0⟩
local macro_rules | `(tactic| walk_at "g") => `(tactic| first | exact gl_d (by kernel_rfl) | exact gl_c (by kernel_rfl) | exact gl_p (by kernel_rfl))
local macro_rules | `(tactic| exists $t:term) => `(tactic| as_aux_lemma => exact $t)
local macro_rules | `(tactic| walk_at "b") => `(tactic| exact ⟨by walk_at "g", by assumption⟩)
def ok_all{P:Program}{w:World}{K:ll}{mg:Str->ka}{C:Addr}(T2:Def K mg (top 2) "sack_number" ["sack"])(T3:Def K mg (top 3) "sack_hours" ["sack"])(T4:Def K mg (top 4) "sack_loss" ["sack"])(T5:Def K mg (top 5) "sacks_in_all" ["stacks"])(T6:Def K mg (top 6) "loss_in_all" ["stacks"])(T7:Def K mg (top 7) "top_sack" ["stacks", "at"])(T8:Def K mg (top 8) "with_stack" ["stacks", "at", "stack"])(T9:Def K mg (top 9) "without_top" ["stacks", "at"])(d4:Def K mg (top 11) "share_gap" ["one", "other"])(ea:Def K mg (top 12) "share_sign" ["one", "other"])(eb:Def K mg (top 13) "single_block" ["sack"])(ec:Def K mg (top 14) "joined_block" ["upper", "lower"])(ed:Def K mg (top 15) "block_share" ["block"])(ee:Def K mg (top 16) "has_greater_share" ["upper", "lower"])(ef:Def K mg (top 17) "stack_blocks" ["stack"])(ei:Def K mg (top 34) "turn_share" ["turn"])(ej:Def K mg (top 35) "place_of_turn" ["turns", "turn"])(el:Def K mg (top 36) "block_turns" ["stacks"])(en:Def K mg (top 37) "turn_sacks" ["stacks", "turns"])(eo:Def K mg (top 38) "told_order" ["stacks"])(ch:Def K mg (top 39) "check_known" ["stacks", "at"])(ep:Def K mg (top 40) "check_whole" ["stacks", "order"])(er:Def K mg (top 41) "check_order" ["stacks", "order"])(es:Def K mg (top 42) "taken_sacks" ["stacks", "order"])(et:Def K mg (top 44) "order_plan" ["stacks", "order"])(eu:Def K mg (top 45) "order_cost" ["stacks", "order"])(ev:Def K mg (top 46) "least_cost" ["stacks"])(ew:Def K mg (top 48) "hours_gone" ["stretches"])(ex:Def K mg (top 49) "lost_by" ["stretches", "hour"])(ey:Def K mg (top 51) "block_debts" ["share", "sacks"])(ez:Def K mg (top 52) "turn_fall" ["turns", "place"])(e0:Def K mg (top 53) "why_least" ["stacks"])(e1:Def K mg (top 60) "check_count" ["many"])(e2:Def K mg (top 61) "check_hours" ["hours"])(e3:Def K mg (top 62) "check_loss" ["loss"])(e4:Def K mg (top 63) "check_room" ["stacks"])(e5:Def K mg (top 64) "check_lies" ["stacks", "at"])(e6:Def K mg (top 65) "check_place" ["stack", "place"])(e8:Def K mg (top 66) "check_waits" ["stacks"])(e9:Def K mg (top 67) "check_deeds" ["deeds"])(fa:Def K mg (top 68) "next_number" ["deeds"])(fe:Def K mg (top 69) "told_anew" ["sack", "loss"])(ar:Mef K C (mth 0) "__init__" "House.__init__" ["self", "many"])(a0:Mef K C (mth 1) "piles" "House.piles" ["self"])(a1:Mef K C (mth 2) "spans" "House.spans" ["self"])(a2:Mef K C (mth 3) "keep" "House.keep" ["self", "deed", "piles", "spans"])(a3:Mef K C (mth 4) "put" "House.put" ["self", "at", "hours", "loss"])(a4:Mef K C (mth 5) "tell" "House.tell" ["self", "at", "place", "loss"])(a5:Mef K C (mth 6) "go" "House.go" ["self", "at"])(a6:Mef K C (mth 8) "back" "House.back" ["self"])(a7:Mef K C (mth 9) "deeds" "House.deeds" ["self"])(a8:Mef K C (mth 10) "stacks" "House.stacks" ["self"])(a9:Mef K C (mth 11) "hour" "House.hour" ["self"])(ba:Mef K C (mth 7) "dry" "House.dry" ["self"])(bb:Mef K C (mth 12) "order" "House.order" ["self"])(bd:Mef K C (mth 13) "plan" "House.plan" ["self"])(be:Mef K C (mth 14) "cost" "House.cost" ["self"])(bk:Mef K C (mth 15) "why" "House.why" ["self"])(bl:Mef K C (mth 18) "stretches" "House.stretches" ["self"])(bm:Mef K C (mth 19) "lost" "House.lost" ["self", "hour"])(fh:Def K mg (top 72) "_law_whole" ["_law_found"])(fi:Def K mg (top 73) "_law_at" ["_law_script", "_law_k"])(fk:Def K mg (top 74) "_law_draws" ["_law_script", "_law_many_here"])(fl:Def K mg (top 75) "_law_best" ["_law_sacks"])(fp:Def K mg (top 76) "_law_turns" ["_law_stacks"])(fr:Def K mg (top 77) "_law_told" ["_law_stacks"])(fs:Def K mg (top 78) "_law_taken" ["_law_stacks", "_law_order"])(fv:Def K mg (top 79) "_law_cost" ["_law_sacks"])(fw:Def K mg (top 80) "_law_same_row" ["_law_found", "_law_due"])(f0:Def K mg (top 81) "_law_same_rows" ["_law_found", "_law_due"])(f1:Def K mg (top 82) "_law_same_stacks" ["_law_found", "_law_due"])(f2:Def K mg (top 83) "_law_same_numbers" ["_law_found", "_law_due"])(ck:Def K mg (top 84) "_law_copy" ["_law_stacks"])(f3:Def K mg (top 85) "_law_kind" ["_law_error"])(f4:Def K mg (top 86) "_law_deed" ["_law_cell", "_law_piles"])(f5:Def K mg (top 87) "_law_refusal" ["_law_piles", "_law_kept", "_law_deed_here"])(f6:Def K mg (top 88) "_law_ask" ["_law_house", "_law_deed_here"])(ga:Def K mg (top 89) "_law_call" ["_law_house", "_law_deed_here"])(gb:Def K mg (top 90) "_law_step" ["_law_piles", "_law_deed_here", "_law_number"])(gd:Def K mg (top 91) "_law_rate" ["_law_piles"])(gj:Def K mg (top 92) "_law_same_answer" ["_law_found", "_law_due"])(gr:Def K mg (top 93) "_law_many" ["_law_header"])(gs:Def K mg (top 94) "_law_rates" ["_law_dried"])(gu:Def K mg (top 95) "_law_do" ["_law_house", "_law_state", "_law_deed_here"])(cl:Def K mg (top 96) "_law_new" ["_law_many_here"])(g0:Def K mg (top 97) "_law_plan" ["_law_piles", "_law_turns_here"])(g1:Def K mg (top 98) "_law_debts" ["_law_sacks", "_law_hours", "_law_loss"])(g2:Def K mg (top 99) "_law_same_why" ["_law_found", "_law_piles"])(cm:Def K mg (top 100) "_law_same_lost" ["_law_house", "_law_dried"])(cn:Def K mg (top 101) "_law_stands" ["_law_house", "_law_state"])(co:Def K mg (top 102) "_law_cells" ["_law_cells_here"])(m:Cl K "House" C)(cs:Cls K C)(mC:mg "House" = some (.ref C))(kC:PySem.W.makesIn K C=true)(pC:PySem.W.keepIn K (.ref C)=true)(bo:PySem.W.findIn K (.ref C) "kept" = some none)(T:PySem.W.findIn K (.ref C) "states" = some none)(q:Exc K mg "BadCount")(s:Exc K mg "BadHours")(z:Exc K mg "BadLoss")(o:Exc K mg "DeedsFull")(l:Exc K mg "EmptyStack")(p:Exc K mg "HouseFull")(A:Exc K mg "NotGone")(k:Exc K mg "NothingDone")(d:Exc K mg "NothingWaits")(e:Exc K mg "UnknownPlace")(g:Exc K mg "UnknownStack")(Z:∃t,mg "MOST_DEEDS" = some (.int 60 t))(b:∃t,mg "MOST_HOURS" = some (.int 60 t))(c:∃t,mg "MOST_LOSS" = some (.int 100 t))(Y:∃t,mg "MOST_STACKS" = some (.int 5 t))(V:∃t,mg "MOST_WAITING" = some (.int 14 t))(B:KFacts K mg)(an:mg "ValueError" = none)(d2:mg "bool" = none)(bp:mg "enumerate" = none)(g3:mg "int" = none)(ap:mg "isinstance" = none)(g4:mg "len" = none)(d3:mg "list" = none)(g5:mg "max" = none)(g6:mg "min" = none)(cp:mg "range" = none)(g7:mg "str" = none)(g8:mg "sum" = none)(ct:mg "tuple" = none)(g9:mg "zip" = none):∀base f fd,Fun K "law" "law" (top 103) f fd->FnOk P w K mg base CX0 11 f fd ["_law_script"] (dSp K z84):=by
 intro base;have D:Atr K "House" "kept":=⟨C,cs,bo,m⟩;have U:Atr K "House" "states":=⟨C,cs,T,m⟩;have c2:Cal P w K mg base CX0 "sack_number" 1 (dSp K zgl):=by exists i7 T2 ["sack"] λr a t=>di (ek (d7 b9 a))
 have c3:Cal P w K mg base CX0 "sack_hours" 1 (dSp K u8):=by exists i7 T3 ["sack"] λr a t=>di (ek (d7 b9 a))
 have c4:Cal P w K mg base CX0 "sack_loss" 1 (dSp K wj):=by exists i7 T4 ["sack"] λr a t=>di (ek (d7 b9 a))
 have c5:Cal P w K mg base CX0 "sacks_in_all" 1 (dSp K zfv):=by exists i7 T5 ["stacks"] λr a t=>di (ek (vq (bc (fy (sy a (j3 (az a)) (λ_ _ _ _ _ _ _ a=>jy a))) cg)))
 have c6:Cal P w K mg base CX0 "loss_in_all" 2 (dSp K ziv):=by exists i7 T6 ["stacks", "total", "stack"] λr a t=>cx (fj t b9) (cx (l3 (j3 (az a)) t.pg (di (xp t (vq (bc (fy (sy a (j3 (az a)) (λ_ _ _ _ _ _ _ a=>fx c4 r (bc (az a) cg)))) cg))))) (di (ek (az a))))
 have c7:Cal P w K mg base CX0 "top_sack" 1 (dSp K zkj):=by exists i7 T7 ["stacks", "at"] λr a t=>di (ek (kv (d7 (j1 (az a) b9) a) b9))
 have c8:Cal P w K mg base CX0 "with_stack" 1 (dSp K zk):=by exists i7 T8 ["stacks", "at", "stack"] λr a t=>di (ek (fy (m9 (fy (m9 (fy (pd (az a) ql (n6 (j1 (az a) b9)))) (fy (ij (bc (az a) cg))))) (fy (pd (az a) (n6 (az a)) ql)))))
 have c9:Cal P w K mg base CX0 "without_top" 2 (dSp K zgn):=by exists i7 T9 ["stacks", "at"] λr a t=>di (ek (fx c8 r (bc (az a) (bc (az a) (bc (fy (pd (d7 (j1 (az a) b9) a) (n6 b9) ql)) cg)))))
 have b5:Cal P w K mg base CX0 "share_gap" 1 (dSp K zg):=by exists i7 d4 ["one", "other"] λr a t=>di (ek (j1 (oq (d7 b9 a) (d7 b9 a)) (oq (d7 b9 a) (d7 b9 a))))
 have cu:Cal P w K mg base CX0 "share_sign" 2 (dSp K u9):=by exists i7 ea ["one", "other", "gap"] λr a t=>cx (fj t (fx b5 r (bc (az a) (bc (az a) cg)))) (cx (gf (nh (az a) b9) (di (ek b9)) gg) (cx (gf (oa (az a) b9) (di (ek (t4 b9))) gg) (di (ek b9))))
 have ha:Cal P w K mg base CX0 "single_block" 2 (dSp K zfp):=by exists i7 eb ["sack"] λr a t=>di (ek (kx (bc b9 (bc (fx c3 r (bc (az a) cg)) (bc (fx c4 r (bc (az a) cg)) cg)))))
 have hb:Cal P w K mg base CX0 "joined_block" 1 (dSp K zfq):=by exists i7 ec ["upper", "lower"] λr a t=>di (ek (kx (bc (j4 (d7 b9 a) (d7 b9 a)) (bc (j4 (d7 b9 a) (d7 b9 a)) (bc (j4 (d7 b9 a) (d7 b9 a)) cg)))))
 have cv:Cal P w K mg base CX0 "block_share" 1 (dSp K zeq):=by exists i7 ed ["block"] λr a t=>di (ek (kx (bc (d7 b9 a) (bc (d7 b9 a) cg))))
 have hc:Cal P w K mg base CX0 "has_greater_share" 3 (dSp K vg):=by exists i7 ee ["upper", "lower"] λr a t=>di (ek (z9r (fx cu r (bc (fx cv r (bc (az a) cg)) (bc (fx cv r (bc (az a) cg)) cg))) b9))
 have hd:Cal P w K mg base CX0 "stack_blocks" 4 (dSp K zhy):=by exists i7 ef ["stack", "blocks", "sack", "block"] λr a t=>cx (mi (t.psF (ij cg))) (cx (l3 (j3 (az a)) t.pg (cx (fj t (fx ha r (bc (az a) cg))) (cx (zp0 (dt_w (sw (nh (jy a) b9) (td (ky (kg (fx hc r (bc (d7 (t4 b9) a) (bc (az a) cg)))))))) (di (fj t (fx hb r (bc (z7n a) (bc (az a) cg)))))) (di (jm (pz (az a) a)))))) (di (ek (az a))))
 have aa:Cal P w K mg base CX0 "turn_share" 1 (dSp K uh):=by exists i7 ei ["turn"] λr a t=>di (ek (kx (bc (d7 b9 a) (bc (d7 b9 a) cg))))
 have he:Cal P w K mg base CX0 "place_of_turn" 3 (dSp K zg7):=by exists i7 ej ["turns", "turn", "place"] λr a t=>cx (fj t b9) (cx (zp0 (dt_w (sw (oa (az a) (jy a)) (td (yf (fx cu r (bc (fx aa r (bc (d7 (az a) a) cg)) (bc (fx aa r (bc (az a) cg)) cg))) b9)))) (di (xp t b9))) (di (ek (az a))))
 have c0:Cal P w K mg base CX0 "block_turns" 5 (dSp K x0):=by exists i7 el ["stacks", "turns", "at", "stack", "many", "hours", "loss", "turn"] λr a t=>cx (mi (t.psF (ij cg))) (cx (zp4 (z0g (bc (az a) cg)) (kt t (kt t t3)) (di (znx (j3 (fx hd r (bc (az a) cg))) (kt t (kt t (kt t t3))) (cx (fj t (kx (bc (az a) (bc (az a) (bc (az a) (bc (az a) cg)))))) (di (jm (zxo (z0p he r (z39 (z90 (bc (az a) cg)) a)) (az a) a))))))) (di (ek (az a))))
 have hf:Cal P w K mg base CX0 "turn_sacks" 1 (dSp K zjz):=by exists i7 en ["stacks", "turns", "taken", "sacks", "at", "many", "hours", "loss", "begin"] λr a t=>cx (mi (zlr a t (j3 (az a)) (λ_ _ _ _ _ _ _ a=>b9))) (cx (mi (t.psF (ij cg))) (cx (znx (j3 (az a)) (kt t (kt t (kt t (kt t t3)))) (cx (fj t (d7 (j1 (az a) b9) a)) (cx (zm9 (j1 (az a) b9) (j4 (az a) (az a)) a) (di (jm (pz (fy (pd (d7 (j1 (az a) b9) a) (n6 (az a)) (n6 (j4 (az a) (az a))))) a)))))) (di (ek (az a)))))
 have ca:Cal P w K mg base CX0 "told_order" 6 (fSp K wm):=by exists z4h eo ["stacks", "order", "at", "many", "hours", "loss"] λr a t=>cx (mi (t.psF (ij cg))) (cx (znx (j3 (fx c0 r (bc (az a) cg))) (kt t (kt t (kt t (kt t t3)))) (di (jm (zxv (zxq (ij (bc (az a) cg)) (az a)) a)))) (di (zxf a)))
 have X:Cal P w K mg base (CXr P w) "check_known" 1 (qSp K zt wn):=by exists rd ch ["stacks", "at"] λr a t=>di (gf (dt_w (lf (oa (az a) b9) (lq (nh (az a) (jy a))))) (di (tj g zrz)) gg)
 have hg:Cal P w K mg base CX0 "check_known" 1 (dSp K zii):=by exists i7 ch ["stacks", "at"] λr a t=>di (gf (dt_w (lf (oa (az a) b9) (lq (nh (az a) (jy a))))) (di zpz) gg)
 have hh:Cal P w K mg base CX0 "check_whole" 1 (dSp K zik):=by exists i7 ep ["stacks", "order", "left", "at"] λr a t=>cx (mi (zlr a t (j3 (az a)) (λ_ _ _ _ _ _ _ a=>jy a))) (cx (l3 (j3 (az a)) t.pg (cx (gf (j5 (d7 (j1 (az a) b9) a) b9) (di zpz) gg) (di (z0k (j1 (az a) b9) b9 a)))) (di (gf (nh (z38 a) b9) (di zpz) gg)))
 have hi:Cal P w K mg base CX0 "check_order" 2 (dSp K zim):=by exists i7 er ["stacks", "order", "at"] λr a t=>cx (l3 (j3 (az a)) t.pg (di (jm (fx hg r (bc (az a) (bc (az a) cg)))))) (di (jm (fx hh r (bc (az a) (bc (az a) cg)))))
 have c1:Cal P w K mg base CX0 "taken_sacks" 3 (dSp K zgm):=by exists i7 es ["stacks", "order", "taken", "sacks", "at"] λr a t=>cx (jm (fx hi r (bc (az a) (bc (az a) cg)))) (cx (mi (zlr a t (j3 (az a)) (λ_ _ _ _ _ _ _ a=>b9))) (cx (mi (t.psF (ij cg))) (cx (l3 (j3 (az a)) t.pg (cx (jm (pz (kv (d7 (j1 (az a) b9) a) (d7 (j1 (az a) b9) a)) a)) (di (z0j (j1 (az a) b9) b9 a)))) (di (ek (az a))))))
 have hj:Cal P w K mg base CX0 "order_plan" 4 (dSp K zhn):=by exists i7 et ["stacks", "order", "plan", "hour", "at", "sack", "dry"] λr a t=>cx (mi (t.psF (ij cg))) (cx (fj t b9) (cx (zp4 (z7w (bc (az a) (bc (fx c1 r (bc (az a) (bc (az a) cg))) cg))) (kt t (kt t t3)) (cx (fj t (j4 (az a) (fx c3 r (bc (az a) cg)))) (cx (jm (pz (kx (bc (fx c2 r (bc (az a) cg)) (bc (az a) (bc (az a) (bc (az a) cg))))) a)) (di (fj t (az a)))))) (di (ek (az a)))))
 have hk:Cal P w K mg base CX0 "order_cost" 4 (dSp K zju):=by exists i7 eu ["stacks", "order", "cost", "hour", "sack"] λr a t=>cx (fj t b9) (cx (fj t b9) (cx (l3 (j3 (fx c1 r (bc (az a) (bc (az a) cg)))) t.pg (cx (xp t (fx c3 r (bc (az a) cg))) (di (xp t (oq (fx c4 r (bc (az a) cg)) (az a)))))) (di (ek (az a)))))
 have hl:Cal P w K mg base CX0 "least_cost" 7 (dSp K zhq):=by exists i7 ev ["stacks"] λr a t=>di (ek (fx hk r (bc (az a) (bc (fy (znv ca r (bc (az a) cg))) cg))))
 have da:Cal P w K mg base CX0 "hours_gone" 1 (dSp K zga):=by exists i7 ew ["stretches"] λr a t=>cx (gf (j5 (jy a) b9) (di (ek b9)) gg) (di (ek (kv (d7 (t4 b9) a) b9)))
 have dd:Cal P w K mg base (CXr P w) "lost_by" 2 (qSp K zkl zkm):=by exists rd ex ["stretches", "hour", "lost", "begun", "dry", "rate"] λr a t=>cx (gf (dt_w (lf (oa (az a) b9) (lq (nh (az a) (fx da r (bc (az a) cg)))))) (di (tj A zrz)) gg) (cx (fj t b9) (cx (znx (j3 (az a)) (kt t (kt t (kt t t3))) (di (gf (oa (az a) (az a)) (di (xp t (oq (az a) (j1 (z7i (bc (az a) (bc (az a) cg))) (az a))))) gg))) (di (ek (az a)))))
 have hm:Cal P w K mg base CX0 "block_debts" 2 (dSp K zir):=by exists i7 ey ["share", "sacks", "debts", "hours", "loss", "sack"] λr a t=>cx (mi (t.psF (ij cg))) (cx (fj t b9) (cx (fj t b9) (cx (l3 (j3 (fy (pd (az a) ql (n6 (t4 b9))))) t.pg (cx (xp t (fx c3 r (bc (az a) cg))) (cx (xp t (fx c4 r (bc (az a) cg))) (di (jm (pz (fx b5 r (bc (az a) (bc (kx (bc (az a) (bc (az a) cg))) cg))) a)))))) (di (ek (az a))))))
 have hn:Cal P w K mg base CX0 "turn_fall" 2 (dSp K zld):=by exists i7 ez ["turns", "place"] λr a t=>cx (gf (j5 (j4 (az a) b9) (jy a)) (di (ek b9)) gg) (di (ek (fx b5 r (bc (fx aa r (bc (d7 (az a) a) cg)) (bc (fx aa r (bc (d7 (j4 (az a) b9) a) cg)) cg)))))
 have ho:Cal P w K mg base CX0 "why_least" 6 (dSp K zit):=by exists i7 e0 ["stacks", "turns", "rows", "place", "sacks", "turn"] λr a t=>cx (fj t (fx c0 r (bc (az a) cg))) (cx (mi (t.psF (ij cg))) (cx (zp4 (z33 (bc (fx hf r (bc (az a) (bc (az a) cg))) cg)) (kt t (kt t t3)) (cx (fj t (d7 (az a) a)) (di (jm (pz (z36 (az a) (kx (bc (fx hm r (bc (fx aa r (bc (az a) cg)) (bc (az a) cg))) (bc (fx hn r (bc (az a) (bc (az a) cg))) cg)))) a))))) (di (ek (az a)))))
 have dj:Cal P w K mg base (CXr P w) "check_count" 1 (qSp K zfw zfx):=by exists rd e1 ["many"] λr a t=>di (gf (dt_w (lf (oa (az a) b9) (lq (nh (az a) (ub Y))))) (di (tj q (yv (pq vz (pq (yx (ub Y)) (pq vz yw)))))) gg)
 have dk:Cal P w K mg base (CXr P w) "check_hours" 1 (qSp K zfy zr):=by exists rd e2 ["hours"] λr a t=>di (gf (dt_w (lf (oa (az a) b9) (lq (nh (az a) (ub b))))) (di (tj s (yv (pq vz (pq (yx (ub b)) (pq vz yw)))))) gg)
 have br:Cal P w K mg base (CXr P w) "check_loss" 1 (qSp K ze1 xz):=by exists rd e3 ["loss"] λr a t=>di (gf (dt_w (lf (oa (az a) b9) (lq (nh (az a) (ub c))))) (di (tj z (yv (pq vz (pq (yx (ub c)) yw))))) gg)
 have dp:Cal P w K mg base (CXr P w) "check_room" 2 (qSp K zgp zn):=by exists rd e4 ["stacks"] λr a t=>di (gf (yf (fx c5 r (bc (az a) cg)) (ub V)) (di (tj p (yv (pq (yx (ub V)) (pq vz yw))))) gg)
 have bs:Cal P w K mg base (CXr P w) "check_lies" 1 (qSp K ze5 xy):=by exists rd e5 ["stacks", "at"] λr a t=>di (gf (j5 (xh (bc (d7 (j1 (az a) b9) a) cg)) b9) (di (tj l (yv (pq vz (pq (yx (az a)) yw))))) gg)
 have dr:Cal P w K mg base (CXr P w) "check_place" 1 (qSp K zf6 zo):=by exists rd e6 ["stack", "place"] λr a t=>di (gf (dt_w (lf (oa (az a) b9) (lq (nh (az a) (jy a))))) (di (tj e zrz)) gg)
 have ds:Cal P w K mg base (CXr P w) "check_waits" 2 (qSp K zf2 zp):=by exists rd e8 ["stacks"] λr a t=>di (gf (j5 (fx c5 r (bc (az a) cg)) b9) (di (tj d zrz)) gg)
 have x:Cal P w K mg base (CXr P w) "check_deeds" 1 (qSp K xw ve):=by exists rd e9 ["deeds"] λr a t=>di (gf (yf (jy a) (ub Z)) (di (tj o (yv (pq (yx (ub Z)) (pq vz yw))))) gg)
 have hp:Cal P w K mg base CX0 "next_number" 1 (dSp K zgq):=by exists i7 fa ["deeds"] λr a t=>di (ek (j4 b9 (xh (bc (fy (zrn a (j3 (az a)) (λ_ _ _ _ _ _ _ a=>j5 (d7 b9 a) gm) (λ_ _ _ _ _ _ _ a=>az a))) cg))))
 have hq:Cal P w K mg base CX0 "told_anew" 2 (dSp K zlk):=by exists i7 fe ["sack", "loss"] λr a t=>di (ek (kx (bc (fx c2 r (bc (az a) cg)) (bc (fx c3 r (bc (az a) cg)) (bc (az a) cg)))))
 have bt:KCal P w K mg base "House" 2 (lSp K zcu zfi):=by exists z97 m mC kC pC ar ["self", "many"] λr a t=>cx (l6 (jm (mj dj r (jk (bc (az a) cg)))) (og (n8 dj r (jk (bc (az a) cg))))) (cx (zuw D a (ij cg)) (di (zuw U a (ij (bc (kx (bc (fy (sy a (se (bc (az a) cg)) (λ_ _ _ _ _ _ _ a=>fy (ij cg)))) (bc (fy (ij cg)) cg))) cg)))))
 have J:MCal P w K mg base "House" "piles" 1 (qSp K oj zor):=by exists sj m cs a0 ["self"] λr a t=>di (ek (kv (zxy (wf U a) (z2g z2f)) b9))
 have R:MCal P w K mg base "House" "spans" 1 (qSp K o6 zos):=by exists sj m cs a1 ["self"] λr a t=>di (ek (kv (zxy (wf U a) (z2g z2f)) b9))
 have j:MCal P w K mg base "House" "keep" 1 (lSp K tq zqt):=by exists yh m cs a2 ["self", "deed", "piles", "spans"] λr a t=>cx (jm (zid (wf D a) (az a))) (di (jm (zid (wf U a) (kx (bc (az a) (bc (az a) cg))))))
 have F:MCal P w K mg base "House" "put" 3 (lSp K zgb zj):=by exists yh m cs a3 ["self", "at", "hours", "loss", "piles", "number", "stack"] λr a t=>cx (fj t (lg J r a)) (cx (l6 (jm (mj X r (jk (bc (az a) (bc (az a) cg))))) (og (n8 X r (jk (bc (az a) (bc (az a) cg)))))) (cx (l6 (jm (mj dk r (jk (bc (az a) cg)))) (og (n8 dk r (jk (bc (az a) cg))))) (cx (l6 (jm (mj br r (jk (bc (az a) cg)))) (og (n8 br r (jk (bc (az a) cg))))) (cx (l6 (jm (mj dp r (jk (bc (az a) cg)))) (og (n8 dp r (jk (bc (az a) cg))))) (cx (l6 (jm (sx (λ_ _=>mj x r (jk (bc (uz D a) cg))))) (og (zuu (λ_ _=>n8 x r (jk (bc (uz D a) cg)))))) (cx (fj t (sx (λ_ _=>fx hp r (bc (uz D a) cg)))) (cx (fj t (fy (m9 (fy (ij (bc (kx (bc (az a) (bc (az a) (bc (az a) cg)))) cg))) (d7 (j1 (az a) b9) a)))) (cx (jm (xu j r (bc (kx (bc gm (bc (az a) (bc (az a) (bc (az a) cg))))) (bc (fx c8 r (bc (az a) (bc (az a) (bc (az a) cg)))) (bc (lg R r a) cg))) a)) (di (ek (az a)))))))))))
 have G:MCal P w K mg base "House" "tell" 3 (lSp K ze6 zm):=by exists yh m cs a4 ["self", "at", "place", "loss", "piles", "stack", "sack", "changed"] λr a t=>cx (fj t (lg J r a)) (cx (l6 (jm (mj X r (jk (bc (az a) (bc (az a) cg))))) (og (n8 X r (jk (bc (az a) (bc (az a) cg)))))) (cx (l6 (jm (mj bs r (jk (bc (az a) (bc (az a) cg))))) (og (n8 bs r (jk (bc (az a) (bc (az a) cg)))))) (cx (fj t (d7 (j1 (az a) b9) a)) (cx (l6 (jm (mj dr r (jk (bc (az a) (bc (az a) cg))))) (og (n8 dr r (jk (bc (az a) (bc (az a) cg)))))) (cx (l6 (jm (mj br r (jk (bc (az a) cg)))) (og (n8 br r (jk (bc (az a) cg))))) (cx (l6 (jm (sx (λ_ _=>mj x r (jk (bc (uz D a) cg))))) (og (zuu (λ_ _=>n8 x r (jk (bc (uz D a) cg)))))) (cx (fj t (d7 (j1 (az a) b9) a)) (cx (fj t (fy (m9 (fy (m9 (fy (pd (az a) ql (n6 (j1 (az a) b9)))) (fy (ij (bc (fx hq r (bc (az a) (bc (az a) cg))) cg))))) (fy (pd (az a) (n6 (az a)) ql))))) (cx (jm (xu j r (bc (kx (bc gm (bc (az a) (bc (az a) (bc (az a) cg))))) (bc (fx c8 r (bc (az a) (bc (az a) (bc (az a) cg)))) (bc (lg R r a) cg))) a)) (di (ek (fx c4 r (bc (az a) cg)))))))))))))
 have H:MCal P w K mg base "House" "go" 3 (lSp K zhg ze):=by exists yh m cs a5 ["self", "at", "piles"] λr a t=>cx (fj t (lg J r a)) (cx (l6 (jm (mj X r (jk (bc (az a) (bc (az a) cg))))) (og (n8 X r (jk (bc (az a) (bc (az a) cg)))))) (cx (l6 (jm (mj bs r (jk (bc (az a) (bc (az a) cg))))) (og (n8 bs r (jk (bc (az a) (bc (az a) cg)))))) (cx (l6 (jm (sx (λ_ _=>mj x r (jk (bc (uz D a) cg))))) (og (zuu (λ_ _=>n8 x r (jk (bc (uz D a) cg)))))) (cx (jm (xu j r (bc (kx (bc gm (bc (az a) cg))) (bc (fx c9 r (bc (az a) (bc (az a) cg))) (bc (lg R r a) cg))) a)) (di (ek (fx c7 r (bc (az a) (bc (az a) cg)))))))))
 have L:MCal P w K mg base "House" "back" 1 (lSp K ze8 zw):=by exists yh m cs a6 ["self"] λr a t=>cx (gf (j5 (zur (wf D a)) b9) (di (tj k zrz)) gg) (cx (jm (znd (wf U a))) (di (ek (znd (wf D a)))))
 have bv:MCal P w K mg base "House" "deeds" 1 (qSp K zf0 zot):=by exists sj m cs a7 ["self"] λr a t=>di (ek (fy (zr1 (wf D a))))
 have M:MCal P w K mg base "House" "stacks" 2 (qSp K zx zoe):=by exists sj m cs a8 ["self"] λr a t=>di (ek (fy (sy a (j3 (lg J r a)) (λ_ _ _ _ _ _ _ a=>fy (yy (bc (az a) cg))))))
 have N:MCal P w K mg base "House" "hour" 2 (qSp K ze2 zqu):=by exists sj m cs a9 ["self"] λr a t=>di (ek (fx da r (bc (lg R r a) cg)))
 have O:MCal P w K mg base "House" "dry" 7 (lSp K zgd zh):=by exists yh m cs ba ["self", "piles", "at", "sack", "begun", "stretch"] λr a t=>cx (fj t (lg J r a)) (cx (l6 (jm (mj ds r (jk (bc (az a) cg)))) (og (n8 ds r (jk (bc (az a) cg))))) (cx (l6 (jm (sx (λ_ _=>mj x r (jk (bc (uz D a) cg))))) (og (zuu (λ_ _=>n8 x r (jk (bc (uz D a) cg)))))) (cx (fj t (kv (fy (znv ca r (bc (az a) cg))) b9)) (cx (fj t (fx c7 r (bc (az a) (bc (az a) cg)))) (cx (fj t (lg N r a)) (cx (fj t (kx (bc (az a) (bc (j4 (az a) (fx c3 r (bc (az a) cg))) (bc (fx c6 r (bc (az a) cg)) cg))))) (cx (jm (xu j r (bc (kx (bc gm cg)) (bc (fx c9 r (bc (az a) (bc (az a) cg))) (bc (fy (m9 (lg R r a) (fy (ij (bc (az a) cg))))) cg))) a)) (di (ek (az a))))))))))
 have Q:MCal P w K mg base "House" "order" 7 (qSp K zd5 zou):=by exists sj m cs bb ["self"] λr a t=>di (ek (fy (znv ca r (bc (lg J r a) cg))))
 have b0:MCal P w K mg base "House" "plan" 8 (qSp K zgu zqv):=by exists sj m cs bd ["self"] λr a t=>di (ek (fx hj r (bc (lg J r a) (bc (lg Q r a) cg))))
 have b1:MCal P w K mg base "House" "cost" 8 (qSp K zgv zqw):=by exists sj m cs be ["self"] λr a t=>di (ek (fx hl r (bc (lg J r a) cg)))
 have b2:MCal P w K mg base "House" "why" 7 (qSp K zht zsg):=by exists sj m cs bk ["self"] λr a t=>di (ek (fx ho r (bc (lg J r a) cg)))
 have b3:MCal P w K mg base "House" "stretches" 2 (qSp K zdm zl0):=by exists sj m cs bl ["self"] λr a t=>di (ek (fy (yy (bc (lg R r a) cg))))
 have S:MCal P w K mg base "House" "lost" 3 (qSp K zgs zgt):=by exists sj m cs bm ["self", "hour"] λr a t=>di (l6 (ek (mj dd r (jk (bc (lg R r a) (bc (az a) cg))))) (xn (n8 dd r (jk (bc (lg R r a) (bc (az a) cg))))))
 have E:Cal P w K mg base CX0 "_law_whole" 1 (dSp K tm):=by exists i7 fh ["_law_found"] λr a t=>di (ek (zt9 (rg z7s (az a)) (zt8 (z7a (rg z3x (az a))))))
 have hr:Cal P w K mg base CX0 "_law_at" 1 (dSp K zjp):=by exists i7 fi ["_law_script", "_law_k"] λr a t=>cx (gf (oa (az a) (jy a)) (di (ek (d7 (az a) a))) gg) (di (ek b9))
 have hs:Cal P w K mg base CX0 "_law_draws" 2 (dSp K zf8):=by exists i7 fk ["_law_script", "_law_many_here", "_law_made", "_law_state", "_law_k", "_law_cell"] λr a t=>cx (mi (t.psF (ij cg))) (cx (fj t b9) (cx (l3 (se (bc (az a) cg)) t.pg (cx (fj t (fx hr r (bc (az a) (bc (az a) cg)))) (cx (gf (j5 (nk (jy a) b9) b9) (cx (fj t (nk (j4 (j4 (j4 (oq (az a) b9) (az a)) (az a)) b9) b9)) (di (fj t (nk (oq (j4 (az a) (az a)) b9) b9)))) gg) (di (jm (pz (az a) a)))))) (di (ek (az a)))))
 have ht:Cal P w K mg base CX0 "_law_best" 1 (dSp K zg8):=by exists i7 fl ["_law_sacks", "_law_best_here", "_law_hours", "_law_loss", "_law_k"] λr a t=>cx (fj t (fy (ij (bc b9 (bc b9 (bc (t4 b9) cg)))))) (cx (fj t b9) (cx (fj t b9) (cx (l3 (se (bc (jy a) cg)) t.pg (cx (fj t (j4 (az a) (kv (d7 (az a) a) b9))) (cx (fj t (j4 (az a) (kv (d7 (az a) a) b9))) (di (gf (yf (oq (az a) (d7 b9 a)) (oq (d7 b9 a) (az a))) (di (fj t (fy (ij (bc (j4 (az a) b9) (bc (az a) (bc (az a) cg))))))) gg))))) (di (ek (az a))))))
 have cc:Cal P w K mg base CX0 "_law_turns" 2 (dSp K zl):=by exists i7 fp ["_law_stacks", "_law_left", "_law_made", "_law_heads", "_law_pick", "_law_k"] λr a t=>cx (mi (zlr a t (j3 (az a)) (λ_ _ _ _ _ _ _ a=>fy (yy (bc (az a) cg))))) (cx (mi (t.psF (ij cg))) (cx (zp0 (nh (vq (bc (fy (z0l a (z2b a) (λ_ _ _ _ _ _ _ a=>jy a))) cg)) b9) (cx (zxi (z0m a t (z2b a) (λ_ _ _ _ _ _ _ a=>fx ht r (bc (az a) cg)))) (cx (fj t b9) (cx (l3 (se (bc (jy a) cg)) t.pg (di (gf (nh (oq (kv (d7 (az a) a) b9) (kv (d7 (az a) a) b9)) (oq (kv (d7 (az a) a) b9) (kv (d7 (az a) a) b9))) (di (fj t (az a))) gg))) (cx (jm (pz (kx (bc (j4 (az a) b9) (bc (kv (d7 (az a) a) b9) (bc (kv (d7 (az a) a) b9) (bc (kv (d7 (az a) a) b9) cg))))) a)) (di (zm9 (az a) (fy (pd (d7 (az a) a) (n6 (kv (d7 (az a) a) b9)) ql)) a))))))) (di (ek (az a)))))
 have hu:Cal P w K mg base CX0 "_law_told" 3 (fSp K zla):=by exists z4h fr ["_law_stacks", "_law_made", "_law_turn"] λr a t=>cx (mi (t.psF (ij cg))) (cx (l3 (j3 (fx cc r (bc (az a) cg))) t.pg (di (mi (t.psF (m9 (az a) (fy (zxq (ij (bc (d7 b9 a) cg)) (d7 b9 a)))))))) (di (zxf a)))
 have hv:Cal P w K mg base CX0 "_law_taken" 1 (dSp K zjw):=by exists i7 fs ["_law_stacks", "_law_order", "_law_taken_here", "_law_made", "_law_at_here"] λr a t=>cx (mi (zlr a t (j3 (az a)) (λ_ _ _ _ _ _ _ a=>b9))) (cx (mi (t.psF (ij cg))) (cx (l3 (j3 (az a)) t.pg (cx (jm (pz (kv (d7 (j1 (az a) b9) a) (d7 (j1 (az a) b9) a)) a)) (di (zm9 (j1 (az a) b9) (j4 (d7 (j1 (az a) b9) a) b9) a)))) (di (ek (az a)))))
 have hw:Cal P w K mg base CX0 "_law_cost" 1 (dSp K zlc):=by exists i7 fv ["_law_sacks", "_law_hour", "_law_total", "_law_sack"] λr a t=>cx (fj t b9) (cx (fj t b9) (cx (l3 (j3 (az a)) t.pg (cx (fj t (j4 (az a) (d7 b9 a))) (di (fj t (j4 (az a) (oq (d7 b9 a) (az a))))))) (di (ek (az a)))))
 have ab:Cal P w K mg base CX0 "_law_same_row" 2 (dSp K vf):=by exists i7 fw ["_law_found", "_law_due", "_law_k"] λr a t=>cx (gf (dt_w (lf (ky (kg (rg zp2 (az a)))) (lq (pf (jy a) (jy a))))) (di (ek ku)) gg) (cx (l3 (se (bc (jy a) cg)) t.pg (cx (gf (dt_w (sw (kg (rg zxm (d7 (az a) a))) (td (ky (kg (rg zxm (d7 (az a) a))))))) (di (ek ku)) gg) (cx (gf (dt_w (sw (ky (kg (rg zxm (d7 (az a) a)))) (td (ky (kg (fx E r (bc (d7 (az a) a) cg))))))) (di (ek ku)) gg) (di (gf (pf (d7 (az a) a) (d7 (az a) a)) (di (ek ku)) gg))))) (di (ek ku)))
 have ag:Cal P w K mg base CX0 "_law_same_rows" 3 (dSp K qr):=by exists i7 f0 ["_law_found", "_law_due", "_law_k"] λr a t=>cx (gf (dt_w (lf (ky (kg (rg zp1 (az a)))) (lq (pf (jy a) (jy a))))) (di (ek ku)) gg) (cx (l3 (se (bc (jy a) cg)) t.pg (di (gf (ky (kg (fx ab r (bc (d7 (az a) a) (bc (d7 (az a) a) cg))))) (di (ek ku)) gg))) (di (ek ku)))
 have dt:Cal P w K mg base CX0 "_law_same_stacks" 4 (dSp K zy):=by exists i7 f1 ["_law_found", "_law_due", "_law_k"] λr a t=>cx (gf (dt_w (lf (ky (kg (rg zp1 (az a)))) (lq (pf (jy a) (jy a))))) (di (ek ku)) gg) (cx (l3 (se (bc (jy a) cg)) t.pg (di (gf (ky (kg (fx ag r (bc (d7 (az a) a) (bc (d7 (az a) a) cg))))) (di (ek ku)) gg))) (di (ek ku)))
 have dv:Cal P w K mg base CX0 "_law_same_numbers" 2 (dSp K zb9):=by exists i7 f2 ["_law_found", "_law_due", "_law_k"] λr a t=>cx (gf (dt_w (lf (ky (kg (rg zp1 (az a)))) (lq (pf (jy a) (jy a))))) (di (ek ku)) gg) (cx (l3 (se (bc (jy a) cg)) t.pg (di (gf (dt_w (lf (ky (kg (fx E r (bc (d7 (az a) a) cg)))) (lq (pf (d7 (az a) a) (d7 (az a) a))))) (di (ek ku)) gg))) (di (ek ku)))
 have hx:Cal P w K mg base CX0 "_law_copy" 1 (fSp K zk8):=by exists z4h ck ["_law_stacks"] λr a t=>di (z3u (sy a (j3 (az a)) (λ_ _ _ _ _ _ _ a=>fy (yy (bc (az a) cg)))))
 have hy:Cal P w K mg base CX0 "_law_copy" 1 (fSp2 K zhp):=by exists z8b ck ["_law_stacks"] λr a t=>di (zz6 (zz4 a (j3 (az a)) (λ_ _ _ _ _ _ _ a=>yy (bc (az a) cg))))
 obtain⟨RA,hR,hS⟩:=B.rot;have kk:KCl P w K mg base "_law_kind" 1 kdT:=by exists z99 f3 ["_law_error", "_law_kinds", "_law_words", "_law_found"] z1n λu v y a t=>cx (fj t (fy (ij (bc (qk B u v y a) (bc (qk B u v y a) cg))))) (cx (fj t (fy (m9 (az a) (fy (ij (bc (qk B u v y a) (bc (qk B u v y a) cg))))))) (cx (fj t (fy (m9 (az a) (fy (ij (bc (qk B u v y a) (bc (qk B u v y a) cg))))))) (cx (fj t (fy (m9 (az a) (fy (ij (bc (qk B u v y a) (bc (qk B u v y a) cg))))))) (cx (fj t (fy (m9 (az a) (fy (ij (bc (qk B u v y a) (bc (qk B u v y a) cg))))))) (cx (fj t (fy (m9 (az a) (fy (ij (bc (qk B u v y a) (bc (qk B u v y a) cg))))))) (cx (fj t (fy (m9 (az a) (fy (ij (bc (qk B u v y a) cg)))))) (cx (fj t (fy (ij (bc gm (bc gm (bc gm (bc gm (bc gm (bc gm cg))))))))) (cx (fj t (fy (m9 (az a) (fy (ij (bc gm (bc gm (bc gm (bc gm (bc gm cg)))))))))) (cx (fj t (fy (m9 (az a) (fy (ij (bc gm (bc gm cg))))))) (cx (zxi (zsy (λ_ _ _ _ _ _ _ I h=>y.comp I h) a t (zo6 (λit lo n=>ztc it lo n) (bc b9 cg)) (λ_ _ _ _ _ _ _ y a=>dt_w (sw (kg (d7 (az a) a)) (td (kg (z8f B u v y a))))) (λ_ _ _ _ _ _ _ y a=>d7 (az a) a))) (di (ek (z4l (bc (fy (m9 (fy (ij (bc gm cg))) (az a))) cg))))))))))))))
 have hz:Cal P w K mg base CX0 "_law_deed" 1 (dSp K zhf):=by exists i7 f4 ["_law_cell", "_law_piles", "_law_many_here", "_law_words", "_law_word", "_law_odd", "_law_figure", "_law_at_here", "_law_hours", "_law_loss", "_law_tall", "_law_place"] λr a t=>cx (fj t (jy a)) (cx (fj t (fy (ij (bc gm (bc gm (bc gm (bc gm (bc gm (bc gm (bc gm (bc gm (bc gm (bc gm (bc gm (bc gm cg))))))))))))))) (cx (fj t (d7 (nk (az a) b9) a)) (cx (fj t (nk (t5 (az a) b9) b9)) (cx (fj t (t5 (az a) b9)) (cx (fj t (j4 b9 (nk (az a) (zxb (bc (az a) (bc b9 cg)))))) (cx (fj t (t5 (az a) b9)) (cx (gf (dt_w (lf (j5 (az a) b9) (lq (j5 (az a) b9)))) (di (fj t (kv (fy (ij (bc b9 (bc (j4 (az a) b9) (bc (t4 b9) (bc (zr5 b9 b9) cg)))))) (nk (az a) b9)))) gg) (cx (fj t (j4 b9 (nk (az a) b9))) (cx (gf (j5 (az a) b9) (di (fj t (kv (fy (ij (bc b9 (bc b9 (bc (t4 b9) (bc (zr5 b9 b9) cg)))))) (nk (az a) b9)))) gg) (cx (fj t (nk (t5 (az a) b9) b9)) (cx (gf (nh (az a) b9) (cx (fj t (j4 b9 (nk (az a) b9))) (di (fj t (nk (az a) b9)))) gg) (cx (gf (j5 (az a) b9) (di (fj t (kv (fy (ij (bc (t4 b9) (bc b9 (bc (t4 (zr5 b9 b9)) (bc (zr5 b9 b9) cg)))))) (nk (t5 (az a) b9) b9)))) gg) (cx (fj t b9) (cx (gf (dt_w (sw (z69 b9 (az a)) (td (z69 (az a) (az a))))) (di (fj t (xh (bc (d7 (j1 (az a) b9) a) cg)))) gg) (cx (fj t (j4 b9 (nk (t5 (az a) b9) (zxb (bc (az a) (bc b9 cg)))))) (cx (gf (j5 (az a) b9) (di (fj t (kv (fy (ij (bc b9 (bc (j4 (az a) b9) (bc (t4 b9) (bc (zr5 b9 b9) cg)))))) (nk (t5 (az a) b9) b9)))) gg) (cx (gf (j5 (az a) gm) (di (ek (kx (bc gm (bc (az a) (bc (az a) (bc (az a) cg))))))) gg) (cx (gf (j5 (az a) gm) (di (ek (kx (bc gm (bc (az a) (bc (az a) (bc (az a) cg))))))) gg) (cx (gf (j5 (az a) gm) (di (ek (kx (bc gm (bc (az a) cg))))) gg) (di (ek (kx (bc (az a) cg)))))))))))))))))))))))
 have h0:Cal P w K mg base CX0 "_law_refusal" 1 (dSp K zd6):=by exists i7 f5 ["_law_piles", "_law_kept", "_law_deed_here", "_law_word"] λr a t=>cx (fj t (d7 b9 a)) (cx (gf (j5 (az a) gm) (di (ek (kv (fy (ij (bc gm (bc gm cg)))) (z3q (bc (z68 (az a) b9) cg))))) gg) (cx (gf (j5 (az a) gm) (di (gf (j5 (vq (bc (fy (sy a (j3 (az a)) (λ_ _ _ _ _ _ _ a=>jy a))) cg)) b9) (di (ek gm)) gg)) (di (gf (dt_w (lf (oa (d7 b9 a) b9) (lq (nh (d7 b9 a) (jy a))))) (di (ek gm)) (di (gf (dt_w (sw (pf (az a) gm) (td (j5 (xh (bc (d7 (j1 (d7 b9 a) b9) a) cg)) b9)))) (di (ek gm)) gg))))) (cx (gf (dt_w (sw (j5 (az a) gm) (td (dt_w (lf (oa (d7 b9 a) b9) (lq (nh (d7 b9 a) (xh (bc (d7 (j1 (d7 b9 a) b9) a) cg))))))))) (di (ek gm)) gg) (cx (gf (dt_w (sw (j5 (az a) gm) (td (dt_w (lf (oa (d7 b9 a) b9) (lq (nh (d7 b9 a) b9))))))) (di (ek gm)) gg) (cx (gf (dt_w (sw (dt_w (lf (j5 (az a) gm) (lq (j5 (az a) gm)))) (td (dt_w (lf (oa (d7 b9 a) b9) (lq (nh (d7 b9 a) b9))))))) (di (ek gm)) gg) (cx (gf (dt_w (sw (j5 (az a) gm) (td (yf (vq (bc (fy (sy a (j3 (az a)) (λ_ _ _ _ _ _ _ a=>jy a))) cg)) b9)))) (di (ek gm)) gg) (cx (gf (yf (az a) b9) (di (ek gm)) gg) (di (ek gm)))))))))
 have dx:Cal P w K mg base (CXr P w) "_law_ask" 8 (lSp K zja zd):=by exists z4i f6 ["_law_house", "_law_deed_here"] λr a t=>cx (gf (j5 (d7 b9 a) gm) (di (l6 (ek (xu F r (bc (d7 b9 a) (bc (d7 b9 a) (bc (d7 b9 a) cg))) a)) (xn (zqc F r (bc (d7 b9 a) (bc (d7 b9 a) (bc (d7 b9 a) cg))) a)))) gg) (cx (gf (j5 (d7 b9 a) gm) (di (l6 (ek (xu G r (bc (d7 b9 a) (bc (d7 b9 a) (bc (d7 b9 a) cg))) a)) (xn (zqc G r (bc (d7 b9 a) (bc (d7 b9 a) (bc (d7 b9 a) cg))) a)))) gg) (cx (gf (j5 (d7 b9 a) gm) (di (l6 (ek (xu H r (bc (d7 b9 a) cg) a)) (xn (zqc H r (bc (d7 b9 a) cg) a)))) gg) (cx (gf (j5 (d7 b9 a) gm) (di (l6 (ek (zo7 O r a)) (xn (zry O r a)))) gg) (di (l6 (ek (zo7 L r a)) (xn (zry L r a)))))))
 have h1:Cal P w K mg base (CXr P w) "_law_call" 9 (lSp K ug zsp):=by exists z4i ga ["_law_house", "_law_deed_here", "_law_refused", "e"] λr a t=>cx (fj t (kx (bc gm (bc gm cg)))) (cx (z4n hR hS kk r a t (λ_ _ a t=>di (l6 (ek (zjl dx r (pv (jk (bc (az a) cg)) a))) (xn (z0s dx r (pv (jk (bc (az a) cg)) a)))))) (di (ek (az a))))
 have h2:Cal P w K mg base CX0 "_law_step" 3 (dSp K ue):=by exists i7 gb ["_law_piles", "_law_deed_here", "_law_number", "_law_left", "_law_k", "_law_sack"] λr a t=>cx (zxj (zz3 a t (j3 (az a)) (λ_ _ _ _ _ _ _ a=>yy (bc (az a) cg)))) (cx (fj t b9) (cx (gf (nh (jy a) b9) (di (fj t (j1 (d7 b9 a) b9))) gg) (cx (gf (j5 (d7 b9 a) gm) (cx (zuy (λ_ _=>az a) (zx2 (λ_ _=>m9 (fy (ij (bc (kx (bc (az a) (bc (d7 b9 a) (bc (d7 b9 a) cg)))) cg))) (d7 (az a) a))) a) (di (ek (fy (ij (bc (az a) (bc (az a) cg))))))) gg) (cx (gf (j5 (d7 b9 a) gm) (cx (fj t (sx (λ_ _=>kv (d7 (az a) a) (j1 (d7 b9 a) b9)))) (cx (zx4 (λ_ _=>az a) (λ_ _=>j1 (d7 b9 a) b9) (kx (bc (d7 b9 a) (bc (d7 b9 a) (bc (d7 b9 a) cg)))) a) (di (ek (fy (ij (bc (az a) (bc (d7 b9 a) cg)))))))) gg) (cx (gf (j5 (d7 b9 a) gm) (di (fj t (j1 (kv (kv (fx cc r (bc (az a) cg)) b9) b9) b9))) gg) (cx (fj t (sx (λ_ _=>kv (d7 (az a) a) b9))) (cx (zuy (λ_ _=>az a) (zx2 (λ_ _=>pd (d7 (az a) a) (n6 b9) ql)) a) (di (ek (fy (ij (bc (az a) (bc (az a) cg)))))))))))))
 have h3:Cal P w K mg base CX0 "_law_rate" 1 (dSp K zi2):=by exists i7 gd ["_law_piles"] λr a t=>di (ek (vq (bc (fy (sy a (j3 (az a)) (λ_ _ _ _ _ _ _ a=>vq (bc (fy (sy a (j3 (az a)) (λ_ _ _ _ _ _ _ a=>d7 b9 a))) cg)))) cg)))
 have h4:Cal P w K mg base CX0 "_law_same_answer" 3 (dSp K z7):=by exists i7 gj ["_law_found", "_law_due"] λr a t=>cx (gf (kg (rg zp2 (az a))) (di (ek (fx ab r (bc (az a) (bc (az a) cg))))) gg) (di (ek (zt9 (fx E r (bc (az a) cg)) (zt8 (z68 (az a) (az a))))))
 have h5:Cal P w K mg base CX0 "_law_many" 1 (dSp K zi3):=by exists i7 gr ["_law_header"] λr a t=>di (ek (kv (fy (ij (bc b9 (bc b9 (bc b9 (bc b9 (bc b9 (bc b9 (bc b9 (bc b9 (bc b9 (bc b9 (bc b9 (bc b9 cg)))))))))))))) (nk (az a) b9)))
 have d0:Cal P w K mg base CX0 "_law_rates" 1 (dSp K zhs):=by exists i7 gs ["_law_dried", "_law_rates_here", "_law_begun", "_law_dry", "_law_rate_here"] λr a t=>cx (fj t (fy (ij cg))) (cx (znx (j3 (az a)) (kt t (kt t (kt t t3))) (di (fj t (fy (m9 (az a) (fy (zxq (ij (bc (az a) cg)) (j1 (az a) (az a))))))))) (di (ek (az a))))
 have cd:Cal P w K mg base (CXr P w) "_law_do" 10 (lSp K r8 zwb):=by exists z4i gu ["_law_house", "_law_state", "_law_deed_here", "_law_piles", "_law_kept", "_law_past", "_law_dried", "_law_due", "_law_found", "_law_ahead", "_law_step_here", "_law_hour"] λr a t=>cx (z01 (kt t (kt t (kt t (kt t t3)))) a) (cx (fj t (fx h0 r (bc (az a) (bc (zur (zr0 a)) (bc (az a) cg))))) (cx (fj t (zjl h1 r (pv (jk (bc (az a) cg)) a))) (cx (gf (pf (az a) gm) (di (ek (fx ab r (bc (az a) (bc (kx (bc gm (bc (az a) cg))) cg))))) gg) (cx (gf (j5 (d7 b9 a) gm) (cx (fj t (znd (zr0 a))) (cx (znf (d7 b9 a) a) (cx (znf (d7 b9 a) a) (di (ek (fx ab r (bc (az a) (bc (znd (zr0 a)) cg)))))))) gg) (cx (fj t (fx h2 r (bc (az a) (bc (az a) (bc (sx (λ_ _=>j4 b9 (xh (bc (fy (zrn a (j3 (az a)) (λ_ _ _ _ _ _ _ a=>j5 (d7 b9 a) gm) (λ_ _ _ _ _ _ _ a=>az a))) cg)))) cg))))) (cx (jm (zid (zr0 a) (kx (bc (az a) (bc (az a) cg))))) (cx (jm (zid (zr0 a) (az a))) (cx (znf (d7 b9 a) a) (cx (gf (j5 (d7 b9 a) gm) (cx (fj t (xh (bc (fx d0 r (bc (az a) cg)) cg))) (di (znf (fy (m9 (az a) (fy (ij (bc (kx (bc (az a) (bc (j4 (az a) (kv (d7 b9 a) b9)) (bc (fx h3 r (bc (az a) cg)) cg)))) cg))))) a))) gg) (di (ek (fx h4 r (bc (az a) (bc (d7 b9 a) cg))))))))))))))
 have h6:Cal P w K mg base (CXr P w) "_law_new" 1 (gSp K zi6 ztu):=by exists z96 cl ["_law_many_here"] λr a t=>di (z0w (z4g (z78 (λ_ _=>fy (sy a (se (bc (az a) cg)) (λ_ _ _ _ _ _ _ a=>fy (ij cg)))) (z79 (λ_ _=>ij cg) (z79 (λ_ _=>ij cg) (z78 (λ_ _=>fy (ij cg)) z4f))))))
 have h7:Cal P w K mg base CX0 "_law_new" 1 (dSp K zkp):=by exists i7 cl ["_law_many_here"] λr a t=>di (ek (fy (ij (bc (fy (sy a (se (bc (az a) cg)) (λ_ _ _ _ _ _ _ a=>fy (ij cg)))) (bc (fy (ij cg)) (bc (fy (ij cg)) (bc (fy (ij cg)) cg)))))))
 have h8:Cal P w K mg base CX0 "_law_plan" 2 (dSp K zlj):=by exists i7 g0 ["_law_piles", "_law_turns_here", "_law_made", "_law_hour", "_law_left", "_law_at_here", "_law_sack"] λr a t=>cx (mi (t.psF (ij cg))) (cx (fj t b9) (cx (zxj (t.psF2 (zz8 hy r (bc (az a) cg)))) (cx (l3 (j3 (az a)) t.pg (cx (fj t (zxl (j1 (az a) b9) (λ_ _=>b9) a)) (cx (jm (pz (kx (bc (d7 b9 a) (bc (az a) (bc (az a) (bc (j4 (az a) (d7 b9 a)) cg))))) a)) (di (fj t (j4 (az a) (d7 b9 a))))))) (di (ek (az a))))))
 have ia:Cal P w K mg base CX0 "_law_debts" 1 (dSp K zj1):=by exists i7 g1 ["_law_sacks", "_law_hours", "_law_loss", "_law_made", "_law_begun", "_law_gone", "_law_sack"] λr a t=>cx (mi (t.psF (ij cg))) (cx (fj t b9) (cx (fj t b9) (cx (l3 (j3 (fy (pd (az a) ql (n6 (j1 (jy a) b9))))) t.pg (cx (fj t (j4 (az a) (d7 b9 a))) (cx (fj t (j4 (az a) (d7 b9 a))) (di (jm (pz (j1 (oq (az a) (az a)) (oq (az a) (az a))) a)))))) (di (ek (az a))))))
 have ic:Cal P w K mg base CX0 "_law_same_why" 3 (dSp K zhc):=by exists i7 g2 ["_law_found", "_law_piles", "_law_turns_here", "_law_left", "_law_k", "_law_at_here", "_law_many_here", "_law_hours", "_law_loss", "_law_fall", "_law_debts_here", "_law_row"] λr a t=>cx (fj t (fx cc r (bc (az a) cg))) (cx (mi (t.psF (znv hx r (bc (az a) cg)))) (cx (gf (dt_w (lf (ky (kg (rg zp1 (az a)))) (lq (pf (jy a) (jy a))))) (di (ek ku)) gg) (cx (l3 (se (bc (jy a) cg)) t.pg (cx (z7t (d7 (az a) a) (kt t (kt t (kt t (kt t t3))))) (cx (fj t b9) (cx (gf (oa (j4 (az a) b9) (jy a)) (di (fj t (j1 (oq (az a) (kv (d7 (j4 (az a) b9) a) b9)) (oq (kv (d7 (j4 (az a) b9) a) b9) (az a))))) gg) (cx (fj t (fx ia r (bc (fy (pd (d7 (j1 (az a) b9) a) ql (n6 (az a)))) (bc (az a) (bc (az a) cg))))) (cx (zm9 (j1 (az a) b9) (fy (pd (d7 (j1 (az a) b9) a) (n6 (az a)) ql)) a) (cx (fj t (d7 (az a) a)) (cx (gf (dt_w (lf (ky (kg (rg zp2 (az a)))) (lf (pf (jy a) b9) (lq (ky (kg (fx ab r (bc (z7z (az a) ql (n6 b9)) (bc (d7 (az a) a) cg))))))))) (di (ek ku)) gg) (di (gf (dt_w (lf (ky (kg (fx dv r (bc (d7 b9 a) (bc (az a) cg))))) (lf (ky (kg (fx E r (bc (d7 b9 a) cg)))) (lq (pf (d7 b9 a) (az a)))))) (di (ek ku)) gg)))))))))) (di (ek ku)))))
 have b4:Cal P w K mg base (CXr P w) "_law_same_lost" 4 (qSp K zz zmj):=by exists rd cm ["_law_house", "_law_dried", "_law_rates_here", "_law_hour", "_law_gone", "_law_lost"] λr a t=>cx (fj t (fx d0 r (bc (az a) cg))) (cx (fj t (lg N r a)) (cx (gf (dt_w (lf (ky (kg (fx E r (bc (az a) cg)))) (lq (pf (az a) (jy a))))) (di (ek ku)) gg) (cx (l3 (j3 (fy (ij (bc b9 (bc (t5 (az a) b9) (bc (zxb (bc b9 (bc (j1 (az a) b9) cg))) (bc (az a) cg))))))) t.pg (cx (l6 (fj t (zxx S r (bc (az a) cg) a)) (z4c (i:=5) t (z0t S r (bc (az a) cg) a))) (di (gf (dt_w (lf (ky (kg (fx E r (bc (az a) cg)))) (lq (pf (az a) (vq (bc (fy (pd (az a) ql (n6 (az a)))) cg)))))) (di (ek ku)) gg)))) (di (ek (fx ag r (bc (lg b3 r a) (bc (az a) cg))))))))
 have al:Cal P w K mg base (CXr P w) "_law_stands" 9 (qSp K vd zov):=by exists rd cn ["_law_house", "_law_state", "_law_piles", "_law_turns_here", "_law_total"] λr a t=>cx (fj t (d7 b9 a)) (cx (gf (dt_w (lf (ky (kg (fx dt r (bc (lg M r a) (bc (az a) cg))))) (lq (ky (kg (fx ag r (bc (lg bv r a) (bc (d7 b9 a) cg)))))))) (di (ek ku)) gg) (cx (fj t (fy (znv hu r (bc (az a) cg)))) (cx (gf (ky (kg (fx dv r (bc (lg Q r a) (bc (az a) cg))))) (di (ek ku)) gg) (cx (fj t (lg b1 r a)) (cx (gf (dt_w (lf (ky (kg (fx E r (bc (az a) cg)))) (lq (pf (az a) (fx hw r (bc (fx hv r (bc (az a) (bc (az a) cg))) cg)))))) (di (ek ku)) gg) (cx (gf (ky (kg (fx ag r (bc (lg b0 r a) (bc (fx h8 r (bc (az a) (bc (az a) cg))) cg))))) (di (ek ku)) gg) (di (ek (zt9 (mj b4 r (pv (jk (bc (d7 b9 a) cg)) a)) (zt8 (fx ic r (bc (lg b2 r a) (bc (az a) cg)))))))))))))
 have d1:Cal P w K mg base CX0 "_law_cells" 1 (dSp K zka):=by exists i7 co ["_law_cells_here", "_law_made", "_law_cell"] λr a t=>cx (mi (t.psF (ij cg))) (cx (l3 (j3 (az a)) t.pg (cx (jm (pz (az a) a)) (di (gf (j5 (nk (t5 (az a) b9) b9) b9) (cx (jm (pz (az a) a)) (di (jm (pz (az a) a)))) gg)))) (di (ek (az a))))
 exact z98 ["_law_script", "_law_draws_here", "_law_many_here", "_law_house", "_law_state", "_law_cell", "_law_deeds", "_law_k", "_law_deed_here"] λr a t=>cx (fj t (fx hs r (bc (az a) (bc b9 cg)))) (cx (fj t (fx h5 r (bc (d7 b9 a) cg))) (cx (zus t (z0y bt r (bc (az a) cg))) (cx (zus t (z0x h6 r (bc (az a) cg))) (cx (l3 (j3 (fx d1 r (bc (fy (pd (az a) (n6 b9) (n6 (j1 b9 (nk (t5 (d7 b9 a) b9) b9))))) cg))) t.pg (di (gf (ky (kg (zjl cd r (pv (pv (jk (bc (fx hz r (bc (az a) (bc (zs8 a) cg))) cg)) a) a)))) (di (ek ku)) gg))) (cx (gf (ky (kg (sx (λ_ _=>mj al r (pv (jk (bc (az a) cg)) a))))) (di (ek ku)) gg) (cx (fj t (fy (zr1 (z4e a)))) (cx (l3 (se (bc (j4 (jy a) b9) cg)) t.pg (cx (gf (ky (kg (zjl cd r (pv (pv (jk (bc (kx (bc gm cg)) cg)) a) a)))) (di (ek ku)) gg) (di (gf (dt_w (lf (ky (kg (fx dt r (bc (lg M r a) (bc (zs8 a) cg))))) (lq (ky (kg (mj b4 r (pv (jk (bc (zs8 a) cg)) a))))))) (di (ek ku)) gg)))) (cx (gf (ky (kg (mj al r (pv (jk (bc (fx h7 r (bc (az a) cg)) cg)) a)))) (di (ek ku)) gg) (cx (l3 (j3 (az a)) t.pg (di (gf (ky (kg (zjl cd r (pv (pv (jk (bc (az a) cg)) a) a)))) (di (ek ku)) gg))) (di (ek (zt9 (sx (λ_ _=>fx ag r (bc (az a) (bc (d7 b9 a) cg)))) (zt8 (sx (λ_ _=>mj al r (pv (jk (bc (az a) cg)) a))))))))))))))))
end SQ
namespace SQ
open PySem L2 LB
def sD_inj{x y:Sk}(h:sD x=sD y):x=y:=by
 obtain⟨a,b,c⟩:=x;obtain⟨d,e,f⟩:=y;simp[sD] at h;simp[h]
def ssL_inj{x y:nw}(h:ssL x=ssL y):x=y:=by
 unfold ssL at h;exact(ko λa b e=>(ko λ_ _=>sD_inj).mp (D.lst.inj e)).mp (D.lst.inj h)
def z85{k:n3}{s t t':Hs}{d:Deed}(h:Stp k s d t)(h':Stp k s d t'):t=t':=by
 obtain⟨_,a,e,m⟩:=h;obtain⟨_,I,e',D⟩:=h';rw[e] at e';obtain⟨e1,e2⟩:ssL t.1=ssL t'.1/\a=I:=by simpa using e'
 subst e2;refine Prod.ext (ssL_inj e1) ?_;cases d with
 | dry =>
   obtain⟨x,h1,h2⟩:=m;obtain⟨y,J,R⟩:=D;rw[h2,R,sD_inj (h1.symm.trans J)]
 | _=>exact m.trans D.symm
structure Rv (K:n3) (PS:ot) (k:n3) (p:ot) (s:Hs) (r:n3):Prop where
 kk:K=k++r
 pp:∃q,PS=p++s::q/\q.length=r.length
variable{A B:nb}{n:Nat}{K:n3}{P:ot}{S:Hs}
theorem yam(I:nb)(f:HI n K P S):∃s J,HI n [] [] s/\Rv K (P++[S]) [] [] s K/\forL 7 zq6 (rngD 0 (K.length+1)) (EL A B (some (.sh (.int n))) K P S [I,some (.sh (.lst (K.map dD))),none,none])=some (.nx,EL A B (some (.sh (.int n))) [] [] s [I,some (.sh (.lst (K.map dD))),J,none]):=by
 obtain⟨e',h1,k,p,s,r,J,hi,R,Y,rfl⟩:=rq (i:=7) (g:=zq6) (λi e=>∃k p s r J,HI n k p s/\Rv K (P++[S]) k p s r/\k.length=K.length-i/\e=EL A B (some (.sh (.int n))) k p s [I,some (.sh (.lst (K.map dD))),J,none]) (rngD 0 (K.length+1)) (EL A B (some (.sh (.int n))) K P S [I,some (.sh (.lst (K.map dD))),none,none]) ⟨K,P,S,[],none,f,⟨by simp,[],rfl,rfl⟩,rfl,rfl⟩ (by
  rintro i d e h ⟨k,p,s,r,J,hi,R,Y,rfl⟩;obtain⟨rfl,o⟩:=tf h;obtain⟨k1,p1,D,h1,Z,U⟩:=z82 (e:=EL A B (some (.sh (.int n))) k p s [I,some (.sh (.lst (K.map dD))),some (.sh (.int (0+(i:Int)))),none]) (i:=3) (j:=4) (c:=.back) (F:=ao (fTup (ao (fC (.str "back")) fNil)) fNil) (by decide) hi rfl rfl rfl;have V:∀y∈D.1,y.length<=1000:=λy t=>by have:=h1.r14 y t;lia
  have H:=h1.hrs;have sp:=h1.at.sp;have L:=h1.k60;have l5:=h1.l5;have u:=zpg (k:=k1) (p:=p1) (s:=D) (by lia);have v:zy [ssL D.1,ssL D.1]=some (.bl true):=zky D.1 (by lia) V;have w:=zmw (k:=k1) (p:=p1) (s:=D) h1.at.chain h1.at.rate (by lia) (by lia);have a:=yad (m:=zx) (e:=EL A B (some (.sh (.int n))) k1 p1 D [I,some (.sh (.lst (K.map dD))),some (.sh (.int (0+(i:Int)))),none]) (i:=3) (l:=none) (k:=k1) (p:=p1++[D]) rfl;have b:=zqz (m:=zz) (F:=ao (fDat 4 3) fNil) (e:=EL A B (some (.sh (.int n))) k1 p1 D [I,some (.sh (.lst (K.map dD))),some (.sh (.int (0+(i:Int)))),none]) (i:=3) (l:=none) (ps:=hP k1 (p1++[D])) rfl (r:=([spL D.2],EL A B (some (.sh (.int n))) k1 p1 D [I,some (.sh (.lst (K.map dD))),some (.sh (.int (0+(i:Int)))),none])) rfl rfl;rw[u] at a;rw[w] at b;have z:fDat 4 0 (EL A B (some (.sh (.int n))) k1 p1 D [I,some (.sh (.lst (K.map dD))),some (.sh (.int (0+(i:Int)))),none])=some (ssL D.1,EL A B (some (.sh (.int n))) k1 p1 D [I,some (.sh (.lst (K.map dD))),some (.sh (.int (0+(i:Int)))),none]):=rfl;refine⟨EL A B (some (.sh (.int n))) k1 p1 D [I,some (.sh (.lst (K.map dD))),some (.sh (.int (0+(i:Int)))),none],?_,k1,p1,D,?_⟩
  ·unfold EL at *
   generalize ssL D.1=SS at *;generalize hP k1 (p1++[D])=HP1 at *;generalize stP k1 p1 D=SP1 at *;generalize hP k (p++[s])=HP at *;generalize stP k p s=SP at *;simp only[av,au,zq6,sSeq,sIf,fNot,fTst,Z,ac,ai,j2,bx,if_false,sNil,fOr,du,ao,fNil,a,z,v,b]
  ·unfold Mv at U
   by_cases c:k.length=0
   ·rw[show cmdX s.1 k.length .back=some "NothingDone" by simp[cmdX,c]] at U
    obtain⟨rfl,rfl,rfl⟩:=U;exact⟨r,_,h1,R,by lia,rfl⟩
   ·rw[show cmdX s.1 k.length .back=none by simp[cmdX,c]] at U
    obtain⟨x,rfl,rfl⟩:=U;obtain⟨C,q,E,G⟩:=R;exact⟨x::r,_,h1,⟨by rw[C];simp,s::q,by rw[E];simp,by simp[G]⟩,by simp at Y;lia,rfl⟩)
 rw[vb] at Y;obtain rfl:=ff (show k.length=0 by lia);obtain rfl:=ff (hi.kp.trans (by simp));have e:=R.kk;simp at e;subst e;exact⟨s,J,hi,R,h1⟩
theorem zzc(I J:nb)(f:HI n K P S):∀(r k:n3) (p:ot) (s:Hs) (U:nb),HI n k p s->Rv K (P++[S]) k p s r->∃D,forL 8 zt2 (r.map dD) (EL A B (some (.sh (.int n))) k p s [I,some (.sh (.lst (K.map dD))),J,U])=some (.nx,EL A B (some (.sh (.int n))) K P S [I,some (.sh (.lst (K.map dD))),J,D])
 | [],k,p,s,U,hi,hr=>by
   obtain⟨R,q,V,Y⟩:=hr;rw[bq] at Y;obtain rfl:=ff Y;rw[df] at R;obtain⟨h,l⟩:=List.append_inj' V rfl;cases l;subst R h;exact⟨U,rfl⟩
 | d::r,k,p,s,U,hi,hr=>by
   obtain⟨R,q,V,Y⟩:=hr;cases q with
   | nil=>cases Y
   | cons t q =>
     have kp:=hi.kp;have tr:=f.tr k.length d s t (by rw[R];simp) (by rw[V,<-kp];simp) (by rw[V,<-kp,dg (by lia),show p.length+1-p.length=1 by lia];rfl);rw[R,jo] at tr;obtain⟨k1,p1,g,h1,a,b⟩:=z82 (e:=EL A B (some (.sh (.int n))) k p s [I,some (.sh (.lst (K.map dD))),J,some (.sh (dD d))]) (i:=3) (j:=4) (c:=.d d) (F:=ao (fVar 8) fNil) (by decide) hi rfl rfl rfl;unfold Mv at b;rw[tr.1] at b;obtain⟨rfl,rfl⟩:=b;have Z:=h1.tr k.length d s g (by simp) (by rw[<-kp];simp) (by rw[<-kp,show p.length+1=(p++[s]).length by simp,iu]);rw[jo] at Z;obtain rfl:=z85 Z tr;obtain⟨D,m⟩:=zzc I J f r (k++[d]) (p++[s]) g (some (.sh (dD d))) h1 ⟨by rw[R];simp,q,by rw[V];simp,by simpa using Y⟩;refine⟨D,?_⟩;rw[bz,forL,show(EL A B (some (.sh (.int n))) k p s [I,some (.sh (.lst (K.map dD))),J,U]).set 8 (some (.sh (dD d)))=EL A B (some (.sh (.int n))) k p s [I,some (.sh (.lst (K.map dD))),J,some (.sh (dD d))] from rfl];simp only[zt2,sIf,fNot,fTst,a,ac,ai,j2,bx,if_false,sNil];exact m
theorem yan(V:n<=5):zkp [.int n]=some (.lst [ssL (newS n).1,.lst [],.lst [],.lst []]):=by
 have I:Few (rngD 0 n).length:=few (by rw[vb];lia);have c:=oh (te:=fLst (fu fNil)) (base:=[]) (λi:Nat=>D.int (0+(i:Int))) (λ_:Nat=>D.lst []) (List.range n) λi _=>⟨_,rfl⟩;have R:rngD 0 n=(List.range n).map λi:Nat=>D.int (0+(i:Int)):=rfl;have U:(List.range n).map (λ_:Nat=>D.lst [])=(List.replicate n ([]:nu)).map λs=>D.lst (s.map sD):=by rw[ul,ir,kn,dc]
 have J:=n4 n (by lia);unfold rngD at J;rw[U] at c;rw[R] at I;refine jl (e':=[some (.sh (.int n))]) rfl ?_;rw[show ji 1 [D.int (n:Int)]=[some (.sh (.int n))] from rfl];simp only[zpk,sRet,fLst,fu,ao,iw,ip,fVar,fNil,ae,ac,ai,J,I,if_true,dc,c,bq,ft,ak,show 0+1+1+1+1<=64 by decide];rfl
theorem good(I:k4)(hn:I.length<=63):z84 [.lst (I.map D.int)]=some (.bl true):=by
 obtain⟨cs,d,f⟩:=z06 I 61 (by lia);have f:zf8 [.lst (I.map D.int),.int 61]=some (.lst (cs.map D.int)):=f;have y:atI (cs.map D.int) 0=some (.int cs[0]):=kr (k:=0) D.int (by simp[d]);obtain⟨n,J,z⟩:=z5k cs[0];have g:=z81 J;obtain⟨E,G,H⟩:=zza cs (some 1) (some ((61:Int)-cs[0] / 12 % 61));obtain⟨ws,L,M⟩:=z1u E (by lia);have N:=z44 (n:=n) J (F:=ao (fVar 2) fNil) (e:=[some (.sh (.lst (I.map D.int))),some (.sh (.lst (cs.map D.int))),some (.sh (.int n)),none,none,none,none,none,none]) rfl;obtain⟨K,P,S,v,Z,c⟩:=zzb (A:=some (.sh (.lst (I.map D.int)))) (B:=some (.sh (.lst (cs.map D.int)))) (C:=some (.sh (.int n))) (r:=[none,none,none]) (R:=sNil) (λ_ _ _ _ _=>rfl) ws [] [] (newS n) none (HI.new J);have h:=zsr (e:=EL (some (.sh (.lst (I.map D.int)))) (some (.sh (.lst (cs.map D.int)))) (some (.sh (.int n))) K P S [v,none,none,none]) (i:=3) (j:=4) Z rfl rfl;have pl:wz (.at .ls) 4 1 (EL (some (.sh (.lst (I.map D.int)))) (some (.sh (.lst (cs.map D.int)))) (some (.sh (.int n))) K P S [v,none,none,none])=some (K.map dD,EL (some (.sh (.lst (I.map D.int)))) (some (.sh (.lst (cs.map D.int)))) (some (.sh (.int n))) K P S [v,none,none,none]):=by
  unfold wz;rw[zqx (l:=none) (ps:=stP K P S) (ds:=K.map dD) rfl rfl,ai]
 obtain⟨s0,U,u,O,a⟩:=yam (A:=some (.sh (.lst (I.map D.int)))) (B:=some (.sh (.lst (cs.map D.int)))) v Z;have Q:=u.st0;cases Q;have k6:=Z.k60;have w:(newS n).1.flatten=[]:=by simp[newS]
 have T:=zsm (k:=[]) (p:=[]) (s:=newS n) (X:=.lst []) (by rw[w];simp) (by rw[w];simp) (by simp[newS];lia) (by simp) trivial (by simp[newS]) (by simp[newS,hrOf]) (by simp[newS]);have W:=yan J;have V:=zqz (m:=vd) (F:=ao (du zkp (ao (fVar 2) fNil)) fNil) (e:=EL (some (.sh (.lst (I.map D.int)))) (some (.sh (.lst (cs.map D.int)))) (some (.sh (.int n))) [] [] (newS n) [v,some (.sh (.lst (K.map dD))),U,none]) (i:=3) (l:=none) (ps:=hP [] ([]++[newS n])) rfl (r:=([.lst [ssL (newS n).1,.lst [],.lst [],.lst []]],EL (some (.sh (.lst (I.map D.int)))) (some (.sh (.lst (cs.map D.int)))) (some (.sh (.int n))) [] [] (newS n) [v,some (.sh (.lst (K.map dD))),U,none])) (by simp only[ao,du,fVar,fNil,ae,ah,ac,ai,W]) rfl;rw[show vd [(kH,hP [] ([]++[newS n]))] [.lst [ssL (newS n).1,.lst [],.lst [],.lst []]]=_ from T] at V;obtain⟨Y,b⟩:=zzc (A:=some (.sh (.lst (I.map D.int)))) (B:=some (.sh (.lst (cs.map D.int)))) v U Z K [] [] (newS n) none u O;have o:=zsr (e:=EL (some (.sh (.lst (I.map D.int)))) (some (.sh (.lst (cs.map D.int)))) (some (.sh (.int n))) K P S [v,some (.sh (.lst (K.map dD))),U,Y]) (i:=3) (j:=4) Z rfl rfl;have sr:fFrz false (du qr (ao (fVar 6) (ao (fIxV 4 (fC (.int 1))) fNil))) (EL (some (.sh (.lst (I.map D.int)))) (some (.sh (.lst (cs.map D.int)))) (some (.sh (.int n))) K P S [v,some (.sh (.lst (K.map dD))),U,Y])=some (.bl true,EL (some (.sh (.lst (I.map D.int)))) (some (.sh (.lst (cs.map D.int)))) (some (.sh (.int n))) K P S [v,some (.sh (.lst (K.map dD))),U,Y]):=by
  have f6:(frz false (EL (some (.sh (.lst (I.map D.int)))) (some (.sh (.lst (cs.map D.int)))) (some (.sh (.int n))) K P S [v,some (.sh (.lst (K.map dD))),U,Y]))[6]?=some (some (.sh (.lst (K.map dD)))):=rfl;have f4:=z2y (e:=EL (some (.sh (.lst (I.map D.int)))) (some (.sh (.lst (cs.map D.int)))) (some (.sh (.int n))) K P S [v,some (.sh (.lst (K.map dD))),U,Y]) (j:=4) (l:=none) (ps:=stP K P S) rfl;have a1:atI ((stP K P S).map ptD) 1=some (.lst (K.map dD)):=rfl;have sd:=zpi K (by lia);unfold fFrz;simp only[du,ao,fVar,fNil,fIxV,ixSl,fC,f6,f4,ac,ai,a1,sd];rfl
 have q:dDiv (.int cs[0]) (.int 12)=some (.int (cs[0] / 12)):=z4b (by decide) (by decide);have t:dMod (.int (cs[0] / 12)) (.int 61)=some (.int (cs[0] / 12 % 61)):=z4a (by decide);rw[show bDo 5 sNil=zt1 from z5n _] at c;have c:forL 5 zt1 (ws.map D.int) [some (.sh (.lst (I.map D.int))),some (.sh (.lst (cs.map D.int))),some (.sh (.int n)),some (.ag kH none (hP [] [newS n])),some (.ag .ls none (stP [] [] (newS n))),none,none,none,none]=_:=c;have x:=n4 (K.length+1) (by lia);rw[show((K.length+1:Nat):Int)=((K.map dD).length:Int)+1 by rw[af];lia] at x;refine jl rfl (e':=EL (some (.sh (.lst (I.map D.int)))) (some (.sh (.lst (cs.map D.int)))) (some (.sh (.int n))) K P S [v,some (.sh (.lst (K.map dD))),U,Y]) ?_;rw[show ji 9 [D.lst (I.map D.int)]=[some (.sh (.lst (I.map D.int))),none,none,none,none,none,none,none,none] from rfl];unfold EL at *;generalize hP K (P++[S])=HP at *;generalize stP K P S=SP at *;rw[show hP [] ([]++[newS n])=hP [] [newS n] from rfl] at a b V;generalize hP [] [newS n]=HP0 at *;generalize stP [] [] (newS n)=SP0 at *;generalize rngD 0 (K.length+1)=R8 at *;generalize K.map dD=KD at *;simp only[z83,sSeq,sSet,du,ao,fVar,fC,fNil,ae,ah,av,au,ac,ai,f,fIxV,ixSl,y,z,zxz,N,zut,g,sNil,sFor,fiS,fLst,fSl,fO1,fBin,dSub,gn,q,t,G,M,c,sIf,fNot,fTst,h,j2,bx,if_false,pl,gy,ip,x,a,V,b,sRet,ur,sr,o]
end SQ
end
open PySem PySem.W PyProof.Rows
open L2 (us1 us2 us3 us4 us5)
theorem PySem.Challenge.cw_rotstacks_k43_whole_taken_back_holds : PySem.Challenge.rw_rotstacks_k43_whole_taken_back.Holds := by
 refine headO ?_
 k_fill
 refine L2.walkD (k:=11) (s:="_law_script") (l:=PySem.Challenge.rw_rotstacks_k43_whole_taken_back) ⟨rfl,by decide,by decide⟩ rfl rfl (λw h Y=>PySem.W.kIn_of Y) ?F;case F =>
  intro w mg fa h KX G hmg;refine' L2.law_mk KX G hmg ?a ?l ?c ?k ?b (SQ.ok_all _ _ _ _ _ _ _ _ _ _ _ _ _ _ _ _ _ _ _ _ _ _ _ _ _ _ _ _ _ _ _ _ _ _ _ _ _ _ _ _ _ _ _ _ _ _ _ _ _ _ _ _ _ _ _ _ _ _ _ _ _ _ _ _ _ _ _ _ _ _ _ _ _ _ _ _ _ _ _ _ _ _ _ _ _ _ _ _ _ _ _ ?hhC _ _ _ _ _ _ _ _ _ _ _ _ _ _ _ _ _ _ _ _ _ _ _ _ _ _ _ _ _ _ _ _ _ _ _ _ _) SQ.good
  (case a=>k_is)
  (case l=>k_is)
  (case c=>k_is)
  (case k=>k_is)
  (case b=>exact λv=>rfl)
  (case hhC=>unfold L2.Cl;k_is)
  all_goals first | (refine' L2.def_mk (by assumption) (by assumption) ?a ?l ?c ?k ?b;(case a=>k_is);(case l=>k_is);(case c=>k_is);(case k=>k_is);(case b=>first | exact us1 λ_=>rfl | exact us2 λ_ _=>rfl | exact us3 λ_ _ _=>rfl | exact us4 λ_ _ _ _=>rfl | exact us5 λ_ _ _ _ _=>rfl)) | (refine' L2.mef_mk ?a ?l ?c ?k ?i ?b;(case a=>k_is);(case l=>k_is);(case c=>k_is);(case k=>k_is);(case i=>k_is);(case b=>first | exact us1 λ_=>rfl | exact us2 λ_ _=>rfl | exact us3 λ_ _ _=>rfl | exact us4 λ_ _ _ _=>rfl | exact us5 λ_ _ _ _ _=>rfl)) | exact⟨by k_is,by k_is,by k_is,by k_is⟩ | exact PySem.W.mg_none_of KX G (by k_is) | exact lh KX G (by k_is) | (refine' L2.exc_mk KX G ?a ?b (by decide +kernel);(case a=>k_is);(case b=>k_exc)) | (refine' L2.con_mk KX G ?a;(case a=>k_is)) | exact L2.kf_mk KX G (by kernel_rfl) | k_is

