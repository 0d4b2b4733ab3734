import PyProof.Rows.All
import Wide.All
import OpenK.AllK
import Wide.FinOn
import Lean
import PyProof.EqAt
import PyProof.EqKinds
import PyProof.TupleCall
import PyProof.Draws
import PyProof.ZipIter
import PyProof.EnumMake
import PyProof.AttrMissHeap
import KE.KDictOf
import PyProof.Rows.SeqMore2
import PyProof.Rows.SortWalk
import KE.KRevIter
import KE.KTryMore
import PyProof.RulesAs
import PyProof.NsDelKeeps
import KE.KIsAll
import PyProof.ExcArgs
import PySem.Challenge.RW_rotstacks_k34_whole_all_gone_through
set_option Elab.async false
set_option linter.all false
set_option maxRecDepth 100000
set_option compiler.extract_closed false
set_option bootstrap.genMatcherCode false
local macro_rules | `(↑$t)=>`(some $t)
local macro_rules | `(⇑$t)=>`(some (.sh $t))
local macro_rules | `(↥$t)=>`(.int $t)
local macro_rules | `(⋯)=>`(by simp)
local macro_rules | `(∅)=>`(by lia)
theorem AE(h:True:=by rfl):True:=h
local macro_rules | `(‹$t›)=>`(autoParam $t AE._auto_1)
local macro_rules | `(command|@[simp] def $i:declId $s:optDeclSig $v:declVal)=>`(command|@[simp] noncomputable def $i:declId $s:optDeclSig $v:declVal)
local macro_rules | `(command|def $i:declId $s:optDeclSig $v:declVal)=>`(command|noncomputable def $i:declId $s:optDeclSig $v:declVal)
set_option maxHeartbeats 0
def ac:=@Option.bind_some
def ae:=@List.length_map
def af:=@List.getElem?_cons_zero
def ah:=@List.getElem?_cons_succ
def ai:=@List.length_append
def aj:=@List.getD_eq_getElem?_getD
def ak:=@List.getElem?_eq_getElem
def aq:=@List.length_cons
def au:=@List.getElem?_eq_some_iff
def av:=@List.mem_cons_of_mem
def aw:=@Option.map_some
def ay:=@List.set_cons_zero
def az:=@if_pos
def a0:=@List.getElem?_append_left
def bc:=@PySem.Heap.get?_push_of_some
def bg:=@List.set_cons_succ
def bh:=@List.mem_cons_self
def bi:=@List.size_toArray
def bj:=@Nat.le_refl
def bn:=@Option.some.inj
def bo:=@List.getElem?_map
def bq:=@Nat.lt_of_lt_of_le
def bu:=@if_neg
def bv:=@List.mem_of_getElem?
def bw:=@PySem.Heap.lt_size
def bx:=@List.map_cons
def b6:=@Nat.le_trans
def b7:=@List.mem_append_right
def b8:=@List.mem_map
def b9:=@List.getElem?_append_right
def cb:=@List.map_append
def ce:=@Bool.false_ne_true
def cf:=@List.flatten_cons
def cg:=@PySem.Heap.get?_push_size
def cj:=@List.mem_cons
def cr:=@PySem.wpAny_bind
def cu:=@decide_eq_false
def cw:=@Bool.false_eq_true
def cy:=@List.lookup_cons
def cz:=@List.getElem?_eq_none
def db:=@Nat.ne_of_lt
def de:=@PySem.Heap.get?_update_other
def df:=@List.nodup_cons
def dh:=@List.length_nil
def di:=@List.append_nil
def dm:=@List.mem_singleton
def dn:=@List.append_assoc
def dq:=@Option.bind_eq_some_iff
def dw:=@List.mem_flatten
def dy:=@List.length_take
def d4:=@List.sublist_flatten_of_mem
def d5:=@List.length_singleton
def d6:=@List.mem_append
def d8:=@if_true
def d9:=@List.mem_range
def eg:=@List.getElem?_set_ne
def eh:=@List.map_nil
def ek:=@List.mem_append_left
def eo:=@List.map_map
def e7:=@List.length_set
def e9:=@Nat.lt_succ_self
def fb:=@List.flatten_append
def ff:=@PySem.F.plainAttrs_list
def fj:=@PySem.W.kia_one
def fm:=@PySem.mem_of_lookup
def fo:=@List.map_eq_nil_iff
def fq:=@List.length_flatten
def ft:=@PySem.wpAny_pure
def fu:=@Int.zero_add
def fy:=@Nat.zero_le
def fz:=@List.cons_append
def f6:=@PyProof.Rows.callWith_type1
def f7:=@List.sum_cons
def f8:=@List.getElem?_set_self
def gc:=@if_false
def gf:=@List.singleton_append
def gg:=@List.pairwise_cons
def gh:=@Int.mul_le_mul_of_nonneg_right
def gi:=@decide_eq_true
def gk:=@List.ext_getElem?
def gl:=@List.nil_append
def gm:=@List.map_congr_left
def gn:=@List.getElem?_concat_length
def gp:=@List.filter_eq_nil_iff
def gq:=@List.length_drop
def gy:=@PySem.sizeLine_eq
def gz:=@List.range_succ
def h9:=@List.length_range
def ia:=@List.count_cons_self
def ib:=@Int.mul_add
def ic:=@PySem.Heap.get?_update_self
def ie:=@Nat.lt_irrefl
def ii:=@Array.length_toList
def ij:=@List.not_mem_nil
def il:=@Bool.and_eq_true
def ir:=@List.take_append_of_le_length
def iu:=@Option.map_eq_some_iff
def iw:=@List.take_of_length_le
def iy:=@List.filter_append
def iz:=@Int.mul_comm
def i4:=@Int.mul_assoc
def i5:=@List.length_replicate
def i6:=@Nat.lt_succ_of_lt
def i7:=@List.count_append
def i8:=@Int.toNat_natCast
def ja:=@PySem.wpAny_Call_Name_kw
def je:=@PySem.wpAny_passesOwn
def jf:=@Int.add_mul
def jg:=@Nat.zero_add
def jh:=@Nat.succ_pos
def ji:=@Nat.le_of_not_lt
def jk:=@List.all_eq_true
def jo:=@List.replicate_succ
def jp:=@List.length_pos_iff
def jq:=@List.mem_filter
def js:=@List.sum_eq_zero_iff_forall_eq_nat
def jt:=@List.map_singleton
def ju:=@Int.le_refl
def jx:=@List.takeWhile_append_dropWhile
def jz:=@List.take_append_drop
def j0:=@List.getElem_mem
def j1:=@Bool.not_true
def j2:=@decide_true
def j3:=@PySem.codeAny_mono
def j4:=@Nat.pow_le_pow_right
def j5:=@List.reverse_reverse
def j6:=@List.pairwise_append
def kf:=@List.length_reverse
def kg:=@List.getElem?_range
def kj:=@PySem.W.callWith_K
def km:=@List.zip_cons_cons
def kn:=@List.take_left
def ko:=@List.count_reverse
def kq:=@Int.le_of_mul_le_mul_right
def kr:=@Array.getElem?_eq_some_iff
def ku:=@Nat.add_mul_mod_self_left
def kv:=@List.drop_eq_getElem_cons
def kx:=@decide_eq_true_eq
def ky:=@Nat.lt_of_succ_le
def kz:=@List.reverse_cons
def lf:=@List.pairwise_map
def lg:=@List.getElem?_set
def lh:=@Bool.not_eq_true'
def lj:=@PySem.W.mg_of
def lm:=@PySem.F.type_list_append
def ln:=@PySem.F.slot_list_append
def lv:=@PySem.wpAny_mono
def lw:=@PySem.call_meets
def lx:=@List.mem_reverse
def ly:=@List.filter_cons_of_pos
def lz:=@List.filter_cons_of_neg
def l3:=@PySem.Heap.size_push
def l9:=@Nat.ne_of_gt
def me:=@PySem.wpAny_truthy_bool
def mf:=@Nat.le_antisymm
def mh:=@List.of_mem_zip
def mj:=@List.count_cons
def ml:=@Bool.eq_iff_iff
def mw:=@List.eq_nil_or_concat
def mx:=@List.count_cons_of_ne
def my:=@List.concat_eq_append
def m6:=@Nat.sub_succ_lt_self
def m7:=@Nat.add_mul_div_left
def m8:=@List.take_succ
def m9:=@List.mem_of_mem_take
def nc:=@List.getElem?_zipIdx
def ng:=@Int.mul_nonneg
def nt:=@PySem.W.plainGet_of
def nv:=@List.getElem_of_mem
def ny:=@List.getD_cons_zero
def nz:=@List.filterMap_cons
def n8:=@PySem.wpAny_execs_nil
def n9:=@List.cons.inj
def oj:=@List.mem_filterMap
def om:=@Int.mul_right_comm
def oq:=@Int.emod_lt_of_pos
def o5:=@List.set_eq_take_append_cons_drop
def ph:=@PySem.lookup_relabel_local
def pi:=@PySem.W.kitx_list
def pq:=@Nat.succ.inj
def pv:=@Nat.le_succ_of_le
def pw:=@Nat.le_of_lt
def pz:=@List.nodup_append
def p4:=@List.map_set
def qc:=@List.eraseIdxIfInBounds_toArray
def qo:=@Nat.mod_eq_of_lt
def qp:=@Nat.div_eq_of_lt
def qr:=@List.take_length
def qs:=@List.perm_middle
def qt:=@List.map_snd_zip
def qu:=@List.map_reverse
def qv:=@List.drop_length
def rq:=@PySem.wpAny_standAt
def r8:=@Nat.le_succ
def se:=@List.eq_nil_of_length_eq_zero
def sf:=@List.count_eq_zero_of_not_mem
def sg:=@Int.mul_le_mul_of_nonneg_left
def tx:=@Nat.mod_add_div
def tz:=@Int.emod_nonneg
def u6:=@PySem.wpAny_pyIter_list
def u7:=@PySem.wpAny_pyIter_enum
def u8:=@PySem.wpAny_newObj_type
def u9:=@PySem.F.excBase_ValueError
def va:=@Nat.mod_lt
def vb:=@List.nodup_iff_pairwise_ne
def ya:=@Option.isSome_iff_exists
def yb:=@List.map_take
def yc:=@List.getElem?_take_of_lt
def yd:=@Int.add_assoc
def zt:=@PySem.wpAny_field
def zu:=@List.getElem?_replicate
def zw:=@List.eraseIdx_cons_succ
abbrev ed:=List PySem.Str
abbrev ee:=List PySem.Value
abbrev ei:=Option PySem.Value
abbrev el:=List PySem.Addr
abbrev em:=List Nat
abbrev ep:=List Int
abbrev er:=List PySem.Env
abbrev et:=List PySem.Expr
abbrev ew:=Option PySem.Str
abbrev ez:=Option Int
abbrev fc:=PySem.W.Frag
abbrev fh:=List (PySem.Addr×PySem.Obj)
abbrev fk:=Array PySem.Value
local macro_rules | `(command|example:=[$n:num,*])=>return Lean.mkNullNode (←n.getElems.mapM λx=>`(command|def $(Lean.mkIdent (.mkSimple s!"tw{x.getNat}")):ident:=0))
namespace PySem.W.Fast
example:=[9872610955363114584,8763362985707160605,14652175557475932392,15359066029296091914,3301900299095288138,7803279730508470376,16534869220895929806,83686271494855530,16835067656529873813,5741954281030942009,6437409011987156881,10900955558412200155,11426443043654593942,11666870685602719047,14620615850239007432,11223450378524075063,5557865022116740448,11294541751604607749,17438053562242403248,8221379785114272625,1608420323584266568,9730515312287759631,11259471920729424210,857434056779319320,9891321043359845860,267220488418714694,391037279417437330,9230557904193097252,15932470062807352559,4687459795218132417,11026720062418087932,8672185609985027439,10803328884763503692,12643047492036967414,7789411100190315816,12791392028554949626,14321320524742165127,1384468984564685357,3940656549514326351,2402524564788832330,7762813997912352915,8106365122697232209,1330623532176510271,18338382014214175078,199336248854318364,4856031234699149851,7753557234431668989,1089804193526757552,7691141007765276501,2375006567970996351,489658428743795868,1698672509037629243,90743548125290388,18128463025980351373,13026136331304254567,11457838680292950747,17806559798037380195,3364652684642082450,15803686785222356702,15732433535119192703,4754274491870970602,5317498474899054006,14196151101740859672,2415593063302787039,14364480124369061956,6957635899108190166,2433456484045900354,4752798683845683672,8168842266489454260,17707513713906020277,6589729802992796608,5695818420071679229,14362189368304933659,8864141805567143515,9652735135388227967,7494534464192885038,16066682314372120516,2902711153862116940,9359556240772958421,10051351566672146426,17850976101320007240,12459525456415076225,2134760794880877333,2347949609080110336,14848821875180376310,16670337082191713251,942527856659944554,14777694549974150516,2824953636588753854,8342137133837284574,6262621742691095627,12085653861347959118,1411760496277607170,10971501718340150528,7122239765987411625,10059333434424283850,7691101470794888783,4386230236178660777,13993314514963861476,4855314216099888563,12312703437650036083,16518523057615377998,11944983581154280522,7027161504191823226,10760262531259780584,6325669893785667225,6692185827042602583,14314331636810974966,5051928251995058599,10150564033475805507,14800644647116208030,8596935767243345797,15578151201288151338,10625169327803781342,6077929630460915418,3591872364198570812,3018418718631485023,13565428580133954243,4895425382642465790,9234954786079030011,7158056949338140671,17659678387757383998,6711401018035597595,18380758025991626041,13720367999651837026,8890728187195941351,18258044017837031756,5034167268257356676,17731801680971310,3651080330580007424,17170464661424221417,202021671068095487,11344129987273314008,1677822352188772346,1622557476127942605,11344943184745296118,3006262220498773568,2228886653635050822,13135332854944644959,13536869062205639005,10426878818318752167,12225655876219862416,907412407791952677,3337271120695453532,8208307978003899245,13776805699809952755,10188978387758169283,15442390522309992127,6500386123303775433,882220208799274813,15594794917597159775,2538777933177422275,11073039516269669748,14632740516913751278,9241325452763099270,894731538882559133,5520362039400137197,209633788582599656,16888146075410284241,7614239969179653809,5129834713597648956,13617027138147984029,6696285059151635606,9284881417785799705,3663230652001387455,9023141816375520198,4569819267291783727,11462230743417447401,5910249020813440600,11369576313543810532,11817424076377491973,5190265345722246928,3430374051675386231,8258753407474024693,11114441641902549053,17698045181106920911,13341254790193404362,5510226504961764771,14273246844933024690]
end PySem.W.Fast
open_top headO for PySem.Challenge.rw_rotstacks_k34_whole_all_gone_through
noncomputable section
namespace L2
open PySem PySem.Spec PyProof.Rows
abbrev eR:=Sum Int Str
def uM:eR->Value->Bool
 | .inl k,v=>Value.isInt k v | .inr x,v=>Value.isStrOf x v
def nR(w:World):eR->Int
 | .inl k=>hashInt k | .inr x=>hashStr w x
def ul:∀ {k:eR} {v:Value},uM k v=true->(∃i t,k=Sum.inl i/\v=Value.int i t)\/(∃x t,k=Sum.inr x/\v=Value.str x t)
 | .inl i,v,h=>by
   obtain⟨t,e⟩:=Value.isInt_shape (k:=i) (v:=v) h;exact .inl ⟨i,t,rfl,e⟩
 | .inr x,v,h=>by
   obtain⟨t,e⟩:=Value.isStrOf_shape (x:=x) (v:=v) h;exact .inr ⟨x,t,rfl,e⟩
def AF(a b:Int):decide ((Sum.inl a:eR)=Sum.inl b)=(a==b):=by
 by_cases e:a=b
 ·subst e;simp
 ·have h:¬(Sum.inl a:eR)=Sum.inl b:=λq=>e (Sum.inl.inj q)
  rw[cu h];exact(beq_eq_false_iff_ne.mpr e).symm
def AG(a b:Str):decide ((Sum.inr a:eR)=Sum.inr b)=decide (a=b):=by
 by_cases e:a=b
 ·subst e;simp
 ·have h:¬(Sum.inr a:eR)=Sum.inr b:=λq=>e (Sum.inr.inj q)
  rw[cu h,cu e]
def AH(a:Int)(b:Str):decide ((Sum.inl a:eR)=Sum.inr b)=false:=cu (λq=>nomatch q)
def AI(a:Str)(b:Int):decide ((Sum.inr a:eR)=Sum.inl b)=false:=cu (λq=>nomatch q)
def uN(prog:Program)(w:World):PySem.KeyKind prog w eR where
 is:=uM
 hash:=nR w
 inj:=λv a b S I=>by
  rcases ul S with⟨i,t,rfl,rfl⟩ | ⟨x,t,rfl,rfl⟩
  ·rcases ul I with⟨j,u,rfl,e⟩ | ⟨y,u,rfl,e⟩
   ·injection e with e1 _;rw[e1]
   ·exact nomatch e
  ·rcases ul I with⟨j,u,rfl,e⟩ | ⟨y,u,rfl,e⟩
   ·exact nomatch e
   ·injection e with e1 _;rw[e1]
 byValue:=λk v h=>by
  rcases ul h with⟨i,t,rfl,rfl⟩ | ⟨x,t,rfl,rfl⟩ <;> rfl
 pyHash:=λD h=>by
  rcases ul D with⟨i,t,rfl,rfl⟩ | ⟨x,t,rfl,rfl⟩
  ·exact wpAny_pyHash_int h
  ·exact wpAny_pyHash_str h
 eqBool:=λU D h=>by
  rcases ul U with⟨i,t,rfl,rfl⟩ | ⟨x,t,rfl,rfl⟩
  ·rcases ul D with⟨j,u,rfl,rfl⟩ | ⟨y,u,rfl,rfl⟩
   ·rw[AF] at h;exact wpAny_eqBool_int h
   ·rw[AH] at h;exact SeqAt.EqAt.int_str i t y u _ _ _ _ h
  ·rcases ul D with⟨j,u,rfl,rfl⟩ | ⟨y,u,rfl,rfl⟩
   ·rw[AI] at h;exact SeqAt.EqAt.str_int x t j u _ _ _ _ h
   ·rw[AG] at h;exact wpAny_eqBool_str h
 «strs»:=λk x t v h=>by
  rcases ul h with⟨i,u,rfl,e⟩ | ⟨y,u,rfl,e⟩
  ·exact nomatch e
  ·injection e with e1 _
   subst e1;cases v <;> rfl
inductive V where
 |non |bl (b:Bool) |int (i:Int) |str (x:Str) |byt (b:Array UInt8) |flt (b:UInt64) |ref (a:Addr) |ty (n:String)
 deriving DecidableEq
abbrev fw:=List V
def RelV:V->Value->Prop
 | .non,u=>u=Value.none | .bl b,u=>u=Value.bool b | .int i,u=>∃t,u=Value.int i t
 | .str x,u=>∃t,u=Value.str x t | .byt b,u=>∃t,u=Value.bytes b t | .flt b,u=>∃t,u=Value.float b t | .ref a,u=>u=Value.ref a | .ty n,u=>u=Value.type n
abbrev aG:fw->ee->Prop:=Paired RelV
def aG.length{xs:fw}{us:ee}(r:aG xs us):xs.length=us.length:=Paired.length r
def aG.get:∀ {xs:fw} {us:ee} {i:Nat} {x:V},aG xs us->xs[i]?=↑x->∃u,us[i]?=↑u/\RelV x u
 |_,_,_,_,.nil,e=>by simp at e |_,_,0,_,.cons r _,e=>by simp at e;subst e;exact⟨_,rfl,r⟩ |_,_,i+1,x,.cons _ t,e=>by
   obtain⟨u,h1,h2⟩:=aG.get (i:=i) (x:=x) t (by simpa using e);exact⟨u,by simpa using h1,h2⟩
def aG.set{x:V}{u:Value}(r:RelV x u):∀ {xs:fw} {us:ee} (i:Nat),aG xs us->aG (xs.set i x) (us.set i u)
 |_,_,_,.nil=>.nil |_,_,0,.cons _ t=>.cons r t |_,_,i+1,.cons q t=>.cons q (aG.set r i t)
variable{xs ys:fw}{us:ee}
def aG.append{ws:ee}(h:aG xs us)(s:aG ys ws):aG (xs++ys) (us++ws):=by
 induction h with
 |nil=>exact s |cons r _ q=>exact .cons r q
def aG.take:∀ {xs:fw} {us:ee} (n:Nat),aG xs us->aG (xs.take n) (us.take n)
 |_,_,0,_=>.nil |_,_,_+1,.nil=>.nil |_,_,n+1,.cons r t=>.cons r (aG.take n t)
def aG.drop:∀ {xs:fw} {us:ee} (n:Nat),aG xs us->aG (xs.drop n) (us.drop n)
 |_,_,0,r=>r |_,_,_+1,.nil=>.nil |_,_,n+1,.cons _ t=>aG.drop n t
def dS:Option V->ei->Prop
 |some v,↑u=>RelV v u |none,none=>True |_,_=>False
def KV{κ:Type}:List (κ×V)->List (κ×Value)->Prop:=Paired λ(p:κ×V) (q:κ×Value)=>p.1=q.1/\RelV p.2 q.2
def kV:eR->V
 | .inl i=>.int i
 | .inr x=>.str x
inductive HO where
 |lst (xs:fw)
 |tup (xs:fw)
 |dK (kvs:List (eR×V)) |dT (kvs:List (List eR×V))
 |set (S:Int->Bool) (n:Nat)
 |ins (C dx:Addr) (fs:List (Str×V))
 |own (x:Addr)
 |xd (fs:List (Str×V))
 |met (f x:Addr)
 |rng (lo hi:Int)
 |frz (o:Obj) (u:HO)
 |tbl (ps:fk)
 |ext (φ:Heap->Prop)
abbrev Hp:=Addr->Option HO
def aO(H:Hp)(a:Addr)(o:HO):Hp:=λb=>if b=a then ↑o else H b
variable{H:Hp}{a:Addr}{o:HO}
def mv:aO H a o a=↑o:=by unfold aO;rw[az rfl]
variable{b:Addr}
def i3(h:b≠a):aO H a o b=H b:=by unfold aO;rw[bu h]
def o4(h:H a=↑o)(h':H b=none):a≠b:=by
 intro e;subst e;rw[h] at h';cases h'
section
variable (P:Program) (w:World)
def bG(H:Hp)(h:Heap)(a:Addr):HO->Prop
 | .lst xs=>xs.length<=sizeLine/\∃(its:ee) (n:Nat),aG xs its/\h.get? a=some { cls:=.type "list",data:=.seq its.toArray n } | .tup xs=>xs.length<=sizeLine/\∃its:ee,aG xs its/\IsTup h a its.toArray | .dK kvs=>kvs.length<=sizeLine/\(a==sysModules)=false/\∃vs,KV kvs vs/\h.DictOf (uN P w) a vs | .dT kvs=>kvs.length<=sizeLine/\(a==sysModules)=false/\∃xs:List (List eR×Addr×Value),
    Paired (λ(p:List eR×V) (q:List eR×Addr×Value)=>p.1=q.1/\H q.2.1=↑(.tup (p.1.map kV))/\RelV p.2 q.2.2) kvs xs /\
    ∃o es D,h.get? a=↑o/\o.ExactDict/\o.data=.dict es D/\es.toList=xs.map (entryOfKey (tupleKind (uN P w)))/\(xs.map (·.1)).Nodup
 | .set S n=>h.SetOf (intKind P w) a S n | .ins C dx fs=>H dx=↑(.own a)/\fs.length<=1000/\dx≠a/\h.get? a=↑(PySem.W.instObj C dx) /\
    ∃mA,h.Ns1 dx mA/\(∀f,dS (fs.lookup f) (mA f))/\PySem.Within mA (fs.map (·.1))
 | .own _=>∃o,h.get? a=↑o | .xd fs=>∃mA,h.Ns1 a mA/\∀f,dS (fs.lookup f) (mA f) | .rng lo hi=>∃t u v,h.get? a=some { cls:=.type "range",data:=.fields #[.int lo t,.int hi u,.int 1 v] } | .frz o u=>h.get? a=↑o/\bG H h a u | .tbl ps=>h.get? a=some { cls:=.none,data:=.fields ps } | .met f x=>h.get? a=↑(PySem.W.methodObj (.ref f) (.ref x)) | .ext φ=>φ h/\(∃o,h.get? a=↑o)/\∀h1 h2:Heap,φ h1->(∀o,h1.get? a=↑o->h2.get? a=↑o)->φ h2
def dL(H:Hp)(h:Heap):Prop:=∀a o,H a=↑o->bG P w H h a o
end
variable{P:Program}{w:World}{h:Heap}
def bG.lt(x:bG P w H h a o):a<h.objs.size:=by
 cases o with
 |lst xs=>obtain⟨_,_,_,_,e⟩:=x;exact bw e |tup xs=>obtain⟨_,_,_,p⟩:=x;exact p.lt |dK kvs=>obtain⟨_,_,_,_,o,_,_,e,_⟩:=x;exact bw e |dT kvs=>obtain⟨_,_,_,_,o,_,_,e,_⟩:=x;exact bw e |set S n=>obtain⟨o,_,_,_,e,_⟩:=x;exact bw e |ins C dx fs=>obtain⟨_,_,_,e,_⟩:=x;exact bw e |own y=>obtain⟨_,e⟩:=x;exact bw e |xd fs=>obtain⟨_,⟨_,_,_,e,_⟩,_⟩:=x;exact bw e |rng lo hi=>obtain⟨_,_,_,e⟩:=x;exact bw e |frz ob u=>obtain⟨e,_⟩:=x;exact bw e |tbl ps=>exact bw (show h.get? a=↑_ from x) |met f y=>exact bw (show h.get? a=↑_ from x) |ext φ=>obtain⟨_,⟨_,e⟩,_⟩:=x;exact bw e
variable{α:Type}
def Paired.mapP{β:Type}{F G:α->β->Prop}{D:List α}{I:List β}(h:Paired F D I)(f:∀a b,F a b->G a b):Paired G D I:=by
 induction h with
 |nil=>exact .nil |cons r _ q=>exact .cons (f _ _ r) q
variable{H':Hp}{h':Heap}
def bG.stay(x:bG P w H h a o)(k:∀b u,(b=a\/H b=↑(.own a))->h.get? b=↑u->h'.get? b=↑u)(U:∀b,H b=↑(.own a)->H' b=↑(.own a))(V:∀b xs,H b=↑(.tup xs)->H' b=↑(.tup xs)):bG P w H' h' a o:=by
 induction o with
 |lst xs=>obtain⟨z,its,n,r,e⟩:=x;exact⟨z,its,n,r,k _ _ (.inl rfl) e⟩ |tup xs=>obtain⟨z,its,r,D,e,c⟩:=x;exact⟨z,its,r,D,k _ _ (.inl rfl) e,c⟩ |dK kvs=>obtain⟨z,y,vs,r,D,es,I,e,c⟩:=x;exact⟨z,y,vs,r,D,es,I,k _ _ (.inl rfl) e,c⟩ |dT kvs =>
   obtain⟨z,y,xs,r,D,es,I,e,c⟩:=x;exact⟨z,y,xs,Paired.mapP r λp q z=>⟨z.1,V _ _ z.2.1,z.2.2⟩,D,es,I,k _ _ (.inl rfl) e,c⟩
 |set S n=>obtain⟨D,es,I,t,e,c⟩:=x;exact⟨D,es,I,t,k _ _ (.inl rfl) e,c⟩ |ins C dx fs =>
   obtain⟨d,z,Y,e,mA,⟨od,es,I,Z,c⟩,r⟩:=x;exact⟨U _ d,z,Y,k _ _ (.inl rfl) e,mA,⟨od,es,I,k _ _ (.inr d) Z,c⟩,r⟩
 |own y=>obtain⟨D,e⟩:=x;exact⟨D,k _ _ (.inl rfl) e⟩ |xd fs=>obtain⟨mA,⟨od,es,I,e,c⟩,r⟩:=x;exact⟨mA,⟨od,es,I,k _ _ (.inl rfl) e,c⟩,r⟩ |rng lo hi=>obtain⟨t,u,v,e⟩:=x;exact⟨t,u,v,k _ _ (.inl rfl) e⟩ |frz D u ih=>obtain⟨e,q⟩:=x;exact⟨k _ _ (.inl rfl) e,ih q⟩ |tbl ps =>
   have e:h.get? a=some { cls:=.none,data:=.fields ps }:=x;show h'.get? a=some { cls:=.none,data:=.fields ps };exact k a _ (.inl rfl) e
 |met f y =>
   have e:h.get? a=↑(PySem.W.methodObj (.ref f) (.ref y)):=x;show h'.get? a=↑(PySem.W.methodObj (.ref f) (.ref y));exact k a _ (.inl rfl) e
 |ext φ=>obtain⟨p,⟨o,e⟩,st⟩:=x;exact⟨st _ _ p λo q=>k _ _ (.inl rfl) q,⟨o,k _ _ (.inl rfl) e⟩,st⟩
def dL.lt(x:dL P w H h)(e:H a=↑o):a<h.objs.size:=(x a o e).lt
def dL.fresh(x:dL P w H h)(e:h.objs.size<=a):H a=none:=by
 cases q:H a with
 |none=>rfl |some u=>exact absurd (bq (x.lt q) e) (ie _)
def dL.kept(x:dL P w H h)(k:∀b u,h.get? b=↑u->h'.get? b=↑u):dL P w H h':=λa o e =>
 (x a o e).stay (λb u _ q=>k b u q) (λ_ q=>q) λ_ _ q=>q
def dL.laid(x:dL P w H h)(k:∀b u,h.get? b=↑u->h'.get? b=↑u)(S:h.objs.size<=a)(new:bG P w (aO H a o) h' a o):dL P w (aO H a o) h':=λb u e=>by
 have D:=x.fresh S;by_cases I:b=a
 ·subst I;rw[mv] at e;cases e;exact new
 ·rw[i3 I] at e
  exact(x b u e).stay (λc v _ q=>k c v q) (λc q=>by rw[i3 (o4 q D)];exact q) λc xs q=>by rw[i3 (o4 q D)];exact q
def Rd(H:Hp)(a:Addr)(u:HO):Prop:=H a=↑u\/∃o,H a=↑(.frz o u)
variable{u:Value}
def Rd.ok{u:HO}(r:Rd H a u)(x:dL P w H h):bG P w H h a u:=by
 rcases r with r | ⟨o,r⟩
 ·exact x a u r
 ·obtain⟨_,q⟩:=x a _ r
  exact q
def kF:Option HO->Prop
 |some (.lst _)=>True |some (.dK _)=>True |some (.dT _)=>True |some (.set _ _)=>True |some (.ins _ _ _)=>True |some (.ext _)=>True |_=>False
variable{x e:Addr}{o':HO}
def dL.write(ok:dL P w H h)(U:kF (H x))(Z:e=x\/H e=↑(.own x))(k:∀b u,b≠e->h.get? b=↑u->h'.get? b=↑u)(Y:∃u,h'.get? e=↑u)(new:bG P w (aO H x o') h' x o'):dL P w (aO H x o') h':=λb u q=>by
 have I:∀c y,H c=↑(.own y)->c≠x:=λc y r z=>by subst z;rw[r] at U;exact U
 have S:∀c xs,H c=↑(.tup xs)->c≠x:=λc xs r z=>by subst z;rw[r] at U;exact U
 by_cases V:b=x
 ·subst V;rw[mv] at q;cases q;exact new
 ·rw[i3 V] at q
  by_cases D:b=e
  ·have a:H b=↑(.own x):=by
    rcases Z with z |z
    ·exact absurd (D.trans z) V
    ·rw[D];exact z
   rw[q] at a;cases a;obtain⟨v,d⟩:=Y;exact⟨v,by rw[D];exact d⟩
  ·refine(ok b u q).stay (λc v hc r=>k c v ?_ r) (λc r=>by rw[i3 (I c b r)];exact r) λc xs r=>by rw[i3 (S c xs r)];exact r
   rcases hc with rfl |hc
   ·exact D
   ·rintro rfl
    rcases Z with z |z
    ·exact I c b hc z
    ·rw[hc] at z;cases z;exact V rfl
structure Un (fs ex:el) (H H':Hp) (h h':Heap):Prop where
 keep:∀b o,h.get? b=↑o->H b=none->b∉fs->b∉ex->h'.get? b=↑o
 slot:∀b o,h.get? b=↑o->H b=none->b∈fs->b∉ex->∃sl,h'.get? b=some { o with slots:=sl }
 free:∀b o,h.get? b=↑o->H b=none->b∉ex->H' b=none
 there:∀b o,h.get? b=↑o->b∉ex->∃o',h'.get? b=↑o'
 tups:∀b xs,H b=↑(.tup xs)->H' b=↑(.tup xs)
 frzs:∀b o u,H b=↑(.frz o u)->H' b=↑(.frz o u)
 tbls:∀b ps,H b=↑(.tbl ps)->∃more,H' b=↑(.tbl (ps++more))
variable{fs ex:el}{H1:Hp}{h1:Heap}
def Un.any(u:Un fs ex H H1 h h1){D:Obj}(q:h.get? b=↑D)(n:H b=none)(I:b∉ex):∃sl,h1.get? b=some { D with slots:=sl }:=by
 by_cases S:b∈fs
 ·exact u.slot b D q n S I
 ·exact⟨D.slots,u.keep b D q n S I⟩
def Un.kept(k:∀b u,h.get? b=↑u->h'.get? b=↑u):Un fs ex H H h h' :=
 ⟨λb D q _ _ _=>k b D q,λb D q _ _ _=>⟨D.slots,k b D q⟩,λ_ _ _ n _=>n,λb D q _=>⟨D,k b D q⟩,λ_ _ q=>q,λ_ _ _ q=>q,λ_ ps q=>⟨#[],by rw[q];simp⟩⟩
def Un.refl:Un fs ex H H h h:=Un.kept λ_ _ q=>q
def Un.laid(k:∀b u,h.get? b=↑u->h'.get? b=↑u)(I:h.objs.size<=a)(D:H a=none):Un fs ex H (aO H a o) h h' where
 keep:=λb u q _ _ _=>k b u q
 slot:=λb u q _ _ _=>⟨u.slots,k b u q⟩
 free:=λb u q n _=>by rw[i3 (db (bq (bw q) I))];exact n
 there:=λb u q _=>⟨u,k b u q⟩
 tups:=λb xs q=>by rw[i3 (o4 q D)];exact q
 frzs:=λb u xs q=>by rw[i3 (o4 q D)];exact q
 tbls:=λb ps q=>⟨#[],by rw[i3 (o4 q D),q];simp⟩
def Un.write(I:kF (H x))(Z:e=x\/H e=↑(.own x))(k:∀b u,b≠e->h.get? b=↑u->h'.get? b=↑u)(S:∃u,h'.get? e=↑u):Un fs ex H (aO H x o) h h':=by
 have V:∀b,H b=none->b≠x:=λb n z=>by subst z;rw[n] at I;exact I
 have Y:∀b,H b=none->b≠e:=λb n z=>by
  subst z;rcases Z with r |r
  ·exact V b n r
  ·rw[n] at r;cases r
 have U:∀b u,H b=↑u->¬kF ↑u->b≠x:=λb u q nm z=>by subst z;rw[q] at I;exact nm I
 refine⟨λb u q n _ _=>k b u (Y b n) q,λb u q n _ _=>⟨u.slots,k b u (Y b n) q⟩,λb u q n _=>by rw[i3 (V b n)];exact n,λb u q _=>?_,
  λb xs q=>by rw[i3 (U b _ q λz=>z)];exact q,λb u xs q=>by rw[i3 (U b _ q λz=>z)];exact q,λb ps q=>⟨#[],by rw[i3 (U b _ q λz=>z),q];simp⟩⟩
 by_cases D:b=e
 ·subst D;exact S
 ·exact⟨u,k b u D q⟩
def kG(h:Heap)(H:Hp):el:=(List.range h.objs.size).filter λa=>(H a).isSome
def eV(h:Heap)(H:Hp):Heap:=PySem.W.hideAll h (kG h H)
def AJ(h:Heap)(H:Hp):(eV h H).objs.size=h.objs.size:=PySem.W.hideAll_size _ _
variable{o:Obj}
def AL(e:h.get? b=↑o)(n:H b=none):(eV h H).get? b=↑o :=
 PySem.W.hideAll_get _ e λD=>by
  have q:(H b).isSome=true:=(jq.mp D).2;rw[n] at q;simp at q
def AM(e:(eV h H).get? b=↑o):h.get? b=↑o/\H b=none:=by
 have e':h.get? b=↑o:=PySem.W.of_hideAll (kG h H) e;refine⟨e',?_⟩;cases q:H b with
 |none=>rfl |some x =>
   have D:b∈kG h H:=jq.mpr ⟨d9.mpr (bw e'),by simp[q]⟩;have z:(eV h H).get? b=none:=PySem.W.hideAll_none (kG h H) D;rw[z] at e;cases e
def AN(g h:Heap)(L:Addr):fh:=(List.range h.objs.size).filterMap λa=>if a=L\/(g.get? a).isSome=true then none else(h.get? a).map λo=>(a,o)
def rest(g h:Heap)(L d:Addr):fh:=(AN g h L).filter λp=>decide (p.1≠d)
structure Mod (K:fc) (mg:Str->ei) (base:Heap):Prop where
 kin:K.In base
 glob:base.Ns mainGlobals mg
 blt:∃mb,base.Ns builtinsNs mb/\∀x:Str,x ≠ "__name__"->mb x=bootBuiltins x
 nolimit:base.NoLimit
structure Cx where
 prog:Program
 w:World
 K:fc
 mg:Str->ei
 base:Heap
 A:Around
 N:ed
 s₀:Shared
 H₀:Hp
 env:Env
 outer:er
 stack:er
 ex:el
 fn:Str->Bool
 calm:Bool
 pn:fh
 xe:Value->Shared->Prop
def dJ(l:er):el:=l.filterMap (·.frame)
protected abbrev Cx.fs(X:Cx):el:=dJ X.outer
def i0(sc:Scope)(x:Str):Prop:=sc.names.lookup x=some .local\/sc.names.lookup x=some .cell\/sc.names.lookup x=some .free
def Loc(sc:Scope)(x:Str):Prop:=sc.names.lookup x=some .local\/sc.names.lookup x=some .cell
def Look(env:Env)(h:Heap)(m:Str->ei)(x:Str)(u:Value):Prop :=
 (env.kindOf x=some .local/\m x=↑u)\/((env.kindOf x=some .cell\/env.kindOf x=some .free)/\∃c,env.cells.lookup x=↑c/\h.IsCell c ↑u)
structure Cx.Ok (X:Cx):Prop where
 mod:Mod X.K X.mg X.base
 kind:X.env.scope.kind=.function
 glob:X.env.globals=mainGlobals
 blt:X.env.builtins=builtinsNs
 above:X.s₀.heap.objs.size<=X.env.locals
 inj:∀x y c,X.env.cells.lookup x=↑c->X.env.cells.lookup y=↑c->x=y
 has:∀x,(X.env.kindOf x=some .cell\/X.env.kindOf x=some .free)->∃c,X.env.cells.lookup x=↑c
 cab:∀x c,X.fn x=true->X.env.cells.lookup x=↑c->X.s₀.heap.objs.size<=c
 hd:X.calm=true->X.A.handled=none
 frames:X.A.frames=↑X.stack
 stk:X.stack=X.outer\/(X.stack=X.env::X.outer/\X.env.frame=↑X.env.locals)
 exf:∀b∈X.ex,b≠X.env.locals/\∀x c,X.env.cells.lookup x=↑c->c≠b
 bs:∀b o,X.base.get? b=↑o->X.s₀.heap.get? b=↑o/\X.H₀ b=none
 bsz:X.base.objs.size<=X.s₀.heap.objs.size
 noex:∀b o,X.base.get? b=↑o->b∉X.ex
 exfs:∀b∈X.ex,b∉X.fs
 funs:X.s₀.heap.FunFrames X.base X.outer
 frf:∀b∈X.fs,X.H₀ b=none
structure Inv (X:Cx) (pins:fh) (σ:List (Option V)) (H:Hp) (s:Shared):Prop where
 ok:X.Ok
 os:s.os=X.s₀.os
 bare:AllBare s.gens
 base:Un X.fs X.ex X.H₀ H X.s₀.heap s.heap
 loc:∃m,s.heap.Ns X.env.locals m/\∀(i:Nat) (x:Str) (v:V),X.N[i]?=↑x->σ[i]?=↑↑v->i0 X.env.scope x->∃u,RelV v u/\Look X.env s.heap m x u
 cell:∀x c,X.env.cells.lookup x=↑c->∃v,s.heap.IsCell c v
 free:H X.env.locals=none
 freeC:∀x c,X.env.cells.lookup x=↑c->H c=none
 pin:∀p∈X.pn++pins,s.heap.get? p.1=↑p.2/\H p.1=none/\p.1≠X.env.locals/\p.1∉X.fs/\∀v,p.2.data≠.cell v
 hok:dL X.prog X.w H s.heap
 len:σ.length=X.N.length
variable{X:Cx}
def Cx.Ok.nofr(ok:X.Ok)(e:X.base.get? b=↑o):b∉X.fs:=λD=>by
 have:=(ok.funs.mem D).1;rw[e] at this;cases this
variable{pins:fh}{σ:List (Option V)}{s:Shared}
def Inv.bs(I:Inv X pins σ H s):∀b o,X.base.get? b=↑o->s.heap.get? b=↑o/\H b=none:=λb o e =>
 ⟨I.base.keep b o (I.ok.bs b o e).1 (I.ok.bs b o e).2 (I.ok.nofr e) (I.ok.noex b o e),I.base.free b o (I.ok.bs b o e).1 (I.ok.bs b o e).2 (I.ok.noex b o e)⟩
def Inv.bk(I:Inv X pins σ H s):∀b o,X.base.get? b=↑o->s.heap.get? b=↑o:=λb o e=>(I.bs b o e).1
def Inv.mod(I:Inv X pins σ H s):Mod X.K X.mg X.base:=I.ok.mod
def Inv.kIn(I:Inv X pins σ H s):X.K.In s.heap:=I.ok.mod.kin.keeps I.bk
def Inv.lt(I:Inv X pins σ H s):X.env.locals<s.heap.objs.size:=let ⟨_,D,_⟩:=I.loc;D.lt
def Inv.sz(I:Inv X pins σ H s):X.s₀.heap.objs.size<=s.heap.objs.size:=b6 I.ok.above (pw I.lt)
def Inv.nofs(I:Inv X pins σ H s)(h:s.heap.objs.size<=a):a∉X.fs:=λD=>by
 obtain⟨_,o,S,_⟩:=I.ok.funs.mem D;exact absurd (bq (bw S) (b6 I.sz h)) (ie _)
def Inv.cne(I:Inv X pins σ H s):∀x c,X.env.cells.lookup x=↑c->c≠X.env.locals:=λx c e z=>by
 obtain⟨v,o,U,hd⟩:=I.cell x c e;obtain⟨m,⟨o',es,V,D,S,_⟩,_⟩:=I.loc;rw[z,D] at U;cases U;rw[S] at hd;cases hd
def Inv.funs(I:Inv X pins σ H s):s.heap.FunFrames X.base X.outer:=by
 have all:∀(l:er),(∀b∈dJ l,b∈X.fs)->X.s₀.heap.FunFrames X.base l->s.heap.FunFrames X.base l:=by
  intro l;induction l with
  |nil=>intro _ _;trivial
  |cons env r ih =>
    intro V Y;obtain⟨Z,⟨L,o,D,a,c,hd⟩,d⟩:=Y;have S:L∈X.fs:=V L (by unfold dJ;rw[nz,D];exact bh);obtain⟨sl,e⟩:=I.base.slot L o c (I.ok.frf L S) S λz=>I.ok.exfs L z S;exact⟨Z,⟨L,_,D,a,e,hd⟩,ih (λb U=>V b (by unfold dJ;rw[nz,D];exact av _ U)) d⟩
 exact all X.outer (λ_ U=>U) I.ok.funs
def Inv.stack(I:Inv X pins σ H s):s.heap.FunFrames X.base X.stack:=by
 rcases I.ok.stk with e | ⟨e,hf⟩
 ·rw[e];exact I.funs
 ·rw[e]
  obtain⟨m,D,_⟩:=I.loc;refine .cons (by rw[I.ok.kind];decide) hf D ?_ I.funs;exact Heap.get?_none_of_le (b6 I.ok.bsz I.ok.above)
def Inv.stkSub(I:Inv X pins σ H s):∀b∈dJ X.stack,b∈X.env.locals::X.fs:=λb D=>by
 rcases I.ok.stk with e | ⟨e,hf⟩
 ·rw[e] at D;exact av _ D
 ·rw[e] at D
  unfold dJ at D;rw[nz,hf] at D;exact D
def Inv.stkFree(I:Inv X pins σ H s):∀b∈dJ X.stack,H b=none:=λb hb=>by
 rcases cj.mp (I.stkSub b hb) with e |hb
 ·rw[e];exact I.free
 ·obtain⟨_,o,D,_⟩:=I.ok.funs.mem hb
  exact I.base.free b o D (I.ok.frf b hb) λz=>I.ok.exfs b z hb
variable{g':Array GenState}{t':Nat}{d':Drawn}{ch:el}
def Inv.step(I:Inv X pins σ H s)(S:∀b∈ch,(b∈X.ex\/X.s₀.heap.objs.size<=b)/\b≠X.env.locals/\(∀x c,X.env.cells.lookup x=↑c->c≠b)/\∀p∈X.pn++pins,p.1≠b)(keep:∀b o,b≠X.env.locals->b∉X.fs->b∉ch->s.heap.get? b=↑o->H b=none->h'.get? b=↑o)(a:∀b o,b≠X.env.locals->b∈X.fs->b∉ch->s.heap.get? b=↑o->H b=none->∃sl,h'.get? b=some { o with slots:=sl })(free:∀b o,b∉ch->s.heap.get? b=↑o->H b=none->H' b=none)(f:∀b o,b∉ch->s.heap.get? b=↑o->∃o',h'.get? b=↑o')(j:∀b xs,H b=↑(.tup xs)->H' b=↑(.tup xs))(t:∀b o u,H b=↑(.frz o u)->H' b=↑(.frz o u))(y:∀b ps,H b=↑(.tbl ps)->∃more,H' b=↑(.tbl (ps++more)))(ns:∀m,s.heap.Ns X.env.locals m->h'.Ns X.env.locals m)(C:dL X.prog X.w H' h')(L:AllBare g') :
  Inv X pins σ H' { s with heap:=h',gens:=g',drawn:=d',toks:=t' }:=by
 have A:∀b o,X.s₀.heap.get? b=↑o->b≠X.env.locals:=λb o e=>db (bq (bw e) I.ok.above);have Y:∀b o,X.s₀.heap.get? b=↑o->b∉X.ex->b∉ch:=λb o e D g=>by
  rcases(S b g).1 with z |z
  ·exact D z
  ·exact absurd (bq (bw e) z) (ie _)
 have U:∀x c,X.env.cells.lookup x=↑c->∀v,s.heap.IsCell c v->h'.IsCell c v:=λx c e v M=>by
  obtain⟨o,h,hd⟩:=M;have V:c∉ch:=λz=>(S c z).2.2.1 x c e rfl;by_cases F:c∈X.fs
  ·obtain⟨sl,q⟩:=a c o (I.cne x c e) F V h (I.freeC x c e)
   exact⟨_,q,hd⟩
  ·exact⟨o,keep c o (I.cne x c e) F V h (I.freeC x c e),hd⟩
 refine⟨I.ok,I.os,L,⟨λb o e n g D=>?_,λb o e n g D=>?_,λb o e n D=>?_,λb o e D=>?_,λb xs e=>j b xs (I.base.tups b xs e),λb o xs e=>t b o xs (I.base.frzs b o xs e),λb ps e=>?_⟩,?_,λx c e=>?_,?_,λx c e=>?_,λp G=>?_,C,I.len⟩
 ·exact keep b o (A b o e) g (Y b o e D) (I.base.keep b o e n g D) (I.base.free b o e n D)
 ·obtain⟨sl,Z⟩:=I.base.slot b o e n g D
  obtain⟨E,B⟩:=a b _ (A b o e) g (Y b o e D) Z (I.base.free b o e n D);exact⟨E,B⟩
 ·obtain⟨o',Z⟩:=I.base.there b o e D
  exact free b o' (Y b o e D) Z (I.base.free b o e n D)
 ·obtain⟨o',Z⟩:=I.base.there b o e D
  exact f b o' (Y b o e D) Z
 ·obtain⟨N,Z⟩:=I.base.tbls b ps e
  obtain⟨O,B⟩:=y b _ Z;exact⟨N++O,by rw[B,Array.append_assoc]⟩
 ·obtain⟨m,P,Q⟩:=I.loc
  refine⟨m,ns m P,λi x v Z B R=>?_⟩;obtain⟨u,r,l⟩:=Q i x v Z B R;refine⟨u,r,?_⟩;rcases l with l | ⟨k,c,e,z⟩
  ·exact .inl l
  ·exact .inr ⟨k,c,e,U x c e _ z⟩
 ·obtain⟨v,z⟩:=I.cell x c e
  exact⟨v,U x c e v z⟩
 ·obtain⟨m,⟨o,_,_,h,_⟩,_⟩:=I.loc
  exact free _ o (λz=>(S _ z).2.1 rfl) h I.free
 ·obtain⟨v,o,h,hd⟩:=I.cell x c e
  exact free c o (λz=>(S c z).2.2.1 x c e rfl) h (I.freeC x c e)
 ·obtain⟨e,n,J,K,d⟩:=I.pin p G
  have V:p.1∉ch:=λz=>(S p.1 z).2.2.2 p G rfl;exact⟨keep p.1 p.2 J K V e n,free p.1 p.2 V e n,J,K,d⟩
def Inv.un(I:Inv X pins σ H s)(u:Un X.fs [] H H' s.heap h')(S:dL X.prog X.w H' h'):Inv X pins σ H' { s with heap:=h',toks:=t' }:=by
 obtain⟨m,⟨o,es,f,Z,r⟩,_⟩:=id I.loc;obtain⟨sl,a⟩:=u.any Z I.free ⋯;exact I.step (g':=s.gens) (d':=s.drawn) (ch:=[]) (λ_ z=>nomatch z) (λb o _ U _ e n=>u.keep b o e n U ⋯) (λb o _ U _ e n=>u.slot b o e n U ⋯) (λb o _ e n=>u.free b o e n ⋯) (λb o _ e=>u.there b o e ⋯) u.tups u.frzs u.tbls (λg c=>by
  obtain⟨o',V,Y,D,d⟩:=c;rw[Z] at D;cases D;exact⟨_,V,Y,a,d⟩) S I.bare
def Inv.call(I:Inv X pins σ H s)(u:Un (dJ X.stack) ch H H' s.heap h')(V:dL X.prog X.w H' h')(f:AllBare g')(S:∀b∈ch,(b∈X.ex\/X.s₀.heap.objs.size<=b)/\b≠X.env.locals/\(∀x c,X.env.cells.lookup x=↑c->c≠b)/\∀p∈X.pn++pins,p.1≠b) :
  Inv X pins σ H' { s with heap:=h',gens:=g',drawn:=d',toks:=t' }:=by
 obtain⟨m,⟨o,es,j,d,r⟩,_⟩:=id I.loc;obtain⟨sl,Y⟩:=u.any d I.free λz=>(S _ z).2.1 rfl;exact I.step (ch:=ch) S (λb o Y g D e n=>u.keep b o e n (λz=>(cj.mp (I.stkSub b z)).elim Y g) D) (λb o _ _ D e n=>u.any e n D) (λb o D e n=>u.free b o e n D) (λb o D e=>u.there b o e D) u.tups u.frzs u.tbls (λk h=>by
  obtain⟨o',Z,a,U,i⟩:=h;rw[d] at U;cases U;exact⟨_,Z,a,Y,i⟩) V f
variable{it:Addr}
def Inv.turned(I:Inv X pins σ H s)(k:∀b o,b≠it->s.heap.get? b=↑o->h'.get? b=↑o)(V:H it=none)(U:it≠X.env.locals)(h1:it∈X.ex\/X.s₀.heap.objs.size<=it)(h2:∀x c,X.env.cells.lookup x=↑c->c≠it)(Y:∀p∈X.pn++pins,p.1≠it):Inv X pins σ H { s with heap:=h',toks:=t' }:=by
 have S:∀b u,H b=↑u->b≠it:=λb u e z=>by rw[z,V] at e;cases e
 refine I.step (g':=s.gens) (d':=s.drawn) (ch:=[it]) (λb Z=>?_) (λb o _ _ D e _=>k b o (λz=>D (by simp[z])) e) (λb o _ _ D e _=>⟨o.slots,k b o (λz=>D (by simp[z])) e⟩) (λ_ _ _ _ n=>n)
  (λb o D e=>⟨o,k b o (λz=>D (by simp[z])) e⟩) (λ_ _ e=>e) (λ_ _ _ e=>e) (λb ps e=>⟨#[],by rw[e];simp⟩) (λm a=>?_) (λb u e=>?_) I.bare
 ·have e:b=it:=by simpa using Z
  subst e;exact⟨h1,U,h2,Y⟩
 ·obtain⟨o,es,d,f,r⟩:=a
  exact⟨o,es,d,k _ o (Ne.symm U) f,r⟩
 ·refine(I.hok b u e).stay (λc v D q=>k c v ?_ q) (λ_ q=>q) λ_ _ q=>q
  rcases D with z |z
  ·rw[z];exact S b u e
  ·exact S c _ z
def Inv.tok(I:Inv X pins σ H s)(t:Nat):Inv X pins σ H { s with toks:=t }:=I.un (h':=s.heap) (t':=t) Un.refl I.hok
def Inv.kept{t':Nat}(I:Inv X pins σ H s)(k:∀b u,s.heap.get? b=↑u->h'.get? b=↑u):Inv X pins σ H { s with heap:=h',toks:=t' }:=I.un (Un.kept k) (I.hok.kept k)
def Inv.laid{a:Addr}{o:HO}{t':Nat}(I:Inv X pins σ H s)(k:∀b u,s.heap.get? b=↑u->h'.get? b=↑u)(D:s.heap.objs.size<=a)(new:bG X.prog X.w (aO H a o) h' a o) :
  Inv X pins σ (aO H a o) { s with heap:=h',toks:=t' }:=I.un (Un.laid k D (I.hok.fresh D)) (I.hok.laid k D new)
def Inv.write{x e:Addr}{o:HO}{t':Nat}(I:Inv X pins σ H s)(S:kF (H x))(U:e=x\/H e=↑(.own x))(k:∀b u,b≠e->s.heap.get? b=↑u->h'.get? b=↑u)(D:∃u,h'.get? e=↑u)(new:bG X.prog X.w (aO H x o) h' x o):Inv X pins σ (aO H x o) { s with heap:=h',toks:=t' }:=I.un (Un.write S U k D) (I.hok.write S U k D new)
def Inv.pins_of{D:fh}(I:Inv X pins σ H s)(h:∀p∈D,s.heap.get? p.1=↑p.2/\H p.1=none/\p.1≠X.env.locals/\p.1∉X.fs/\∀v,p.2.data≠.cell v):Inv X D σ H s :=
 ⟨I.ok,I.os,I.bare,I.base,I.loc,I.cell,I.free,I.freeC,λp S=>(d6.mp S).elim (λz=>I.pin p (ek _ z)) (h p),I.hok,I.len⟩
variable{x:Str}{N:ed}{i:Nat}{j:Int}
def uO(D:N.Nodup){j:Nat}(a:N[i]?=↑x)(b:N[j]?=↑x):i=j:=by
 obtain⟨h1,I⟩:=au.mp a;obtain⟨h2,S⟩:=au.mp b;exact(List.getElem_inj D).mp (I.trans S.symm)
variable{M:Model}{A:Around}{E:Value->Shared->Prop}{v:V}{Q:Unit->Shared->Prop}
def uP(I:Inv X pins σ H s)(hN:X.N.Nodup)(hi:X.N[i]?=↑x)(V:Loc X.env.scope x)(r:RelV v u)(h:∀s',Inv X pins (σ.set i ↑v) H s'->(∃a,Heap.SameBut a s.heap s'.heap/\(a=X.env.locals\/X.env.cells.lookup x=↑a))->Q () s')(hf:X.fn x=true\/X.env.scope.names.lookup x=some .local:=by first |exact .inl rfl |exact .inr rfl |assumption):wpAny M A (storeName X.env x u) Q E s:=by
 obtain⟨m,P,hl⟩:=id I.loc;have B:(X.env.scope.kind==.class || (X.env.scope.kind==.module && X.env.locals != X.env.globals))=false:=by rw[I.ok.kind];rfl
 have f:i<σ.length:=by rw[I.len];exact(au.mp hi).1
 have cne:=I.cne;have S:∀ {a:Addr} {h':Heap},(∃o,s.heap.get? a=↑o/\H a=none)->Heap.SameBut a s.heap h'->dL X.prog X.w H h':=λ{a h'} ha D b ob e=>by
  obtain⟨_,_,Y⟩:=ha;refine(I.hok b ob e).stay (λc K hc q=>(D.2 c ?_).trans q) (λ_ q=>q) λ_ _ q=>q;rintro rfl;rcases hc with rfl |hc
  ·rw[Y] at e;cases e
  ·rw[Y] at hc;cases hc
 rcases V with hk |hk
 ·refine wpAny_storeName_local hk P (λh' R D=>?_) B
  obtain⟨oL,_,_,T,_⟩:=id P;refine h _ ⟨I.ok,I.os,I.bare,⟨λb o e n g V=>?_,λb o e n g V=>?_,I.base.free,λb o e V=>?_,I.base.tups,I.base.frzs,I.base.tbls⟩,⟨_,R,λj y W U Z e3=>?_⟩,λy c e=>?_,I.free,I.freeC,λp hp=>?_,S ⟨oL,T,I.free⟩ D,by simpa using I.len⟩ ⟨_,D,.inl rfl⟩
  ·exact(D.2 b (db (bq (bw e) I.ok.above))).trans (I.base.keep b o e n g V)
  ·obtain⟨sl,U⟩:=I.base.slot b o e n g V
   exact⟨sl,(D.2 b (db (bq (bw e) I.ok.above))).trans U⟩
  ·obtain⟨o',U⟩:=I.base.there b o e V
   exact⟨o',(D.2 b (db (bq (bw e) I.ok.above))).trans U⟩
  ·by_cases l:j=i
   ·subst l
    rw[hi] at U;cases U;rw[f8 f] at Z;cases Z;exact⟨u,r,.inl ⟨hk,by simp⟩⟩
   ·rw[eg (Ne.symm l)] at Z
    obtain⟨u',r',q⟩:=hl j y W U Z e3;refine⟨u',r',?_⟩;rcases q with⟨k,e⟩ | ⟨k,c,e,z⟩
    ·refine .inl ⟨k,?_⟩
     have:y≠x:=λe=>l (uO hN U (e ▸ hi));simp[this,e]
    ·exact .inr ⟨k,c,e,z.sameBut D (cne y c e)⟩
  ·obtain⟨K,z⟩:=I.cell y c e
   exact⟨K,z.sameBut D (cne y c e)⟩
  ·obtain⟨e,n,L,nf,d⟩:=I.pin p hp
   exact⟨(D.2 p.1 L).trans e,n,L,nf,d⟩
 ·have t:X.fn x=true:=by
   rcases hf with z |z
   ·exact z
   ·rw[z] at hk;cases hk
  obtain⟨c,hc⟩:=I.ok.has x (.inl hk);obtain⟨K,z⟩:=I.cell x c hc;refine wpAny_storeName_cell I.ok.kind hk hc z (λh' C D=>?_);obtain⟨oc,F,G⟩:=id z;refine h { s with heap:=h' } ⟨I.ok,I.os,I.bare,⟨λb o e n g V=>?_,λb o e n g V=>?_,I.base.free,λb o e V=>?_,I.base.tups,I.base.frzs,I.base.tbls⟩,⟨m,P.sameBut D (Ne.symm (cne x c hc)),λj y W U Z e3=>?_⟩,λy O e=>?_,I.free,I.freeC,λp hp=>?_,S ⟨oc,F,I.freeC x c hc⟩ D,by simpa using I.len⟩ ⟨c,D,.inr hc⟩
  ·exact(D.2 b (db (bq (bw e) (I.ok.cab x c t hc)))).trans (I.base.keep b o e n g V)
  ·obtain⟨sl,U⟩:=I.base.slot b o e n g V
   exact⟨sl,(D.2 b (db (bq (bw e) (I.ok.cab x c t hc)))).trans U⟩
  ·obtain⟨o',U⟩:=I.base.there b o e V
   exact⟨o',(D.2 b (db (bq (bw e) (I.ok.cab x c t hc)))).trans U⟩
  ·by_cases l:j=i
   ·subst l
    rw[hi] at U;cases U;rw[f8 f] at Z;cases Z;exact⟨u,r,.inr ⟨.inl hk,c,hc,C⟩⟩
   ·rw[eg (Ne.symm l)] at Z
    obtain⟨u',r',q⟩:=hl j y W U Z e3;refine⟨u',r',?_⟩;rcases q with q | ⟨k,O,e,z'⟩
    ·exact .inl q
    ·refine .inr ⟨k,O,e,z'.sameBut D ?_⟩
     rintro rfl;exact l (uO hN U (I.ok.inj _ _ _ e hc ▸ hi))
  ·by_cases J:O=c
   ·subst J;exact⟨_,C⟩
   ·obtain⟨w2,z2⟩:=I.cell y O e
    exact⟨w2,z2.sameBut D J⟩
  ·obtain⟨e,n,L,nf,d⟩:=I.pin p hp
   refine⟨(D.2 p.1 ?_).trans e,n,L,nf,d⟩;intro q;rw[q,F] at e;have q':oc=p.2:=bn e;exact d K (by rw[<-q'];exact G)
def nS(I:Inv X pins σ H s)(D:X.N.Nodup)(hi:X.N[i]?=↑x)(S:Loc X.env.scope x)(r:RelV v u)(h:∀s',Inv X pins (σ.set i ↑v) H s'->Q () s')(U:X.fn x=true\/X.env.scope.names.lookup x=some .local:=by first |exact .inl rfl |exact .inr rfl |assumption):wpAny M A (storeName X.env x u) Q E s :=
 uP I D hi S r (λs' V _=>h s' V) U
variable{s':Shared}
def Inv.call'(I:Inv X pins σ H s)(U:s'.os=s.os)(u:Un (dJ X.stack) ch H H' s.heap s'.heap)(D:dL X.prog X.w H' s'.heap)(V:AllBare s'.gens)(S:∀b∈ch,(b∈X.ex\/X.s₀.heap.objs.size<=b)/\b≠X.env.locals/\(∀x c,X.env.cells.lookup x=↑c->c≠b)/\∀p∈X.pn++pins,p.1≠b):Inv X pins σ H' s':=by
 obtain⟨h',g',d',t',o'⟩:=s';have e:o'=s.os:=U;subst e;exact I.call (g':=g') (t':=t') (d':=d') u D V S
abbrev XK:=Value->Option Addr->Hp->Prop
abbrev St:=List (Option V)
abbrev VK:=V->Hp->Prop
abbrev TE:=St->Hp->VK->Prop
abbrev TT:=St->Hp->(Bool->Hp->Prop)->Prop
abbrev TA:=St->Hp->(fw->Hp->Prop)->Prop
structure eX where
 nx:St->Hp->Prop
 rt:VK
 bk:St->Hp->Prop:=λ_ _=>False
 ct:St->Hp->Prop:=λ_ _=>False
abbrev TS:=eX->St->Hp->Prop
inductive EP (X:Cx) (pins:fh) (σ:St) (Q:VK) (u:Value) (s':Shared):Prop
 |mk (v:V) (H':Hp) (i:Inv X pins σ H' s') (r:RelV v u) (q:Q v H'):EP X pins σ Q u s'
inductive TP (X:Cx) (pins:fh) (σ:St) (Q:Bool->Hp->Prop) (b:Bool) (s':Shared):Prop
 |mk (H':Hp) (i:Inv X pins σ H' s') (q:Q b H'):TP X pins σ Q b s'
inductive AP (X:Cx) (pins:fh) (σ:St) (Q:fw->Hp->Prop) (us:ee) (s':Shared):Prop
 |mk (vs:fw) (H':Hp) (i:Inv X pins σ H' s') (r:aG vs us) (q:Q vs H'):AP X pins σ Q us s'
def SP(X:Cx)(pins:fh)(D:eX)(f:Flow)(s':Shared):Prop :=
 match f with
 | .next=>∃I H',Inv X pins I H' s'/\D.nx I H' | .brk=>∃I H',Inv X pins I H' s'/\D.bk I H' | .cont=>∃I H',Inv X pins I H' s'/\D.ct I H' | .ret u=>∃v I H',Inv X pins I H' s'/\RelV v u/\D.rt v H'
def PE(X:Cx)(e:Expr)(t:TE):Prop :=
 ∀(pins:fh) (s:Shared) (σ:St) (H:Hp) (Q:VK),Inv X pins σ H s->t σ H Q->wpAny (model X.prog X.w) X.A (eval e X.env) (EP X pins σ Q) X.xe s
def PT(X:Cx)(e:Expr)(t:TT):Prop :=
 ∀(pins:fh) (s:Shared) (σ:St) (H:Hp) (Q:Bool->Hp->Prop),Inv X pins σ H s->t σ H Q->wpAny (model X.prog X.w) X.A (isTrue e X.env (eval e X.env)) (TP X pins σ Q) X.xe s
def PW(X:Cx)(e:Expr)(t:TT):Prop :=
 ∀(whole:Sem Value) (pins:fh) (s:Shared) (σ:St) (H:Hp) (Q:Bool->Hp->Prop),Inv X pins σ H s->t σ H Q->wpAny (model X.prog X.w) X.A (isTrue e X.env whole) (TP X pins σ Q) X.xe s
variable{e:Expr}{t:TA}
def PW.pt{t:TT}(h:PW X e t):PT X e t:=h _
def PA(X:Cx)(es:et)(t:TA):Prop :=
 ∀(pos:Pos) (pins:fh) (s:Shared) (σ:St) (H:Hp) (Q:fw->Hp->Prop),Inv X pins σ H s->t σ H Q->wpAny (model X.prog X.w) X.A (spliced (backTo pos (starEach es X.env))) (AP X pins σ Q) X.xe s
def PS(X:Cx)(st:Stmt)(t:TS):Prop :=
 ∀(pins:fh) (s:Shared) (σ:St) (H:Hp) (D:eX),Inv X pins σ H s->t D σ H->wpAny (model X.prog X.w) X.A (exec st X.env) (SP X pins D) X.xe s
def fA(X:Cx)(st:List Stmt)(t:TS):Prop :=
 ∀(pins:fh) (s:Shared) (σ:St) (H:Hp) (D:eX),Inv X pins σ H s->t D σ H->wpAny (model X.prog X.w) X.A (execs st X.env) (SP X pins D) X.xe s
def aU{t:Sem α}{Q D:α->Shared->Prop}(h:wpAny M A t Q E s)(I:∀a s,Q a s->D a s):wpAny M A t D E s:=lv h I λ_ _ x=>x
section
variable {X:Cx}
def gQ(i:Nat):TE:=λσ H Q=>∃v,σ[i]?=↑↑v/\Q v H
def tC(v:V):TE:=λ_ H Q=>Q v H
def AO{i:Nat}{x:Str}{pos:Pos}(U:X.N[i]?=↑x)(V:i0 X.env.scope x)(hd:(x==("__debug__" : Str))=false:=by decide)(S:(x==("__classdict__" : Str))=false:=by decide):PE X (.Name x pos) (gQ i):=by
 intro pins s σ H Q I h;obtain⟨v,e,h⟩:=h;obtain⟨m,Y,Z⟩:=I.loc;obtain⟨u,r,l⟩:=Z i x v U e V;have D:EP X pins σ Q u s:=⟨v,H,I,r,h⟩;rcases l with⟨hk,a⟩ | ⟨hk,c,hc,hcell⟩
 ·exact wpAny_Name (wpAny_loadName_local I.ok.kind hk Y a D) hd
 ·rcases hk with hk |hk
  ·exact wpAny_Name (wpAny_loadName_cell I.ok.kind hk hc hcell D) hd
  ·exact wpAny_Name (wpAny_loadName_free I.ok.kind hk hc hcell D S) hd
def nT{i j pos}:PE X (.Constant ↥i j pos) (tC ↥i):=λ_ _ _ H _ I h=>wpAny_Constant_int ⟨.int i,H,I.tok _,⟨_,rfl⟩,h⟩
def AQ{b j pos}:PE X (.Constant (.bool b) j pos) (tC (.bl b)):=λ_ _ _ H _ I h=>Constant_bool ⟨.bl b,H,I,rfl,h⟩
def uQ{x j pos}:PE X (.Constant (.str x) j pos) (tC (.str x)):=λ_ _ _ H _ I h=>Calls.Constant_str ⟨.str x,H,I.tok _,⟨_,rfl⟩,h⟩
def Gl(X:Cx)(x:Str):Prop:=X.env.kindOf x=some .globalImplicit
def y7{E:Value->Shared->Prop}{pins:fh}{s:Shared}{σ:St}{H:Hp}{x:Str}{u:Value}{pos:Pos}{Q:Value->Shared->Prop}(I:Inv X pins σ H s)(D:Gl X x)(S:X.mg x=↑u)(h:Q u s)(hd:(x==("__debug__" : Str))=false:=by decide):wpAny (model X.prog X.w) X.A (eval (.Name x pos) X.env) Q E s :=
 Calls.Name_function_global I.ok.kind D (Calls.loadGlobal_global (by rw[I.ok.glob];exact I.mod.glob.keeps I.bk) S h) hd
def ud{E:Value->Shared->Prop}{pins:fh}{s:Shared}{σ:St}{H:Hp}{x:Str}{u:Value}{pos:Pos}{Q:Value->Shared->Prop}(I:Inv X pins σ H s)(D:Gl X x)(S:X.mg x=none)(U:bootBuiltins x=↑u)(h:Q u s)(V:x ≠ "__name__":=by decide)(hd:(x==("__debug__" : Str))=false:=by decide):wpAny (model X.prog X.w) X.A (eval (.Name x pos) X.env) Q E s:=by
 obtain⟨Y,h1,h2⟩:=I.mod.blt;exact Calls.Name_function_global I.ok.kind D (Calls.loadGlobal_builtin (by rw[I.ok.glob];exact I.mod.glob.keeps I.bk) S (by rw[I.ok.blt];exact h1.keeps I.bk) ((h2 x V).trans U) h) hd
def AR{x:Str}{v:V}{u:Value}{pos:Pos}(D:Gl X x)(S:X.mg x=↑u)(r:RelV v u)(hd:(x==("__debug__" : Str))=false:=by decide):PE X (.Name x pos) (tC v) :=
 λ_ _ _ H _ I h=>y7 I D S ⟨v,H,I,r,h⟩ hd
def AS{x:Str}{v:V}{u:Value}{pos:Pos}(D:Gl X x)(S:X.mg x=none)(U:bootBuiltins x=↑u)(r:RelV v u)(Y:x ≠ "__name__":=by decide)(hd:(x==("__debug__" : Str))=false:=by decide):PE X (.Name x pos) (tC v) :=
 λ_ _ _ H _ I h=>ud I D S U ⟨v,H,I,r,h⟩ Y hd
variable {a b:Expr} {ta tb:TE} {pos:Pos}
def tB(t:TE):TT:=λσ H Q=>t σ H λx H1=>∃c,x=.bl c/\Q c H1
def AT{e:Expr}{t:TE}(h:PE X e t)(D:∀whole,isTrue e X.env whole=(do let v <-whole;standAt e.pos;holding [v] (truthy v)):=by intro _;rfl):PT X e (tB t):=by
 intro pins s σ H Q I S;refine isTrue_plain (aU (h pins s σ H _ I S) λv a U=>?_) (D _);obtain⟨x,H1,V,Y,Z⟩:=U;obtain⟨d,rfl,q⟩:=Z;cases Y;exact me ⟨H1,V,q⟩
variable {tA tB':TT} {rest:et}
def nU(t u:TT):TT:=λσ H Q=>t σ H λc H1=>if c=true then u σ H1 Q else Q false H1
def AU(t u:TT):TT:=λσ H Q=>t σ H λc H1=>if c=true then Q true H1 else u σ H1 Q
def nV(t:TT):TT:=λσ H Q=>t σ H λc H1=>Q (!c) H1
def AV(D:PT X a tA):PW X (.BoolOp .And [a] pos) tA:=by
 intro S pins s σ H Q I h;refine isTrue_and (aU (D pins s σ H Q I h) λc U e=>?_);cases c with
 |true=>exact isTrue_and_nil e |false=>exact e
def AW(D:PT X a tA):PW X (.BoolOp .Or [a] pos) tA:=by
 intro S pins s σ H Q I h;refine isTrue_or (aU (D pins s σ H Q I h) λc U e=>?_);cases c with
 |false=>exact isTrue_or_nil e |true=>exact e
def AX(U:PT X a tA)(V:PW X (.BoolOp .And (b::rest) pos) tB'):PW X (.BoolOp .And (a::b::rest) pos) (nU tA tB'):=by
 intro Y pins s σ H Q I h;refine isTrue_and (aU (U pins s σ H _ I h) λc Z d=>?_);obtain⟨H1,D,S⟩:=d;cases c with
 |true=>exact V Y pins Z σ H1 Q D S |false=>exact⟨H1,D,S⟩
def AY(U:PT X a tA)(V:PW X (.BoolOp .Or (b::rest) pos) tB'):PW X (.BoolOp .Or (a::b::rest) pos) (AU tA tB'):=by
 intro Y pins s σ H Q I h;refine isTrue_or (aU (U pins s σ H _ I h) λc Z d=>?_);obtain⟨H1,D,S⟩:=d;cases c with
 |true=>exact⟨H1,D,S⟩ |false=>exact V Y pins Z σ H1 Q D S
def AZ(D:PT X a tA):PT X (.UnaryOp .Not a pos) (nV tA):=by
 intro pins s σ H Q I h;refine isTrue_not (aU (D pins s σ H (λc H1=>Q (!c) H1) I h) λc U h=>?_);obtain⟨H1,S,q⟩:=h;exact⟨H1,S,q⟩
def A_(ta tb:TE):TE:=λσ H Q=>ta σ H λx H1=>∃c,x=.bl c/\if c=true then tb σ H1 Q else Q (.bl false) H1
def Ba(ta:TE):TE:=λσ H Q=>ta σ H λx H1=>∃c,x=.bl c/\Q (.bl (!c)) H1
def Bb{op}{t:TE}(h:PE X a t):PE X (.BoolOp op [a] pos) t:=λpins s σ H Q I D=>BoolOp_one (h pins s σ H Q I D)
def Bc(U:PE X a ta)(V:PE X (.BoolOp .And (b::rest) pos) tb):PE X (.BoolOp .And (a::b::rest) pos) (A_ ta tb):=by
 intro pins s σ H Q I h;refine BoolOp_and (aU (U pins s σ H _ I h) λv Y Z=>?_);obtain⟨x,H1,S,d,D⟩:=Z;obtain⟨c,rfl,D⟩:=D;cases d;refine me ?_;cases c with
 |true=>exact V pins Y σ H1 Q S D |false=>exact⟨.bl false,H1,S,rfl,D⟩
def Be(S:PE X a ta):PE X (.UnaryOp .Not a pos) (Ba ta):=by
 intro pins s σ H Q I h;refine UnaryOp_ (aU (S pins s σ H _ I h) λv Z U=>?_);obtain⟨x,H1,V,Y,D⟩:=U;obtain⟨c,rfl,D⟩:=D;cases Y;exact not_of (me ⟨.bl (!c),H1,V,rfl,D⟩)
end
def cN(K:fc)(H:Hp)(a:Addr)(xs:fw):Prop :=
 Rd H a (.lst xs) \/
  ∃(o:Obj) (its:fk) (n:Nat),K.lookup a=↑o/\o.cls=.type "list"/\o.dict=none/\o.data=.seq its n/\its.size<=sizeLine/\aG xs its.toList
def dW(K:fc)(H:Hp)(a:Addr)(xs:fw):Prop :=
 Rd H a (.tup xs) \/
  ∃(o:Obj) (its:fk) (n:Nat),K.lookup a=↑o/\o.cls=.type "tuple"/\o.data=.seq its n/\its.size<=sizeLine/\aG xs its.toList
def nX:Value->Option V
 | .none=>some .non | .bool b=>↑(.bl b) | .int i _=>↑↥i
 | .str x _=>↑(.str x) | .bytes b _=>↑(.byt b) | .float b _=>↑(.flt b) | .ref a=>↑(.ref a) | .type n=>↑(.ty n) |_=>none
def RelV.abs{x:V}(r:RelV x u):nX u=↑x:=by
 cases x with
 |non=>cases r;rfl
 |bl _=>cases r;rfl
 |int _=>obtain⟨t,rfl⟩:=r;rfl |str _=>obtain⟨t,rfl⟩:=r;rfl |byt _=>obtain⟨t,rfl⟩:=r;rfl |flt _=>obtain⟨t,rfl⟩:=r;rfl |ref _=>cases r;rfl
 |ty _=>cases r;rfl
def RelV.inj{x y:V}{u:Value}(r:RelV x u)(q:RelV y u):x=y:=bn (r.abs.symm.trans q.abs)
def aG.inj{xs ys:fw}{us:ee}(h:aG xs us)(g:aG ys us):xs=ys:=by
 induction h generalizing ys with
 |nil=>cases g;rfl
 |cons r t ih=>cases g with |cons p q=>rw[r.inj p,ih q]
variable{K:fc}
def dW.of(h:H a=↑(.tup xs)):dW K H a xs:=.inl (.inl h)
variable{σ:St}
def Inv.list(I:Inv X pins σ H s)(h:cN X.K H a xs):∃its:ee,aG xs its/\PlainL s.heap a its.toArray/\xs.length<=sizeLine:=by
 rcases h with h | ⟨o,its,n,hk,hc,hd,hs,hz,r⟩
 ·obtain⟨z,its,n,r,e⟩:=h.ok I.hok
  exact⟨its,r,⟨_,n,e,rfl,rfl,rfl⟩,z⟩
 ·refine⟨its.toList,r,⟨o,n,I.kIn a o hk,hc,hd,by simpa using hs⟩,?_⟩
  have e:=r.length;simp only[ii] at e;omega
def Inv.tuple(I:Inv X pins σ H s)(h:dW X.K H a xs):∃its:ee,aG xs its/\IsTup s.heap a its.toArray/\xs.length<=sizeLine:=by
 rcases h with h | ⟨o,its,n,hk,hc,hs,hz,r⟩
 ·obtain⟨z,its,r,p⟩:=h.ok I.hok
  exact⟨its,r,p,z⟩
 ·refine⟨its.toList,r,⟨o,I.kIn a o hk,hc,n,by simpa using hs⟩,?_⟩
  have e:=r.length;simp only[ii] at e;omega
def Inv.list_inj(I:Inv X pins σ H s)(h:cN X.K H a xs)(h':cN X.K H a ys):xs=ys:=by
 obtain⟨its,r,⟨o,n,e,_,_,d⟩,_⟩:=I.list h;obtain⟨its',D,⟨o',S,e',_,_,d'⟩,_⟩:=I.list h';rw[e] at e';cases e';rw[d] at d';injection d' with d1 _;have:its=its':=by simpa using congrArg Array.toList d1
 subst this;exact r.inj D
def Inv.tuple_inj(I:Inv X pins σ H s)(h:dW X.K H a xs)(h':dW X.K H a ys):xs=ys:=by
 obtain⟨its,r,⟨o,e,_,n,d⟩,_⟩:=I.tuple h;obtain⟨its',D,⟨o',e',_,S,d'⟩,_⟩:=I.tuple h';rw[e] at e';cases e';rw[d] at d';injection d' with d1 _;have:its=its':=by simpa using congrArg Array.toList d1
 subst this;exact r.inj D
abbrev Cx.wish(X:Cx)(E:Value->Shared->Prop):Cx:={ X with xe:=E }
abbrev Cx.nox(X:Cx):Cx:=X.wish λ_ _=>False
def Cx.Ok.wish(ok:X.Ok)(E:Value->Shared->Prop):(X.wish E).Ok :=
 ⟨ok.mod,ok.kind,ok.glob,ok.blt,ok.above,ok.inj,ok.has,ok.cab,ok.hd,ok.frames,ok.stk,ok.exf,ok.bs,ok.bsz,ok.noex,ok.exfs,ok.funs,ok.frf⟩
def Cx.Ok.unwish(ok:(X.wish E).Ok):X.Ok :=
 ⟨ok.mod,ok.kind,ok.glob,ok.blt,ok.above,ok.inj,ok.has,ok.cab,ok.hd,ok.frames,ok.stk,ok.exf,ok.bs,ok.bsz,ok.noex,ok.exfs,ok.funs,ok.frf⟩
def Inv.wish(I:Inv X pins σ H s)(E:Value->Shared->Prop):Inv (X.wish E) pins σ H s:=⟨I.ok.wish E,I.os,I.bare,I.base,I.loc,I.cell,I.free,I.freeC,I.pin,I.hok,I.len⟩
def Inv.unwish(I:Inv (X.wish E) pins σ H s):Inv X pins σ H s:=⟨I.ok.unwish,I.os,I.bare,I.base,I.loc,I.cell,I.free,I.freeC,I.pin,I.hok,I.len⟩
def SP.unwish{D:eX}{f:Flow}{s':Shared}(h:SP (X.wish E) pins D f s'):SP X pins D f s':=by
 cases f with
 |next=>obtain⟨S,H',I,q⟩:=h;exact⟨S,H',I.unwish,q⟩ |brk=>obtain⟨S,H',I,q⟩:=h;exact⟨S,H',I.unwish,q⟩ |cont=>obtain⟨S,H',I,q⟩:=h;exact⟨S,H',I.unwish,q⟩ |ret u=>obtain⟨v,S,H',I,r,q⟩:=h;exact⟨v,S,H',I.unwish,r,q⟩
def fA.nox{st:List Stmt}{t:TS}(h:fA X.nox st t):fA X st t:=λpins s σ H D I S =>
 lv (h pins s σ H D (I.wish _) S) (λ_ _ q=>q.unwish) λ_ _ z=>False.elim z
section
variable {X:Cx} {st:Stmt} {rest:List Stmt} {t u:TS} {e:Expr} {te:TE} {pos:Pos}
def Bf:TS:=λD σ H=>D.nx σ H
def nY(t u:TS):TS:=λD σ H=>t { D with nx:=u D } σ H
def Bg:fA X [] Bf:=λ_ _ σ H _ I h=>n8 ⟨σ,H,I,h⟩
def Bh(h1:PS X st t)(h2:fA X rest u):fA X (st::rest) (nY t u):=by
 intro pins s σ H D I h;refine wpAny_execs_cons (aU (h1 pins s σ H { D with nx:=u D } I h) λf U q=>?_);cases f with
 |next =>
   obtain⟨S,H',V,q⟩:=q;exact h2 pins U S H' D V q
 |ret v=>exact q |brk=>exact q |cont=>exact q
def Bi(h1:PS X st t):fA X [st] t:=by
 intro pins s σ H D I h;refine wpAny_execs_cons (aU (h1 pins s σ H D I h) λf S q=>?_);cases f with
 |next=>exact n8 q |ret v=>exact q |brk=>exact q |cont=>exact q
def Inv.quiet{pins:fh}{σ:St}{H:Hp}{s:Shared}(I:Inv X pins σ H s):interactive X.env=false:=by simp[interactive,I.ok.kind]
def Bj(te:TE):TS:=λD σ H=>te σ H λ_ H1=>D.nx σ H1
def uR(S:PE X e te)(U:‹swapsWith e none pos.line X.env=pure false›):PS X (.Expr e pos) (Bj te):=by
 intro pins s σ H D I h;exact wpAny_Expr_any (aU (S pins s σ H _ I h) λv s1 ⟨x,H1,I1,r1,q1⟩=>⟨σ,H1,I1,q1⟩) I.quiet U
def nZ(te:TE):TS:=λD σ H=>te σ H D.rt
def n_(S:PE X e te):PS X (.Return ↑e pos) (nZ te):=by
 intro pins s σ H D I h;exact wpAny_Return_some (aU (S pins s σ H _ I h) λv s1 ⟨x,H1,I1,r1,q1⟩=>⟨x,σ,H1,I1,r1,q1⟩)
def oo(c:TT)(t u:TS):TS:=λD σ H=>c σ H λb H1=>if b=true then t D σ H1 else u D σ H1
def Bl{c:Expr}{a b:List Stmt}{S:TT}(Z:PT X c S)(e:fA X a t)(f:fA X b u):PS X (.If c a b pos) (oo S t u):=by
 intro pins s σ H D I h;refine wpAny_If (aU (Z pins s σ H _ I h) λd U g=>?_);obtain⟨H1,V,Y⟩:=g;cases d with
 |true=>exact e pins U σ H1 D V Y |false=>exact f pins U σ H1 D V Y
def Bm:TS:=λ_ _ _=>False
def Bo:PS X st Bm:=λ_ _ _ _ _ _ h=>h.elim
end
abbrev TG:=V->St->Hp->(St->Hp->Prop)->Prop
abbrev hY:=fw->St->Hp->(St->Hp->Prop)->Prop
def PG(X:Cx)(D:Expr)(t:TG):Prop :=
 ∀(pins:fh) (s:Shared) (σ:St) (H:Hp) (v:V) (u:Value) (Q:St->Hp->Prop),Inv X pins σ H s->RelV v u->t v σ H Q ->
  wpAny (model X.prog X.w) X.A (assign D X.env u) (λ_ s'=>∃I H',Inv X pins I H' s'/\Q I H') X.xe s
def gR(X:Cx)(ts:et)(t:hY):Prop :=
 ∀(pins:fh) (s:Shared) (σ:St) (H:Hp) (vs:fw) (us:ee) (Q:St->Hp->Prop),Inv X pins σ H s->aG vs us->t vs σ H Q ->
  wpAny (model X.prog X.w) X.A (assignInOrder ((assignEach ts X.env).map (·.2)) us) (λ_ s'=>∃D H',Inv X pins D H' s'/\Q D H') X.xe s
abbrev gG:=V->V->V->Hp->(Hp->Prop)->Prop
def iA(X:Cx)(t:gG):Prop :=
 ∀(pins:fh) (s:Shared) (σ:St) (H:Hp) (o i v:V) (D I u:Value) (Q:Hp->Prop),Inv X pins σ H s->RelV o D->RelV i I->RelV v u->t o i v H Q ->
  wpAny (model X.prog X.w) X.A (setItem D I u) (λ_ s'=>∃H',Inv X pins σ H' s'/\Q H') X.xe s
abbrev iY:=V->V->Hp->VK->Prop
def kI(X:Cx)(op:Operator)(t:iY):Prop :=
 ∀(pins:fh) (s:Shared) (σ:St) (H:Hp) (x y:V) (v u:Value) (Q:VK),Inv X pins σ H s->RelV x v->RelV y u->t x y H Q ->
  wpAny (model X.prog X.w) X.A (inplaceOp op v u) (EP X pins σ Q) X.xe s
def ni(i:Nat):TG:=λv σ H Q=>Q (σ.set i ↑v) H
variable{pos:Pos}
def ot(D:X.N.Nodup)(hi:X.N[i]?=↑x)(S:Loc X.env.scope x)(U:X.fn x=true\/X.env.scope.names.lookup x=some .local:=by first |exact .inl rfl |exact .inr rfl |assumption):PG X (.Name x pos) (ni i):=by
 intro pins s σ H v u Q I r h;exact wpAny_assign_Name (nS I D hi S r (λs' V=>⟨_,H,V,h⟩) U)
def jF:hY:=λvs σ H Q=>vs=[]/\Q σ H
def uS(t:TG)(u:hY):hY:=λvs σ H Q=>∃v r,vs=v::r/\t v σ H λD H'=>u r D H' Q
def Bp:gR X [] jF:=by
 intro pins s σ H vs us Q I r h;obtain⟨e,h⟩:=h;subst e;cases r;exact assignInOrder_nil ⟨σ,H,I,h⟩
variable{es:et}
def Bq{t:TG}{u:hY}(h1:PG X e t)(h2:gR X es u)(S:‹(assignEach (e::es) X.env).map (·.2)=assign e X.env::(assignEach es X.env).map (·.2)›):gR X (e::es) (uS t u):=by
 intro pins s σ H vs us Q I r h;obtain⟨v,b,U,h⟩:=h;subst U;cases r with
 |cons r rr =>
   rw[S];refine assignInOrder_cons (aU (h1 pins s σ H _ _ _ I r h) λ_ V Y=>?_);obtain⟨D,H1,Z,a⟩:=Y;exact h2 pins V D H1 _ _ Q Z rr a
def ou(K:fc)(n:Nat)(t:hY):TG:=λv σ H Q=>∃a xs,v=.ref a/\dW K H a xs/\xs.length=n/\t xs σ H Q
variable{k n:Nat}
def Br{t:hY}(V:X.calm=true)(h:gR X es t)(Y:‹(assignEach es X.env).length=n›)(D:‹(assignEach es X.env).findIdx? (·.1)=none›):PG X (.Tuple es k pos) (ou X.K n t):=by
 intro pins s σ H v u Q I r S;obtain⟨a,xs,Z,c,d,S⟩:=S;subst Z;cases r;obtain⟨its,U,f,j⟩:=I.tuple c;refine assign_Tuple_tuple (I.ok.hd V) f (by simp[Y,<-d,U.length]) D λh' g=>?_;have i:Inv X pins σ H { s with heap:=h' }:=I.kept (t':=s.toks) λb o e=>g b o (db (bw e)) e;exact h pins _ σ H xs _ Q i (by simpa using U) S
def oA(to ti:TE)(t:gG):TG:=λv σ H Q=>to σ H λo H1=>ti σ H1 λi H2=>t o i v H2 λD=>Q σ D
variable{to ti:TE}
def Bs{o i:Expr}{t:gG}(V:PE X o to)(hi:PE X i ti)(Y:iA X t)(Z:∀v,assign (.Subscript o i pos) X.env v=(do
   let D <-holding [v] (eval o X.env);let S <-holding [v,D] (eval i X.env)
   standAt pos
   holding [v,D,S] (setItem D S v)
   release [v,D,S] []):=by intro _;rfl):PG X (.Subscript o i pos) (oA to ti t):=by
 intro pins s σ H v u Q I r h;rw[Z];refine cr (wpAny_holding (aU (V pins s σ H _ I h) λD a U=>?_));obtain⟨x,H1,b,c,d⟩:=U;refine cr (wpAny_holding (aU (hi pins a σ H1 _ b d) λS s2 U=>?_));obtain⟨y,H2,e,f,g⟩:=U;refine cr (rq (cr (wpAny_holding (aU (Y pins s2 σ H2 x y v D S u _ e c f r g) λ_ m U=>?_))));obtain⟨j,k,l⟩:=U;exact wpAny_release ⟨σ,j,k,l⟩
def dX(te:TE)(g:TG):TS:=λD σ H=>te σ H λx H1=>g x σ H1 D.nx
variable{tg:Expr}{te:TE}{g:TG}
def Bt(S:PE X e te)(U:PG X tg g)(V:‹swapsWithSole [tg] e pos.line X.env=pure false›)(Y:‹swappedStores [tg] e X.env=pure none›)(h1:‹(assignEach [tg] X.env).map (·.2)=[assign tg X.env]›):PS X (.Assign [tg] e pos) (dX te g):=by
 intro pins s σ H D I h;refine wpAny_Assign_stores (aU (S pins s σ H _ I h) λv Z a=>?_) V Y;obtain⟨x,H1,b,c,d⟩:=a;rw[h1];exact aU (U pins Z σ H1 x v _ b c d) λ_ s2 q=>q
variable{pos':Pos}
def oB(S:X.N.Nodup)(hi:X.N[i]?=↑x)(U:Loc X.env.scope x)(V:PE X e te)(Y:‹swapsWith e ↑(.Name x pos') pos.line X.env=pure false›)(Z:X.fn x=true\/X.env.scope.names.lookup x=some .local:=by first |exact .inl rfl |exact .inr rfl |assumption) :
  PS X (.Assign [.Name x pos'] e pos) (dX te (ni i)):=by
 intro pins s σ H D I h;refine wpAny_Assign_Name (aU (V pins s σ H _ I h) λv g a=>?_) Y;obtain⟨y,H1,b,c,d⟩:=a;exact nS b S hi U c (λs2 f=>⟨_,H1,f,d⟩) Z
def jG(i:Nat)(te:TE)(ti:iY):TS:=λD σ H=>∃x,σ[i]?=↑↑x/\te σ H λy H1=>ti x y H1 λz H2=>D.nx (σ.set i ↑z) H2
variable{op:Operator}
def Bu{ti:iY}(Z:X.N.Nodup)(hi:X.N[i]?=↑x)(U:Loc X.env.scope x)(a:PE X e te)(b:kI X op ti)(d:X.fn x=true\/X.env.scope.names.lookup x=some .local:=by first |exact .inl rfl |exact .inr rfl |assumption) :
  PS X (.AugAssign (.Name x pos') op e pos) (jG i te ti):=by
 intro pins s σ H D I h;obtain⟨v,f,h⟩:=h;obtain⟨m,g,j⟩:=I.loc;have V:i0 X.env.scope x:=by rcases U with k |k;exact .inl k;exact .inr (.inl k)
 obtain⟨u,r,l⟩:=j i x v hi f V;refine wpAny_AugAssign_Name ?_;have go:wpAny (model X.prog X.w) X.A (eval e X.env) (λw s₂=>wpAny (model X.prog X.w) X.A (inplaceOp op u w) (λr S=>wpAny (model X.prog X.w) X.A (storeName X.env x r) (λ_=>SP X pins D .next) X.xe S) X.xe s₂) X.xe s:=by
  refine aU (a pins s σ H _ I h) λw n Y=>?_;obtain⟨y,H1,o,p,q⟩:=Y;refine aU (b pins n σ H1 v y u w _ o r p q) λz s2 Y=>?_;obtain⟨G,H2,t,B,C⟩:=Y;exact nS t Z hi U B (λJ E=>⟨_,H2,E,C⟩) d
 rcases l with⟨hk,F⟩ | ⟨hk,c,hc,hcell⟩
 ·exact wpAny_loadName_local I.ok.kind hk g F go
 ·rcases hk with hk |hk
  ·exact wpAny_loadName_cell I.ok.kind hk hc hcell go
  ·rcases U with k |k
   ·have:X.env.scope.names.lookup x=some .free:=hk
    rw[k] at this;cases this
   ·have:X.env.scope.names.lookup x=some .free:=hk
    rw[k] at this;cases this
def uT(to ti te:TE)(I:V->V->Hp->VK->Prop)(U:iY)(S:gG):TS:=λD σ H=>to σ H λo H1=>ti σ H1 λi H2=>I o i H2 λx Y=>te σ Y λy Z=>U x y Z λz a=>S o i z a λb=>D.nx σ b
def jH(X:Cx)(t:V->V->Hp->VK->Prop):Prop :=
 ∀(pins:fh) (s:Shared) (σ:St) (H:Hp) (o i:V) (D I:Value) (Q:VK),Inv X pins σ H s->RelV o D->RelV i I->t o i H Q ->
  wpAny (model X.prog X.w) X.A (getItem D I) (EP X pins σ Q) X.xe s
variable{i:Int}
def uU{o i:Expr}{U:V->V->Hp->VK->Prop}{b:iY}{Y:gG}{c:Pos}(l:PE X o to)(hi:PE X i ti)(m:jH X U)(n:PE X e te)(p:kI X op b)(q:iA X Y)(r:∀Z a new,augStore i Z a new=(do holding [new,Z,a] (setItem Z a new);release [new,Z,a] [];pure .next):=by intros;rfl):PS X (.AugAssign (.Subscript o i c) op e pos) (uT to ti te U b Y):=by
 intro pins s σ H D I h;refine wpAny_AugAssign_SubscriptAny (aU (l pins s σ H _ I h) λZ t S=>?_) r;obtain⟨f,H1,u,g,w⟩:=S;refine aU (hi pins t σ H1 _ u w) λa s2 S=>?_;obtain⟨j,H2,x,k,y⟩:=S;refine aU (m pins s2 σ H2 f j Z a _ x g k y) λd z S=>?_;obtain⟨A,B,C,r3,E⟩:=S;refine aU (n pins z σ B _ C E) λv F S=>?_;obtain⟨G,J,K,L,M⟩:=S;refine aU (p pins F σ J A G d v _ K r3 L M) λnew N S=>?_;obtain⟨O,P,Q,R,T⟩:=S;exact aU (q pins N σ P f j O Z a new _ Q g k R T) λ_ s6 ⟨H6,I6,q6⟩=>⟨σ,H6,I6,q6⟩
def kJ(f:Int->Int->Int):iY:=λx y H Q=>∃i j,x=.int i/\y=.int j/\Q ↥(f i j) H
def uV:kI X .Add (kJ λi j=>i+j):=by
 intro pins s σ H x y v u Q I D S h;obtain⟨i,j,U,V,q⟩:=h;subst U;subst V;obtain⟨t,rfl⟩:=D;obtain⟨t',rfl⟩:=S;exact iadd_int ⟨.int _,H,I.tok _,⟨_,rfl⟩,q⟩
def Bv:kI X .Sub (kJ λi j=>i-j):=by
 intro pins s σ H x y v u Q I D S h;obtain⟨i,j,U,V,q⟩:=h;subst U;subst V;obtain⟨t,rfl⟩:=D;obtain⟨t',rfl⟩:=S;exact isub_int ⟨.int _,H,I.tok _,⟨_,rfl⟩,q⟩
def Bw(c:TT)(tb:TS):TS:=λD σ H=>∃W:Nat->St->Hp->Prop,(∃m,W m σ H)/\∀m σ H,W m σ H ->
 c σ H λb H1=>if b=true then ∃N:St->Hp->Prop,(∀I H',N I H'->∃S,S<m/\W S I H')/\tb { D with nx:=N,ct:=N,bk:=D.nx } σ H1 else D.nx σ H1
variable{c:Value}{body:List Stmt}{tb:TS}
def Bx{c:Expr}{j:TT}(k:PassesOwn (model X.prog X.w) X.A X.env X.xe)(o:PT X c j)(p:fA X body tb):PS X (.While c body [] pos) (Bw j tb):=by
 intro pins s σ H D I h;obtain⟨W,⟨q,r⟩,turn⟩:=h;refine wpAny_While (codeAny_whileLoop (λn s'=>∃U H',Inv X pins U H' s'/\W n U H') ?_ q ⟨σ,H,I,r⟩);rintro n t ⟨σ1,H1,I1,w1⟩;refine je k (aU (o pins t σ1 H1 _ I1 (turn n σ1 H1 w1)) λb s2 u=>?_);obtain⟨H2,l,Y⟩:=u;cases b with
 |true =>
   obtain⟨N,m,Y⟩:=Y;rw[az rfl];refine je k (aU (p pins s2 σ1 H2 _ l Y) λf x Z=>?_);cases f with
   |next =>
     obtain⟨S,V,a,d⟩:=Z;obtain⟨e,g,i⟩:=m S V d;exact⟨e,g,S,V,a,i⟩
   |cont =>
     obtain⟨S,V,a,d⟩:=Z;obtain⟨e,g,i⟩:=m S V d;exact⟨e,g,S,V,a,i⟩
   |brk=>exact Z |ret v=>exact Z
 |false =>
   rw[bu ce];exact n8 ⟨σ1,H2,l,Y⟩
structure It where
 go:Nat->Hp->Prop
 yld:Nat->Hp->V->Hp->Prop
 stop:Nat->Hp->Prop
def cT(X:Cx)(pins:fh)(H:Hp)(b:Addr):Prop :=
 H b=none/\b≠X.env.locals/\b∉X.fs/\(b∈X.ex\/X.s₀.heap.objs.size<=b)/\(∀x c,X.env.cells.lookup x=↑c->c≠b)/\∀p∈X.pn++pins,p.1≠b
def Inv.fpOk(I:Inv X pins σ H s)(D:s.heap.objs.size<=b)(S:H' b=none):cT X pins H' b:=by
 refine⟨S,l9 (bq I.lt D),I.nofs D,.inr (b6 I.sz D),λx c e z=>?_,λp U z=>?_⟩
 ·obtain⟨v,q⟩:=I.cell x c e
  exact absurd (bq q.lt (by rw[z];exact D)) (ie _)
 ·exact absurd (bq (bw (I.pin p U).1) (by rw[z];exact D)) (ie _)
structure wg (Cm:Cx->Prop) (P:Program) (w:World) (K:fc) (tg:Expr) (J:It) (fp:el) (it:Addr) (tn:Nat->Heap->Prop):Prop where
 mem:it∈fp
 obj:∀i h,tn i h->∀b∈fp,∃o,h.get? b=↑o/\∀v,o.data≠.cell v
 keep:∀i h h',tn i h->(∀b∈fp,∀o,h.get? b=↑o->h'.get? b=↑o)->tn i h'
 item:∀(X:Cx),X.prog=P->X.w=w->X.K=K->Cm X->∀(i:Nat) (pins:fh) (s:Shared) (σ:St) (H:Hp) (E:Value->Shared->Prop),Inv X pins σ H s->(∀b∈fp,cT X pins H b)->tn i s.heap->J.go i H ->
  wpAny (model P w) X.A (pyNext (.ref it)) (λr s1=>∃u,r=↑u /\
   wpAny (model P w) X.A (letOwnedTupleGo tg (.ref it) u) (λ_ s2=>∃x H',Inv X pins σ H' s2/\RelV x u/\J.yld i H x H'/\tn (i+1) s2.heap/\∀b∈fp,H' b=none) E s1) E s
 done:∀(X:Cx),X.prog=P->X.w=w->X.K=K->Cm X->∀(i:Nat) (pins:fh) (s:Shared) (σ:St) (H:Hp) (E:Value->Shared->Prop),Inv X pins σ H s->(∀b∈fp,cT X pins H b)->tn i s.heap->J.stop i H ->
  wpAny (model P w) X.A (pyNext (.ref it)) (λr s1=>r=none/\Inv X pins σ H s1) E s
 self:∀(A:Around) (i:Nat) (s:Shared) (Q:Value->Shared->Prop) (E:Value->Shared->Prop),tn i s.heap->Q (.ref it) s->wpAny (model P w) A (pyIter (.ref it)) Q E s
abbrev f_:=wg λX=>X.calm=true
abbrev TI:=St->Hp->(It->Hp->Prop)->Prop
def jI(Cm:Cx->Prop)(X:Cx)(pins:fh)(σ:St)(tg:Expr)(R:It->Hp->Prop)(D:Value)(s2:Shared):Prop :=
 ∃(it:Addr) (fp:el) (I:Nat->Heap->Prop) (J:It) (H':Hp),D=.ref it/\Inv X pins σ H' s2/\wg Cm X.prog X.w X.K tg J fp it I/\I 0 s2.heap/\(∀b∈fp,cT X pins H' b)/\R J H'
def gN(Cm:Cx->Prop)(X:Cx)(tg iter:Expr)(wi:TI):Prop :=
 ∀(pins:fh) (s:Shared) (σ:St) (H:Hp) (R:It->Hp->Prop),Inv X pins σ H s->wi σ H R ->
  wpAny (model X.prog X.w) X.A (eval iter X.env) (λv D=>wpAny (model X.prog X.w) X.A (pyIter v) (jI Cm X pins σ tg R) X.xe D) X.xe s
abbrev PI:=gN λX=>X.calm=true
variable{vs:fw}
def kK{n:String}{vs:fk}(I:s.heap.get? it=↑o)(S:o.cls=.type n)(hd:o.data=.fields vs)(U:["enumerate", "zip", "dict_itemiterator", "dict_reverseitemiterator", "odict_iterator", "itertools.zip_longest", "itertools.pairwise"].contains n=false)(D:Q () s):wpAny M A (letOwnedTupleGo tg (.ref it) u) Q E s:=by
 unfold letOwnedTupleGo;cases tg <;> first
  |exact ft D
  | (cases u <;> first
      |exact ft D
      | (refine cr (wpAny_load I ?_)
         rw[S,hd];show wpAny M A (if (["enumerate", "zip", "dict_itemiterator", "dict_reverseitemiterator", "odict_iterator", "itertools.zip_longest", "itertools.pairwise"].contains n && vs[0]?==↑(rawInt _))=true then _ else _) Q E s;rw[bu (by intro h;rw[U,Bool.false_and] at h;cases h)];exact ft D))
def oD(K:fc)(a:Addr):It :=
 ⟨λi H=>∃xs x,cN K H a xs/\xs[i]?=↑x,λi H x H'=>H'=H/\∀xs,cN K H a xs->xs[i]?=↑x,λi H=>∃xs,cN K H a xs/\xs.length<=i⟩
def oE(K:fc)(a:Addr):It :=
 ⟨λi H=>∃xs x,dW K H a xs/\xs[i]?=↑x,λi H x H'=>H'=H/\∀xs,dW K H a xs->xs[i]?=↑x,λi H=>∃xs,dW K H a xs/\xs.length<=i⟩
def hZ(lo:Int)(n:Nat):It:=⟨λi _=>i<n,λi H x H'=>H'=H/\x=.int (lo+i),λi _=>n<=i⟩
theorem By(a it:Addr):f_ P w K tg (oD K a) [it] it (λi h=>h.IsListIter it a i) where
 mem:=by simp
 obj:=λi h st b D=>by
  have e:b=it:=by simpa using D
  subst e;obtain⟨o,e,c,d⟩:=st;exact⟨o,e,λv z=>by rw[d] at z;cases z⟩
 keep:=λi h h' st k=>st.at λo e=>k it ⋯ o e
 item:=by
  intro X hP Y Z t i pins s σ H E I U st f;subst hP Y Z;obtain⟨xs,x,V,g⟩:=f;obtain⟨its,j,p,y⟩:=I.list V;obtain⟨u,A,B⟩:=j.get g;obtain⟨l,m,C,n,q,r⟩:=U it ⋯;refine wpAny_pyNext_list_item st p.isList (x:=u) (by simpa using A) λh' S F=>?_;have G:Inv X pins σ H { s with heap:=h' }:=I.turned (t':=s.toks) (λb o D e=>(F.2 b D).trans e) l m n q r;obtain⟨o,e,c,d⟩:=id S;exact⟨u,rfl,kK (s:={ s with heap:=h' }) e c d (by decide) ⟨x,H,G,B,⟨rfl,λys J=>by rw[I.list_inj J V];exact g⟩,S,λb D=>(U b D).1⟩⟩
 done:=by
  intro X hP Y Z t i pins s σ H E I U st f;subst hP Y Z;obtain⟨xs,V,g⟩:=f;obtain⟨its,j,p,y⟩:=I.list V;obtain⟨l,m,C,n,q,r⟩:=U it ⋯;have M:=j.length;exact wpAny_pyNext_list_end (I.ok.hd t) st p.isList (by simp;omega) λh' L=>⟨rfl,I.turned (t':=s.toks) (λb o D e=>L b o D e) l m n q r⟩
 self:=λ_ _ _ _ _ st h=>wpAny_pyIter_listiter st h
theorem Bz(a it:Addr):f_ P w K tg (oE K a) [it] it (λi h=>h.IsTupleIter it a i) where
 mem:=by simp
 obj:=λi h st b D=>by
  have e:b=it:=by simpa using D
  subst e;obtain⟨o,e,c,d⟩:=st;exact⟨o,e,λv z=>by rw[d] at z;cases z⟩
 keep:=λi h h' st k=>st.at λo e=>k it ⋯ o e
 item:=by
  intro X hP Y Z t i pins s σ H E I U st f;subst hP Y Z;obtain⟨xs,x,V,g⟩:=f;obtain⟨its,j,p,y⟩:=I.tuple V;obtain⟨u,A,B⟩:=j.get g;obtain⟨l,m,C,n,q,r⟩:=U it ⋯;refine wpAny_pyNext_tuple_item st (show s.heap.IsTuple a its.toArray from p) (x:=u) (by simpa using A) λh' S F=>?_;have G:Inv X pins σ H { s with heap:=h' }:=I.turned (t':=s.toks) (λb o D e=>(F.2 b D).trans e) l m n q r;obtain⟨o,e,c,d⟩:=id S;exact⟨u,rfl,kK (s:={ s with heap:=h' }) e c d (by decide) ⟨x,H,G,B,⟨rfl,λys J=>by rw[I.tuple_inj J V];exact g⟩,S,λb D=>(U b D).1⟩⟩
 done:=by
  intro X hP Y Z t i pins s σ H E I U st f;subst hP Y Z;obtain⟨xs,V,g⟩:=f;obtain⟨its,j,p,y⟩:=I.tuple V;obtain⟨l,m,C,n,q,r⟩:=U it ⋯;have M:=j.length;exact wpAny_pyNext_tuple_end (I.ok.hd t) st (show s.heap.IsTuple a its.toArray from p) (by simp;omega) λh' L=>⟨rfl,I.turned (t':=s.toks) (λb o D e=>L b o D e) l m n q r⟩
 self:=λ_ _ _ _ _ st h=>wpAny_pyIter_tupleiter st h
def uW(it:Addr)(lo:Int)(n:Nat):f_ P w K tg (hZ lo n) [it] it (λi h=>IsRangeIter h it (lo+(i:Nat)*1) ((n:Int)-(i:Nat)) 1) where
 mem:=by simp
 obj:=λi h st b D=>by
  have e:b=it:=by simpa using D
  subst e;exact⟨_,st,λv z=>by
   have l:Data.fields _=Data.cell v:=z;cases l⟩
 keep:=λi h h' st k=>k it ⋯ _ st
 item:=by
  intro X hP V Y Z i pins s σ H E I U st a;subst hP V Y;obtain⟨c,d,m,f,g,j⟩:=U it ⋯;have W:=Walks.range (prog:=X.prog) (w:=X.w) (I.ok.hd Z) it lo 1 n;refine W.item i s _ _ a st λv h' tk p S kk=>?_;obtain⟨t,rfl⟩:=p;have q:Inv X pins σ H { s with heap:=h',toks:=tk }:=I.turned (λb o D e=>kk b o (by simpa using D) e) c d f g j;refine⟨_,rfl,kK (s:={ s with heap:=h',toks:=tk }) (n:="range_iterator") S rfl rfl (by decide) ⟨.int (lo+i),H,q,⟨t,?_⟩,⟨rfl,rfl⟩,S,λb D=>(U b D).1⟩⟩;rw[Int.mul_one]
 done:=by
  intro X hP V Y Z i pins s σ H E I U st a;subst hP V Y;obtain⟨c,d,m,f,g,j⟩:=U it ⋯;exact wpAny_pyNext_range_end (I.ok.hd Z) st (by have:n<=i:=a;omega) λh' r=>⟨rfl,I.turned (t':=s.toks) (λb o D e=>r b o D e) c d f g j⟩
 self:=λ_ _ _ _ _ st h=>wpAny_pyIter_rangeiter st h
def B0(K:fc)(tl:TE):TI:=λσ H R=>tl σ H λx H1=>∃a,x=.ref a/\(∃xs,cN K H1 a xs)/\R (oD K a) H1
def oF(K:fc)(tl:TE):TI:=λσ H R=>tl σ H λx H1=>∃a,x=.ref a/\(∃xs,dW K H1 a xs)/\R (oE K a) H1
variable{l:Expr}{tl:TE}
def B1(U:PE X l tl):PI X tg l (B0 X.K tl):=by
 intro pins s σ H R I h;refine aU (U pins s σ H _ I h) λv D V=>?_;obtain⟨x,H1,S,Y,Z⟩:=V;obtain⟨a,e,⟨xs,c⟩,q⟩:=Z;subst e;cases Y;obtain⟨its,f,p,g⟩:=S.list c;refine u6 p.isList ?_;refine⟨D.heap.objs.size,[D.heap.objs.size],_,_,H1,rfl,S.kept (t':=D.toks) λb o e=>bc _ e,By a _,⟨_,cg _ rfl,rfl,rfl⟩,λb d=>?_,q⟩;have e:b=D.heap.objs.size:=by simpa using d
 subst e;exact S.fpOk (bj _) (S.hok.fresh (bj _))
def B2(U:PE X l tl):PI X tg l (oF X.K tl):=by
 intro pins s σ H R I h;refine aU (U pins s σ H _ I h) λv D V=>?_;obtain⟨x,H1,S,Y,Z⟩:=V;obtain⟨a,e,⟨xs,c⟩,q⟩:=Z;subst e;cases Y;obtain⟨its,f,p,g⟩:=S.tuple c;refine wpAny_pyIter_tuple (show D.heap.IsTuple a its.toArray from p) ?_;refine⟨D.heap.objs.size,[D.heap.objs.size],_,_,H1,rfl,S.kept (t':=D.toks) λb o e=>bc _ e,Bz a _,⟨_,cg _ rfl,rfl,rfl⟩,λb d=>?_,q⟩;have e:b=D.heap.objs.size:=by simpa using d
 subst e;exact S.fpOk (bj _) (S.hok.fresh (bj _))
variable{v:Value}{Cm:Cx->Prop}
def uX(hT:∀(it:Addr) (lo:Int) (n:Nat),wg Cm X.prog X.w X.K tg (hZ lo n) [it] it (λi h=>IsRangeIter h it (lo+(i:Nat)*1) ((n:Int)-(i:Nat)) 1)){R:It->Hp->Prop}{lo hi:Int}{t u v:Tok}{tk:Nat}(I:Inv X pins σ H s)(h1:-(2 ^ 62)<=lo)(h2:lo<2 ^ 62)(S:-(2 ^ 62)<=hi)(U:hi<2 ^ 62)(q:R (hZ lo (hi-lo).toNat) H):wpAny (model X.prog X.w) X.A (pyIter (.ref s.heap.objs.size)) (jI Cm X pins σ tg R) E { s with heap:=s.heap.push { cls:=.type "range",data:=.fields #[.int lo t,.int hi u,.int 1 v] },toks:=tk }:=by
 refine wpAny_pyIter_range (IsRange.new ..) (small_one h1 h2 S U) ?_;have D:Inv X pins σ H { s with heap:=s.heap.push { cls:=.type "range",data:=.fields #[.int lo t,.int hi u,.int 1 v] },toks:=tk }:=I.kept λb o e=>bc _ e;refine⟨(s.heap.push { cls:=.type "range",data:=.fields #[.int lo t,.int hi u,.int 1 v] }).objs.size,[(s.heap.push { cls:=.type "range",data:=.fields #[.int lo t,.int hi u,.int 1 v] }).objs.size],_,_,H,rfl,
  D.kept (t':=tk) λb o e=>bc _ e,hT _ lo (hi-lo).toNat,?_,λb V=>?_,q⟩
 ·have Y:lo+((0:Nat):Int)*1=lo:=by simp
  have Z:(((hi-lo).toNat:Nat):Int)-((0:Nat):Int)=Builtin.Range.rangeSize lo hi 1:=by rw[rangeSize_one];split <;> omega
  show IsRangeIter _ _ (lo+((0:Nat):Int)*1) ((((hi-lo).toNat:Nat):Int)-((0:Nat):Int)) 1;rw[Y,Z];exact cg _ rfl
 ·have e:b=(s.heap.push { cls:=.type "range",data:=.fields #[.int lo t,.int hi u,.int 1 v] }).objs.size:=by simpa using V
  subst e;exact D.fpOk (bj _) (D.hok.fresh (bj _))
def B3(ta:TA):TI:=λσ H R=>ta σ H λvs H1=>∃j:Int,vs=[↥j]/\-(2 ^ 62)<=j/\j<2 ^ 62/\R (hZ 0 j.toNat) H1
def B4(ta:TA):TI:=λσ H R=>ta σ H λvs H1=>∃i j:Int,vs=[↥i,↥j]/\(-(2 ^ 62)<=i/\i<2 ^ 62/\-(2 ^ 62)<=j/\j<2 ^ 62)/\R (hZ i (j-i).toNat) H1
variable{a:Expr}{ta:TA}{p:Pos}
def B5(hT:∀(it:Addr) (lo:Int) (n:Nat),wg Cm X.prog X.w X.K tg (hZ lo n) [it] it (λi h=>IsRangeIter h it (lo+(i:Nat)*1) ((n:Int)-(i:Nat)) 1))(S:Gl X "range")(U:X.mg "range" = none)(V:PA X [a] ta)(Y:‹starEach [a] X.env=[(false,eval a X.env)]›):gN Cm X tg (.Call (.Name "range" p) [a] [] pos) (B3 ta):=by
 intro pins s σ H R I h;refine Call_ (ud I S U boot_range (f6 (aU (V pos pins s σ H _ I h) λus f Z=>?_) Y rfl));obtain⟨vs,H1,b,c,D⟩:=Z;obtain⟨j,e,D,d,q⟩:=D;subst e;cases c with
 |cons r rr =>
   cases rr;obtain⟨t,rfl⟩:=r;exact call_range_1 (uX hT b (by omega) (by omega) D d (by simpa using q))
def B6{b:Expr}(U:Gl X "range")(V:X.mg "range" = none)(Y:PA X [a,b] ta)(Z:‹starEach [a,b] X.env=[(false,eval a X.env),(false,eval b X.env)]›)(D:‹starEach [b] X.env=[(false,eval b X.env)]›) :
  PI X tg (.Call (.Name "range" p) [a,b] [] pos) (B4 ta):=by
 intro pins s σ H R I h;refine Call_ (ud I U V boot_range (f6 (aU (Y pos pins s σ H _ I h) λus m c=>?_) (by rw[Z,D]) (by rw[D];rfl)));obtain⟨vs,H1,d,f,S⟩:=c;obtain⟨i,j,e,⟨S,g,k,l⟩,q⟩:=S;subst e;cases f with
 |cons r rr =>
   cases rr with
   |cons r' rr =>
     cases rr;obtain⟨t,rfl⟩:=r;obtain⟨t',rfl⟩:=r';exact call_range_2 (uX (λit lo n=>uW it lo n) d S g k l q)
def oG(wi:TI)(g:TG)(tb:TS):TS:=λD σ H=>wi σ H λJ H1=>∃W:Nat->Nat->St->Hp->Prop,(∃m,W 0 m σ H1)/\∀i m σ H,W i m σ H ->
 (J.stop i H/\D.nx σ H)\/(J.go i H/\∃N:St->Hp->Prop,(∀I H',N I H'->∃U,U<m/\W (i+1) U I H')/\∀x H',J.yld i H x H'->g x σ H' λS H2=>tb { D with nx:=N,ct:=N,bk:=D.nx } S H2)
def yr(fp:el)(h:Heap):fh:=fp.filterMap λb=>(h.get? b).map λo=>(b,o)
variable{fp:el}
def kL(D:b∈fp)(e:h.get? b=↑o):(b,o)∈yr fp h:=oj.mpr ⟨b,D,by rw[e];rfl⟩
def B7{p:Addr×Obj}(D:p∈yr fp h):p.1∈fp/\h.get? p.1=↑p.2:=by
 obtain⟨b,I,e⟩:=oj.mp D;cases q:h.get? b with
 |none=>rw[q] at e;cases e
 |some o =>
   rw[q] at e;have e':(b,o)=p:=bn e;subst e';exact⟨I,q⟩
def Inv.pinned(I:Inv X pins σ H s)(S:∀b∈fp,cT X pins H b)(U:∀b∈fp,∃o,s.heap.get? b=↑o/\∀v,o.data≠.cell v):Inv X (pins++yr fp s.heap) σ H s :=
 I.pins_of λp V=>(d6.mp V).elim (λz=>I.pin p (b7 _ z)) λz=>by
  obtain⟨D,e⟩:=B7 z;obtain⟨Y,Z,a,_⟩:=S p.1 D;obtain⟨o,e',d⟩:=U p.1 D;rw[e] at e';cases e';exact⟨e,Y,Z,a,d⟩
def Inv.unpinned{pins pl:fh}(I:Inv X (pins++pl) σ H s):Inv X pins σ H s:=I.pins_of λp D=>I.pin p (b7 _ (ek _ D))
def B8{iter:Expr}{wi:TI}(l:PassesOwn (model X.prog X.w) X.A X.env X.xe)(F:X.calm=true)(hi:PI X tg iter wi)(P:PG X tg g)(U:fA X body tb)(Q:∀x,foldedSetIterable iter X.env x=pure x:=by intro _;rfl):PS X (.For tg iter body [] pos) (oG wi g tb):=by
 intro pins s σ H D I h;refine wpAny_For (aU (hi pins s σ H _ I h) λv s1 h1=>aU h1 λR s2 h2=>?_) Q;obtain⟨it,fp,G,J,H2,e,I2,T,t,K,W,⟨m0,w0⟩,turn⟩:=h2;subst e;have V:∀ {H':Hp},(∀b∈fp,H' b=none)->∀b∈fp,cT X pins H' b:=λhn b U=>⟨hn b U,(K b U).2⟩;refine codeAny_forLoop_any (λn s'=>∃i Y H',Inv X pins Y H' s'/\G i s'.heap/\(∀b∈fp,H' b=none)/\W i n Y H') ?_ m0 ⟨0,σ,H2,I2,t,λb U=>(K b U).1,w0⟩;rintro n L ⟨i,σ3,H3,I3,st3,fr3,w3⟩;rcases turn i n σ3 H3 w3 with⟨p,qn⟩ | ⟨go,N,hN,step⟩
 ·refine je l (aU (T.done X rfl rfl rfl F i pins L σ3 H3 X.xe I3 (V fr3) st3 p) λr s4 j=>?_)
  obtain⟨y,I4⟩:=j;subst y;exact n8 ⟨σ3,H3,I4,qn⟩
 ·refine je l (aU (T.item X rfl rfl rfl F i pins L σ3 H3 X.xe I3 (V fr3) st3 go) λr s4 j=>?_)
  obtain⟨u,y,h4⟩:=j;subst y;refine je l (aU h4 λ_ M j=>?_);obtain⟨x,O,I5,r5,y5,k,z⟩:=j;have B:=I5.pinned (V z) (T.obj _ _ k);refine je l (aU (P _ M σ3 O x u _ B r5 (step x O y5)) λ_ s6 j=>?_);obtain⟨C,H6,I6,q6⟩:=j;refine je l (aU (U _ s6 C H6 _ I6 q6) λf E c=>?_);have again:∀ {S:St} {Z:Hp},Inv X (pins++yr fp M.heap) S Z E->N S Z->∃m,m<n/\∃i Y H',Inv X pins Y H' E/\G i E.heap/\(∀b∈fp,H' b=none)/\W i m Y H':=λ{S Z} a q=>by
   obtain⟨m',hm,w7⟩:=hN S Z q;refine⟨m',hm,i+1,S,Z,a.unpinned,T.keep _ _ _ k λb U o e=>(a.pin (b,o) (b7 _ (b7 _ (kL U e)))).1,λb U=>?_,w7⟩;obtain⟨o,e,d⟩:=T.obj _ _ k b U;exact(a.pin (b,o) (b7 _ (b7 _ (kL U e)))).2.1
  cases f with
  |next=>obtain⟨S,Z,a,q⟩:=c;exact again a q |cont=>obtain⟨S,Z,a,q⟩:=c;exact again a q |brk=>obtain⟨S,Z,a,c⟩:=c;exact⟨S,Z,a.unpinned,c⟩ |ret v=>obtain⟨x7,S,Z,a,r7,c⟩:=c;exact⟨x7,S,Z,a.unpinned,r7,c⟩
abbrev R2:=V->V->Hp->VK->Prop
def eL(X:Cx)(f:Value->Value->Sem Value)(r:R2):Prop :=
 ∀(pins:fh) (s:Shared) (σ:St) (H:Hp) (x y:V) (v u:Value) (Q:VK),Inv X pins σ H s->RelV x v->RelV y u->r x y H Q ->
  wpAny (model X.prog X.w) X.A (f v u) (EP X pins σ Q) X.xe s
def oH(X:Cx)(f:Value->Sem Value)(r:V->Hp->VK->Prop):Prop :=
 ∀(pins:fh) (s:Shared) (σ:St) (H:Hp) (x:V) (v:Value) (Q:VK),Inv X pins σ H s->RelV x v->r x H Q ->
  wpAny (model X.prog X.w) X.A (f v) (EP X pins σ Q) X.xe s
def p5(X:Cx)(f:Value)(r:fw->Hp->VK->Prop):Prop :=
 ∀(pins:fh) (s:Shared) (σ:St) (H:Hp) (xs:fw) (us:ee) (Q:VK),Inv X pins σ H s->aG xs us->r xs H Q ->
  wpAny (model X.prog X.w) X.A (call f us) (EP X pins σ Q) X.xe s
def jJ(r:R2)(ta tb:TE):TE:=λσ H Q=>ta σ H λx H1=>tb σ H1 λy H2=>r x y H2 Q
def B9(r:V->Hp->VK->Prop)(ta:TE):TE:=λσ H Q=>ta σ H λx H1=>r x H1 Q
def rI(C:Int->Int->Prop)(g:Int->Int->V):R2:=λx y H Q=>∃i j,x=.int i/\y=.int j/\C i j/\Q (g i j) H
def fX(g:Int->Int->V):R2:=λx y H Q=>∃i j,x=.int i/\y=.int j/\Q (g i j) H
def rU(g:Int->V):V->Hp->VK->Prop:=λx H Q=>∃i,x=.int i/\Q (g i) H
variable{b:Expr}{Q:Value->Shared->Prop}{tb ta:TE}{f:Value->Value->Sem Value}
def iB(U:PE X a ta)(Y:PE X b tb){R:V->V->Hp->Prop}(I:Inv X pins σ H s)(h:ta σ H λx H1=>tb σ H1 λy H2=>R x y H2)(Z:∀v u s2 x y H2,Inv X pins σ H2 s2->RelV x v->RelV y u->R x y H2->wpAny (model X.prog X.w) X.A (f v u) Q X.xe s2) :
  wpAny (model X.prog X.w) X.A (eval a X.env) (λv D=>wpAny (model X.prog X.w) X.A (eval b X.env) (λu s₂=>wpAny (model X.prog X.w) X.A (f v u) Q X.xe s₂) X.xe D) X.xe s:=by
 refine aU (U pins s σ H _ I h) λv c S=>?_;obtain⟨x,H1,d,e,g⟩:=S;refine aU (Y pins c σ H1 _ d g) λu s2 S=>?_;obtain⟨y,H2,i,j,k⟩:=S;exact Z v u s2 x y H2 i e j k
variable{r:R2}
def oI(D:eL X (binaryOp op) r)(S:PE X a ta)(U:PE X b tb):PE X (.BinOp a op b pos) (jJ r ta tb):=by
 intro pins s σ H Q I h;exact wpAny_BinOp (iB S U I h λv u s2 x y H2 V Y Z q=>D pins s2 σ H2 x y v u Q V Y Z q)
variable{op:CmpOp}
def uY{op:UnaryOp}{r:V->Hp->VK->Prop}(D:oH X (unaryOp op) r)(S:PE X a ta):PE X (.UnaryOp op a pos) (B9 r ta):=by
 intro pins s σ H Q I h;exact UnaryOp_ (aU (S pins s σ H _ I h) λv s1 ⟨x,H1,I1,r1,q1⟩=>D pins s1 σ H1 x v Q I1 r1 q1)
variable{g:Int->Int->Int}{C:Addr}
def oJ{C:Int->Int->Prop}(rule:∀(i j:Int) (t u:Tok) (s:Shared) (Q:Value->Shared->Prop) (E:Value->Shared->Prop),C i j->Q (.int (g i j) s.toks) { s with toks:=s.toks+1 }->wpAny (model X.prog X.w) X.A (f (.int i t) (.int j u)) Q E s) :
  eL X f (rI C λi j=>.int (g i j)):=by
 intro pins s σ H x y v u Q I D S h;obtain⟨i,j,rfl,rfl,U,q⟩:=h;obtain⟨t,rfl⟩:=D;obtain⟨t',rfl⟩:=S;exact rule i j t t' s _ _ U ⟨.int (g i j),H,I.tok _,⟨_,rfl⟩,q⟩
def jK(rule:∀(i j:Int) (t u:Tok) (s:Shared) (Q:Value->Shared->Prop) (E:Value->Shared->Prop),Q (.int (g i j) s.toks) { s with toks:=s.toks+1 }->wpAny (model X.prog X.w) X.A (f (.int i t) (.int j u)) Q E s) :
  eL X f (fX λi j=>.int (g i j)):=by
 intro pins s σ H x y v u Q I D S h;obtain⟨i,j,rfl,rfl,q⟩:=h;obtain⟨t,rfl⟩:=D;obtain⟨t',rfl⟩:=S;exact rule i j t t' s _ _ ⟨.int (g i j),H,I.tok _,⟨_,rfl⟩,q⟩
def iC{g:Int->Int->Bool}(rule:∀(i j:Int) (t u:Tok) (s:Shared) (Q:Value->Shared->Prop) (E:Value->Shared->Prop),Q (.bool (g i j)) s->wpAny (model X.prog X.w) X.A (f (.int i t) (.int j u)) Q E s) :
  eL X f (fX λi j=>.bl (g i j)):=by
 intro pins s σ H x y v u Q I D S h;obtain⟨i,j,rfl,rfl,q⟩:=h;obtain⟨t,rfl⟩:=D;obtain⟨t',rfl⟩:=S;exact rule i j t t' s _ _ ⟨.bl (g i j),H,I,rfl,q⟩
def jL(i j:Int):Prop:=0<j/\j<1073741824
def gS(i j:Int):Prop:=(-(2 ^ 64)<i/\i<2 ^ 64)\/(-(2 ^ 64)<j/\j<2 ^ 64)
def gS.ok(h:gS i j):IntMulOk i j:=by
 rcases h with⟨h1,h2⟩ | ⟨h1,h2⟩
 ·exact .of_left (intBits_le_64 h1 h2)
 ·exact .of_right (intBits_le_64 h1 h2)
def BA:eL X (binaryOp .Add) (fX λi j=>.int (i+j)):=jK λ_ _ _ _ _ _ _ q=>add_int q
def BB:eL X (binaryOp .Sub) (fX λi j=>.int (i-j)):=jK λ_ _ _ _ _ _ _ q=>sub_int q
def BC:eL X (binaryOp .Mult) (rI gS λi j=>.int (i*j)):=oJ λ_ _ _ _ _ _ _ D q=>mul_int q D.ok
def BD:eL X (binaryOp .FloorDiv) (rI jL λi j=>.int (i / j)):=oJ λi j _ _ _ _ _ D q=>by
 have h1:(0:Int)<j:=D.1;have h2:j<1073741824:=D.2;exact floordiv_int (by omega) (by rw[Int.fdiv_eq_ediv_of_nonneg i (by omega)];exact q) (.inl (PyProof.noPylong_small (by omega)))
def BE:eL X (binaryOp .Mod) (rI (λ_ j=>0<j) λi j=>.int (i % j)):=oJ λi j _ _ _ _ _ D q=>by
 have h1:(0:Int)<j:=D;exact mod_int' (by omega) (by rw[Int.fmod_eq_emod_of_nonneg i (by omega)];exact q)
variable{f:Addr}
def BF{f:Value->Sem Value}{g:Int->Int}(rule:∀(i:Int) (t:Tok) (s:Shared) (Q:Value->Shared->Prop) (E:Value->Shared->Prop),Q (.int (g i) s.toks) { s with toks:=s.toks+1 }->wpAny (model X.prog X.w) X.A (f (.int i t)) Q E s) :
  oH X f (rU λi=>.int (g i)):=by
 intro pins s σ H x v Q I D h;obtain⟨i,rfl,q⟩:=h;obtain⟨t,rfl⟩:=D;exact rule i t s _ _ ⟨.int (g i),H,I.tok _,⟨_,rfl⟩,q⟩
def uZ:oH X (unaryOp .USub) (rU λi=>.int (-i)):=BF λ_ _ _ _ _ q=>neg_int q
def jM:V->V->Bool
 | .non,.non=>true | .non,.int _=>true | .int _,.non=>true | .non,.bl _=>true | .bl _,.non=>true | .non,.str _=>true | .str _,.non=>true | .int _,.int _=>true | .bl _,.bl _=>true | .str _,.str _=>true | .byt _,.byt _=>true | .int _,.str _=>true | .str _,.int _=>true | .bl _,.str _=>true | .str _,.bl _=>true |_,_=>false
def u_:R2:=λx y H Q=>jM x y=true/\Q (.bl (decide (x=y))) H
def vl:R2:=λx y H Q=>jM x y=true/\Q (.bl (!decide (x=y))) H
def vr:decide (V.int i=V.int j)=(i==j):=by
 rw[ml];simp
def vu{i j:Bool}:decide (V.bl i=V.bl j)=(i==j):=by
 rw[ml];simp
def v3{i j:Str}:decide (V.str i=V.str j)=(i==j):=by
 rw[ml];simp
def v4{i j:Array UInt8}:decide (V.byt i=V.byt j)=(i.toList==j.toList):=by
 rw[ml];cases i;cases j;simp
def kt{Q:VK}{k k':Bool}(I:Inv X pins σ H s)(q:Q (.bl k) H)(e:k=k'):EP X pins σ Q (.bool k') s:=by
 subst e;exact⟨.bl k,H,I,rfl,q⟩
def v5:eL X (compareOp .Eq) u_:=by
 intro pins s σ H x y v u Q I U D h;obtain⟨S,q⟩:=h;cases x with
 |non =>
   cases U;cases y with
   |non=>cases D;exact PySem.EqNone.eq_none_none (kt I q ⋯)
   |bl j=>cases D;exact PySem.EqNone.eq_none_bool (kt I q ⋯)
   |int j=>obtain⟨t',rfl⟩:=D;exact PySem.EqNone.eq_none_int (kt I q ⋯) |str j=>obtain⟨t',rfl⟩:=D;exact PySem.EqNone.eq_none_str (kt I q ⋯) |_=>exact absurd (show false=true from S) ce
 |bl i =>
   cases U;cases y with
   |non=>cases D;exact PySem.EqNone.eq_bool_none (kt I q ⋯)
   |bl j=>cases D;exact eq_bool (kt I q vu)
   |str j=>obtain⟨t',rfl⟩:=D;exact PySem.EqMixed.eq_bool_str (kt I q ⋯) |_=>exact absurd (show false=true from S) ce
 |int i =>
   obtain⟨t,rfl⟩:=U;cases y with
   |non=>cases D;exact PySem.EqNone.eq_int_none (kt I q ⋯)
   |int j=>obtain⟨t',rfl⟩:=D;exact eq_int (kt I q vr) |str j=>obtain⟨t',rfl⟩:=D;exact PySem.EqMixed.eq_int_str (kt I q ⋯) |_=>exact absurd (show false=true from S) ce
 |str i =>
   obtain⟨t,rfl⟩:=U;cases y with
   |non=>cases D;exact PySem.EqNone.eq_str_none (kt I q ⋯)
   |bl j=>cases D;exact PySem.EqMixed.eq_str_bool (kt I q ⋯)
   |int j=>obtain⟨t',rfl⟩:=D;exact PySem.EqMixed.eq_str_int (kt I q ⋯) |str j=>obtain⟨t',rfl⟩:=D;exact eq_str (kt I q v3) |_=>exact absurd (show false=true from S) ce
 |byt i =>
   obtain⟨t,rfl⟩:=U;cases y with
   |byt j=>obtain⟨t',rfl⟩:=D;exact PySem.W.eq_bytes (kt I q v4) |_=>exact absurd (show false=true from S) ce
 |_=>cases y <;> exact absurd (show false=true from S) ce
def BG:eL X (compareOp .NotEq) vl:=by
 intro pins s σ H x y v u Q I U D h;obtain⟨S,q⟩:=h;cases x with
 |non =>
   cases U;cases y with
   |non=>cases D;exact PySem.EqNone.ne_none_none (kt I q ⋯)
   |bl j=>cases D;exact PySem.EqNone.ne_none_bool (kt I q ⋯)
   |int j=>obtain⟨t',rfl⟩:=D;exact PySem.EqNone.ne_none_int (kt I q ⋯) |str j=>obtain⟨t',rfl⟩:=D;exact PySem.EqNone.ne_none_str (kt I q ⋯) |_=>exact absurd (show false=true from S) ce
 |bl i =>
   cases U;cases y with
   |non=>cases D;exact PySem.EqNone.ne_bool_none (kt I q ⋯)
   |bl j=>cases D;exact ne_bool (kt I q (congrArg not vu))
   |str j=>obtain⟨t',rfl⟩:=D;exact PySem.EqMixed.ne_bool_str (kt I q ⋯) |_=>exact absurd (show false=true from S) ce
 |int i =>
   obtain⟨t,rfl⟩:=U;cases y with
   |non=>cases D;exact PySem.EqNone.ne_int_none (kt I q ⋯)
   |int j=>obtain⟨t',rfl⟩:=D;exact ne_int (kt I q (congrArg not vr)) |str j=>obtain⟨t',rfl⟩:=D;exact PySem.EqMixed.ne_int_str (kt I q ⋯) |_=>exact absurd (show false=true from S) ce
 |str i =>
   obtain⟨t,rfl⟩:=U;cases y with
   |non=>cases D;exact PySem.EqNone.ne_str_none (kt I q ⋯)
   |bl j=>cases D;exact PySem.EqMixed.ne_str_bool (kt I q ⋯)
   |int j=>obtain⟨t',rfl⟩:=D;exact PySem.EqMixed.ne_str_int (kt I q ⋯) |str j=>obtain⟨t',rfl⟩:=D;exact ne_str (kt I q (congrArg not v3)) |_=>exact absurd (show false=true from S) ce
 |byt i =>
   obtain⟨t,rfl⟩:=U;cases y with
   |byt j=>obtain⟨t',rfl⟩:=D;exact PySem.W.ne_bytes (kt I q (congrArg not v4)) |_=>exact absurd (show false=true from S) ce
 |_=>cases y <;> exact absurd (show false=true from S) ce
def BH:eL X (compareOp .Lt) (fX λi j=>.bl (decide (i<j))):=iC λ_ _ _ _ _ _ _ q=>lt_int q
def v6:eL X (compareOp .Gt) (fX λi j=>.bl (decide (j<i))):=iC λ_ _ _ _ _ _ _ q=>gt_int q
def BI:eL X (compareOp .GtE) (fX λi j=>.bl (decide (j<=i))):=iC λ_ _ _ _ _ _ _ q=>ge_int q
def vn(b:Expr)(h:op≠.In:=by decide)(h2:op≠.NotIn:=by decide):behindInMarks op b=false:=by
 have D:(op==CmpOp.In)=false:=by cases op <;> first |rfl |exact absurd rfl h
 have I:(op==CmpOp.NotIn)=false:=by cases op <;> first |rfl |exact absurd rfl h2
 cases b <;> simp[behindInMarks,D,I]
def BJ(D:eL X (compareOp op) r)(S:PE X a ta)(U:PE X b tb)(V:behindInMarks op b=false):PE X (.Compare a [op] [b] pos) (jJ r ta tb):=by
 intro pins s σ H Q I h;exact wpAny_Compare1 (iB S U I h λv u s2 x y H2 Y Z c q=>D pins s2 σ H2 x y v u Q Y Z c q) V
def v7(t:TE):TT:=λσ H Q=>t σ H λx H'=>∃k,x=.bl k/\Q k H'
def BK(D:eL X (compareOp op) r)(S:PE X a ta)(U:PE X b tb)(V:behindInMarks op b=false):PT X (.Compare a [op] [b] pos) (v7 (jJ r ta tb)):=by
 intro pins s σ H Q I h;refine wpAny_isTrue_Compare1 (aU (S pins s σ H _ I h) λv s1 ⟨x,H1,I1,r1,q1⟩=>aU (U pins s1 σ H1 _ I1 q1) λu s2 ⟨y,H2,I2,r2,q2⟩ =>
  aU (D pins s2 σ H2 x y v u _ I2 r1 r2 q2) λc s3 ⟨z,H3,I3,r3,k,e,q3⟩=>?_) V
 subst e;cases r3;exact me ⟨H3,I3,q3⟩
def wy:(sizeLine:Nat)<2 ^ 63:=by rw[gy];decide
variable{x:V}
def vg(r:aG [x] us):∃u,us=[u]/\RelV x u:=by
 cases r with
 |cons r1 r2=>cases r2;exact⟨_,rfl,r1⟩
variable{y:V}
def oK(r:aG [x,y] us):∃u D,us=[u,D]/\RelV x u/\RelV y D:=by
 cases r with
 |cons r1 r2 =>
   cases r2 with
   |cons r3 r4=>cases r4;exact⟨_,_,rfl,r1,r3⟩
def BL(S:X.calm=true):p5 X (.builtin "min") (λxs H Q=>∃i j,xs=[↥i,↥j]/\Q ↥(if j<i then j else i) H):=by
 intro pins s σ H xs us Q I r h;obtain⟨i,j,rfl,q⟩:=h;obtain⟨u,U,rfl,⟨t,rfl⟩,⟨t',rfl⟩⟩:=oK r;refine min_two_ints (I.ok.hd S) λh' tk k=>⟨_,H,I.kept k,?_,q⟩;by_cases D:j<i
 ·rw[az D,az D];exact⟨_,rfl⟩
 ·rw[bu D,bu D];exact⟨_,rfl⟩
def BM:p5 X (.type "int") (λxs H Q=>(∃i,xs=[↥i]/\Q ↥i H)\/∃k,xs=[.bl k]/\Q ↥(if k then 1 else 0) H):=by
 intro pins s σ H xs us Q I r h;rcases h with⟨i,rfl,q⟩ | ⟨k,rfl,q⟩
 ·obtain⟨u,rfl,t,rfl⟩:=vg r
  exact call_int_int ⟨.int i,H,I,⟨_,rfl⟩,q⟩
 ·obtain⟨u,rfl,D⟩:=vg r
  cases D;exact call_int_bool ⟨.int (if k then 1 else 0),H,I.tok _,⟨_,rfl⟩,q⟩
structure fP (h:Heap) (x dx C:Addr) (mA:Str->ei):Prop where
 obj:h.get? x=↑(PySem.W.instObj C dx)
 ns:h.Ns1 dx mA
 ne:dx≠x
variable{dx:Addr}{mA:Str->ei}
def BN(n:h.Ns1 dx mA):∃od,h.get? dx=↑od/\∀name,PySem.W.lookIn name od=↑(mA name):=by
 obtain⟨o,es,Z,I,hd,S,_,U⟩:=n;refine⟨o,I,λname=>?_⟩;have e:=U name;unfold nsFind findBy at e;rw[<-Array.find?_toList] at e;unfold PySem.W.lookIn;rw[hd];dsimp only;split
 ·rename_i y q
  rw[q] at e;exact congrArg some e
 ·rename_i q
  rw[q] at e;have a:es.toList.any (·.refKey)=false:=by
   rw[List.any_eq_false];intro y V;obtain⟨z,t,D⟩:=S y (Array.mem_toList_iff.mp V);simp[DictEntry.refKey,D]
  have Y:¬es.toList.any (·.refKey)=true:=by rw[a];exact ce
  rw[bu Y];exact congrArg some e
variable{x:Addr}
def fP.look(I:fP h x dx C mA):∃od,PySem.W.InstAt h x (PySem.W.instObj C dx) C ↑od/\∀name,PySem.W.lookIn name od=↑(mA name) :=
 let ⟨od,D,S⟩:=BN I.ns
 ⟨od,⟨I.obj,rfl,rfl,D⟩,S⟩
variable{prog:Program}{name:Str}
def BO{D:Bool}(X:K.In s.heap)(I:fP s.heap x dx C mA)(U:PySem.W.plainGet K C name=true)(V:PySem.W.hasDictIn K C=true)(Y:PySem.W.findIn K (.ref C) name=↑none)(Z:mA name=↑v)(S:PySem.W.handedIn v=true)(h:Q v { s with toks:=s.toks+1 }) :
  wpAny (model prog w) A (getAttr (.ref x) name D) Q E s:=by
 obtain⟨od,J,a⟩:=I.look;exact PySem.W.get_value X J (nt U).1 (PySem.W.findObj_own V Y rfl (by rw[a,Z])) S h
def BP{pl:Sem Bool}{Q:Value×ee->Shared->Prop}(X:K.In s.heap)(I:fP s.heap x dx C mA)(D:PySem.W.plainGet K C name=true)(S:PySem.W.findIn K (.ref C) name=↑↑(.ref f))(U:PySem.W.isFn K (.ref f)=true)(V:mA name=none)(h:Q (.ref f,[.ref x]) s) :
  wpAny (model prog w) A (getMethod (.ref x) name pl) Q E s:=by
 obtain⟨od,J,Y⟩:=I.look;exact PySem.W.method_fn X J (nt D).1 (nt D).2 S (beq_iff_eq.mp U) (by show(PySem.W.lookIn name od).map (·.isSome)=↑false;rw[Y,V];rfl) h
def BQ{ns:ed}{Q:Unit->Shared->Prop}(X:K.In s.heap)(I:fP s.heap x dx C mA)(c:PySem.W.findIn K (.ref C) "__setattr__" = ↑↑(.builtin "object.__setattr__"))(d:PySem.W.plainOver K C=true)(e:PySem.W.takerIn K C name=↑none)(f:PySem.W.hasDictIn K C=true)(g:PySem.Within mA ns)(i:ns.length<=sizeLine)(h:∀h',fP h' x dx C (λy=>if y=name then ↑v else mA y)->Heap.SameBut dx s.heap h'->Q () { s with heap:=h',toks:=s.toks+2 }) :
  wpAny (model prog w) A (setAttr (.ref x) name v) Q E s:=by
 obtain⟨od,J,n⟩:=I.look;refine PySem.W.set_plain X J c (PySem.W.osa_open (s:={ s with toks:=s.toks+1 }) (r:=none) X J d e λb=>?_);obtain⟨o,j,U⟩:=PySem.W.any_some f;have k:s.heap.get? x=↑⟨.ref C,↑dx,.plain,#[]⟩:=I.obj;refine cr (ft (cr (cr (wpAny_loadPart k (cr (PySem.W.Looks.here (s:={ s with toks:=s.toks+1 }) (PySem.W.looks_clsIn X j) ?_))))));rw[U];refine ft (a:=↑dx) (cr (ft (cr ?_)));refine wpAny_nsSet1 (s:={ s with toks:=s.toks+1 }) I.ns λh' D S=>?_;obtain⟨p,l,m,V,Y,Z⟩:=D.count (PySem.Within.cons name v g);refine cr (wpAny_lookBehind V (by rw[Y];exact pastItsLine_dict (b6 Z (by rw[aq];omega))) ?_);exact ft (h _ ⟨(S.2 _ (Ne.symm I.ne)).trans I.obj,D,I.ne⟩ S)
variable{kw:List (Str×Value)}
def BR{R:Result->Shared->Prop}{vs:ee}(X:K.In s.heap)(I:PySem.W.makesIn K C=true)(hi:PySem.W.findIn K (.ref C) "__init__" = ↑↑(.ref f))(S:PySem.W.typeIn K (.ref f)=↑(.type "function"))(h:codeAny (model prog w) (A.under (.builtin "type.__call__" ⟨.ref C::vs,kw⟩)) (.call (.ref f) ⟨.ref (s.heap.objs.size+1)::vs,kw⟩) (PySem.W.InitBack (s.heap.objs.size+1) R)
   { s with heap:=(s.heap.push PySem.W.emptyDict).push (PySem.W.instObj C s.heap.objs.size) }) :
  codeAny (model prog w) A (.call (.ref C) ⟨vs,kw⟩) R s:=by
 obtain⟨U,g,d,t,os⟩:=s;exact PySem.W.make_core (PySem.W.makes_of X I) (PySem.W.looks_findIn X hi) (λD=>PySem.W.bind_fn X D S) (.inl rfl) h
def cO(f:Str)(v:V):List (Str×V)->List (Str×V)
 | []=>[(f,v)] | (g,x)::r=>if g=f then(g,v)::r else(g,x)::cO f v r
def vA(f g:Str)(v:V):∀fs:List (Str×V),(cO f v fs).lookup g=if g=f then ↑v else fs.lookup g
 | []=>by
   show List.lookup g [(f,v)]=_;by_cases h:g=f
   ·have D:(g==f)=true:=beq_iff_eq.mpr h
    simp only[List.lookup,D,az h]
   ·have D:(g==f)=false:=beq_eq_false_iff_ne.mpr h
    simp only[List.lookup,D,bu h]
 | (k,x)::r=>by
   have S:=vA f g v r;rw[show cO f v ((k,x)::r)=(if k=f then(k,v)::r else(k,x)::cO f v r) from rfl];by_cases I:k=f
   ·rw[az I]
    by_cases h:g=k
    ·have D:(g==k)=true:=beq_iff_eq.mpr h
     simp only[List.lookup,D,az (h.trans I)]
    ·have D:(g==k)=false:=beq_eq_false_iff_ne.mpr h
     simp only[List.lookup,D,bu (λe:g=f=>h (e.trans I.symm))]
   ·rw[bu I]
    by_cases h:g=k
    ·have D:(g==k)=true:=beq_iff_eq.mpr h
     simp only[List.lookup,D,bu (λe:g=f=>I (h.symm.trans e))]
    ·have D:(g==k)=false:=beq_eq_false_iff_ne.mpr h
     simp only[List.lookup,D];exact S
def oM(f:Str)(v:V):∀fs:List (Str×V),f∈(cO f v fs).map (·.1)/\∀g,g∈fs.map (·.1)->g∈(cO f v fs).map (·.1)
 | []=>⟨by simp[cO],λg h=>by simp at h⟩ | (k,x)::r=>by
   obtain⟨I,S⟩:=oM f v r;rw[show cO f v ((k,x)::r)=(if k=f then(k,v)::r else(k,x)::cO f v r) from rfl];by_cases D:k=f
   ·rw[az D]
    subst D;exact⟨by simp,λg h=>by simpa using h⟩
   ·rw[bu D]
    refine⟨?_,λg h=>?_⟩
    ·rw[bx]
     exact av _ I
    ·rw[bx] at h ⊢
     rcases cj.mp h with e |e
     ·exact cj.mpr (.inl e)
     ·exact av _ (S g e)
def vB(f:Str)(v:V):∀fs:List (Str×V),(cO f v fs).length<=fs.length+1
 | []=>by simp[cO] | (k,x)::r=>by
   have I:=vB f v r;rw[show cO f v ((k,x)::r)=(if k=f then(k,v)::r else(k,x)::cO f v r) from rfl];by_cases D:k=f
   ·rw[az D,aq,aq];omega
   ·rw[bu D,aq,aq];omega
variable{o:ei}{v:V}
def dS.some_of(r:dS ↑v o):∃u,o=↑u/\RelV v u:=by
 cases o with
 |none=>exact(show False from r).elim |some u=>exact⟨u,rfl,r⟩
def dS.none_of(r:dS none o):o=none:=by
 cases o with
 |none=>rfl |some u=>exact(show False from r).elim
def BS(r:RelV v u):PySem.W.handedIn u=true:=by
 cases v with
 |non=>cases (show u=Value.none from r);rfl
 |bl b=>cases (show u=Value.bool b from r);rfl
 |int i=>obtain⟨t,e⟩:=(show ∃t,u=Value.int i t from r);cases e;rfl
 |str x=>obtain⟨t,e⟩:=(show ∃t,u=Value.str x t from r);cases e;rfl
 |byt b=>obtain⟨t,e⟩:=(show ∃t,u=Value.bytes b t from r);cases e;rfl
 |flt b=>obtain⟨t,e⟩:=(show ∃t,u=Value.float b t from r);cases e;rfl
 |ref a=>cases (show u=Value.ref a from r);rfl
 |ty n=>cases (show u=Value.type n from r);rfl
variable{a:Addr}{fs:List (Str×V)}
def kM(D:dL P w H h)(e:H a=↑(.ins C dx fs)):∃mA,fP h a dx C mA/\(∀f,dS (fs.lookup f) (mA f))/\PySem.Within mA (fs.map (·.1))/\fs.length<=1000/\H dx=↑(.own a):=by
 obtain⟨d,z,I,S,mA,n,r,q⟩:=(show bG P w H h a (.ins C dx fs) from D a _ e);exact⟨mA,⟨S,n,I⟩,r,q,z,d⟩
structure fQ (K:fc) (C:Addr):Prop where
 pg:PySem.W.plainGet K C Str.empty=true
 hd:PySem.W.hasDictIn K C=true
 po:PySem.W.plainOver K C=true
 sa:PySem.W.findIn K (.ref C) "__setattr__" = ↑↑(.builtin "object.__setattr__")
def fQ.get(c:fQ K C)(f:Str):PySem.W.plainGet K C f=true:=c.pg
def c_(K:fc)(C:Addr)(f:Str):Prop:=PySem.W.findIn K (.ref C) f=↑none
variable{f:Str}
def c_.taker(n:c_ K C f):PySem.W.takerIn K C f=↑none:=by
 unfold PySem.W.takerIn;rw[show PySem.W.findIn K (.ref C) f=↑none from n];rfl
structure Ip (K:fc) (C:Addr) (f:Str) (v:V) (u:Value):Prop where
 at_:PySem.W.findIn K (.ref C) f=↑↑u
 rel:RelV v u
 get:PySem.W.specialIn K u "__get__" = ↑none
 cp:PySem.W.copiedNames.contains f=false
structure gH (K:fc) (C:Addr) (m:Str) (f:Addr):Prop where
 at_:PySem.W.findIn K (.ref C) m=↑↑(.ref f)
 fn:PySem.W.isFn K (.ref f)=true
 kp:PySem.W.keepIn K (.ref f)=true
variable{b:Bool}
def BU(I:Inv X pins σ H s)(e:H a=↑(.ins C dx fs))(c:fQ X.K C)(n:c_ X.K C f)(l:fs.lookup f=↑v)(h:∀u s',Inv X pins σ H s'->RelV v u->Q u s'):wpAny (model X.prog X.w) A (getAttr (.ref a) f b) Q E s:=by
 obtain⟨mA,O,r,_,_,_⟩:=kM I.hok e;obtain⟨u,S,D⟩:=dS.some_of (v:=v) (o:=mA f) (by rw[<-l];exact r f);exact BO I.kIn O (c.get f) c.hd n S (BS D) (h u _ (I.tok _) D)
def vC{m:Str}{g:Addr}{pl:Sem Bool}{Q:Value×ee->Shared->Prop}(I:Inv X pins σ H s)(e:H a=↑(.ins C dx fs))(c:fQ X.K C)(k:gH X.K C m g)(l:fs.lookup m=none)(h:Q (.ref g,[.ref a]) s):wpAny (model X.prog X.w) A (getMethod (.ref a) m pl) Q E s:=by
 obtain⟨mA,O,r,_,_,_⟩:=kM I.hok e;have D:mA m=none:=dS.none_of (by rw[<-l];exact r m);exact BP I.kIn O (c.get m) k.at_ k.fn D h
def BV{Q:Unit->Shared->Prop}(I:Inv X pins σ H s)(e:H a=↑(.ins C dx fs))(c:fQ X.K C)(n:c_ X.K C f)(d:fs.length<1000)(S:RelV y u)(h:∀s',Inv X pins σ (aO H a (.ins C dx (cO f y fs))) s'->Q () s'):wpAny (model X.prog X.w) A (setAttr (.ref a) f u) Q E s:=by
 obtain⟨mA,O,r,wi,_,D⟩:=kM I.hok e;have U:(fs.map (·.1)).length<=sizeLine:=by rw[ae,gy];omega
 refine BQ I.kIn O c.sa c.po n.taker c.hd wi U λh' O' V=>h _ ?_;have hd:∃o,h'.get? dx=↑o:=let ⟨o,_,_,e',_⟩:=O'.ns;⟨o,e'⟩;refine I.write (x:=a) (e:=dx) (by rw[e];exact True.intro) (.inr D) (λb q Y z=>(V.2 b Y).trans z) hd ?_;refine⟨by rw[i3 O.ne];exact D,?_,O.ne,O'.obj,_,O'.ns,λg=>?_,λg Z=>?_⟩
 ·have:=vB f y fs;omega
 ·show dS ((cO f y fs).lookup g) (if g=f then ↑u else mA g)
  rw[vA];by_cases q:g=f
  ·rw[az q,az q];exact S
  ·rw[bu q,bu q];exact r g
 ·by_cases q:g=f
  ·rw[q];exact(oM f y fs).1
  ·refine(oM f y fs).2 g (wi g λz=>Z ?_)
   show(if g=f then ↑u else mA g)=none;rw[bu q];exact z
def Inv.made(I:Inv X pins σ H s):Inv X pins σ (aO (aO H s.heap.objs.size (.own (s.heap.objs.size+1))) (s.heap.objs.size+1) (.ins C s.heap.objs.size []))
  { s with heap:=(s.heap.push PySem.W.emptyDict).push (PySem.W.instObj C s.heap.objs.size) }:=by
 have D:(s.heap.push PySem.W.emptyDict).get? s.heap.objs.size=↑PySem.W.emptyDict:=cg s.heap rfl;have U:((s.heap.push PySem.W.emptyDict).push (PySem.W.instObj C s.heap.objs.size)).get? (s.heap.objs.size+1)=↑(PySem.W.instObj C s.heap.objs.size):=by
  have:=cg (s.heap.push PySem.W.emptyDict) (o:=PySem.W.instObj C s.heap.objs.size) rfl;rwa [l3] at this
 have V:(s.heap.push PySem.W.emptyDict).Ns s.heap.objs.size (λ_=>none):=⟨PySem.W.emptyDict,#[],_,D,rfl,(λe Y=>absurd Y ⋯),λ_=>rfl⟩;have Z:=I.laid (a:=s.heap.objs.size) (o:=.own (s.heap.objs.size+1)) (h':=s.heap.push PySem.W.emptyDict) (t':=s.toks) (λb u q=>bc _ q) (bj _) ⟨_,D⟩;refine Z.laid (a:=s.heap.objs.size+1) (o:=.ins C s.heap.objs.size []) (t':=s.toks) (λb u q=>bc _ q) (Nat.le_of_eq (l3 _ _)) ?_;have S:s.heap.objs.size≠s.heap.objs.size+1:=db (e9 _);refine⟨by rw[i3 S,mv],fy _,S,U,λ_=>none,(Heap.Ns1.of_empty V).at λo q=>bc _ q,λ_=>True.intro,λy c=>absurd rfl c⟩
def BW{env:Env}(I:attributeBase e f env (eval e env)=eval e env)(h:wpAny (model prog w) A (eval e env) (λo D=>wpAny (model prog w) A (getAttr o f true) Q E D) E s):wpAny (model prog w) A (eval (.Attribute e f pos) env) Q E s :=
 Attribute_any_ h (by rw[arm_eval_Attribute,I])
def oN(K:fc)(ta:TE)(f:Str):TE:=λσ H Q=>ta σ H λx H1=>∃a C dx fs v,x=.ref a/\H1 a=↑(.ins C dx fs)/\fQ K C/\c_ K C f/\fs.lookup f=↑v/\Q v H1
def oO(K:fc)(ta tv:TE)(f:Str):TS:=λD σ H=>tv σ H λy H1=>ta σ H1 λx H2=>∃a C dx fs,x=.ref a/\H2 a=↑(.ins C dx fs)/\fQ K C/\c_ K C f/\fs.length<1000 /\
 D.nx σ (aO H2 a (.ins C dx (cO f y fs)))
def vD(D:PE X e ta)(S:attributeBase e f X.env (eval e X.env)=eval e X.env):PE X (.Attribute e f pos) (oN X.K ta f):=by
 intro pins s σ H Q I h;refine BW S (aU (D pins s σ H _ I h) λu g U=>?_);obtain⟨x,H1,V,Y,a,C,dx,fs,v,ex,Z,c,n,l,q⟩:=U;subst ex;obtain rfl:u=Value.ref a:=Y;exact BU V Z c n l λi s2 b d=>⟨v,H1,b,d,q⟩
variable{o value:Expr}{tv:TE}
def BX(U:PE X o ta)(V:PE X value tv)(Y:swapsWith value ↑(.Attribute o f pos') pos.line X.env=pure false):PS X (.Assign [.Attribute o f pos'] value pos) (oO X.K ta tv f):=by
 intro pins s σ H D I h;refine plainObj_wpAny_Assign_Attribute (aU (V pins s σ H _ I h) λu Z S=>?_) Y;obtain⟨y,H1,b,d,q⟩:=S;refine aU (U pins Z σ H1 _ b q) λe s2 S=>?_;obtain⟨x,H2,g,i,a,C,dx,fs,ex,j,c,n,l,k⟩:=S;subst ex;obtain rfl:e=Value.ref a:=i;exact BV g j c n l d λp m=>⟨σ,_,m,k⟩
inductive dF (K:fc) (H:Hp):V->Value->Prop where
 |non:dF K H .non (.type "NoneType")
 |bl (x:Bool):dF K H (.bl x) (.type "bool")
 |int (i:Int):dF K H ↥i (.type "int")
 |str (x:Str):dF K H (.str x) (.type "str")
 |flt (x:UInt64):dF K H (.flt x) (.type "float")
 |lst {a:Addr} {xs:fw} (e:H a=↑(.lst xs)):dF K H (.ref a) (.type "list")
 |frz {a:Addr} {o:Obj} {xs:fw} (e:H a=↑(.frz o (.lst xs))):dF K H (.ref a) (.type "list")
 |tup {a:Addr} {xs:fw} (e:H a=↑(.tup xs)):dF K H (.ref a) (.type "tuple")
 |dK {a:Addr} {kvs:List (eR×V)} (e:H a=↑(.dK kvs)):dF K H (.ref a) (.type "dict")
 |dT {a:Addr} {kvs:List (List eR×V)} (e:H a=↑(.dT kvs)):dF K H (.ref a) (.type "dict")
 |ins {a C dx:Addr} {fs:List (Str×V)} (e:H a=↑(.ins C dx fs)) (cl:fQ K C) (ha:PySem.W.findIn K (.ref C) "__class__" = ↑↑(.builtin "object.__class__"))
    (hn:PySem.W.specialIn K (.builtin "object.__class__") "__get__" = ↑↑(.builtin "getset_descriptor.__get__")) (htk:PySem.W.takesIn K (.builtin "object.__class__")=↑true)
    (hm:PySem.W.mroIn K C (.type "object")=↑true):dF K H (.ref a) (.ref C)
variable{x:Str}
def BY{x:V}{t:Value}(I:Inv X pins σ H s)(D:RelV x u)(S:dF X.K H x t)(e:PySem.W.kitOne X.K t c=↑b)(h:∀tk,Q (.bool b) { s with toks:=tk }) :
  wpAny (model X.prog X.w) A (call (.builtin "isinstance") [u,c]) Q E s:=by
 cases S with
 |non=>cases (show u=Value.none from D);exact fj PySem.W.kitx_none I.kIn True.intro e (λz=>nomatch z) h
 |bl y=>cases (show u=Value.bool y from D);exact fj PySem.W.kitx_bool I.kIn True.intro e (λz=>nomatch z) h
 |int i=>obtain⟨t,q⟩:=(show ∃t,u=Value.int i t from D);cases q;exact fj PySem.W.kitx_int I.kIn True.intro e (λz=>nomatch z) h
 |str y=>obtain⟨t,q⟩:=(show ∃t,u=Value.str y t from D);cases q;exact fj PySem.W.kitx_str I.kIn True.intro e (λz=>nomatch z) h
 |flt y=>obtain⟨t,q⟩:=(show ∃t,u=Value.float y t from D);cases q;exact fj PySem.W.kitx_float I.kIn True.intro e (λz=>nomatch z) h
 | @lst a xs ea =>
   cases (show u=Value.ref a from D);obtain⟨_,_,n,_,h1⟩:=(show bG X.prog X.w H s.heap a (.lst xs) from I.hok a _ ea);exact fj pi I.kIn ⟨_,h1,rfl⟩ e (λz=>nomatch z) h
 | @frz a ob xs ea =>
   cases (show u=Value.ref a from D);obtain⟨_,_,_,n,_,h1⟩:=(show bG X.prog X.w H s.heap a (.frz ob (.lst xs)) from I.hok a _ ea);exact fj pi I.kIn ⟨_,h1,rfl⟩ e (λz=>nomatch z) h
 | @tup a xs ea =>
   cases (show u=Value.ref a from D);obtain⟨_,_,_,p⟩:=(show bG X.prog X.w H s.heap a (.tup xs) from I.hok a _ ea);obtain⟨o,h1,h2,_⟩:=p;exact fj PySem.W.kitx_tuple I.kIn ⟨o,h1,h2⟩ e (λz=>nomatch z) h
 | @dK a kvs ea =>
   cases (show u=Value.ref a from D);obtain⟨_,_,vs,_,p⟩:=(show bG X.prog X.w H s.heap a (.dK kvs) from I.hok a _ ea);obtain⟨o,es,U,h1,h2,_⟩:=p;exact fj PySem.W.kitx_dict I.kIn ⟨o,h1,h2.1⟩ e (λz=>nomatch z) h
 | @dT a kvs ea =>
   cases (show u=Value.ref a from D);obtain⟨_,_,xs,_,o,es,U,h1,h2,_⟩:=(show bG X.prog X.w H s.heap a (.dT kvs) from I.hok a _ ea);exact fj PySem.W.kitx_dict I.kIn ⟨o,h1,h2.1⟩ e (λz=>nomatch z) h
 | @ins a C dx fs ea cl ha hn htk hm =>
   cases (show u=Value.ref a from D);obtain⟨mA,O,_⟩:=kM I.hok ea;obtain⟨od,J,_⟩:=O.look;exact fj (PySem.W.kitx_own (cl.get _) cl.hd ha hn htk hm) I.kIn J e (λz=>nomatch z) h
structure aV (k:Nat) (A:Around):Prop where
 hd:A.handled=none
 dp:A.depth+3*k+5<recursionLimit
 un:A.units+16*k+200<cLine
def aV.mono{j:Nat}(r:aV k A)(h:j<=k):aV j A:=⟨r.hd,by have:=r.dp;omega,by have:=r.un;omega⟩
def aV.deeper(r:aV (k+1) A)(env:Env):aV k (A.deeper env) :=
 ⟨r.hd,by have:=r.dp;show A.depth+1+3*k+5<_;omega,by have:=r.un;show A.units+3+16*k+200<_;omega⟩
def BZ:(A.under (.builtin "type.__call__" ⟨.ref C::us,kw⟩)).depth=A.depth+1:=by
 first |rfl |simp[Around.under,Code.weight,Code.isCreation,Code.isGuard,Code.isCaller,Code.frames,Code.isFrame,guardIds]
def B_:(A.under (.builtin "type.__call__" ⟨.ref C::us,kw⟩)).units=A.units+1:=by
 first |rfl |simp[Around.under,Code.cUnits,Code.frames,Code.isFrame]
def aV.make(r:aV (k+1) A)(C:Addr)(us:ee)(kw:List (Str×Value)):aV k (A.under (.builtin "type.__call__" ⟨.ref C::us,kw⟩)) :=
 ⟨r.hd,by have:=r.dp;rw[BZ];omega,by have:=r.un;rw[B_];omega⟩
def aV.depth(r:aV k A):A.depth<recursionLimit:=by have:=r.dp;omega
def gT:TA:=λ_ H Q=>Q [] H
def oP(ta:TE)(D:TA):TA:=λσ H Q=>ta σ H λx H1=>D σ H1 λxs H2=>Q (x::xs) H2
def qi:PA X [] gT:=λ_ _ _ _ H Q I h=>Calls.spliced_nil ⟨[],H,I,.nil,h⟩
def o9(D:PE X e te)(S:PA X es t)(U:‹starEach (e::es) X.env=(false,eval e X.env)::starEach es X.env›):PA X (e::es) (oP te t):=by
 intro pos pins s σ H Q I h;rw[U];show wpAny _ _ (spliced ((false,eval e X.env)::backTo pos (starEach es X.env))) _ _ s;refine Calls.spliced_cons (aU (D pins s σ H _ I h) λu V Y=>?_);obtain⟨x,H1,Z,a,b⟩:=Y;exact aU (S pos pins V σ H1 _ Z b) λus s2 ⟨xs,H2,I2,r2,q2⟩=>⟨x::xs,H2,I2,.cons a r2,q2⟩
def oQ(t:TA):TE:=λσ H Q=>t σ H λxs H1=>xs.length<=sizeLine/\∀p,H1 p=none->Q (.ref p) (aO H1 p (.tup xs))
def oR(t:TA):TE:=λσ H Q=>t σ H λxs H1=>xs.length<=sizeLine/\∀p,H1 p=none->Q (.ref p) (aO H1 p (.lst xs))
def Ca{x1}(h:PA X es t):PE X (.Tuple es x1 pos) (oQ t):=by
 intro pins s σ H Q I U;refine wpAny_Tuple_spliced (aU (h pos pins s σ H _ I U) λus D V=>?_);obtain⟨xs,H1,S,r,z,q⟩:=V;refine⟨by rw[<-r.length];exact z,?_⟩;have Y:H1 D.heap.objs.size=none:=S.hok.fresh (bj _);refine⟨.ref D.heap.objs.size,aO H1 D.heap.objs.size (.tup xs),S.laid (t':=D.toks) (λb u e=>bc _ e) (bj _) ?_,rfl,q _ Y⟩;exact⟨z,us,r,⟨_,cg _ rfl,rfl,_,rfl⟩⟩
def Cb(h:PA X es t):PE X (.List es pos) (oR t):=by
 intro pins s σ H Q I U;refine wpAny_List_spliced (aU (h pos pins s σ H _ I U) λus D V=>?_);obtain⟨xs,H1,S,r,z,q⟩:=V;refine⟨by rw[<-r.length];exact z,?_⟩;have Y:H1 D.heap.objs.size=none:=S.hok.fresh (bj _);refine⟨.ref D.heap.objs.size,aO H1 D.heap.objs.size (.lst xs),S.laid (t':=D.toks) (λb u e=>bc _ e) (bj _) ?_,rfl,q _ Y⟩;exact⟨z,us,0,r,cg _ rfl⟩
abbrev Sp:=fw->Hp->VK->XK->Prop
abbrev fE:=er->Hp->Shared->XK->Value->Shared->Prop
structure fF (P:Program) (w:World) (K:fc) (mg:Str->ei) (base:Heap) (A:Around) (outer:er) (s:Shared) (H:Hp):Prop where
 frames:A.frames=↑outer
 mod:Mod K mg base
 bs:∀b o,base.get? b=↑o->s.heap.get? b=↑o/\H b=none
 bsz:base.objs.size<=s.heap.objs.size
 funs:s.heap.FunFrames base outer
 frf:∀b∈dJ outer,H b=none
 hok:dL P w H s.heap
 bare:AllBare s.gens
def CE(outer:er)(P:Program)(w:World)(H:Hp)(s:Shared)(Q:VK)(u:Value)(s':Shared):Prop :=
 ∃v H',s'.os=s.os/\AllBare s'.gens/\Un (dJ outer) [] H H' s.heap s'.heap/\dL P w H' s'.heap/\RelV v u/\Q v H'
def CR(CX:fE)(outer:er)(P:Program)(w:World)(H:Hp)(s:Shared)(Q:VK)(E:XK)(r:Result)(s':Shared):Prop :=
 match r with
 | .ok (.ret u)=>CE outer P w H s Q u s' | .ok _=>False | .error e=>CX outer H s E e s'
structure bK (P:Program) (w:World) (K:fc) (mg:Str->ei) (base:Heap) (CX:fE) (k:Nat) (f:Addr) (fd:FuncData) (ps:ed) (sp:Sp):Prop where
 len:∀vs H Q E,sp vs H Q E->vs.length=ps.length
 run:∀(A:Around) (outer:er) (s:Shared) (H:Hp) (args:Args) (us:ee) (vs:fw) (Q:VK) (E:XK),aV k A->fF P w K mg base A outer s H->BindsTo s fd args (ps.zip us)->aG vs us->sp vs H Q E ->
  codeAny (model P w) A (.call (.ref f) args) (CR CX outer P w H s Q E) s
variable{f:Addr}{mg:Str->ei}{base:Heap}{CX:fE}{fd:FuncData}{ps:ed}{sp:Sp}
theorem bK.imp{D:Sp}(F:bK P w K mg base CX k f fd ps sp)(h:∀vs H Q E,D vs H Q E->sp vs H Q E):bK P w K mg base CX k f fd ps D :=
 ⟨λvs H Q E q=>F.len vs H Q E (h _ _ _ _ q),λA outer s H args us vs Q E I S U V Y=>F.run A outer s H args us vs Q E I S U V (h _ _ _ _ Y)⟩
variable{outer:er}
def fF.make(e:fF P w K mg base A outer s H)(C:Addr)(us:ee)(kw:List (Str×Value)) :
  fF P w K mg base (A.under (.builtin "type.__call__" ⟨.ref C::us,kw⟩)) outer s H:=⟨by first |exact e.frames | (simpa[Around.under,Code.envs,Code.isFrame,pushEnvs] using e.frames),e.mod,e.bs,e.bsz,e.funs,e.frf,e.hok,e.bare⟩
protected def Inv.env0(I:Inv X pins σ H s):fF X.prog X.w X.K X.mg X.base X.A X.stack s H :=
 ⟨I.ok.frames,I.ok.mod,I.bs,b6 I.ok.bsz I.sz,I.stack,I.stkFree,I.hok,I.bare⟩
variable{Q:VK}
def Inv.after(I:Inv X pins σ H s)(h:CE X.stack X.prog X.w H s Q u s'):EP X pins σ Q u s':=by
 obtain⟨v,H',os,D,un,S,r,q⟩:=h;obtain⟨V,g,d,t,U⟩:=s';obtain rfl:U=s.os:=os;exact⟨v,H',I.call (h':=V) (g':=g) (d':=d) (t':=t) (ch:=[]) un S D (λb z=>absurd z ⋯),r,q⟩
def kN(sp:Sp)(dvs:fw)(E:XK)(t:TA):TE:=λσ H Q=>t σ H λvs H1=>sp (vs++dvs) H1 Q E
def Binds(K:fc)(fd:FuncData)(ps:ed)(ds:ee):Prop :=
 ∀(s:Shared) (us:ee),K.In s.heap->(us++ds).length=ps.length->BindsTo s fd ⟨us,[]⟩ (ps.zip (us++ds))
def Binds.all(h:∀us:ee,us.length=ps.length->bindArgs fd ⟨us,[]⟩=pure (ps.zip us)):Binds K fd ps []:=λs us _ D=>by
 rw[di] at D ⊢;exact .of_eq (h us D)
def oS(CX:fE)(X:Cx)(E:XK):Prop:=∀(pins:fh) (σ:St) (H:Hp) (s:Shared) (e:Value) (s':Shared),Inv X pins σ H s->CX X.stack H s E e s'->X.xe e s'
variable{E:XK}{dvs:fw}{ds:ee}
theorem Cc(F:bK X.prog X.w X.K X.mg X.base CX k f fd ps sp)(U:aV k X.A)(V:Binds X.K fd ps ds)(hd:aG dvs ds)(Y:oS CX X E)(I:Inv X pins σ H s)(r:aG vs us)(h:sp (vs++dvs) H Q E):wpAny (model X.prog X.w) X.A (call (.ref f) us) (EP X pins σ Q) X.xe s:=by
 have S:aG (vs++dvs) (us++ds):=r.append hd;have Z:(us++ds).length=ps.length:=by rw[<-S.length];exact F.len _ _ _ _ h
 refine wpAny_call (j3 (F.run X.A X.stack s H ⟨us,[]⟩ (us++ds) (vs++dvs) Q E U I.env0 (V s us I.kIn Z) S h) λr s' D=>?_);cases r with
 |error e=>exact Y pins σ H s e s' I D |ok fl =>
   cases fl with
   |ret u=>exact I.after D |next=>exact False.elim D |brk=>exact False.elim D |cont=>exact False.elim D
def oU(F:bK X.prog X.w X.K X.mg X.base CX k f fd ps sp)(V:aV k X.A)(Y:Gl X x)(Z:X.mg x=↑(.ref f))(a:PySem.W.keepIn X.K (.ref f)=true)(b:Binds X.K fd ps ds)(hd:aG dvs ds)(c:oS CX X E)(d:PA X (e::es) t)(D:(x==("__debug__" : Str))=false:=by decide)(g:‹starEach (e::es) X.env=(false,eval e X.env)::starEach es X.env›)(S:‹(backTo pos (starEach es X.env)).any (·.1)=false›) :
  PE X (.Call (.Name x p) (e::es) [] pos) (kN sp dvs E t):=by
 intro pins s σ H Q I h;refine ja (y7 I Y Z ?_ D);refine kj (h₀:=X.base) I.ok.mod.kin a (aU (d pos pins s σ H _ I h) λus j i=>?_) g S;obtain⟨vs,H1,U,r,q⟩:=i;refine⟨U.kIn,?_⟩;exact Cc F V b hd c U r q
structure Mk (K:fc) (C f:Addr):Prop where
 makes:PySem.W.makesIn K C=true
 init:PySem.W.findIn K (.ref C) "__init__" = ↑↑(.ref f)
 fn:PySem.W.isFn K (.ref f)=true
 kp:PySem.W.keepIn K (.ref C)=true
def PK(X:Cx)(kws:List Keyword)(t:TA):Prop :=
 ∀(pos:Pos) (pins:fh) (s:Shared) (σ:St) (H:Hp) (Q:fw->Hp->Prop),Inv X pins σ H s->t σ H Q->wpAny (model X.prog X.w) X.A (evalAll ((backToKw pos (keywordEach kws X.env)).map (·.2))) (AP X pins σ Q) X.xe s
section
variable {X:Cx} {CX:fE} {k:Nat} {f C:Addr} {fd:FuncData} {ps ks:ed} {sp:Sp} {E:XK} {x m:Str} {p pos apos kpos:Pos} {e o:Expr} {es:et} {kws:List Keyword} {te ta:TE} {t tk:TA} {nm:ew}
def Cd:PK X [] gT:=λ_ _ _ _ H Q I h=>wpAny_evalAll_nil ⟨[],H,I,.nil,h⟩
def Ce(D:PE X e te)(S:PK X kws t):PK X (⟨nm,e,kpos⟩::kws) (oP te t):=by
 intro pos pins s σ H Q I h;show wpAny _ _ (evalAll ((do let v <-eval e X.env;standAt pos;pure v)::(backToKw pos (keywordEach kws X.env)).map (·.2))) _ _ s;refine wpAny_evalAll_cons (cr (aU (D pins s σ H _ I h) λu U V=>?_));obtain⟨x,H1,Y,Z,a⟩:=V;refine cr (rq (ft ?_));exact aU (S pos pins U σ H1 _ Y a) λus s2 ⟨xs,H2,I2,r2,q2⟩=>⟨x::xs,H2,I2,.cons Z r2,q2⟩
structure Iq (K:fc) (fd:FuncData) (ps ks:ed) (g:ee->ee->ee) (gV:fw->fw->fw):Prop where
 to:∀(s:Shared) (us ws:ee),K.In s.heap->(g us ws).length=ps.length->BindsTo s fd ⟨us,ks.zip ws⟩ (ps.zip (g us ws))
 rel:∀ {vs:fw} {us:ee} {zs:fw} {ws:ee},aG vs us->aG zs ws->aG (gV vs zs) (g us ws)
variable {g:ee->ee->ee} {gV:fw->fw->fw}
end
structure ug (N P:ed) (sc:Scope):Prop where
 kind:sc.kind=.function
 co:sc.isCoroutine=false
 gen:sc.isGenerator=false
 nd:N.Nodup
 pre:N.take P.length=P
 par:∀x∈P,sc.names.lookup x=some .local\/sc.names.lookup x=some .cell
 nofree:∀y∈sc.names,y.2≠.free
def vE{kindOf:Str->Option NameKind}{x:Str}:∀ {D:List (Str×Value)} {m:Str->ei},(∀v,(x,v)∉D)->bindL kindOf D m x=m x
 | [],_,_=>rfl | (n,v)::r,m,h=>by
   unfold bindL;rw[vE λw I=>h w (av _ I)];split
   ·have:x≠n:=by rintro rfl;exact h v bh
    simp[this]
   ·rfl
def vF{kindOf:Str->Option NameKind}{x:Str}:∀ {D:List (Str×Value)} {m:Str->ei},(∀v,(x,v)∉D)->bindC kindOf D m x=m x
 | [],_,_=>rfl | (n,v)::r,m,h=>by
   unfold bindC;rw[vF λw I=>h w (av _ I)];split
   ·rfl
   ·have:x≠n:=by rintro rfl;exact h v bh
    simp[this]
def vG{kindOf:Str->Option NameKind}{x:Str}{v:Value}:∀ {P:ed} {vs:ee} {i:Nat} {m:Str->ei},P.Nodup->P[i]?=↑x->vs[i]?=↑v->kindOf x=some .local ->
  bindL kindOf (P.zip vs) m x=↑v
 | [],_,_,_,_,h,_,_=>by simp at h |_::_,[],_,_,_,_,h,_=>by simp at h |p::P,w::vs,0,m,nd,h1,h2,hk=>by
   simp at h1 h2;subst h1;subst h2;show bindL kindOf ((p,w)::P.zip vs) m p=_;unfold bindL;rw[vE λv D=>(df.mp nd).1 (mh D).1,az hk];simp
 |p::P,w::vs,i+1,m,nd,h1,h2,hk=>by
   show bindL kindOf ((p,w)::P.zip vs) m x=_;unfold bindL;exact vG (i:=i) (df.mp nd).2 (by simpa using h1) (by simpa using h2) hk
def vH{kindOf:Str->Option NameKind}{x:Str}{v:Value}:∀ {P:ed} {vs:ee} {i:Nat} {m:Str->ei},P.Nodup->P[i]?=↑x->vs[i]?=↑v->kindOf x≠some .local ->
  bindC kindOf (P.zip vs) m x=↑v
 | [],_,_,_,_,h,_,_=>by simp at h |_::_,[],_,_,_,_,h,_=>by simp at h |p::P,w::vs,0,m,nd,h1,h2,hk=>by
   simp at h1 h2;subst h1;subst h2;show bindC kindOf ((p,w)::P.zip vs) m p=_;unfold bindC;rw[vF λv D=>(df.mp nd).1 (mh D).1,bu hk];simp
 |p::P,w::vs,i+1,m,nd,h1,h2,hk=>by
   show bindC kindOf ((p,w)::P.zip vs) m x=_;unfold bindC;exact vH (i:=i) (df.mp nd).2 (by simpa using h1) (by simpa using h2) hk
def start(N:ed)(vs:fw):St:=vs.map some++List.replicate (N.length-vs.length) none
def bC(CX:fE)(P:Program)(w:World)(K:fc)(mg:Str->ei)(base:Heap)(N:ed)(qual:Str)(scope:Scope)(f:Addr)(I:Value)(A:Around)(outer:er)(s:Shared)(H:Hp)(E:XK):Cx where
 prog:=P
 w:=w
 K:=K
 mg:=mg
 base:=base
 A:=A.deeper (envOfC qual scope s.heap.objs.size f I)
 N:=N
 s₀:=s
 H₀:=H
 env:=envOfC qual scope s.heap.objs.size f I
 outer:=outer
 stack:=envOfC qual scope s.heap.objs.size f I::outer
 ex:=[]
 calm:=true
 fn:=λ_=>true
 pn:=[]
 xe:=λe s'=>wpAny (model P w) (A.deeper (envOfC qual scope s.heap.objs.size f I)) (leaving (envOfC qual scope s.heap.objs.size f I) e) (λ_ D=>CX outer H s E e D) (λe' D=>CX outer H s E e' D) s'
def vI{sc:Scope}(h:sc.names.lookup x=some .cell):∃c,(cellsFrom n sc.names []).lookup x=↑c:=by
 have q:=PySem.W.cellsFrom_some sc.names n [] (.inl h);exact ya.mp q
variable{qual:Str}{scope:Scope}
def Cf{Y:Value}{Z:Shared}(S:ug N ps scope)(hd:A.handled=none)(D:fF P w K mg base A outer s H)(o:vs.length=ps.length)(r:aG vs us)(x:InCallC s s.heap.objs.size (bindL (envOfC qual scope s.heap.objs.size f Y).kindOf (ps.zip us) λ_=>none) (cellsFrom (s.heap.objs.size+1) scope.names []) (bindC (envOfC qual scope s.heap.objs.size f Y).kindOf (ps.zip us) λ_=>none) Z) :
  Inv (bC CX P w K mg base N qual scope f Y A outer s H E) [] (start N vs) H Z:=by
 have j:ps.length<=N.length:=by have:=congrArg List.length S.pre;rw[dy] at this;omega
 obtain⟨h1,tk,rfl,d⟩:=x.done;have I:∀b:Addr,b∉(bC CX P w K mg base N qual scope f Y A outer s H E).ex:=λb z=>absurd (show b∈([]:el) from z) ⋯;refine⟨⟨D.mod,S.kind,rfl,rfl,bj _,λy z c h1 h2=>?_,λy hy=>?_,λy c _ h=>?_,λ_=>hd,Around.frames_deeper D.frames,.inr ⟨rfl,rfl⟩,λb z=>absurd z (I b),D.bs,D.bsz,λb _ _=>I b,λb z=>absurd z (I b),D.funs,D.frf⟩,
  rfl,D.bare,Un.kept d,⟨_,x.toInCall.ns,λi y v h1 h2 t=>?_⟩,λy c h=>⟨_,x.cell y c h⟩,D.hok.fresh (bj _),λy c h=>?_,λp U=>absurd (show p∈([]:fh) from U) ⋯,D.hok.kept d,?_⟩
 ·exact name_of_addr x.apart (fm h1) (fm h2)
 ·have hy:scope.names.lookup y=some .cell\/scope.names.lookup y=some .free:=hy
  rcases hy with hy |hy
  ·exact vI hy
  ·exact absurd rfl (S.nofree _ (fm hy))
 ·exact pw (x.above y c (fm h))
 ·have hi:i<vs.length:=by
   unfold start at h2;by_cases hi:i<vs.length
   ·exact hi
   ·rw[b9 (by simpa using hi)] at h2
    rw[zu] at h2;split at h2 <;> cases h2
  have l:vs[i]?=↑v:=by
   unfold start at h2;rw[a0 (by simpa using hi),bo] at h2;cases e:vs[i]? with
   |none=>rw[e] at h2;cases h2
   |some a=>rw[e] at h2;cases h2;rfl
  obtain⟨u,g,m⟩:=r.get l;have U:ps[i]?=↑y:=by
   rw[<-S.pre,yc (by omega)];exact h1
  have V:ps.Nodup:=by rw[<-S.pre];exact S.nd.sublist (List.take_sublist _ _)
  refine⟨u,m,?_⟩;rcases S.par y (bv U) with k |k
  ·exact .inl ⟨k,vG V U g k⟩
  ·obtain⟨c,e⟩:=vI (n:=s.heap.objs.size+1) k
   refine .inr ⟨.inl k,c,e,?_⟩;have q:=x.cell y c e;rw[vH V U g (by show scope.names.lookup y≠_;rw[k];decide)] at q;exact q
 ·exact D.hok.fresh (pw (x.above y c (fm h)))
 ·unfold start
  show _=N.length;rw[ai,ae,i5];omega
def Cg{D:Arguments}{p kV c z cdv ct oc:Value}{an od:Option Addr}{osl:Array ei}(F:K.lookup f=↑⟨oc,od,.func (PySem.W.fnOf name qual D body scope p kV c z an cdv ct),osl⟩)(i:PySem.W.codeIn K cdv qual=true)(S:ug N ps scope)(len:∀vs H Q E,sp vs H Q E->vs.length=ps.length)(Y:∀(A:Around) (outer:er) (s:Shared) (H:Hp) (vs:fw) (Q:VK) (E:XK),aV k (A.deeper (envOfC qual scope s.heap.objs.size f cdv))->sp vs H Q E ->
   ∃t,fA (bC CX P w K mg base N qual scope f cdv A outer s H E) body t/\t { nx:=λ_ H'=>Q .non H',rt:=Q } (start N vs) H) :
  bK P w K mg base CX (k+1) f (PySem.W.fnOf name qual D body scope p kV c z an cdv ct) ps sp:=by
 refine⟨len,λA outer s H args us vs Q E j d G r g=>?_⟩;have L:=len _ _ _ _ g;have B:K.In s.heap:=d.mod.kin.keeps λb o e=>(d.bs b o e).1;have l:s.heap.NoLimit:=d.mod.nolimit.keeps λb o e=>(d.bs b o e).1;have Z:∀y∈ps.zip us,scope.names.lookup y.1=some .local\/(scope.names.lookup y.1=some .cell/\((cellsFrom (s.heap.objs.size+1) scope.names []).lookup y.1).isSome=true):=λ⟨n,v⟩ hy=>by
  rcases S.par n (mh hy).1 with q |q
  ·exact .inl q
  ·exact .inr ⟨q,PySem.W.cellsFrom_some _ _ _ (.inl q)⟩
 refine codeAny_call_function j.depth (B _ _ F) rfl S.co S.gen rfl (PySem.W.codeRec_of B i) (G _ _ _ _ ?_);refine wpAny_newFunctionEnv_cells S.kind Z λenv M C x=>?_;subst M;refine⟨l.keeps x.toInCall.keep,codeAny_func ?_⟩;obtain⟨t,O,R⟩:=Y A outer s H vs Q E (j.deeper _) g;have I:Inv (bC CX P w K mg base N qual scope f cdv A outer s H E) [] (start N vs) H C:=Cf S j.hd d L r x;refine lv (O [] C (start N vs) H _ I R) (λfl s' a=>?_) λe s' a=>a;have h:∀ {U:St} {H':Hp} {v:V} {u:Value},Inv (bC CX P w K mg base N qual scope f cdv A outer s H E) [] U H' s'->RelV v u->Q v H'->CE outer P w H s Q u s' :=
  λ{U H' v u} J m q=>⟨v,H',J.os,J.bare,J.base,J.hok,m,q⟩
 cases fl with
 |ret u =>
   obtain⟨v,U,H',J,m,q⟩:=a;exact h J m q
 |next =>
   obtain⟨U,H',J,q⟩:=a;exact h (v:=V.non) (u:=Value.none) J rfl q
 |brk =>
   obtain⟨_,_,_,q⟩:=a;exact False.elim q
 |cont =>
   obtain⟨_,_,_,q⟩:=a;exact False.elim q
def kO(r:fw->Hp->VK->Prop)(t:TA):TE:=λσ H Q=>t σ H λvs H1=>r vs H1 Q
variable{r:fw->Hp->VK->Prop}{id:String}
def kP(U:p5 X (.builtin id) r)(V:Gl X x)(Y:X.mg x=none)(Z:bootBuiltins x=↑(.builtin id))(a:PA X (e::es) t)(b:x ≠ "__name__":=by decide)(D:(x==("__debug__" : Str))=false:=by decide)(c:‹starEach (e::es) X.env=(false,eval e X.env)::starEach es X.env›)(S:‹(backTo pos (starEach es X.env)).any (·.1)=false›):PE X (.Call (.Name x p) (e::es) [] pos) (kO r t):=by
 intro pins s σ H Q I h;refine ja (ud I V Y Z ?_ b D);exact PyProof.Rows.callWith_builtin1 (aU (a pos pins s σ H _ I h) λus s1 ⟨vs,H1,I1,r1,q1⟩=>U pins s1 σ H1 vs us Q I1 r1 q1) c S
variable{T:String}
def oV(U:p5 X (.type T) r)(V:Gl X x)(Y:X.mg x=none)(Z:bootBuiltins x=↑(.type T))(a:PA X (e::es) t)(b:x ≠ "__name__":=by decide)(D:(x==("__debug__" : Str))=false:=by decide)(c:‹starEach (e::es) X.env=(false,eval e X.env)::starEach es X.env›)(S:‹(backTo pos (starEach es X.env)).any (·.1)=false›):PE X (.Call (.Name x p) (e::es) [] pos) (kO r t):=by
 intro pins s σ H Q I h;refine ja (ud I V Y Z ?_ b D);exact f6 (aU (a pos pins s σ H _ I h) λus s1 ⟨vs,H1,I1,r1,q1⟩=>U pins s1 σ H1 vs us Q I1 r1 q1) c S
end L2
namespace HT
open PySem PyProof.Rows
section
open PySem.SeqAt
open PySem.AutoSeq1 (wpAny_loadPart')
open PySem.MeetsSeq PySem.MeetsSeq2 PySem.MeetsSeq3
end
def sIx(n d:Nat):ez->Nat
 |none=>d |some v=>if v<0 then(v+(n:Int)).toNat else min v.toNat n
def sIx_none(n d:Nat):sIx n d none=d:=rfl
def sIx_nat(n d k:Nat):sIx n d ↑(k:Int)=min k n:=by
 show(if (k:Int)<0 then((k:Int)+(n:Int)).toNat else min (k:Int).toNat n)=min k n;rw[bu (by omega),i8]
end HT
namespace L2
open PySem PySem.Spec PyProof.Rows
abbrev TO:=St->Hp->(ez->Hp->Prop)->Prop
def PO(X:Cx)(e:Option Expr)(t:TO):Prop :=
 ∀(pins:fh) (s:Shared) (σ:St) (H:Hp) (Q:ez->Hp->Prop),Inv X pins σ H s->t σ H Q ->
  wpAny (model X.prog X.w) X.A (evalPart e X.env) (λu s'=>∃o H',Inv X pins σ H' s'/\IsPart u o/\Q o H') X.xe s
def Ch:TO:=λ_ H Q=>Q none H
def Ci(t:TE):TO:=λσ H Q=>t σ H λx H1=>∃i,x=.int i/\Q ↑i H1
def oW{ns:ep}:∀ {us:ee},aG (ns.map V.int) us->IntsAre us ns:=by
 induction ns with
 |nil=>intro us r;rw[eh] at r;cases r;exact .nil
 |cons n ns ih =>
   intro us r;rw[bx] at r;cases r with
   |cons r1 r2 =>
     obtain⟨t,e⟩:=r1;subst e;exact .cons n t (ih r2)
variable{X:Cx}
def Cj:PO X none Ch:=by
 intro pins s σ H Q I h;rw[evalPart_none];exact ft ⟨none,H,I,.none,h⟩
variable{e:Expr}{te:TE}
def Ck(h:PE X e te):PO X ↑e (Ci te):=by
 intro pins s σ H Q I D;rw[evalPart_some];refine aU (h pins s σ H _ I D) λu Z S=>?_;obtain⟨x,H1,U,V,Y⟩:=S;obtain⟨i,rfl,q⟩:=Y;obtain⟨t,rfl⟩:=V;exact⟨↑i,H1,U,.int i t,q⟩
variable{lo hi:Option Expr}
def vJ(X:Cx)(r:V->ez->ez->Hp->VK->Prop):Prop :=
 ∀(pins:fh) (s:Shared) (σ:St) (H:Hp) (x:V) (v D I:Value) (lo hi:ez) (sl:Addr) (Q:VK),Inv X pins σ H s->RelV x v->s.heap.IsSliceOf sl D I .none->IsPart D lo->IsPart I hi->r x lo hi H Q ->
  ∃T id,typeLookup (.type T) "__getitem__" = pure ↑(.builtin id)/\s.TypeIs v T/\wpAny (model X.prog X.w) X.A (getItem v (.ref sl)) (EP X pins σ Q) X.xe s
def Co(r:V->ez->ez->Hp->VK->Prop)(te:TE)(tl th:TO):TE:=λσ H Q=>te σ H λx H1=>tl σ H1 λl H2=>th σ H2 λu D=>r x l u D Q
variable{r:R2}{tl th:TO}{pos p2:Pos}
def Cp{r:V->ez->ez->Hp->VK->Prop}(a:vJ X r)(c:PE X e te)(d:PO X lo tl)(f:PO X hi th):PE X (.Subscript e (.Slice lo hi none p2) pos) (Co r te tl th):=by
 intro pins s σ H Q I h;refine Subscript_ (aU (c pins s σ H _ I h) λv g S=>?_);obtain⟨x,H1,i,j,k⟩:=S;refine wpAny_Slice (aU (d pins g σ H1 _ i k) λU s2 S=>?_);obtain⟨l,H2,m,pl,n⟩:=S;refine aU (f pins s2 σ H2 _ m n) λY D S=>?_;obtain⟨u,Z,o,p,t⟩:=S;rw[evalPart_none];refine ft ?_;have y:Inv X pins σ Z { D with heap:=D.heap.push { cls:=.type "slice",data:=.fields #[U,Y,.none] } }:=o.kept (t':=D.toks) λb C q=>bc _ q;obtain⟨T,id,hT,z,B⟩:=a pins { D with heap:=D.heap.push { cls:=.type "slice",data:=.fields #[U,Y,.none] } } σ Z x v U Y l u D.heap.objs.size Q y j (Heap.IsSliceOf.new ..) pl p t;show wpAny (model X.prog X.w) X.A (subscriptTail e (.Slice lo hi none p2) v (.ref D.heap.objs.size)) (EP X pins σ Q) X.xe { D with heap:=D.heap.push { cls:=.type "slice",data:=.fields #[U,Y,.none] } };exact tail_any (ops:=[.ref D.heap.objs.size,v]) z hT B (by with_unfolding_all rfl)
def g7(xs:fw)(lo hi:ez):fw:=(xs.drop (HT.sIx xs.length 0 lo)).take (HT.sIx xs.length xs.length hi-HT.sIx xs.length 0 lo)
def Cq(xs:fw)(lo hi:ez):(g7 xs lo hi).length<=xs.length:=by
 unfold g7;rw[dy,gq];omega
def cU(n:Nat)(i:Int):Option Nat:=if 0<=i then(if i<n then ↑i.toNat else none) else if -(n:Int)<=i then ↑(i+n).toNat else none
variable{α:Type}
def aW(xs:List α)(i:Int):Option α:=(cU xs.length i).bind λj=>xs[j]?
variable{n:Nat}{i:Int}
def oX{j:Nat}(h:cU n i=↑j):seqIndex? i n=↑j/\j<n/\-(n:Int)<=i/\i<n:=by
 unfold cU at h;by_cases D:0<=i
 ·rw[az D] at h
  by_cases h1:i<n
  ·rw[az h1] at h
   have e:i.toNat=j:=bn h;exact⟨by rw[seqIndex_of D h1,e],by omega,by omega,h1⟩
  ·rw[bu h1] at h;cases h
 ·rw[bu D] at h
  by_cases h1:-(n:Int)<=i
  ·rw[az h1] at h
   have e:(i+n).toNat=j:=bn h;exact⟨by rw[seqIndex_neg (by omega) h1,e],by omega,h1,by omega⟩
  ·rw[bu h1] at h;cases h
def oY{xs:List α}{v:α}(h:aW xs i=↑v):∃j,seqIndex? i xs.length=↑j/\xs[j]?=↑v/\j<xs.length/\-(xs.length:Int)<=i/\i<xs.length:=by
 unfold aW at h;cases e:cU xs.length i with
 |none=>rw[e] at h;cases h
 |some j =>
   rw[e] at h;obtain⟨h1,h2,D,I⟩:=oX e;exact⟨j,h1,h,h2,D,I⟩
def Cr(xs:List α)(v:α):aW (xs++[v]) (-1)=↑v:=by
 have D:(xs++[v]).length=xs.length+1:=by simp
 have e:cU (xs++[v]).length (-1)=↑xs.length:=by
  unfold cU;rw[D,bu (by decide),az (by omega)];congr 1;omega
 unfold aW;rw[e];show(xs++[v])[xs.length]?=↑v;simp
def xi(b:Expr):Prop:=∀o i,subscripted b false o i=operate [o,i] (getItem o i)
def gO(X:Cx)(r:R2):Prop :=
 ∀(value D:Expr) (pins:fh) (s:Shared) (σ:St) (H:Hp) (x y:V) (v u:Value) (Q:VK),Inv X pins σ H s->RelV x v->RelV y u->r x y H Q ->
  subscripted D false v u=operate [v,u] (getItem v u)->wpAny (model X.prog X.w) X.A (subscriptTail value D v u) (EP X pins σ Q) X.xe s
def vK(X:Cx)(id:String)(r:V->fw->Hp->VK->Prop):Prop :=
 ∀(pins:fh) (s:Shared) (σ:St) (H:Hp) (x:V) (xs:fw) (v:Value) (us:ee) (Q:VK),Inv X pins σ H s->RelV x v->aG xs us->r x xs H Q ->
  wpAny (model X.prog X.w) X.A (call (.builtin id) (v::us)) (EP X pins σ Q) X.xe s
def gO.or{S:R2}(h:gO X r)(h':gO X S):gO X (λx y H Q=>r x y H Q\/S x y H Q):=by
 intro value D pins s σ H x y v u Q I U V q Y;rcases q with q |q
 ·exact h value D pins s σ H x y v u Q I U V q Y
 ·exact h' value D pins s σ H x y v u Q I U V q Y
variable{a b:Expr}{ta tb:TE}
def kQ(D:gO X r)(S:PE X a ta)(U:PE X b tb)(V:xi b):PE X (.Subscript a b pos) (jJ r ta tb):=by
 intro pins s σ H Q I h;exact Subscript_ (iB S U I h λv u s2 x y H2 Y Z c q=>D a b pins s2 σ H2 x y v u Q Y Z c q (V _ _))
def jN(K:fc):R2:=λx y H Q=>∃p xs i v,x=.ref p/\y=.int i/\cN K H p xs/\aW xs i=↑v/\Q v H
def jO(K:fc):R2:=λx y H Q=>∃p xs i v,x=.ref p/\y=.int i/\dW K H p xs/\aW xs i=↑v/\Q v H
def jP:R2:=λx y H Q=>∃z i c,x=.str z/\y=.int i/\z.length<=sizeLine/\aW z.cps.toList i=↑c/\Q (.str ⟨#[c]⟩) H
def vL:gO X (jN X.K):=by
 intro value S pins s σ H x y v u Q I b c h Y;obtain⟨p,xs,i,z,rfl,rfl,d,e,q⟩:=h;cases b;obtain⟨t,rfl⟩:=c;obtain⟨its,r,pl,l⟩:=I.list d;obtain⟨j,h1,h2,m,f,g⟩:=oY e;obtain⟨w,Z,U⟩:=r.get h2;have k:=r.length;have n:=wy;have D:EP X pins σ Q w s:=⟨z,H,I,U,q⟩;by_cases a:0<=i
 ·have V:i.toNat=j:=by
   rw[seqIndex_of a g] at h1;exact bn h1
  exact item_listR pl.isList a (by omega) (by rw[V];simpa using Z) D Y
 ·have V:(i+(its.toArray.size:Int)).toNat=j:=by
   rw[seqIndex_neg (by omega) f] at h1;rw[bi,<-k];exact bn h1
  exact subscriptTail_builtinR (x:=w) pl.isList.typeIs slot_list_getitem.lookup
   (wpAny_getItem_list_neg (Q:=λr s'=>r=w/\EP X pins σ Q r s') pl.isList (by omega) (by rw[bi] <;> omega) (by omega) (by rw[V];simpa using Z) ⟨rfl,D⟩) Y
def Cs:gO X (jO X.K):=by
 intro value D pins s σ H x y v u Q I V Y h Z;obtain⟨p,xs,i,z,rfl,rfl,a,b,q⟩:=h;cases V;obtain⟨t,rfl⟩:=Y;obtain⟨its,r,pl,e⟩:=I.tuple a;obtain⟨j,h1,h2,f,g,k⟩:=oY b;obtain⟨w,c,S⟩:=r.get h2;have d:=r.length;have l:=wy;have U:EP X pins σ Q w s:=⟨z,H,I,S,q⟩;exact subscriptTail_builtinR (x:=w) pl.typeIs slot_tuple_getitem.lookup
  (getItem_tuple (j:=j) (Q:=λr s'=>r=w/\EP X pins σ Q r s') pl (by omega) (by omega) (by rw[bi,<-d];exact h1) (by simpa using c) ⟨rfl,U⟩) Z
def Ct:gO X jP:=by
 intro value D pins s σ H x y v u Q I S U h V;obtain⟨z,i,c,rfl,rfl,f,Y,q⟩:=h;obtain⟨t,rfl⟩:=S;obtain⟨t',rfl⟩:=U;obtain⟨j,h1,h2,g,Z,a⟩:=oY Y;have b:z.cps.toList.length=z.length:=by simp[Str.length]
 rw[b] at h1 Z a;have k:=wy;exact tail_any (typeIs_str s z t) slot_str_getitem.lookup (getItem_str (c:=c) (by
  have d:decide (i < -(2 ^ 63:Int))=false:=cu (by omega);have e:decide (i >= 2 ^ 63)=false:=cu (by omega);rw[d,e,Bool.or_false]) (by rw[h1];simpa using h2) ⟨.str ⟨#[c]⟩,H,I.tok _,⟨_,rfl⟩,q⟩) V
def vM(K:fc):R2:=λx y H Q=>jN K x y H Q\/jO K x y H Q\/jP x y H Q
def oZ:gO X (vM X.K):=vL.or (Cs.or Ct)
def Cu(its:ee)(n j:Nat)(u:Value):Obj.mapSeq (·.setIfInBounds j u) { cls:=.type "list",data:=.seq its.toArray n }={ cls:=.type "list",data:=.seq (its.set j u).toArray n }:=by
 simp[Obj.mapSeq]
def Inv.lst{pins:fh}{σ:St}{H:Hp}{s:Shared}{p:Addr}{xs:fw}(I:Inv X pins σ H s)(h:H p=↑(.lst xs)) :
  ∃(its:ee) (n:Nat),aG xs its/\s.heap.get? p=some { cls:=.type "list",data:=.seq its.toArray n }/\xs.length<=sizeLine:=by
 obtain⟨z,its,n,r,e⟩:=I.hok p _ h;exact⟨its,n,r,e,z⟩
variable{pins:fh}{σ:St}{H:Hp}{s:Shared}{xs ys:fw}{its its':ee}
def Inv.lstUpd{p:Addr}{D:Nat}{f:Obj->Obj}(I:Inv X pins σ H s)(h:H p=↑(.lst xs))(U:s.heap.get? p=some { cls:=.type "list",data:=.seq its.toArray n })(S:f { cls:=.type "list",data:=.seq its.toArray n }={ cls:=.type "list",data:=.seq its'.toArray D })(r:aG ys its')(V:ys.length<=sizeLine)(t:Nat) :
  Inv X pins σ (aO H p (.lst ys)) { s with heap:=s.heap.update p f,toks:=t }:=by
 have e:(s.heap.update p f).get? p=some { cls:=.type "list",data:=.seq its'.toArray D }:=by
  rw[ic f U (by rw[S] <;> rfl),S]
 refine I.write (x:=p) (e:=p) (by rw[h];trivial) (.inl rfl) (λb u Y q=>(de _ _ (Ne.symm Y)).trans q) ⟨_,e⟩ ?_;exact⟨V,its',D,r,e⟩
def vN:V->V->V->Hp->(Hp->Prop)->Prop:=λo i v H Q=>∃p xs k j,o=.ref p/\i=.int k/\H p=↑(.lst xs)/\cU xs.length k=↑j/\Q (aO H p (.lst (xs.set j v)))
def o_:iA X vN:=by
 intro pins s σ H o i v g l u Q I ro c d h;obtain⟨p,xs,k,j,rfl,rfl,V,e,q⟩:=h;cases ro;obtain⟨t,rfl⟩:=c;obtain⟨its,n,r,D,f⟩:=I.lst V;obtain⟨h1,h2,Y,Z⟩:=oX e;have S:=r.length;have m:=wy;have a:Inv X pins σ (aO H p (.lst (xs.set j v))) { s with heap:=s.heap.update p (Obj.mapSeq (·.setIfInBounds j u)) } :=
  I.lstUpd V D (Cu its n j u) (r.set d j) (by rw[e7];exact f) s.toks
 by_cases b:0<=k
 ·have U:k.toNat=j:=by
   rw[seqIndex_of b Z] at h1;exact bn h1
  exact PySem.W.ki_setAt D b (by omega) (by rw[bi,<-S];exact Z) (by rw[U];exact⟨_,a,q⟩)
 ·have U:(k+(its.toArray.size:Int)).toNat=j:=by
   rw[seqIndex_neg (by omega) Y] at h1;rw[bi,<-S];exact bn h1
  exact PySem.W.ki_setBack D (by omega) (by rw[bi,<-S];exact Y) (by omega) (by rw[U];exact⟨_,a,q⟩)
def Cv(lo hi:ez)(n:Nat):(sliceBounds lo hi none n).1=((HT.sIx n 0 lo:Nat):Int)/\(sliceBounds lo hi none n).2.1=((HT.sIx n n hi:Nat):Int)/\(sliceBounds lo hi none n).2.2=1:=by
 refine⟨?_,?_,rfl⟩
 ·cases lo with
  |none=>simp[sliceBounds,HT.sIx] |some i =>
    simp only[sliceBounds,HT.sIx,Option.getD_none,show(1:Int) > 0 by decide,d8];by_cases h:i<0
    ·simp only[h,d8] <;> omega
    ·simp only[h,gc] <;> omega
 ·cases hi with
  |none=>simp[sliceBounds,HT.sIx] |some i =>
    simp only[sliceBounds,HT.sIx,Option.getD_none,show(1:Int) > 0 by decide,d8];by_cases h:i<0
    ·simp only[h,d8] <;> omega
    ·simp only[h,gc] <;> omega
def Cw(its:ee)(lo hi:ez):slicePick its.toArray lo hi none=((its.drop (HT.sIx its.length 0 lo)).take (HT.sIx its.length its.length hi-HT.sIx its.length 0 lo)).toArray:=by
 obtain⟨h1,h2,D⟩:=Cv lo hi its.toArray.size;unfold slicePick;rw[h1,h2,D];simp only[sliceRange_one,pick_run,bi] <;> rfl
def pa(K:fc):V->ez->ez->Hp->VK->Prop:=λx lo hi H Q=>∃a xs,x=.ref a/\cN K H a xs/\∀p,H p=none->Q (.ref p) (aO H p (.lst (g7 xs lo hi)))
def Cy:vJ X (pa X.K):=by
 intro pins s σ H x v d e lo hi sl Q I U V pl Y h;obtain⟨a,xs,rfl,Z,q⟩:=h;cases U;obtain⟨its,r,S,c⟩:=I.list Z;have D:=r.length;refine⟨"list",_,slot_list_getitem.lookup,S.isList.typeIs,?_⟩;refine wpAny_getItem_list_slice S.isList V pl Y .none ⋯ ?_ (by rw[bi] <;> omega);rw[Cw,<-D];refine⟨.ref s.heap.objs.size,_,I.laid (t':=s.toks) (o:=.lst (g7 xs lo hi)) (λb f q=>bc _ q) (bj _) ?_,rfl,q _ (I.hok.fresh (bj _))⟩;exact⟨b6 (Cq xs lo hi) c,_,0,(r.drop (HT.sIx xs.length 0 lo)).take (HT.sIx xs.length xs.length hi-HT.sIx xs.length 0 lo),cg _ rfl⟩
def vO:p5 X (.builtin "len") (λxs H Q=>∃p ys,xs=[.ref p]/\(cN X.K H p ys\/dW X.K H p ys)/\Q ↥ys.length H):=by
 intro pins s σ H xs us Q I r h;obtain⟨p,ys,rfl,hq,q⟩:=h;obtain⟨u,rfl,U⟩:=vg r;cases U;have Y:=wy;rcases hq with hq |hq
 ·obtain⟨its,S,pl,V⟩:=I.list hq
  have D:=S.length;exact Calls.call_len_list pl.isList (by simp only[bi] <;> omega) ⟨.int ys.length,H,I.tok _,⟨s.toks+1,by rw[bi,D]⟩,q⟩
 ·obtain⟨its,S,pl,V⟩:=I.tuple hq
  have D:=S.length;exact len_tuple pl (by simp only[bi] <;> omega) ⟨.int ys.length,H,I.tok _,⟨s.toks+1,by rw[bi,D]⟩,q⟩
def Cz:p5 X (.type "list") (λxs H Q=>∃p ys,xs=[.ref p]/\(cN X.K H p ys\/dW X.K H p ys)/\∀l,H l=none->Q (.ref l) (aO H l (.lst ys))):=by
 intro pins s σ H xs us Q I r h;obtain⟨p,ys,rfl,hq,q⟩:=h;obtain⟨u,rfl,c⟩:=vg r;cases c;have U:∀(its:ee),aG ys its->ys.length<=sizeLine->∀(h':Heap) (D:Nat),(∀b o',s.heap.get? b=↑o'->h'.get? b=↑o') ->
   h'.get? s.heap.objs.size=some { cls:=.type "list",dict:=none,data:=.seq its.toArray D,slots:=#[] }->EP X pins σ Q (.ref s.heap.objs.size) { s with heap:=h' }:=λits S V h' D kp e =>
  ⟨.ref s.heap.objs.size,_,I.laid (t':=s.toks) kp (bj _) (show bG X.prog X.w _ h' _ (.lst ys) from⟨V,its,D,S,e⟩),rfl,q _ (I.hok.fresh (bj _))⟩
 rcases hq with hq |hq
 ·obtain⟨its,S,pl,V⟩:=I.list hq
  have Y:=S.length;obtain⟨o,Z,a,n,hd⟩:=pl.isList;exact call_list_seq p (.inl rfl) Z a hd (λh' D kp e=>U its S V h' D kp e) (by simp only[bi] <;> omega)
 ·obtain⟨its,S,pl,V⟩:=I.tuple hq
  have Y:=S.length;obtain⟨o,Z,a,n,hd⟩:=pl;exact call_list_seq p (.inr rfl) Z a hd (λh' D kp e=>U its S V h' D kp e) (by simp only[bi] <;> omega)
def pb(K:fc)(T:String)(x:V)(H:Hp):Prop:=match x with
 | .str _=>T = "str" | .int _=>T = "int" | .ref p=>(T = "list"/\∃xs,cN K H p xs)\/(T = "tuple"/\∃o,K.lookup p=↑o/\o.cls=.type "tuple"/\o.dict=none) \/
    (T = "dict"/\((∃D,H p=↑(.dK D))\/∃D,H p=↑(.dT D)))\/(T = "set"/\∃S n,H p=↑(.set S n))
 |_=>False
variable{T:String}{x:V}
def vP{v:Value}(I:Inv X pins σ H s)(r:RelV x v)(U:pb X.K T x H) :
  s.TypeIs v T/\∀a,v=.ref a->∃Z,s.heap.get? a=↑Z/\Z.dict=none:=by
 cases x with
 |str z =>
   obtain⟨t,rfl⟩:=r;cases (show T = "str" from U);exact⟨typeIs_str s z t,λ_ e=>nomatch e⟩
 |int i =>
   obtain⟨t,rfl⟩:=r;cases (show T = "int" from U);exact⟨typeIs_int s i t,λ_ e=>nomatch e⟩
 |ref p =>
   cases r;rcases U with⟨rfl,xs,b⟩ | ⟨rfl,o,D,hc,hd⟩ | ⟨rfl,D⟩ | ⟨rfl,S,n,D⟩
   ·obtain⟨its,_,pl,_⟩:=I.list b
    refine⟨pl.isList.typeIs,λa e=>?_⟩;cases e;obtain⟨o,n,e,c,hd,_⟩:=pl;exact⟨o,e,hd⟩
   ·refine⟨⟨o,I.kIn p o D,hc⟩,λa e=>?_⟩
    cases e;exact⟨o,I.kIn _ o D,hd⟩
   ·have z:∃o,s.heap.get? p=↑o/\o.ExactDict:=by
     rcases D with⟨V,D⟩ | ⟨V,D⟩
     ·obtain⟨_,_,_,_,o,_,_,e,ex,_⟩:=I.hok p _ D
      exact⟨o,e,ex⟩
     ·obtain⟨_,_,_,_,o,_,_,e,ex,_⟩:=I.hok p _ D
      exact⟨o,e,ex⟩
    obtain⟨o,e,ex⟩:=z;refine⟨⟨o,e,ex.1⟩,λa Y=>?_⟩;cases Y;exact⟨o,e,ex.2.1⟩
   ·obtain⟨o,_,_,_,e,ex,_⟩:=I.hok p _ D
    refine⟨⟨o,e,ex.1⟩,λa Y=>?_⟩;cases Y;exact⟨o,e,ex.2.1⟩
 |_=>exact False.elim U
def pc(K:fc)(T:String)(r:V->fw->Hp->VK->Prop)(to:TE):TE:=λσ H Q=>to σ H λx H1=>pb K T x H1/\r x [] H1 Q
def vQ(K:fc)(T:String)(r:V->fw->Hp->VK->Prop)(to:TE)(t:TA):TE:=λσ H Q=>to σ H λx H1=>pb K T x H1/\t σ H1 λxs H2=>r x xs H2 Q
variable{r:V->fw->Hp->VK->Prop}{o:Expr}{to:TE}{name:Str}{apos cpos:Pos}{id:String}
def C0(a:PlainAttrs T)(U:Slot T name id)(V:typeOf (.builtin id)=pure (.type "method_descriptor"))(b:vK X id r)(c:PE X o to)(D:‹attributeBase o name X.env (eval o X.env)=eval o X.env›)(S:‹(apos.endLine==cpos.line)=true›):PE X (.Call (.Attribute o name apos) [] [] cpos) (pc X.K T r to):=by
 intro pins s σ H Q I h;refine wpAny_Call_method0_late D S (aU (c pins s σ H _ I h) λv d e=>?_);obtain⟨x,H1,Y,Z,f,g⟩:=e;obtain⟨h1,h2⟩:=vP Y Z f;exact⟨T,id,a,U,V,h1,h2,Calls.callWith_builtin rfl (PySem.evalArgs_none (b pins d σ H1 x [] v [] Q Y Z .nil g))⟩
variable{es:et}{t:TA}
def vf(c:PlainAttrs T)(V:Slot T name id)(Z:typeOf (.builtin id)=pure (.type "method_descriptor"))(d:vK X id r)(f:PE X o to)(g:PA X (e::es) t)(S:‹attributeBase o name X.env (eval o X.env)=eval o X.env›)(Y:((backTo cpos (starEach (e::es) X.env)).all (λx=>!x.1) && (backToKw cpos (keywordEach [] X.env)).all (λx=>x.1.isSome)
   && decide ((e::es).length+([]:List Keyword).length+(if ([]:List Keyword).isEmpty then 0 else 1)<30))=true:=by rfl)(U:‹(apos.endLine==cpos.line)=true›)(i:‹starEach (e::es) X.env=(false,eval e X.env)::starEach es X.env›)(D:‹(backTo cpos (starEach es X.env)).any (·.1)=false›) :
  PE X (.Call (.Attribute o name apos) (e::es) [] cpos) (vQ X.K T r to t):=by
 intro pins s σ H Q I h;refine wpAny_Call_method_late S Y U rfl (aU (f pins s σ H _ I h) λv j k=>?_);obtain⟨x,H1,a,b,l,m⟩:=k;obtain⟨h1,h2⟩:=vP a b l;refine⟨T,id,c,V,Z,h1,h2,?_⟩;have hA:=g cpos pins j σ H1 _ a m;rw[i] at hA ⊢;refine Calls.callWith_builtin (by show(false || (backTo cpos (starEach es X.env)).any (·.1))=false;rw[D] <;> rfl) (Calls.evalArgs_plain ?_);exact aU hA λus s2 ⟨vs,H2,I2,r2,q2⟩=>d pins s2 σ H2 x vs v us Q I2 b r2 q2
def iZ(X:Cx)(id:String)(r:V->fw->Hp->VK->Prop):Prop :=
 ∀(pins:fh) (s:Shared) (σ:St) (H:Hp) (x:V) (xs:fw) (v:Value) (us:ee) (Q:VK),Inv X pins σ H s->RelV x v->aG xs us->r x xs H Q ->
  wpAny (model X.prog X.w) X.A (call (.builtin id) (v::us)) (EP X pins σ Q) X.xe s
def pf:fw->ee->Prop
 | [],us=>us=[] |x::xs,us=>∃u t,us=u::t/\RelV x u/\aG xs t
variable{us:ee}
def aG.inv(h:aG xs us):pf xs us:=by
 cases h with
 |nil=>exact rfl |cons r t=>exact⟨_,_,rfl,r,t⟩
def aG.one(h:aG [x] us):∃u,us=[u]/\RelV x u:=by
 obtain⟨u,t,e,r,q⟩:=h.inv;exact⟨u,(show t=[] from q.inv) ▸ e,r⟩
def aG.two{y:V}(h:aG [x,y] us):∃u v,us=[u,v]/\RelV x u/\RelV y v:=by
 obtain⟨u,t,e,r,q⟩:=h.inv;obtain⟨v,f,q⟩:=q.one;exact⟨u,v,f ▸ e,r,q⟩
def aG.zero:∀ {us:ee},aG [] us->us=[]
 |_,.nil=>rfl
def aG.dropLast(h:aG xs us):aG xs.dropLast us.dropLast:=by
 induction h with
 |nil=>exact .nil |cons r t ih =>
   cases t with
   |nil=>exact .nil |cons q t'=>exact .cons r ih
def aG.eraseIdx:∀ {xs:fw} {us:ee} (i:Nat),aG xs us->aG (xs.eraseIdx i) (us.eraseIdx i)
 |_,_,_,.nil=>.nil |_,_,0,.cons _ t=>t |_,_,i+1,.cons r t=>.cons r (aG.eraseIdx i t)
def aG.rep{xs:fw}{us:ee}(h:aG xs us):∀k:Nat,aG (List.replicate k xs).flatten (List.replicate k us).flatten
 |0=>.nil |k+1=>by
   rw[jo,jo,cf,cf];exact aG.append h (aG.rep h k)
def C1(l:List α):l.eraseIdx (l.length-1)=l.dropLast:=by
 induction l with
 |nil=>rfl |cons a r ih =>
   cases r with
   |nil=>rfl |cons b r =>
     have e:(a::b::r).length-1=((b::r).length-1)+1:=by
      have h1:(a::b::r).length=r.length+2:=rfl;have h2:(b::r).length=r.length+1:=rfl;omega
     rw[e,zw,ih];all_goals rfl
def vR{α:Type}:∀(l:List α) (i:Nat),(l.eraseIdx i).length<=l.length
 | [],_=>bj _ |_::_,0=>r8 _ |_::r,i+1=>Nat.succ_le_succ (vR r i)
def vS(its:ee):∀(k:Nat) (D:ee),
  List.foldl (λI S=>I++S) D.toArray (List.replicate k its.toArray)=(D++(List.replicate k its).flatten).toArray
 |0,D=>by simp |k+1,D=>by
   have e:D.toArray++its.toArray=(D++its).toArray:=by simp
   have U:(D++its)++(List.replicate k its).flatten=D++(List.replicate (k+1) its).flatten:=by
    rw[jo,cf,dn]
   rw[<-U,<-vS its k (D++its),<-e,jo,List.foldl_cons]
variable{t':Nat}{l:Addr}
def Inv.lset{f:fk->fk}(I:Inv X pins σ H s)(D:H l=↑(.lst xs))(e:s.heap.get? l=some { cls:=.type "list",data:=.seq its.toArray n })(S:f its.toArray=its'.toArray)(U:aG ys its')(V:ys.length<=sizeLine) :
  Inv X pins σ (aO H l (.lst ys)) { s with heap:=s.heap.update l (Obj.mapSeq f),toks:=t' }:=by
 have q:=PySem.IsL.update e f;rw[S] at q;refine I.write (x:=l) (e:=l) (by rw[D];exact trivial) (.inl rfl) (λa u Y Z=>(de s.heap (Obj.mapSeq f) (Ne.symm Y)).trans Z) ⟨_,q⟩ ?_;exact⟨V,its',_,U,q⟩
def Inv.lnew(I:Inv X pins σ H s)(D:aG ys its)(S:ys.length<=sizeLine) :
  Inv X pins σ (aO H s.heap.objs.size (.lst ys)) { s with heap:=s.heap.push { cls:=.type "list",data:=.seq its.toArray },toks:=t' } :=
 I.laid (λ_ _ q=>bc _ q) (bj _) ⟨S,its,0,D,cg _ rfl⟩
def Inv.fresh(I:Inv X pins σ H s):H s.heap.objs.size=none:=I.hok.fresh (bj _)
def Inv.lstM(I:Inv X pins σ H s)(D:H l=↑(.lst xs)):xs.length<=sizeLine/\∃(its:ee) (n:Nat),aG xs its/\xs.length=its.length/\s.heap.get? l=some { cls:=.type "list",data:=.seq its.toArray n }:=by
 obtain⟨z,its,n,r,e⟩:=I.hok l _ D;exact⟨z,its,n,r,r.length,e⟩
def vT(h:n<=sizeLine):Builtin.List.listTooLong n=false:=by
 unfold Builtin.List.listTooLong;exact cu (by omega)
def C2:V->fw->Hp->VK->Prop:=λx vs H Q=>∃l xs y,x=.ref l/\vs=[y]/\H l=↑(.lst xs)/\xs.length<sizeLine/\Q .non (aO H l (.lst (xs++[y])))
theorem pj:iZ X "list.append" C2:=by
 intro pins s σ H x vs v us Q I S U h;obtain⟨l,xs,y,rfl,rfl,D,Y,q⟩:=h;cases S;obtain⟨u,rfl,V⟩:=U.one;obtain⟨z,its,n,r,Z,e⟩:=I.lstM D;refine lw F.slot_list_append ⟨_,e,rfl⟩ F.entry_list_append (F.args_list_append_2 _ _) (PySem.list_append l its.toArray n u (by rw[bi];omega)) ⟨e,?_⟩;refine⟨.non,_,I.lset (its':=its++[u]) D e ⋯ (r.append (.cons V .nil)) ?_,rfl,q⟩;rw[ai,d5];omega
def C3:V->fw->Hp->VK->Prop:=λx vs H Q=>∃l b xs D,x=.ref l/\vs=[.ref b]/\H l=↑(.lst xs)/\H b=↑(.lst D)/\xs.length+D.length<=sizeLine/\Q .non (aO H l (.lst (xs++D)))
theorem C4:iZ X "list.extend" C3:=by
 intro pins s σ H x vs v us Q I Y Z h;obtain⟨l,b,xs,j,rfl,rfl,V,a,k,q⟩:=h;cases Y;obtain⟨u,rfl,c⟩:=Z.one;cases c;obtain⟨z,its,n,r,m,e⟩:=I.lstM V;obtain⟨o,D,d,f,g,i⟩:=I.lstM a;have U:its.toArray.size+D.toArray.size<=sizeLine:=by rw[bi,bi];omega
 have S:¬(!its.toArray.isEmpty && Builtin.List.listTooLong (its.toArray.size+D.toArray.size))=true:=by
  rw[vT U,Bool.and_false];exact ce
 refine lw F.slot_list_extend ⟨_,e,rfl⟩ F.entry_list_extend (F.args_list_extend_2 _ _)
  (AutoSeq1.list_extend_list_list_0 l its.toArray n b D.toArray d S (by rw[bi];omega) (by omega)) ⟨e,i,?_⟩
 refine⟨.non,_,I.lset (its':=its++D) V e ⋯ (r.append f) ?_,rfl,q⟩;rw[ai];omega
def pu:V->fw->Hp->VK->Prop:=λx vs H Q=>∃l xs y,x=.ref l/\vs=[]/\H l=↑(.lst xs)/\xs[xs.length-1]?=↑y/\Q y (aO H l (.lst xs.dropLast))
theorem C5:iZ X "list.pop" pu:=by
 intro pins s σ H x vs v us Q I V Y h;obtain⟨l,xs,y,rfl,rfl,U,Z,q⟩:=h;cases V;have D:=Y.zero;subst D;obtain⟨z,its,n,r,a,e⟩:=I.lstM U;obtain⟨u,b,c⟩:=r.get Z;have S:its.toArray[its.toArray.size-1]?=↑u:=by
  show its.toArray[its.length-1]?=↑u;rw[<-Array.getElem?_toList,<-a];exact b
 refine lw F.slot_list_pop ⟨_,e,rfl⟩ F.entry_list_pop (F.args_list_pop_1 _) (MeetsSeq.list_pop_last l its.toArray n u S (by rw[bi];omega)) ⟨e,?_⟩;refine⟨y,_,I.lset (its':=its.dropLast) U e ?_ r.dropLast ?_,c,q⟩
 ·show its.toArray.eraseIdxIfInBounds (its.toArray.size-1)=its.dropLast.toArray
  rw[bi,qc,C1]
 ·rw[List.length_dropLast]
  omega
def C6:V->fw->Hp->VK->Prop:=λx vs H Q=>∃l xs i k y,x=.ref l/\vs=[↥i]/\H l=↑(.lst xs)/\-(2 ^ 63)<=i/\i<2 ^ 63/\seqIndex? i xs.length=↑k/\xs[k]?=↑y/\Q y (aO H l (.lst (xs.eraseIdx k)))
theorem C7:iZ X "list.pop" C6:=by
 intro pins s σ H x vs v us Q I U V h;obtain⟨l,xs,i,k,y,rfl,rfl,S,h1,h2,Y,Z,q⟩:=h;cases U;obtain⟨u,rfl,a⟩:=V.one;obtain⟨t,rfl⟩:=a;obtain⟨z,its,n,r,b,e⟩:=I.lstM S;obtain⟨w,c,D⟩:=r.get Z;refine lw F.slot_list_pop ⟨_,e,rfl⟩ F.entry_list_pop (F.args_list_pop_2 _ _)
  (MeetsSeq.list_pop_at l its.toArray n i t k w (fitsIndex_both h1 h2) (by rw[bi,<-b];exact Y) (by rw[<-Array.getElem?_toList];exact c) (by rw[bi];omega)) ⟨e,?_⟩
 refine⟨y,_,I.lset (its':=its.eraseIdx k) S e ?_ (r.eraseIdx k) ?_,D,q⟩
 ·show its.toArray.eraseIdxIfInBounds k=(its.eraseIdx k).toArray
  rw[qc]
 ·have:=vR xs k
  omega
def py:R2:=λx y H Q=>∃l k xs,x=.ref l/\y=.int k/\H l=↑(.lst xs)/\-(2 ^ 63)<=k/\k<2 ^ 63/\xs.length*k.toNat<=sizeLine /\
 ∀p,H p=none->Q (.ref p) (aO H p (.lst (List.replicate k.toNat xs).flatten))
def C8(xs:List α)(k:Nat):(List.replicate k xs).flatten.length=k*xs.length:=by
 induction k with
 |zero=>simp |succ k ih=>rw[jo,cf,ai,ih,Nat.succ_mul,Nat.add_comm]
theorem C9:eL X (binaryOp .Mult) py:=by
 intro pins s σ H x y v u Q I f g h;obtain⟨l,k,xs,rfl,rfl,i,h1,h2,d,q⟩:=h;cases f;obtain⟨t,rfl⟩:=g;obtain⟨z,its,n,r,j,e⟩:=I.lstM i;have S:its.toArray.size*k.toNat<=sizeLine:=by rw[bi,<-j];exact d
 have V:¬its.toArray.size*k.toNat > (2 ^ 63-1) / 8:=by
  have:(sizeLine:Nat)<=(2 ^ 63-1) / 8:=by decide
  omega
 have Y:¬(!Builtin.List.listFitsIndex k)=true:=by
  rw[fitsIndex_both h1 h2];exact ce
 have D:¬Builtin.List.listTooLong (its.toArray.size*k.toNat)=true:=by
  rw[vT S];exact ce
 have Z:List.foldl (λb c=>b++c) #[] (List.replicate (if its.toArray.isEmpty=true then 0 else k.toNat) its.toArray)=(List.replicate k.toNat its).flatten.toArray:=by
  have o:∀m:Nat,List.foldl (λb c=>b++c) #[] (List.replicate m its.toArray)=(List.replicate m its).flatten.toArray:=λm=>by
   have:=vS its m [];rw[gl] at this;exact this
  rw[o];cases its with
  |nil=>simp |cons a r'=>rw[bu ⋯]
 refine wpAny_binaryOp_repeat_ref (T:="list") (U:="int") (by decide) ⟨_,e,rfl⟩ (λs'=>typeIs_int s' k t) noFill_list_mul F.fills_int_mul F.slot_int_rmul repeat_list F.slot_int_index.lookup
  (lw F.slot_int_rmul (typeIs_int s k t) F.entry_int_rmul (F.args_int_rmul_2 _ _) (int___rmul___int_list k t l its.toArray n)
    ⟨e,rfl,⟨_,e,rfl⟩,lw F.slot_list_mul ⟨_,e,rfl⟩ F.entry_list_mul (F.args_list_mul_2 _ _) (AutoListH.list___mul___list_int_3 l its.toArray n k t Y V D) ⟨e,?_⟩⟩)
 rw[Z];exact⟨.ref _,_,I.lnew (t':=s.toks) (r.rep k.toNat) (by rw[C8,Nat.mul_comm];exact d),rfl,q _ I.fresh⟩
end L2
namespace Att
open PySem PySem.W PySem.Calls PyProof.Rows
variable{P:Params}{h:Heap}
def CA:∀(ns:ep) (vs:ee),WellAll P h vs (ns.map WData.int)->IntsAre vs ns:=by
 intro ns;induction ns with
 |nil =>
   intro vs w;rw[eh] at w;cases w;exact .nil
 |cons n ns ih =>
   intro vs w;rw[bx] at w;cases w with
   |cons a b =>
     cases a;exact .cons _ _ (ih _ b)
variable{l:OpenLaw}{n:Nat}
def CB(c:l.most=↑n){args:List WData}{D:ee}(I:l.row.toRowW.claim.pre args=true)(Y:WellAll P h D args) :
  ∃a vs ns,D=[Value.ref a]/\args=[WData.list (ns.map WData.int)]/\h.get? a=some { cls:=.type "list",data:=.seq vs.toArray }/\IntsAre vs ns/\ns.length<=n:=by
 have Z:WShape.hasAll [] args [.list .int]=true:=(pre_splitW I).1;have b:l.pre.holds [] { args:=args }=true:=(pre_splitW I).2;obtain⟨d,r,rfl,h1,h2⟩:=hasAllW_cons Z;obtain rfl:=hasAllW_nil h2;obtain⟨xs,rfl,e⟩:=hasW_list h1;obtain⟨ns,rfl⟩:=items_int e;have S:ns.length<=n:=by
  unfold OpenLaw.pre at b;have U:(WTm.not (.lt (.lit ↥(n:Int)) (.len (.arg 0)))).holds [] { args:=[.list (ns.map .int)] }=true:=by
   have U:=(holds_andW b).1;rw[c] at U;exact U
  have V:=condW_of U (w_not (w_lt w_lit (w_len_list (w_arg rfl))));rw[ae] at V;refine ji λq=>?_;have f:(n:Int)<((ns.length:Nat):Int):=by omega
  first
   | (rw[gi f] at V;exact absurd V (by decide))
   | (simp at V;omega)
 cases Y with
 |cons w1 w2 =>
   cases w2;cases w1 with
   |list ho hall=>exact⟨_,_,ns,rfl,rfl,ho,CA ns _ hall,S⟩
def CC(l:OpenLaw)(args:List WData):l.row.toRowW.claim.post args (.bool true) args=true :=
 postW_of (r:=l.row.toRowW) (X:=(true==true))
  (show WShape.has [] (.bool true) .bool=true by first |rfl |decide |simp[WShape.has,WShape.arms,WShape.armsAll])
  (show(WTm.eq .res (.lit (.bool true))).value [] { args:=args,res:=↑(.bool true),after:=args }=↑(.bool (true==true)) from w_eq_bool (w_res rfl) w_lit) rfl
def attach_call{q:Program}{I:ed}{m:(Str->ei)->Heap->Prop}{p:World->Heap->Prop}{d:DefRec}(v:l.most=↑n)(e:d.params.defaults=[])(call:∀(w:World) (s₀ D:Shared) (mg g:Str->ei) (fa:Addr) (o:Obj) (h c S:Value) (a:Addr) (vs:ee) (ns:ep),
   Ground q I [] m w s₀ mg g D.heap->p w D.heap ->
   D.heap.get? fa=↑o->o.data=.func (docDef d.name d.params d.body d.scope h c S)->D.heap.CodeRec c d.name->mg d.name=↑(.ref fa) ->
   D.heap.get? a=some { cls:=.type "list",data:=.seq vs.toArray }->IntsAre vs ns->ns.length<=n->D.gens=#[] ->
   codeAny (model l.prog w) callerA (.call (.ref fa) ⟨[.ref a],[]⟩) (λr s'=>r=.ok (.ret (.bool true))/\OldK D.heap s'.heap/\s'.os=D.os/\AllBare s'.gens) D) :
  WalkO q I m p l.row.toRowW d [] (λf vs=>PySem.call f vs):=by
 intro w s₀ D mg g G Y fa o h c S x kV y hd i s j z args t as V u A k B;obtain rfl:x=.none:=Dflts.none s e;obtain rfl:kV=.none:=Dflts.noKw s;obtain⟨a,vs,ns,rfl,rfl,Z,U,b⟩:=CB v V k;refine enter_call (j3 (call w s₀ D mg g fa o h c S a vs ns G Y y (fd_plain hd) i j Z U b z) λr s' C=>?_);obtain⟨rfl,h2,E,F⟩:=C;exact⟨.inl ⟨.bool true,.bool true,[],rfl,λ_=>rfl,.bool true,CC l _,λ_=>⟨List.Pairwise.nil,λ_ H=>(nomatch H)⟩⟩,h2,E,F⟩
end Att
namespace L2
open PySem PySem.Spec PyProof.Rows
def vU:∀ {vs:ee} {ns:ep},IntsAre vs ns->aG (ns.map V.int) vs
 |_,_,.nil=>.nil |_,_,.cons n t h=>.cons ⟨t,rfl⟩ (vU h)
def iE(H:Hp):Prop:=∀b,H b=none\/∃o xs,H b=↑(.frz o (.lst xs))
variable{w:World}{K:fc}{k:Nat}{a:Addr}{x:Str}{vs:ee}
def CF{P:Program}{mg B:Str->ei}{CX:fE}{fa:Addr}{fd:FuncData}{sp:Sp}{D:Shared}{ns:ep}(L:K.In D.heap)(c:D.heap.Ns mainGlobals mg)(S:D.heap.Ns builtinsNs B)(C:∀x:Str,x ≠ "__name__"->B x=bootBuiltins x)(f:D.heap.NoLimit)(R:D.gens=#[])(A:D.heap.get? a=some { cls:=.type "list",data:=.seq vs.toArray })(hi:IntsAre vs ns)(M:ns.length<=sizeLine)(T:aV k callerA)(F:∀base:Heap,K.In base->base.Ns mainGlobals mg->bK P w K mg base CX k fa fd [x] sp)(Z:∀(s:Shared) (u:Value),BindsTo s fd ⟨[u],[]⟩ [(x,u)])(E:∀H:Hp,iE H->cN K H a (ns.map V.int)->sp [.ref a] H (λv _=>v=.bl true) λ_ _ _=>False)(G:∀H e s',CX [] H D (λ_ _ _=>False) e s'->False) :
  codeAny (model P w) callerA (.call (.ref fa) ⟨[.ref a],[]⟩) (λr s'=>r=.ok (.ret (.bool true))/\OldK D.heap s'.heap/\s'.os=D.os/\AllBare s'.gens) D:=by
 have N:=vU hi;have g:=hi.length;have Y:∀H:Hp,iE H->cN K H a (ns.map V.int)->dL P w H D.heap->(∀b,H b≠none->b=a)->(H a≠none->K.lookup a=none) ->
   codeAny (model P w) callerA (.call (.ref fa) ⟨[.ref a],[]⟩) (λr s'=>r=.ok (.ret (.bool true))/\OldK D.heap s'.heap/\s'.os=D.os/\AllBare s'.gens) D:=by
  intro H O W i hA X;have I:∀ {b:Addr} {o:Obj},D.heap.get? b=↑o->H b=none->(eV D.heap H).get? b=↑o:=λe n=>AL e n;have J:∀ {b:Addr} {o:Obj} {es:Array DictEntry} {j:Nat},D.heap.get? b=↑o->o.data=.dict es j->H b=none:=λ{b o es j} e d=>by
   cases q:H b with
   |none=>rfl |some u =>
     have e':b=a:=hA b (by rw[q];simp);subst e';rw[A] at e;cases e;have d':Data.seq vs.toArray _=Data.dict es j:=d;cases d'
  have U:∀ {b:Addr} {m:Str->ei},D.heap.Ns b m->(eV D.heap H).Ns b m:=λ{b m} ⟨o,es,j,e,d,r⟩=>⟨o,es,j,I e (J e d),d,r⟩;have l:K.In (eV D.heap H):=λb o e=>I (L b o e) (by
   cases q:H b with
   |none=>rfl |some u =>
     have e':b=a:=hA b (by rw[q];simp);subst e';rw[X (by rw[q];simp)] at e;cases e)
  have hM:Mod K mg (eV D.heap H):=⟨l,U c,⟨B,U S,C⟩,let ⟨mc,h1,h2⟩:=f;⟨mc,U h1,h2⟩⟩;have e0:fF P w K mg (eV D.heap H) callerA [] D H:=⟨rfl,hM,λb o e=>AM e,Nat.le_of_eq (AJ _ _),trivial,λb S=>absurd (show b∈([]:el) from S) ⋯,i,.of_eq R⟩;refine j3 ((F _ l (U c)).run callerA [] D H ⟨[.ref a],[]⟩ [.ref a] [.ref a] _ _ T e0 (Z D (.ref a)) (.cons rfl .nil) (E H O W)) λr s' h=>?_;cases r with
  |error e=>exact(G H e s' h).elim |ok fl =>
    cases fl with
    |next=>exact False.elim h |brk=>exact False.elim h |cont=>exact False.elim h |ret u =>
      obtain⟨v,H',os,p,un,t,r',q⟩:=h;have q':v=.bl true:=q;subst q';obtain rfl:u=Value.bool true:=r';refine⟨rfl,OldK.of_keep λb o e=>?_,os,p⟩;cases q:H b with
      |none=>exact un.keep b o e q (by intro z;exact absurd (show b∈([]:el) from z) ⋯) ⋯
      |some u =>
        rcases O b with z | ⟨ob,xs,z⟩
        ·rw[q] at z;cases z
        ·have z2:=un.frzs b ob _ z
         obtain⟨Q,_⟩:=i b _ z;obtain⟨e2,_⟩:=t b _ z2;rw[e] at Q;cases Q;exact e2
 cases hk:K.lookup a with
 |some o =>
   have e:=L a o hk;rw[A] at e;cases e;refine Y (λ_=>none) (λ_=>.inl rfl) (.inr ⟨_,vs.toArray,_,hk,rfl,rfl,rfl,by rw[bi,g];exact M,by simpa using N⟩) (λb u z=>by have y:(none:Option HO)=↑u:=z;cases y) (λb z=>absurd rfl z) λz=>absurd rfl z
 |none =>
   refine Y (λb=>if b=a then ↑(.frz { cls:=.type "list",data:=.seq vs.toArray } (.lst (ns.map V.int))) else none) (λb=>?_) (.inl (.inr ⟨{ cls:=.type "list",data:=.seq vs.toArray },az rfl⟩)) (λb u z=>?_) (λb z=>?_) λ_=>hk
   ·by_cases S:b=a
    ·exact .inr ⟨_,_,az S⟩
    ·exact .inl (bu S)
   ·by_cases S:b=a
    ·have y:=(az S).symm.trans z
     cases y;subst S;exact⟨A,by rw[ae];exact M,vs,_,N,A⟩
    ·have y:=(bu S).symm.trans z
     cases y
   ·by_cases S:b=a
    ·exact S
    ·exact absurd (bu S) z
variable{l:Addr}{d:D}
def CG{l:PySem.W.OpenLaw}{n:Nat}{q:Program}{I:ed}{y:(Str->ei)->Heap->Prop}{r:World->Heap->Prop}{d:DefRec}{K:Params->fc}{CX:World->fE}{sp:World->Sp}(z:l.most=↑n)(c:n<=sizeLine)(i:d.params.defaults=[])(A:aV k callerA)(B:∀(w:World) (h:Heap),r w h->(K w.params).In h)(F:∀(w:World) (mg:Str->ei) (fa:Addr) (h:Heap),(K w.params).In h->h.Ns mainGlobals mg->mg d.name=↑(.ref fa) ->
   ∃fd:FuncData,(∀(s:Shared) (u:Value),BindsTo s fd ⟨[u],[]⟩ [(x,u)]) /\
    ∀base:Heap,(K w.params).In base->base.Ns mainGlobals mg->bK l.prog w (K w.params) mg base (CX w) k fa fd [x] (sp w))(j:∀(w:World) (H:Hp) (a:Addr) (ns:ep),ns.length<=n->iE H->cN (K w.params) H a (ns.map V.int)->sp w [.ref a] H (λv _=>v=.bl true) λ_ _ _=>False)(m:∀(w:World) (H:Hp) (s:Shared) (e:Value) (s':Shared),CX w [] H s (λ_ _ _=>False) e s'->False) :
  PySem.W.WalkO q I y r l.row.toRowW d [] (λf vs=>PySem.call f vs):=by
 refine Att.attach_call z i λw s₀ U mg P fa o Q R C a vs ns G Y X hd E p Z S D J=>?_;have t:=B w _ Y;obtain⟨fd,L,M⟩:=F w mg fa _ t G.T.g p;exact CF t G.T.g G.T.b G.T.builtins G.T.nolimit J Z S (b6 D c) A M L (λH N O=>j w H a ns D N O) λH e s'=>m w H U e s'
def uf(s:Stmt):Arguments:=match s with
 | .FunctionDef _ a _ _ _ _ _ _ _ _=>a |_=>{ posonlyargs:=[],args:=[],vararg:=none,kwonlyargs:=[],kw_defaults:=[],kwarg:=none,defaults:=[] }
def mz(s:Stmt):List Stmt:=match s with
 | .FunctionDef _ _ b _ _ _ _ _ _ _=>b |_=>[]
def im(s:Stmt):Scope:=match s with
 | .FunctionDef _ _ _ _ _ _ sc _ _ _=>sc |_=>{ kind:=.function,names:=[],isGenerator:=false,isCoroutine:=false }
abbrev bF:fE:=λ_ _ _ _ _ _=>False
abbrev E0:XK:=λ_ _ _=>False
variable{X:Cx}
def p3:oS bF X E0:=λ_ _ _ _ _ _ _ h=>h.elim
structure fR (K:fc) (x qual:Str) (st:Stmt) (f:Addr) (fd:FuncData):Prop where
 ex:∃(oc:Value) (od:Option Addr) (kV doc pm:Value) (an:Option Addr) (cdv ct:Value) (osl:Array ei),
  fd=PySem.W.fnOf x qual (uf st) (mz st) (im st) .none kV doc pm an cdv ct/\K.lookup f=↑⟨oc,od,.func fd,osl⟩/\PySem.W.codeIn K cdv qual=true
 kp:PySem.W.keepIn K (.ref f)=true
variable{f:FE}
def pA{qual:Str}{st:Stmt}{f:Addr}{oc:Value}{od an:Option Addr}{osl:Array ei}{kV D I cdv ct:Value}(l:K.lookup f=↑⟨oc,od,.func (PySem.W.fnOf x qual (uf st) (mz st) (im st) .none kV D I an cdv ct),osl⟩)(c:PySem.W.codeIn K cdv qual=true)(k:PySem.W.keepIn K (.ref f)=true):fR K x qual st f (PySem.W.fnOf x qual (uf st) (mz st) (im st) .none kV D I an cdv ct):=⟨⟨oc,od,kV,D,I,an,cdv,ct,osl,rfl,l,c⟩,k⟩
def aS(H H':Hp):Prop:=∀b o,H b=↑o->H' b=↑o
def aS.refl(H:Hp):aS H H:=λ_ _ h=>h
variable{H H1 H2:Hp}
def aS.trans(a:aS H H1)(b:aS H1 H2):aS H H2:=λc o h=>b c o (a c o h)
variable{H':Hp}
def aS.free(e:aS H H')(h:H' l=Option.none):H l=Option.none:=by
 cases q:H l with
 |none=>rfl |some o =>
   rw[e l o q] at h;cases h
def pB{env:Env}:∀(names:List (Str×NameKind)) (D:List (Str×Addr)),
  (∀y∈names,y.2=.free->∃c,env.cells.lookup y.1=↑c)->(∀y c,D.lookup y=↑c->env.cells.lookup y=↑c) ->
  ∃cl,(forIn names D λ(x:Str×NameKind) (cs:List (Str×Addr))=>if (x.2==NameKind.free)=true then(do let c <-cellOf env x.1;pure (ForInStep.yield ((x.1,c)::cs)):Sem _) else pure (ForInStep.yield cs))=pure cl /\
   (∀y c,cl.lookup y=↑c->env.cells.lookup y=↑c)/\(∀y c,D.lookup y=↑c->∃S,cl.lookup y=↑S)/\∀y∈names,y.2=.free->∃c,cl.lookup y.1=↑c
 | [],D,_,ha=>⟨D,rfl,ha,λy c e=>⟨c,e⟩,λ_ h=>nomatch h⟩ | (n,k)::r,D,hn,ha=>by
   by_cases V:k=.free
   ·subst V
    obtain⟨c,Z⟩:=hn (n,.free) bh rfl;obtain⟨cl,e,h1,h2,Y⟩:=pB r ((n,c)::D) (λy hy=>hn y (av _ hy)) (λy S e=>by
     rw[cy] at e;cases hq:y==n with
     |true=>rw[hq] at e;cases e;rw[eq_of_beq hq];exact Z
     |false=>rw[hq] at e;exact ha y S e)
    have I:List.lookup n ((n,c)::D)=↑c:=by simp[cy]
    refine⟨cl,?_,h1,λy S e'=>?_,λy hy U=>?_⟩
    ·rw[List.forIn_cons]
     have a:cellOf env n=pure c:=by unfold cellOf;rw[Z]
     simp only[beq_self_eq_true,d8,a,pure_bind];exact e
    ·cases hq:y==n with
     |true=>rw[eq_of_beq hq];exact h2 n c I |false=>exact h2 y S (by rw[cy,hq];exact e')
    ·rcases cj.mp hy with rfl |hy
     ·exact h2 n c I
     ·exact Y y hy U
   ·obtain⟨cl,e,h1,h2,Y⟩:=pB r D (λy hy=>hn y (av _ hy)) ha
    refine⟨cl,?_,h1,h2,λy hy U=>?_⟩
    ·rw[List.forIn_cons]
     have b:(k==NameKind.free)=false:=by cases k <;> first |rfl |exact absurd rfl V
     simp only[b,cw,gc,pure_bind];exact e
    ·rcases cj.mp hy with rfl |hy
     ·exact absurd U V
     ·exact Y y hy U
variable{sc:Scope}{env:Env}
def vV(h:∀y∈sc.names,y.2=.free->∃c,env.cells.lookup y.1=↑c) :
  ∃cl,closureFor sc env=pure cl/\(∀y c,cl.lookup y=↑c->env.cells.lookup y=↑c)/\∀y∈sc.names,y.2=.free->∃c,cl.lookup y.1=↑c:=by
 obtain⟨cl,e,h1,_,D⟩:=pB (env:=env) sc.names [] h (λy c e=>by simp at e);refine⟨cl,?_,h1,D⟩;unfold closureFor;rw[show(pure cl:Sem _)=(pure cl >>= λcs=>pure cs) by rw[pure_bind],<-e]
def pE{env:Env}:∀ {names:List (Str×NameKind)} {x:Str} {k:NameKind},
  (names.map λ(n,k)=>if (k==NameKind.free && env.scope.kind==.function && env.kindOf n==some .cell) then(n,NameKind.cell) else(n,k)).lookup x=↑k ->
  names.lookup x=↑k\/(names.lookup x=some .free/\k=.cell)
 | (n,k0)::r,x,k,h=>by
   have I:=@pE env r x k;have h:List.lookup x ((if (k0==NameKind.free && env.scope.kind==.function && env.kindOf n==some .cell)=true then(n,NameKind.cell) else(n,k0))::_)=_:=h;cases hx:x==n with
   |true =>
     by_cases D:(k0==NameKind.free && env.scope.kind==.function && env.kindOf n==some .cell)=true
     ·rw[az D] at h
      simp only[cy,hx] at h ⊢;simp only[il,beq_iff_eq] at D;cases h;exact .inr ⟨by rw[D.1.1],rfl⟩
     ·rw[bu D] at h
      simp only[cy,hx] at h ⊢;exact .inl h
   |false =>
     by_cases D:(k0==NameKind.free && env.scope.kind==.function && env.kindOf n==some .cell)=true
     ·rw[az D] at h
      simp only[cy,hx] at h ⊢;exact I h
     ·rw[bu D] at h
      simp only[cy,hx] at h ⊢;exact I h
def kR{env:Env}:∀ {names:List (Str×NameKind)} {x:Str},names.lookup x=some .free ->
  (names.map λ(n,k)=>if (k==NameKind.free && env.scope.kind==.function && env.kindOf n==some .cell) then(n,NameKind.cell) else(n,k)).lookup x=some .cell \/
  (names.map λ(n,k)=>if (k==NameKind.free && env.scope.kind==.function && env.kindOf n==some .cell) then(n,NameKind.cell) else(n,k)).lookup x=some .free
 | (n,k0)::r,x,h=>by
   have I:=@kR env r x;show List.lookup x ((if (k0==NameKind.free && env.scope.kind==.function && env.kindOf n==some .cell)=true then(n,NameKind.cell) else(n,k0))::_)=_\/List.lookup x ((if (k0==NameKind.free && env.scope.kind==.function && env.kindOf n==some .cell)=true then(n,NameKind.cell) else(n,k0))::_)=_;cases hx:x==n with
   |true =>
     simp only[cy,hx] at h;cases h;by_cases D:(NameKind.free==NameKind.free && env.scope.kind==.function && env.kindOf n==some .cell)=true
     ·rw[az D];simp only[cy,hx];exact .inl trivial
     ·rw[bu D];simp only[cy,hx];exact .inr trivial
   |false =>
     simp only[cy,hx] at h;by_cases D:(k0==NameKind.free && env.scope.kind==.function && env.kindOf n==some .cell)=true
     ·rw[az D];simp only[cy,hx];exact I h
     ·rw[bu D];simp only[cy,hx];exact I h
def lq(X:Cx)(x:Str)(N':ed)(sc:Scope)(cl:List (Str×Addr))(C:Addr)(s₂:Shared)(H₂:Hp)(fp:el):Cx :=
 { X with N:=x::N',s₀:=s₂,H₀:=H₂,env:=compEnvC sc cl C X.env,outer:=X.stack,stack:=X.stack,ex:=fp,fn:=λ_=>false,pn:=[],xe:=λ_ _=>False }
def fG(X:Cx)(ifs:et)(tt:TT):Prop :=
 ∀(pins:fh) (s:Shared) (σ:St) (H:Hp) (Q:Bool->Hp->Prop),Inv X pins σ H s->tt σ H Q ->
  wpAny (model X.prog X.w) X.A (forIn ifs true λc r=>if r=true then do let ok <-isTrue c X.env (eval c X.env);pure (ForInStep.yield ok) else pure (ForInStep.yield r)) (TP X pins σ Q) X.xe s
def pF:TT:=λ_ H Q=>Q true H
def CH:fG X [] pF:=λ_ _ _ H _ I h=>wpAny_tests_nil ⟨H,I,h⟩
def CI{c:Expr}{D:TT}(h:PT X c D):fG X [c] D:=λpins s σ H Q I q=>wpAny_tests_one (h pins s σ H Q I q)
def uu(wi:TI)(ix:em)(tt:TT)(te:TE):TE:=λσ H Q=>wi σ H λJ H1=>∃W:Nat->Nat->Hp->fw->Prop,(∃m,W 0 m H1 [])/\∀i m H ys,W i m H ys ->
 (J.stop i H/\ys.length<=sizeLine/\∀D,H D=none->Q (.ref D) (aO H D (.lst ys))) \/
 (J.go i H/\∀x H',J.yld i H x H'->tt (↑x::ix.map (λj=>σ.getD j none)) H' λb H2 =>
   if b=true then te (↑x::ix.map (λj=>σ.getD j none)) H2 λv S=>ys.length<sizeLine/\∃I,I<m/\W (i+1) I S (ys++[v]) else ∃I,I<m/\W (i+1) I H2 ys)
abbrev lobj(ys:ee):Obj:={ cls:=.type "list",data:=.seq ys.toArray ys.length }
variable{ys:fw}{y:Str}
def aG.snoc{y:V}{u:Value}(h:aG ys vs)(r:RelV y u):aG (ys++[y]) (vs++[u]):=aG.append h (.cons r .nil)
def CJ(vs:ee)(u:Value):({ cls:=.type "list",data:=.seq (vs.toArray.push u) (vs.length+1) }:Obj)=lobj (vs++[u]):=LCg.lst_snoc vs u
variable{A:Around}{R:Result->Shared->Prop}{s:Sl}{elt iter:Expr}{ifs:et}{pos:Pos}
def CK{prog:Program}{s:Shared}{D:Expr}{scope:Scope}{it b:Value}(I:Nat->Shared->Prop)(turn:∀n s,I n s->wpAny (model prog w) A (pyNext it) (λr S=>match r with
   |none=>R (.ok .next) S |some v => wpAny (model prog w) A (letOwnedTupleGo D it v) (λ_ U => wpAny (model prog w) A (assign D env v) (λ_ s₂ => wpAny (model prog w) A (forIn ifs true λc r => if r = true then do let ok <-isTrue c env (eval c env);pure (ForInStep.yield ok) else pure (ForInStep.yield r)) (λok V =>
       if ok=true then wpAny (model prog w) A (eval elt env) (λx Y=>wpAny (model prog w) A (call (.builtin "list.append") [b,x]) (λ_ Z=>∃m,m<n/\I m Z) (notedBy (model prog w) A env λe s'=>R (.error e) s') Y) (notedBy (model prog w) A env λe s'=>R (.error e) s') V
       else ∃m,m<n/\I m V) (notedBy (model prog w) A env λe s'=>R (.error e) s') s₂) (notedBy (model prog w) A env λe s'=>R (.error e) s') U) (notedBy (model prog w) A env λe s'=>R (.error e) s') S) (notedBy (model prog w) A env λe s'=>R (.error e) s') s)(n:Nat)(h:I n s):codeAny (model prog w) A (.compLoop (.ListComp elt [⟨D,iter,ifs,0⟩] scope pos) 0 it b env) R s:=by
 refine codeAny_loop rfl I (λn s j=>?_) n h;refine(show wpAny _ A ((compTurn (.ListComp elt [⟨D,iter,ifs,0⟩] scope pos) 0 it b env).onRaise (λx=>do noteFrame x env;theTreesLotGoes x)) _ _ s from wpAny_noted ?_);rw[compTurn_list];refine cr (rq (cr (aU (turn n s j) λr S h₁=>?_)));cases r with
 |none=>exact ft h₁ |some v =>
   refine cr (aU h₁ λ_ U d=>cr (aU d λ_ s₂ f=>cr (aU f λok V a=>?_)));cases ok with
   |false=>exact ft ⟨rfl,a⟩ |true=>exact cr (cr (aU a λx Y g=>cr (aU g λ_ Z i=>ft (ft ⟨rfl,i⟩))))
def o8(X:Cx)(xs N':ed)(sc:Scope)(cl:List (Str×Addr))(C:Addr)(s₂:Shared)(H₂:Hp)(fp:el):Cx :=
 { X with N:=xs++N',s₀:=s₂,H₀:=H₂,env:=compEnvC sc cl C X.env,outer:=X.stack,stack:=X.stack,ex:=fp,fn:=λ_=>false,pn:=[],xe:=λ_ _=>False }
variable{pins:fh}{σ:St}{s2:Shared}{fp:el}{cl:List (Str×Addr)}{h₁:Heap}{m₁:Str->ei}{xs N':ed}{ix:em}
theorem CM{tk:Nat}(t:N'=ix.map λi=>X.N.getD i ("" : Str))(K:sc.kind=.function)(Y:∀y∈sc.names,y.2≠.cell)(Z:∀y∈sc.names,y.2=.free->X.env.kindOf y.1=some .cell\/X.env.kindOf y.1=some .free)(x:∀y∈N',sc.names.lookup y=some .free)(h1:∀y c,cl.lookup y=↑c->X.env.cells.lookup y=↑c)(J:∀y∈sc.names,y.2=.free->∃c,cl.lookup y.1=↑c)(I:Inv X pins σ H2 s2)(s:∀b∈fp,cT X pins H2 b)(A:∀b∈fp,∃o,s2.heap.get? b=↑o)(V:∀b o,s2.heap.get? b=↑o->h₁.get? b=↑o)(B:h₁.Ns (s2.heap.objs.size+1) m₁)(L:h₁.get? s2.heap.objs.size=↑(lobj [])) :
  Inv (o8 X xs N' sc cl (s2.heap.objs.size+1) s2 H2 fp) [(s2.heap.objs.size,lobj [])] (xs.map (λ_=>none)++ix.map (λj=>σ.getD j none)) H2 { s2 with heap:=h₁,toks:=tk }:=by
 have C:∀b∈fp,b<s2.heap.objs.size:=λb U=>by obtain⟨o,e⟩:=A b U;exact bw e
 have d:∀b,s2.heap.objs.size<=b->b∉dJ X.stack:=λb U z=>by
  rcases cj.mp (I.stkSub b z) with e |z
  ·exact absurd (bq I.lt (e ▸ U)) (ie _)
  ·exact I.nofs U z
 refine⟨⟨I.ok.mod,K,I.ok.glob,I.ok.blt,r8 _,λy z c S D=>I.ok.inj y z c (h1 _ _ S) (h1 _ _ D),λy M=>?_,λy c z _=>(by cases z),I.ok.hd,I.ok.frames,.inl rfl,λb U=>⟨?_,λy c e=>?_⟩,I.bs,b6 I.ok.bsz I.sz,λb o e U=>?_,λb U z=>?_,I.stack,I.stkFree⟩,
  rfl,I.bare,Un.kept V,⟨m₁,B,λi y v S D W=>?_⟩,λy c e=>?_,I.hok.fresh (r8 _),λy c e=>I.freeC y c (h1 y c e),λp E=>?_,I.hok.kept V,?_⟩
 ·have F:(relabel sc X.env).names.lookup y=some .cell\/(relabel sc X.env).names.lookup y=some .free:=M
  have O:sc.names.lookup y=some .free:=by
   rcases F with q |q
   ·rcases pE q with q | ⟨q,_⟩
    ·exact absurd rfl (Y _ (fm q))
    ·exact q
   ·rcases pE q with q | ⟨_,q⟩
    ·exact q
    ·cases q
  exact J (y,.free) (fm O) rfl
 ·exact db (i6 (C b U))
 ·exact(s b U).2.2.2.2.1 y c (h1 y c e)
 ·rcases(s b U).2.2.2.1 with z |z
  ·exact I.ok.noex b o e z
  ·exact absurd (bq (bw e) (b6 I.ok.bsz z)) (ie _)
 ·have z:b∈dJ X.stack:=z
  rcases cj.mp (I.stkSub b z) with e |z
  ·exact(s b U).2.1 e
  ·exact(s b U).2.2.1 z
 ·by_cases f:i<xs.length
  ·rw[a0 (by simpa using f),bo] at D
   cases hq0:xs[i]? with
   |none=>rw[hq0] at D;cases D
   |some z0=>rw[hq0] at D;cases D
  ·have S:(xs++N')[i]?=↑y:=S
   rw[b9 ∅] at S;rw[b9 (by rw[ae];lia),ae] at D;generalize i-xs.length=j at S D;rw[t,bo] at S;rw[bo] at D;cases q:ix[j]? with
   |none=>rw[q] at S;cases S
   |some k =>
     rw[q] at S D;have S:X.N.getD k "" = y:=bn S;have D:σ.getD k none=↑v:=bn D;have g:σ[k]?=↑↑v:=by
      rw[aj] at D;cases q2:σ[k]? with
      |none=>rw[q2] at D;cases D
      |some z=>rw[q2] at D;rw[show z=↑v from D]
     have h:k<X.N.length:=by rw[<-I.len];exact(au.mp g).1
     have G:X.N[k]?=↑y:=by
      rw[aj,ak h] at S;rw[ak h];exact congrArg some S
     have H:y∈N':=by
      rw[t,<-S];exact b8.mpr ⟨k,bv q,rfl⟩
     have a:=x y H;have l:=Z (y,.free) (fm a) rfl;have n:i0 X.env.scope y:=by
      rcases l with z |z
      ·exact .inr (.inl z)
      ·exact .inr (.inr z)
     obtain⟨m,hn,P⟩:=I.loc;obtain⟨u,Q,R⟩:=P k y v G g n;refine⟨u,Q,.inr ⟨?_,?_⟩⟩
     ·exact kR a
     ·rcases R with⟨z,_⟩ | ⟨_,c,hc,hcv⟩
      ·rcases l with w |w <;> rw[show X.env.kindOf y=_ from w] at z <;> cases z
      ·obtain⟨T,r⟩:=J (y,.free) (fm a) rfl
       have:=h1 y T r;rw[hc] at this;cases this;exact⟨c,r,hcv.keeps V⟩
 ·obtain⟨v,q⟩:=I.cell y c (h1 y c e)
  exact⟨v,q.keeps V⟩
 ·have E:p∈[(s2.heap.objs.size,lobj [])]:=E
  rw[dm.mp E];exact⟨L,I.hok.fresh (bj _),db (e9 _),d _ (bj _),λv z=>by cases z⟩
 ·simp[o8,t]
def vW{f:St}{V:Shared}{h':Heap}(I:Inv X pins σ H2 s2)(j:∀b∈fp,cT X pins H2 b)(k:∀b∈fp,∃o,s2.heap.get? b=↑o)(J:Inv (o8 X xs N' sc cl (s2.heap.objs.size+1) s2 H2 fp) [(s2.heap.objs.size,lobj vs)] f H' V)(l:aG ys vs)(m:ys.length<=sizeLine)(a:Heap.SameBut (s2.heap.objs.size+1) V.heap h') :
  Inv X pins σ (aO H' s2.heap.objs.size (.lst ys)) { V with heap:=h' }:=by
 have i:=J.pin (s2.heap.objs.size,lobj vs) (b7 _ bh);have Y:H' s2.heap.objs.size=none:=i.2.1;have Z:H' (s2.heap.objs.size+1)=none:=J.free;have S:Un (dJ X.stack) fp H2 H' s2.heap V.heap:=J.base;have d:∀b o,s2.heap.get? b=↑o->b≠s2.heap.objs.size/\b≠s2.heap.objs.size+1:=λb o e=>by
  have:=bw e;exact⟨db this,db (i6 this)⟩
 have p:∀b,s2.heap.objs.size<=b->H2 b=none:=λb D=>I.hok.fresh D;have g:∀b o,H2 b=↑o->b≠s2.heap.objs.size:=λb o e z=>by rw[z,p _ (bj _)] at e;cases e
 have r:Un (dJ X.stack) fp H2 (aO H' s2.heap.objs.size (.lst ys)) s2.heap h':=by
  refine⟨λb o e n D U=>(a.2 b (d b o e).2).trans (S.keep b o e n D U),λb o e n D U=>?_,λb o e n U=>?_,λb o e U=>?_,λb xs e=>?_,λb o u e=>?_,λb ps e=>?_⟩
  ·obtain⟨sl,q⟩:=S.slot b o e n D U
   exact⟨sl,(a.2 b (d b o e).2).trans q⟩
  ·rw[i3 (d b o e).1];exact S.free b o e n U
  ·obtain⟨o',q⟩:=S.there b o e U
   exact⟨o',(a.2 b (d b o e).2).trans q⟩
  ·rw[i3 (g b _ e)];exact S.tups b xs e
  ·rw[i3 (g b _ e)];exact S.frzs b o u e
  ·rw[i3 (g b _ e)];exact S.tbls b ps e
 have kk:∀b u,b≠s2.heap.objs.size+1->V.heap.get? b=↑u->h'.get? b=↑u:=λb u D q=>(a.2 b D).trans q;have h:dL X.prog X.w (aO H' s2.heap.objs.size (.lst ys)) h':=λb u e=>by
  by_cases D:b=s2.heap.objs.size
  ·subst D
   rw[mv] at e;cases e;exact⟨m,vs,vs.length,l,kk _ _ (db (e9 _)) i.1⟩
  ·rw[i3 D] at e
   have s:b≠s2.heap.objs.size+1:=λz=>by rw[z,Z] at e;cases e
   refine(J.hok b u e).stay (λc v hc q=>kk c v ?_ q) (λc q=>?_) λc xs q=>?_
   ·rcases hc with rfl |hc
    ·exact s
    ·intro z;rw[z,Z] at hc;cases hc
   ·rw[i3 (λz=>by rw[z,Y] at q;cases q)];exact q
   ·rw[i3 (λz=>by rw[z,Y] at q;cases q)];exact q
 refine I.call' (s':={ V with heap:=h' }) (ch:=fp) J.os r h J.bare λb D=>?_;obtain⟨_,t,_,x,y,A⟩:=j b D;exact⟨x,t,y,A⟩
variable{J:It}{Q:VK}{W:Nat->Nat->Hp->fw->Prop}{Cm:Cx->Prop}{tg:Expr}{g:TG}{tt:TT}{te:TE}
theorem vX{it:Addr}{M:Nat->Heap->Prop}{m0:Nat}(hc:∀cl C s₂ H₂ fp pins σ,Inv X pins σ H₂ s₂->(∀b∈fp,cT X pins H₂ b)->Cm (o8 X xs N' sc cl C s₂ H₂ fp))(a6:∀cl C s₂ H₂ fp,Cm (o8 X xs N' sc cl C s₂ H₂ fp)->fG (o8 X xs N' sc cl C s₂ H₂ fp) ifs tt)(a7:∀cl C s₂ H₂ fp,Cm (o8 X xs N' sc cl C s₂ H₂ fp)->PE (o8 X xs N' sc cl C s₂ H₂ fp) elt te)(hg:∀cl C s₂ H₂ fp,Cm (o8 X xs N' sc cl C s₂ H₂ fp)->PG (o8 X xs N' sc cl C s₂ H₂ fp) tg g)(hN:N'=ix.map λi=>X.N.getD i ("" : Str))(hk:sc.kind=.function)(O:∀y∈sc.names,y.2≠.cell)(a5:∀y∈sc.names,y.2=.local->sc.names.lookup y.1=some .local)(P:∀y∈sc.names,y.2=.free->X.env.kindOf y.1=some .cell\/X.env.kindOf y.1=some .free)(a8:∀y∈N',sc.names.lookup y=some .free)(h1:∀y c,cl.lookup y=↑c->X.env.cells.lookup y=↑c)(h3:∀y∈sc.names,y.2=.free->∃c,cl.lookup y.1=↑c)(f:Inv X pins σ H2 s2)(T:wg Cm X.prog X.w X.K tg J fp it M)(am:M 0 s2.heap)(h:∀b∈fp,cT X pins H2 b)(w0:W 0 m0 H2 [])(turn:∀i m H ys,W i m H ys ->
   (J.stop i H/\ys.length<=sizeLine/\∀D,H D=none->Q (.ref D) (aO H D (.lst ys))) \/
   (J.go i H/\∀x H',J.yld i H x H'->∀σp:St,σp.length=xs.length->g x (σp++ix.map (λj=>σ.getD j none)) H' λk H1=>∃U:St,U.length=xs.length/\k=U++ix.map (λj=>σ.getD j none)/\tt k H1 λb H2 =>
     if b=true then te k H2 λv H3=>ys.length<sizeLine/\∃l,l<m/\W (i+1) l H3 (ys++[v]) else ∃l,l<m/\W (i+1) l H2 ys))(an:∀b o,s2.heap.get? b=↑o->h₁.get? b=↑o)(s:h₁.Ns (s2.heap.objs.size+1) m₁)(ao:h₁.get? s2.heap.objs.size=↑(lobj []))(hR:∀s5 E ys vs t,Inv (o8 X xs N' sc cl (s2.heap.objs.size+1) s2 H2 fp) [(s2.heap.objs.size,lobj vs)] t E s5->aG ys vs->ys.length<=sizeLine->(∀D,E D=none->Q (.ref D) (aO E D (.lst ys)))->R (.ok .next) s5) :
  codeAny (model X.prog X.w) X.A (.compStart (.ListComp elt [⟨tg,iter,ifs,0⟩] sc pos) 0 (.ref it) (.ref s2.heap.objs.size) (compEnvC sc cl (s2.heap.objs.size+1) X.env)) R { s2 with heap:=h₁,toks:=s2.toks+([]:List (Str×Value)).length }:=by
 have ap:∀b∈fp,∃o,s2.heap.get? b=↑o:=λb I=>by obtain⟨o,e,_⟩:=T.obj _ _ am b I;exact⟨o,e⟩
 have aa:∀b∈fp,b<s2.heap.objs.size:=λb I=>by obtain⟨o,e⟩:=ap b I;exact bw e
 have I3:=CM (xs:=xs) (tk:=s2.toks+([]:List (Str×Value)).length) hN hk O P a8 h1 h3 f h ap an s ao;have ar:M 0 h₁:=T.keep _ _ _ am λb I o e=>an b o e;generalize V:o8 X xs N' sc cl (s2.heap.objs.size+1) s2 H2 fp=X' at I3;have eP:X'.prog=X.prog:=by rw[<-V];rfl
 have eW:X'.w=X.w:=by rw[<-V];rfl
 have eK:X'.K=X.K:=by rw[<-V];rfl
 have eA:X'.A=X.A:=by rw[<-V];rfl
 have F:X'.env=compEnvC sc cl (s2.heap.objs.size+1) X.env:=by rw[<-V];rfl
 have eC:Cm X':=by rw[<-V];exact hc _ _ _ _ _ _ _ f h
 have ax:X'.pn=[]:=by rw[<-V];rfl
 have ab:X'.xe=λ_ _=>False:=by rw[<-V];rfl
 have a1:X'.fs=dJ X.stack:=by rw[<-V];rfl
 have a9:X'.ex=fp:=by rw[<-V];rfl
 have eS:X'.s₀=s2:=by rw[<-V];rfl
 have ba:∀b∈fp,b∉dJ X.stack:=λb I z=>by
  rcases cj.mp (f.stkSub b z) with e |z
  ·exact(h b I).2.1 e
  ·exact(h b I).2.2.1 z
 have a2:s2.heap.objs.size∉dJ X.stack:=λz=>by
  rcases cj.mp (f.stkSub _ z) with e |z
  ·exact absurd (e ▸ f.lt) (ie _)
  ·exact f.nofs (bj _) z
 have Y:∀ {H':Hp} {vs:ee},(∀b∈fp,H' b=none)->∀b∈fp,cT X' [(s2.heap.objs.size,lobj vs)] H' b:=λ{H' vs} hn b I=>by
  refine⟨hn b I,?_,?_,.inl (by rw[a9];exact I),λy c e=>?_,λp B=>?_⟩
  ·rw[F];exact db (i6 (aa b I))
  ·rw[a1];exact ba b I
  ·rw[F] at e;exact(h b I).2.2.2.2.1 y c (h1 y c e)
  ·rw[ax] at B
   rw[dm.mp (show p∈[(s2.heap.objs.size,lobj vs)] from B)];exact l9 (aa b I)
 have loop:∀S:Shared,S={ s2 with heap:=h₁,toks:=s2.toks+([]:List (Str×Value)).length } ->
   codeAny (model X.prog X.w) X.A (.compLoop (.ListComp elt [⟨tg,iter,ifs,0⟩] sc pos) 0 (.ref it) (.ref s2.heap.objs.size) (compEnvC sc cl (s2.heap.objs.size+1) X.env))
    (R) S:=by
  rintro S rfl;refine CK (λn s'=>∃i σp H' ys vs,σp.length=xs.length/\Inv X' [(s2.heap.objs.size,lobj vs)] (σp++ix.map (λj=>σ.getD j none)) H' s'/\aG ys vs/\M i s'.heap/\(∀b∈fp,H' b=none)/\W i n H' ys) ?_ m0
   ⟨0,xs.map (λ_=>none),H2,[],[],by simp,I3,.nil,ar,λb I=>(h b I).1,w0⟩
  rintro n s4 ⟨i,σp,E,ys,vs,hσp,I4,hv4,st4,fr4,w4⟩;rcases turn i n E ys w4 with⟨a3,hl,qn⟩ | ⟨go,step⟩
  ·have D:=T.done X' eP eW eK eC i _ s4 _ E (notedBy (model X.prog X.w) X.A (compEnvC sc cl (s2.heap.objs.size+1) X.env) λe s'=>R (.error e) s') I4 (Y fr4) st4 a3
   rw[eA] at D;refine aU D λr s5 Z=>?_;obtain⟨hr,I5⟩:=Z;subst hr;exact hR s5 E ys vs _ (V ▸ I5) hv4 hl qn
  ·have D:=T.item X' eP eW eK eC i _ s4 _ E (notedBy (model X.prog X.w) X.A (compEnvC sc cl (s2.heap.objs.size+1) X.env) λe s'=>R (.error e) s') I4 (Y fr4) st4 go
   rw[eA] at D;refine aU D λr s5 Z=>?_;obtain⟨u,hr,h5⟩:=Z;subst hr;have bb:wpAny (model X.prog X.w) X.A (letOwnedTupleGo tg (.ref it) u) (λ_ ag=>wpAny (model X.prog X.w) X.A (assign tg (compEnvC sc cl (s2.heap.objs.size+1) X.env) u) (λ_ s₂ =>
     wpAny (model X.prog X.w) X.A (forIn ifs true λc r=>if r=true then do let ok <-isTrue c (compEnvC sc cl (s2.heap.objs.size+1) X.env) (eval c (compEnvC sc cl (s2.heap.objs.size+1) X.env));pure (ForInStep.yield ok) else pure (ForInStep.yield r)) (λok S =>
      if ok=true then wpAny (model X.prog X.w) X.A (eval elt (compEnvC sc cl (s2.heap.objs.size+1) X.env)) (λx a4 =>
       wpAny (model X.prog X.w) X.A (call (.builtin "list.append") [.ref s2.heap.objs.size,x]) (λ_ G=>∃m,m<n/\∃i σp H' ys vs,σp.length=xs.length/\Inv X' [(s2.heap.objs.size,lobj vs)] (σp++ix.map (λj=>σ.getD j none)) H' G/\aG ys vs/\M i G.heap/\(∀b∈fp,H' b=none)/\W i m H' ys)
        (notedBy (model X.prog X.w) X.A (compEnvC sc cl (s2.heap.objs.size+1) X.env) λe s'=>R (.error e) s') a4)
       (notedBy (model X.prog X.w) X.A (compEnvC sc cl (s2.heap.objs.size+1) X.env) λe s'=>R (.error e) s') S
      else ∃m,m<n/\∃i σp H' ys vs,σp.length=xs.length/\Inv X' [(s2.heap.objs.size,lobj vs)] (σp++ix.map (λj=>σ.getD j none)) H' S/\aG ys vs/\M i S.heap/\(∀b∈fp,H' b=none)/\W i m H' ys)
      (notedBy (model X.prog X.w) X.A (compEnvC sc cl (s2.heap.objs.size+1) X.env) λe s'=>R (.error e) s') s₂)
     (notedBy (model X.prog X.w) X.A (compEnvC sc cl (s2.heap.objs.size+1) X.env) λe s'=>R (.error e) s') ag) (notedBy (model X.prog X.w) X.A (compEnvC sc cl (s2.heap.objs.size+1) X.env) λe s'=>R (.error e) s') s5:=by
    refine aU h5 λ_ s6 Z=>?_;obtain⟨z,H6,I6,r6,y6,al,bd⟩:=Z;have be:=I6.pinned (Y bd) (T.obj _ _ al);have q6:=step z H6 y6 σp hσp;have g6:=(V ▸ hg cl (s2.heap.objs.size+1) s2 H2 fp (hc _ _ _ _ _ _ _ f h):PG X' tg g) _ s6 _ H6 z u _ be r6 q6;rw[eP,eW,eA,F] at g6;refine lv g6 (λ_ s7 Z=>?_) (λe s' z=>by rw[ab] at z;exact z.elim);obtain⟨k,H7,I7,U,L,bf,q7⟩:=Z;subst bf;have t7:=(V ▸ a6 cl (s2.heap.objs.size+1) s2 H2 fp (hc _ _ _ _ _ _ _ f h):fG X' ifs tt) _ s7 _ H7 _ I7 q7;rw[eP,eW,eA,F] at t7;refine lv t7 (λb s8 Z=>?_) (λe s' z=>by rw[ab] at z;exact z.elim);obtain⟨H8,I8,q8⟩:=Z;have a:∀ {s':Shared} {H':Hp} {t:St},Inv X' ([(s2.heap.objs.size,lobj vs)]++yr fp s6.heap) t H' s'->M (i+1) s'.heap/\∀b∈fp,H' b=none:=λ{s' H' t} J'=>by
     refine⟨T.keep _ _ _ al λb I o e=>(J'.pin (b,o) (b7 _ (b7 _ (kL I e)))).1,λb I=>?_⟩;obtain⟨o,e,d⟩:=T.obj _ _ al b I;exact(J'.pin (b,o) (b7 _ (b7 _ (kL I e)))).2.1
    cases b with
    |false =>
      rw[bu ce] at q8 ⊢;obtain⟨l,hm,w8⟩:=q8;obtain⟨k1,k2⟩:=a I8;exact⟨l,hm,i+1,U,H8,ys,vs,L,I8.unpinned,hv4,k1,k2,w8⟩
    |true =>
      rw[az rfl] at q8 ⊢;have t8:=(V ▸ a7 cl (s2.heap.objs.size+1) s2 H2 fp (hc _ _ _ _ _ _ _ f h):PE X' elt te) _ s8 _ H8 _ I8 q8;rw[eP,eW,eA,F] at t8;refine lv t8 (λv s9 Z=>?_) (λe s' z=>by rw[ab] at z;exact z.elim);obtain⟨y,H9,I9,r9,bp,l,hm,w9⟩:=Z;have pD:=I9.pin (s2.heap.objs.size,lobj vs) (b7 _ (ek _ bh));obtain⟨k1,k2⟩:=a I9;have br:=hv4.length;refine append_at (D:=s2.heap.objs.size) (its:=vs.toArray) (n:=vs.length) pD.1 (λh' sb hD=>?_) (by rw[bi];lia);have bk:Inv X' [] (U++ix.map (λj=>σ.getD j none)) H9 s9:=I9.pins_of λp B=>nomatch B;have cne:∀y c,X'.env.cells.lookup y=↑c->c≠s2.heap.objs.size:=λy c e=>by
       rw[F] at e;obtain⟨v',q⟩:=f.cell y c (h1 y c e);exact db q.lt
      have bl:Inv X' [] (U++ix.map (λj=>σ.getD j none)) H9 { s9 with heap:=h' }:=bk.turned (t':=s9.toks) (it:=s2.heap.objs.size) (λb o I e=>(sb.2 b I).trans e) pD.2.1 (by rw[F];exact db (e9 _)) (.inr (by rw[eS];exact bj _)) cne (λp B=>by rw[ax] at B;exact nomatch B);have bm:Inv X' [(s2.heap.objs.size,lobj (vs++[v]))] (U++ix.map (λj=>σ.getD j none)) H9 { s9 with heap:=h' }:=bl.pins_of λp B=>by
       rw[dm.mp B];exact⟨hD.trans (congrArg some (CJ vs v)),pD.2.1,by rw[F];exact db (e9 _),by rw[a1];exact a2,λv' z'=>by cases z'⟩
      exact⟨l,hm,i+1,U,H9,ys++[y],vs++[v],L,bm,hv4.snoc r9,T.keep _ _ _ k1 (λb I o e=>(sb.2 b (db (aa b I))).trans e),k2,w9⟩
   exact bb
 exact codeAny_compStart_list (loop _ rfl) (T.self X.A 0 _ _ _ ar (loop _ rfl))
def vY(turn:∀i m H ys,W i m H ys ->
   (J.stop i H/\ys.length<=sizeLine/\∀D,H D=none->Q (.ref D) (aO H D (.lst ys))) \/
   (J.go i H/\∀x H',J.yld i H x H'->tt (↑x::ix.map (λj=>σ.getD j none)) H' λb H2 =>
     if b=true then te (↑x::ix.map (λj=>σ.getD j none)) H2 λv V=>ys.length<sizeLine/\∃I,I<m/\W (i+1) I V (ys++[v]) else ∃I,I<m/\W (i+1) I H2 ys)) :
  ∀i m H ys,W i m H ys ->
   (J.stop i H/\ys.length<=sizeLine/\∀D,H D=none->Q (.ref D) (aO H D (.lst ys))) \/
   (J.go i H/\∀v H',J.yld i H v H'->∀σp:St,σp.length=[x].length->ni 0 v (σp++ix.map (λj=>σ.getD j none)) H' λS H1=>∃U:St,U.length=[x].length/\S=U++ix.map (λj=>σ.getD j none)/\tt S H1 λb H2 =>
     if b=true then te S H2 λv V=>ys.length<sizeLine/\∃I,I<m/\W (i+1) I V (ys++[v]) else ∃I,I<m/\W (i+1) I H2 ys):=λi m H ys w=>(turn i m H ys w).imp id λq=>⟨q.1,λv H' y σp Y=>by
 obtain⟨a,rfl⟩:=List.length_eq_one_iff.mp Y;exact⟨[↑v],rfl,rfl,q.2 v H' y⟩⟩
variable{C:Addr}{s₂:Shared}{H₂:Hp}{px:Pos}
def vZ(D:(x::N').Nodup)(I:sc.names.lookup x=some .local):PG (o8 X [x] N' sc cl C s₂ H₂ fp) (.Name x px) (ni 0) :=
 ot (i:=0) D rfl (.inl (ph I)) (.inr (ph I))
variable{h:Heap}
def Heap.SameBut.rf(e:∃o,h.get? a=↑o):Heap.SameBut a h h:=by
 first |exact⟨rfl,λ_ _=>rfl⟩ |exact⟨e,λ_ _=>rfl⟩
structure pG (X:Cx) (x:Str) (N':ed) (ix:em) (sc:Scope):Prop where
 nm:N'=ix.map λi=>X.N.getD i ("" : Str)
 nd:(x::N').Nodup
 kind:sc.kind=.function
 hx:sc.names.lookup x=some .local
 cell:∀y∈sc.names,y.2≠.cell
 names:∀y∈sc.names,y.2=.local->sc.names.lookup y.1=some .local
 free:∀y∈sc.names,y.2=.free->X.env.kindOf y.1=some .cell\/X.env.kindOf y.1=some .free
 fv:∀y∈N',sc.names.lookup y=some .free
variable{wi:TI}
def pH(c:pG X x N' ix sc)(r:∀cl C s₂ H₂ fp pins σ,Inv X pins σ H₂ s₂->(∀b∈fp,cT X pins H₂ b)->Cm (lq X x N' sc cl C s₂ H₂ fp))(hi:gN Cm X (.Name x px) iter wi)(Z:∀cl C s₂ H₂ fp,Cm (lq X x N' sc cl C s₂ H₂ fp)->fG (lq X x N' sc cl C s₂ H₂ fp) ifs tt)(a:∀cl C s₂ H₂ fp,Cm (lq X x N' sc cl C s₂ H₂ fp)->PE (lq X x N' sc cl C s₂ H₂ fp) elt te)(t:∀v,foldedSetIterable iter X.env v=pure v:=by intro _;rfl) :
  PE X (.ListComp elt [⟨.Name x px,iter,ifs,0⟩] sc pos) (uu wi ix tt te):=by
 intro pins s σ H Q I h;obtain⟨cl,d,h1,u⟩:=vV (sc:=sc) (env:=X.env) (λy f w=>I.ok.has y.1 (c.free y f w));rw[eval_ListComp];refine wpAny_comprehension_free (use:=none) rfl t d c.kind c.names (aU (hi pins s σ H _ I h) λv N z=>aU z λA s2 h2=>?_);obtain⟨it,fp,O,J,H2,rfl,p,T,U,q,W,⟨P,B⟩,turn⟩:=h2;refine u8 (wpAny_newFunctionEnv c.cell (by intro y f;simp at f) (λh₁ S D=>?_) c.kind);dsimp only at S D ⊢;have V:(s2.heap.push { cls:=.type "list",dict:=none,data:=.seq ([]:ee).toArray }).objs.size=s2.heap.objs.size+1:=l3 ..;rw[V] at S D ⊢;have i:∀b o,s2.heap.get? b=↑o->h₁.get? b=↑o:=λb o e=>D.extBut b o (db (i6 (bw e))) (bc _ (bc _ e));have Y:h₁.get? s2.heap.objs.size=↑(lobj []):=D.extBut _ _ (db (e9 _)) (bc _ (cg _ rfl));have j:∀b∈fp,∃o,s2.heap.get? b=↑o:=λb E=>by obtain⟨o,e,_⟩:=T.obj _ _ U b E;exact⟨o,e⟩
 refine vX (xs:=[x]) (g:=ni 0) r Z a (λ_ _ _ _ _ _=>vZ c.nd c.hx) c.nm c.kind c.cell c.names c.free c.fv h1 u p T U q B (vY turn) i S Y λR H4 ys vs F k l G K=>?_;obtain⟨L,m,_⟩:=k.loc;refine⟨L,m,λh' M=>?_⟩;have n:=(k.pin (s2.heap.objs.size,lobj vs) (b7 _ bh)).2.1;exact⟨.ref s2.heap.objs.size,_,vW (xs:=[x]) p q j k l G M,rfl,K _ n⟩
variable{i:Nat}
def v_{Z spos:Pos}(c:pG X x N' ix sc)(hc:∀cl C s₂ H₂ fp pins σ,Inv X pins σ H₂ s₂->(∀b∈fp,cT X pins H₂ b)->Cm (lq X x N' sc cl C s₂ H₂ fp))(q:X.N.Nodup)(r:X.N[i]?=↑y)(t:Loc X.env.scope y)(hi:gN Cm X (.Name x px) iter wi)(u:∀cl C s₂ H₂ fp,Cm (lq X x N' sc cl C s₂ H₂ fp)->fG (lq X x N' sc cl C s₂ H₂ fp) ifs tt)(w:∀cl C s₂ H₂ fp,Cm (lq X x N' sc cl C s₂ H₂ fp)->PE (lq X x N' sc cl C s₂ H₂ fp) elt te)(B:swapsWith (.ListComp elt [⟨.Name x px,iter,ifs,0⟩] sc pos) ↑(.Name y Z) spos.line X.env=pure true)(E:X.fn y=true\/X.env.scope.names.lookup y=some .local:=by first |exact .inl rfl |exact .inr rfl |assumption)(hs:∀v,foldedSetIterable iter X.env v=pure v:=by intro _;rfl) :
  PS X (.Assign [.Name y Z] (.ListComp elt [⟨.Name x px,iter,ifs,0⟩] sc pos) spos) (dX (uu wi ix tt te) (ni i)):=by
 intro pins s σ H Dn I h;have h:uu wi ix tt te σ H λv H1=>Dn.nx (σ.set i ↑v) H1:=h;obtain⟨cl,F,h1,h3⟩:=vV (sc:=sc) (env:=X.env) (λy G E=>I.ok.has y.1 (c.free y G E));rw[exec_Assign_Name_used _ _ _ _ B];refine cr (rq (cr ?_));show wpAny _ X.A (do let _ <-comprehension (.ListComp elt [⟨.Name x px,iter,ifs,0⟩] sc pos) sc X.env _ (newList []) false (eval iter X.env) ↑(assign (.Name y Z) X.env)) _ _ s;refine cr (lv (wpAny_comprehension_free (use:=↑(assign (.Name y Z) X.env)) (Q:=λ_ s'=>SP X pins Dn .next s') rfl hs F c.kind c.names
  (aU (hi pins s σ H _ I h) λv s1 g1=>aU g1 λab s2 h2=>?_)) (λ_ s' hq=>ft (ft hq)) λ_ _ e=>e)
 obtain⟨it,fp,tn,J,H2,rfl,Y,T,d,f2,W,⟨m0,w0⟩,turn⟩:=h2;refine u8 (wpAny_newFunctionEnv c.cell (by intro y G;simp at G) (λh₁ S D=>?_) c.kind);dsimp only at S D ⊢;have f:(s2.heap.push { cls:=.type "list",dict:=none,data:=.seq ([]:ee).toArray }).objs.size=s2.heap.objs.size+1:=l3 ..;rw[f] at S D ⊢;have K:∀b o,s2.heap.get? b=↑o->h₁.get? b=↑o:=λb o e=>D.extBut b o (db (i6 (bw e))) (bc _ (bc _ e));have j:h₁.get? s2.heap.objs.size=↑(lobj []):=D.extBut _ _ (db (e9 _)) (bc _ (cg _ rfl));have L:∀b∈fp,∃o,s2.heap.get? b=↑o:=λb M=>by obtain⟨o,e,_⟩:=T.obj _ _ d b M;exact⟨o,e⟩
 refine vX (xs:=[x]) (g:=ni 0) (Q:=λv H1=>Dn.nx (σ.set i ↑v) H1) hc u w (λ_ _ _ _ _ _=>vZ c.nd c.hx) c.nm c.kind c.cell c.names c.free c.fv h1 h3 Y T d f2 w0 (vY (Q:=λv H1=>Dn.nx (σ.set i ↑v) H1) turn) K S j λk H4 ys vs ag l O hl qn=>?_;obtain⟨m5,U,_⟩:=l.loc;have U:k.heap.Ns (s2.heap.objs.size+1) m5:=U;have P:=(l.pin (s2.heap.objs.size,lobj vs) (b7 _ bh)).2.1;have oC:∃o,k.heap.get? (s2.heap.objs.size+1)=↑o:=let ⟨o,_,_,e,_⟩:=U;⟨o,e⟩;have I6:Inv X pins σ (aO H4 s2.heap.objs.size (.lst ys)) { k with heap:=k.heap }:=vW (xs:=[x]) Y f2 L l O hl (Heap.SameBut.rf oC);show wpAny _ X.A (assign (.Name y Z) X.env (.ref s2.heap.objs.size)) _ _ k;have HC:aO H4 s2.heap.objs.size (.lst ys) (s2.heap.objs.size+1)=none:=by rw[i3 (l9 (e9 _))];exact l.free
 have V:∀a o,s2.heap.get? a=↑o->s2.heap.objs.size+1≠a:=λa o e=>l9 (i6 (bw e));have oL:∃o,s2.heap.get? X.env.locals=↑o:=let ⟨m,hn,_⟩:=Y.loc;let ⟨o,_,_,e,_⟩:=hn;⟨o,e⟩;have cL:s2.heap.objs.size+1≠X.env.locals:=let ⟨o,e⟩:=oL;V _ o e;have cC:∀z n,X.env.cells.lookup z=↑n->n≠s2.heap.objs.size+1:=λz n e=>by
  obtain⟨v',o,e',_⟩:=Y.cell z n e;exact Ne.symm (V _ o e')
 refine wpAny_assign_Name (uP (v:=.ref s2.heap.objs.size) I6 q r t rfl (λs7 I7 zq=>?_) E);obtain⟨a,sb,ha⟩:=zq;have R:s2.heap.objs.size+1≠a:=by
  rcases ha with rfl |ha
  ·exact cL
  ·exact Ne.symm (cC _ _ ha)
 refine⟨m5,U.sameBut sb R,λh' aa=>?_⟩;refine⟨_,_,I7.turned (t':=s7.toks) (it:=s2.heap.objs.size+1) (λb o M e=>(aa.2 b M).trans e) HC cL (.inr ?_) cC (λp hp=>?_),qn _ P⟩
 ·exact pv Y.sz
 ·exact Ne.symm (V _ _ (Y.pin p hp).1)
structure Ir (X:Cx) (xs N':ed) (ix:em) (sc:Scope):Prop where
 nm:N'=ix.map λi=>X.N.getD i ("" : Str)
 nd:(xs++N').Nodup
 kind:sc.kind=.function
 hx:∀y∈xs,sc.names.lookup y=some .local
 cell:∀y∈sc.names,y.2≠.cell
 names:∀y∈sc.names,y.2=.local->sc.names.lookup y.1=some .local
 free:∀y∈sc.names,y.2=.free->X.env.kindOf y.1=some .cell\/X.env.kindOf y.1=some .free
 fv:∀y∈N',sc.names.lookup y=some .free
inductive D where
 |non |bl (b:Bool) |int (i:Int) |str (s:Str) |tup (ds:List D) |lst (ds:List D)
 |dct (ks:ep) (ds:List D)
 |exc (a:Addr)
abbrev f0:=List D
abbrev f4:=Option D
inductive Im where
 |t (vs:fw) |d (kvs:List (eR×V))
@[reducible] noncomputable def Im.out:Im->HO | .t vs=>.tup vs | .d kvs=>.dK kvs
def CN(ks:ep)(vs:fw):List (eR×V):=ks.zipWith (λk v=>(Sum.inl k,v)) vs
def KL(K:fc)(a:Addr)(xs:fw):Prop :=
 ∃(o:Obj) (its:fk) (n:Nat),K.lookup a=↑o/\o.cls=.type "list"/\o.dict=none/\o.data=.seq its n/\its.size<=sizeLine/\aG xs its.toList
mutual
inductive aN (K:fc) (H:Hp) (O:Addr->Prop):D->V->Prop
 |non:aN K H O .non .non
 |bl (b:Bool):aN K H O (.bl b) (.bl b)
 |int (i:Int):aN K H O ↥i ↥i
 |str (s:Str):aN K H O (.str s) (.str s)
 |tup {a:Addr} {vs:fw} {ds:f0}:H a=↑(.tup vs)->aC K H O ds vs->aN K H O (.tup ds) (.ref a)
 |lst {a:Addr} {vs:fw} {ds:f0}:O a->Rd H a (.lst vs)->aC K H O ds vs->aN K H O (.lst ds) (.ref a)
 |klst {a:Addr} {vs:fw} {ds:f0}:KL K a vs->aC K H O ds vs->aN K H O (.lst ds) (.ref a)
 |dct {a:Addr} {ks:ep} {vs:fw} {ds:f0}:H a=↑(.dK (CN ks vs))->aC K H O ds vs->aN K H O (.dct ks ds) (.ref a)
 |exc (a:Addr):aN K H O (.exc a) (.ref a)
inductive aC (K:fc) (H:Hp) (O:Addr->Prop):f0->fw->Prop
 |nil:aC K H O [] []
 |cons {d:D} {v:V} {ds:f0} {vs:fw}:aN K H O d v->aC K H O ds vs->aC K H O (d::ds) (v::vs)
end
variable{vs:fw}{ds:f0}{O:Addr->Prop}
def aC.ind{P:f0->fw->Prop}(n:P [] [])(c:∀ {d v ds vs},aN K H O d v->aC K H O ds vs->P ds vs->P (d::ds) (v::vs)):aC K H O ds vs->P ds vs :=
 aC.rec (motive_1:=λ_ _ _=>True) (motive_2:=λds vs _=>P ds vs) ⟨⟩ (λ_=>⟨⟩) (λ_=>⟨⟩) (λ_=>⟨⟩) (λ_ _ _=>⟨⟩) (λ_ _ _ _=>⟨⟩) (λ_ _ _=>⟨⟩) (λ_ _ _=>⟨⟩) (λ_=>⟨⟩) n λr t _=>c r t
variable{v:V}{O':Addr->Prop}
def aN.mono(D:∀a (u:Im),H a=↑u.out->H' a=↑u.out)(I:∀a vs,O a->Rd H a (.lst vs)->O' a/\Rd H' a (.lst vs)):aN K H O d v->aN K H' O' d v :=
 aN.rec (motive_1:=λd v _=>aN K H' O' d v) (motive_2:=λds vs _=>aC K H' O' ds vs) .non .bl .int .str (λh _=>.tup (D _ (.t _) h)) (λo h _=>.lst (I _ _ o h).1 (I _ _ o h).2) (λh _=>.klst h) (λh _=>.dct (D _ (.d _) h)) .exc .nil λ_ _=>.cons
def aC.mono(I:∀a (u:Im),H a=↑u.out->H' a=↑u.out)(S:∀a vs,O a->Rd H a (.lst vs)->O' a/\Rd H' a (.lst vs)){ds:f0}{vs:fw}:aC K H O ds vs->aC K H' O' ds vs:=aC.ind .nil λr _=>.cons (r.mono I S)
def aC.length{ds:f0}{vs:fw}:aC K H O ds vs->ds.length=vs.length:=aC.ind (P:=λds vs=>ds.length=vs.length) rfl λ_ _=>congrArg Nat.succ
def aC.get(h:aC K H O ds vs):ds[i]?=↑d->∃v,vs[i]?=↑v/\aN K H O d v :=
 aC.ind (P:=λds vs=>∀ {i:Nat},ds[i]?=↑d->∃v,vs[i]?=↑v/\aN K H O d v) nofun (λr _ q i e=>match i with
  |0=>⟨_,rfl,bn e ▸ r⟩ |i+1=>q (i:=i) e) h
def aC.append{es:f0}{ws:fw}(h:aC K H O ds vs)(s:aC K H O es ws):aC K H O (ds++es) (vs++ws):=aC.ind (P:=λds vs=>aC K H O (ds++es) (vs++ws)) s (λr _=>.cons r) h
def aC.take{ds:f0}{vs:fw}(n:Nat)(h:aC K H O ds vs):aC K H O (ds.take n) (vs.take n) :=
 aC.ind (P:=λds vs=>∀n,aC K H O (ds.take n) (vs.take n)) (λn=>by cases n <;> exact .nil) (λr _ q n=>by cases n;exact .nil;exact .cons r (q _)) h n
def aC.drop{ds:f0}{vs:fw}(n:Nat)(h:aC K H O ds vs):aC K H O (ds.drop n) (vs.drop n) :=
 aC.ind (P:=λds vs=>∀n,aC K H O (ds.drop n) (vs.drop n)) (λn=>by cases n <;> exact .nil) (λr t q n=>by cases n;exact .cons r t;exact q _) h n
def aC.set{d:D}{v:V}(r:aN K H O d v){ds:f0}{vs:fw}(i:Nat)(h:aC K H O ds vs):aC K H O (ds.set i d) (vs.set i v) :=
 aC.ind (P:=λds vs=>∀i,aC K H O (ds.set i d) (vs.set i v)) (λ_=>.nil) (λp t q n=>by cases n;exact .cons r t;exact .cons p (q _)) h i
def aC.eraseIdx{ds:f0}{vs:fw}(i:Nat)(h:aC K H O ds vs):aC K H O (ds.eraseIdx i) (vs.eraseIdx i) :=
 aC.ind (P:=λds vs=>∀i,aC K H O (ds.eraseIdx i) (vs.eraseIdx i)) (λ_=>.nil) (λp t q n=>by cases n;exact t;exact .cons p (q _)) h i
def aC.dropLast(h:aC K H O ds vs):aC K H O ds.dropLast vs.dropLast:=by
 rw[List.dropLast_eq_take,List.dropLast_eq_take,h.length];exact h.take _
def aN.int_{i:Int}(h:aN K H O ↥i v):v=.int i:=by cases h;rfl
def aN.bl_{i:Bool}(h:aN K H O (.bl i) v):v=.bl i:=by cases h;rfl
def aN.str_{i:Str}(h:aN K H O (.str i) v):v=.str i:=by cases h;rfl
def aN.non_(h:aN K H O .non v):v=.non:=by cases h;rfl
def aN.tup_(h:aN K H O (.tup ds) v):∃a vs,v=.ref a/\H a=↑(.tup vs)/\aC K H O ds vs:=by cases h with |tup a b=>exact⟨_,_,rfl,a,b⟩
def fH(K:fc)(H:Hp)(O:Addr->Prop)(a:Addr)(vs:fw):Prop:=(O a/\Rd H a (.lst vs))\/KL K a vs
def fH.sq(h:fH K H O a vs):cN K H a vs:=h.elim (λz=>.inl z.2) .inr
def aN.lst_(h:aN K H O (.lst ds) v):∃a vs,v=.ref a/\fH K H O a vs/\aC K H O ds vs:=by
 cases h with
 |lst o a b=>exact⟨_,_,rfl,.inl ⟨o,a⟩,b⟩ |klst a b=>exact⟨_,_,rfl,.inr a,b⟩
inductive Mo where
 |l (vs:fw) |i (C dx:Addr) (fs:List (Str×V))
@[reducible] noncomputable def Mo.out:Mo->HO | .l vs=>.lst vs | .i C dx fs=>.ins C dx fs
inductive Pt where
 |d (d:D) |o (ds:f0)
abbrev f5:=List Pt
inductive AK where
 |ls |ins (b:Bool) (c:Str) (fs:ed)
inductive Sl where
 |sh (d:D) |ow (ds:f0) |o2 (dss:List f0) |ag (k:AK) (r:Option Nat) (ps:f5) |al (r j:Nat) |ro (k:AK) (ps:f5)
abbrev gj:=Option Sl
structure Gd where
 g:Addr->Prop
 r:Nat->el
instance:CoeFun Gd (λ_=>Addr->Prop):=⟨Gd.g⟩
abbrev gd(g:Addr->Prop):Gd:=⟨g,λ_=>[]⟩
abbrev aJ:=List gj
def Ow(G:Gd)(W:Addr->Prop):Addr->Prop:=λa=>G a/\¬W a
def pI(K:fc)(G:Gd)(W:Addr->Prop)(H:Hp)(dss:List f0)(ls:el):Prop :=
 ls.length=dss.length/\∀(j:Nat) (ds:f0) (a:Addr),dss[j]?=↑ds->ls[j]?=↑a->W a/\∃vs,H a=↑(.lst vs)/\aC K H (Ow G W) ds vs
inductive aP (K:fc) (G:Gd) (W:Addr->Prop) (H:Hp):f5->el->fw->Prop
 |nil:aP K G W H [] [] []
 |d {d:D} {v:V} {ps:f5} {as:el} {us:fw}:aN K H (Ow G W) d v->aP K G W H ps as us->aP K G W H (.d d::ps) as (v::us)
 |o {ds:f0} {a:Addr} {vs:fw} {ps:f5} {as:el} {us:fw}:W a->H a=↑(.lst vs)->aC K H (Ow G W) ds vs->aP K G W H ps as us->aP K G W H (.o ds::ps) (a::as) (.ref a::us)
inductive aR (K:fc) (G:Gd) (W:Addr->Prop) (H:Hp):f5->fw->Prop
 |nil:aR K G W H [] []
 |d {d:D} {v:V} {ps:f5} {us:fw}:aN K H (Ow G W) d v->aR K G W H ps us->aR K G W H (.d d::ps) (v::us)
 |o {ds:f0} {a:Addr} {vs:fw} {ps:f5} {us:fw}:¬W a->H a=↑(.lst vs)->aC K H (Ow G W) ds vs->aR K G W H ps us->aR K G W H (.o ds::ps) (.ref a::us)
def cP(K:fc)(H:Hp):AK->Addr->fw->Prop
 | .ls,p,us=>H p=↑(.lst us) | .ins _ c fs,p,us=>∃C dx,PySem.W.nsIn K mainGlobals c=↑↑(.ref C)/\H p=↑(.ins C dx (fs.zip us))/\fs.length=us.length
def gU:AK->el->Addr->el->Prop
 | .ins true _ _,l,p,_=>l=[p]
 |_,l,p,as=>l=p::as
inductive jQ (K:fc) (G:Gd) (W:Addr->Prop) (H:Hp) (ds:f0) (v:V):Prop
 |mk (l:Addr) (vs:fw) (e:v=.ref l) (w:W l) (h:H l=↑(.lst vs)) (r:aC K H (Ow G W) ds vs):jQ K G W H ds v
inductive jR (K:fc) (G:Gd) (W:Addr->Prop) (H:Hp) (dss:List f0) (v:V):Prop
 |mk (l:Addr) (ls:el) (e:v=.ref l) (w:W l) (h:H l=↑(.lst (ls.map V.ref))) (n:(l::ls).Nodup) (r:pI K G W H dss ls):jR K G W H dss v
inductive jS (K:fc) (G:Gd) (W:Addr->Prop) (H:Hp) (k:AK) (r:Option Nat) (ps:f5) (v:V):Prop
 |mk (p:Addr) (as:el) (us:fw) (e:v=.ref p) (w:W p) (n:(p::as).Nodup) (l:∀n,r=↑n->gU k (G.r n) p as) (h:cP K H k p us) (q:aP K G W H ps as us):jS K G W H k r ps v
def cR(K:fc)(G:Gd)(W:Addr->Prop)(H:Hp):Sl->V->Prop
 | .sh d,v=>aN K H (Ow G W) d v | .ow ds,v=>jQ K G W H ds v | .o2 dss,v=>jR K G W H dss v | .ag k r ps,v=>jS K G W H k r ps v | .al r j,v=>∃p as a,G.r r=p::as/\as[j]?=↑a/\v=.ref a | .ro k ps,v=>∃(p:Addr) (us:fw),v=.ref p/\¬W p/\cP K H k p us/\aR K G W H ps us
def kS:f5->fw->Addr->Prop:=λps us a=>∃(j:Nat) (ds:f0),ps[j]?=↑(.o ds)/\us[j]?=↑(.ref a)
def pJ(H:Hp):AK->Addr->fw->Prop
 | .ls,p,us=>H p=↑(.lst us) | .ins _ _ fs,p,us=>fs.length=us.length/\∃C dx,H p=↑(.ins C dx (fs.zip us))
def aX(H:Hp):Sl->V->Addr->Prop
 | .sh _,_,_=>False | .ow _,v,a=>v=.ref a | .o2 _,v,a=>v=.ref a\/∃(l:Addr) (ls:el),v=.ref l/\H l=↑(.lst (ls.map V.ref))/\a∈ls
 | .ag k _ ps,v,a=>v=.ref a\/∃(p:Addr) (us:fw),v=.ref p/\pJ H k p us/\kS ps us a | .al _ _,_,_=>False | .ro _ _,_,_=>False
structure Ok (K:fc) (G:Gd) (H0:Hp) (W:Addr->Prop) (env:aJ) (σ:St) (H:Hp):Prop where
 stay:aS H0 H
 good:∀a,H0 a=none->G a
 wl:∀l,W l->H0 l=none/\∃m:Mo,H l=↑m.out
 slot:∀(i:Nat) (s:Sl),env[i]?=↑↑s->∃v,σ[i]?=↑↑v/\cR K G W H s v
 uniq:∀(i j:Nat) (s s':Sl) (v v':V) (a:Addr),env[i]?=↑↑s->env[j]?=↑↑s'->σ[i]?=↑↑v->σ[j]?=↑↑v'->aX H s v a->aX H s' v' a->i=j
 len:env.length=σ.length
variable{ls:el}
def za{D:el}(h:ls.map V.ref=D.map V.ref):ls=D:=by
 induction ls generalizing D with
 |nil=>cases D with |nil=>rfl |cons b r=>cases h
 |cons a t ih=>cases D with |nil=>cases h |cons b r=>simp[List.cons.injEq,V.ref.injEq] at h;rw[h.1,ih h.2]
variable{W:Addr->Prop}{G:Gd}{ps:f5}{as:el}{us:fw}
def aP.own(h:aP K G W H ps as us)(ha:a∈as):W a/\∃vs,H a=↑(.lst vs):=by
 induction h with
 |nil=>cases ha
 |d _ _ ih=>exact ih ha |o hW hl _ _ ih =>
   rcases cj.mp ha with rfl |ha
   ·exact⟨hW,_,hl⟩
   ·exact ih ha
def aP.parts_iff(h:aP K G W H ps as us):kS ps us a↔a∈as:=by
 induction h with
 |nil=>exact⟨λ⟨j,ds,e,_⟩=>by simp at e,λz=>by cases z⟩
 |d _ _ ih =>
   rw[<-ih];constructor
   ·rintro⟨j,ds,I,D⟩
    cases j with
    |zero=>simp at I |succ j=>exact⟨j,ds,by simpa using I,by simpa using D⟩
   ·rintro⟨j,ds,I,D⟩
    exact⟨j+1,ds,by simpa using I,by simpa using D⟩
 |o _ _ _ _ ih =>
   rw[cj,<-ih];constructor
   ·rintro⟨j,ds,I,D⟩
    cases j with
    |zero=>simp at D;exact .inl D.symm |succ j=>exact .inr ⟨j,ds,by simpa using I,by simpa using D⟩
   ·rintro(rfl | ⟨j,ds,I,D⟩)
    ·exact⟨0,_,rfl,rfl⟩
    ·exact⟨j+1,ds,by simpa using I,by simpa using D⟩
variable{G':Gd}{W':Addr->Prop}
def aP.step(h:aP K G W H ps as us)(k:∀a vs,a∈as->H a=↑(.lst vs)->W' a/\H' a=↑(.lst vs))(r:∀d v,aN K H (Ow G W) d v->aN K H' (Ow G' W') d v)(D:∀ds vs,aC K H (Ow G W) ds vs->aC K H' (Ow G' W') ds vs):aP K G' W' H' ps as us:=by
 induction h with
 |nil=>exact .nil |d q _ ih=>exact .d (r _ _ q) (ih k) |o hW hl q _ ih =>
   obtain⟨I,S⟩:=k _ _ bh hl;exact .o I S (D _ _ q) (ih λa vs U=>k a vs (av _ U))
def aR.step(h:aR K G W H ps us)(k:∀a vs,¬W a->H a=↑(.lst vs)->¬W' a/\H' a=↑(.lst vs))(r:∀d v,aN K H (Ow G W) d v->aN K H' (Ow G' W') d v)(D:∀ds vs,aC K H (Ow G W) ds vs->aC K H' (Ow G' W') ds vs):aR K G' W' H' ps us:=by
 induction h with
 |nil=>exact .nil |d q _ ih=>exact .d (r _ _ q) ih |o hW hl q _ ih=>obtain⟨I,S⟩:=k _ _ hW hl;exact .o I S (D _ _ q) ih
variable{j:Nat}
def aR.get(h:aR K G W H ps us)(e:ps[j]?=↑(.o ds)):∃a vs,us[j]?=↑(.ref a)/\¬W a/\H a=↑(.lst vs)/\aC K H (Ow G W) ds vs:=by
 induction h generalizing j with
 |nil=>simp at e |d _ _ ih =>
   cases j with
   |zero=>simp at e |succ j=>obtain⟨a,vs,h1,h2⟩:=ih (j:=j) (by simpa using e);exact⟨a,vs,by simpa using h1,h2⟩
 | @o _ a vs _ _ hW hl r _ ih =>
   cases j with
   |zero=>simp at e;subst e;exact⟨a,vs,rfl,hW,hl,r⟩ |succ j=>obtain⟨a,vs,h1,h2⟩:=ih (j:=j) (by simpa using e);exact⟨a,vs,by simpa using h1,h2⟩
def aR.getD(h:aR K G W H ps us)(e:ps[j]?=↑(.d d)):∃v,us[j]?=↑v/\aN K H (Ow G W) d v:=by
 induction h generalizing j with
 |nil=>simp at e |d q _ ih =>
   cases j with
   |zero=>simp at e;subst e;exact⟨_,rfl,q⟩ |succ j=>obtain⟨a,h1,h2⟩:=ih (j:=j) (by simpa using e);exact⟨a,by simpa using h1,h2⟩
 |o _ _ _ _ ih =>
   cases j with
   |zero=>simp at e |succ j=>obtain⟨a,h1,h2⟩:=ih (j:=j) (by simpa using e);exact⟨a,by simpa using h1,h2⟩
variable{k:AK}{p:Addr}
theorem vk{D:fw}(h:cP K H k p us)(h':pJ H k p D):D=us:=by
 cases k with
 |ls=>have h:H p=_:=h;have h':H p=_:=h';rw[h] at h';cases h';rfl
 |ins b c fs =>
   obtain⟨C,dx,_,I,U⟩:=h;obtain⟨Y,Z,S,e⟩:=h';rw[I] at e;have e:fs.zip us=fs.zip D:=by injection e with e;injection e
   have:=congrArg (List.map Prod.snd) e;rw[qt ∅,qt ∅] at this;exact this.symm
protected def cP.o{K:fc}{H:Hp}{k:AK}{p:Addr}{us:fw}(h:cP K H k p us):pJ H k p us:=by
 cases k with
 |ls=>exact h |ins b c fs=>obtain⟨C,dx,_,D,I⟩:=h;exact⟨I,C,dx,D⟩
def cP.mo(h:cP K H k p us):∃m:Mo,H p=↑m.out/\∀H',H' p=↑m.out->cP K H' k p us:=by
 cases k with
 |ls=>exact⟨.l us,h,λH' e=>e⟩ |ins b c fs=>obtain⟨C,dx,D,I,S⟩:=h;exact⟨.i C dx (fs.zip us),I,λH' e=>⟨C,dx,D,e,S⟩⟩
def cR.owns(h:cR K G W H s v)(o:aX H s v a):W a:=by
 cases s with
 |sh d=>exact o.elim |ow ds=>obtain⟨l,vs,e,D,_⟩:=h;rw[show v=.ref a from o] at e;cases e;exact D
 |o2 dss =>
   obtain⟨l,ls,e,D,V,Y,hi⟩:=h;rcases o with o | ⟨l',ls',e',hl',ha⟩
   ·rw[o] at e;cases e;exact D
   ·rw[e] at e';cases e'
    rw[V] at hl';have:=za (by simpa using hl');subst this;obtain⟨j,S,Z⟩:=nv ha;have I:j<dss.length:=by rw[<-hi.1];exact S
    exact(hi.2 j dss[j] a (by simp[I]) (by simp[S,Z])).1
 |ag k r ps =>
   obtain⟨p,as,us,e,D,Y,c,b,U⟩:=h;rcases o with o | ⟨p',us',e',hk',ha⟩
   ·rw[o] at e;cases e;exact D
   ·rw[e] at e';cases e'
    rw[vk b hk'] at ha;exact(U.own (U.parts_iff.mp ha)).1
 |al _ _=>exact o.elim |ro _ _=>exact o.elim
def cR.back(h:cR K G W H s v)(k:∀l,v=.ref l->W l->∀m:Mo,H l=↑m.out->H' l=↑m.out)(o:aX H' s v a):aX H s v a:=by
 cases s with
 |sh d=>exact o.elim |ow ds=>exact o |o2 dss =>
   obtain⟨l,ls,e,D,I,U,hi⟩:=h;rcases o with o | ⟨l',ls',e',hl',ha⟩
   ·exact .inl o
   ·rw[e] at e';cases e'
    rw[k l e D (.l _) I] at hl';have:=za (by simpa using hl');subst this;exact .inr ⟨l,ls,e,I,ha⟩
 |ag q r ps =>
   obtain⟨p,as,us,e,D,U,Z,S,b⟩:=h;rcases o with o | ⟨p',us',e',hk',ha⟩
   ·exact .inl o
   ·rw[e] at e';cases e'
    obtain⟨m,V,Y⟩:=S.mo;rw[vk (Y H' (k p e D m V)) hk'] at ha;exact .inr ⟨p,us,e,S.o,ha⟩
 |al _ _=>exact o.elim |ro _ _=>exact o.elim
structure Step (W:Addr->Prop) (H:Hp) (W':Addr->Prop) (H':Hp):Prop where
 keep:∀b o,H b=↑o->¬W b->H' b=↑o
 ws:∀l,W' l->W l\/H l=none
def Step.refl:Step W H W H:=⟨λ_ _ e _=>e,λ_ h=>.inl h⟩
def Step.trans{W1 D:Addr->Prop}(a:Step W H W1 H1)(b:Step W1 H1 D H2):Step W H D H2 where
 keep:=λc o e n=>b.keep c o (a.keep c o e n) λz=>(a.ws c z).elim n λq=>by rw[q] at e;cases e
 ws:=λl h=>by
  rcases b.ws l h with z |z
  ·exact a.ws l z
  ·by_cases n:W l
   ·exact .inl n
   ·cases e:H l with
    |none=>exact .inr rfl |some o=>rw[a.keep l o e n] at z;cases z
def Step.same(h:aS H H'):Step W H W H':=⟨λb o e _=>h b o e,λ_ h=>.inl h⟩
variable{env:aJ}{H0:Hp}
def Ok.wkeep(ok:Ok K G H0 W env σ H)(st:Step W H W' H'):∀b o,H b=↑o->(∀m:Mo,o≠m.out)->H' b=↑o:=λb o e n =>
 st.keep b o e λz=>by obtain⟨_,m,q⟩:=ok.wl b z;rw[e] at q;exact n m (bn q)
def Rd.keep{u:HO}(h:Rd H a u)(k:∀o,H a=↑o->H' a=↑o):Rd H' a u:=by
 rcases h with h | ⟨o,h⟩
 ·exact .inl (k _ h)
 ·exact .inr ⟨o,k _ h⟩
def Ok.tstep(ok:Ok K G H0 W env σ H)(st:Step W H W' H'):∀a vs,H a=↑(.tup vs)->H' a=↑(.tup vs):=λ_ _ h=>ok.wkeep st _ _ h λm z=>by cases m <;> cases z
def Ok.istep(ok:Ok K G H0 W env σ H)(st:Step W H W' H'):∀a (u:Im),H a=↑u.out->H' a=↑u.out:=λ_ u h=>ok.wkeep st _ _ h λm z=>by cases u <;> cases m <;> cases z
def Ok.lstep(ok:Ok K G H0 W env σ H)(st:Step W H W' H'):∀a vs,Ow G W a->Rd H a (.lst vs)->Ow G W' a/\Rd H' a (.lst vs):=λa vs o h=>by
 refine⟨⟨o.1,λz=>?_⟩,h.keep λu e=>st.keep a u e o.2⟩;rcases st.ws a z with q |q
 ·exact o.2 q
 ·rcases h with h | ⟨_,h⟩ <;> rw[q] at h <;> cases h
def Ok.lsstep(ok:Ok K G H0 W env σ H)(st:Step W H W' H')(h:fH K H (Ow G W) a vs):fH K H' (Ow G W') a vs:=h.elim (λz=>.inl (ok.lstep st a vs z.1 z.2)) .inr
def Ok.rep(ok:Ok K G H0 W env σ H)(st:Step W H W' H')(r:aN K H (Ow G W) d v):aN K H' (Ow G W') d v:=r.mono (ok.istep st) (ok.lstep st)
def Ok.reps(ok:Ok K G H0 W env σ H)(st:Step W H W' H'){d:f0}{v:fw}(r:aC K H (Ow G W) d v):aC K H' (Ow G W') d v:=r.mono (ok.istep st) (ok.lstep st)
def Ok.slstep(ok:Ok K G H0 W env σ H)(st:Step W H W' H')(h:cR K G W H s v)(k:∀a (m:Mo),aX H s v a->H a=↑m.out->W' a/\H' a=↑m.out):cR K G W' H' s v:=by
 cases s with
 |sh d=>exact ok.rep st h |ow ds =>
   obtain⟨l,vs,e,I,U,r⟩:=h;obtain⟨h1,h2⟩:=k l (.l vs) e U;exact⟨l,vs,e,h1,h2,ok.reps st r⟩
 |o2 dss =>
   obtain⟨l,ls,e,I,U,b,hi⟩:=h;obtain⟨h1,h2⟩:=k l (.l _) (.inl e) U;have i:∀a vs,a∈ls->H a=↑(.lst vs)->W' a/\H' a=↑(.lst vs):=λa vs S D=>k a (.l vs) (.inr ⟨l,ls,e,U,S⟩) D;refine⟨l,ls,e,h1,h2,b,hi.1,λj ds a t D=>?_⟩;obtain⟨_,vs,S,u⟩:=hi.2 j ds a t D;obtain⟨k1,k2⟩:=i a vs (bv D) S;exact⟨k1,vs,k2,ok.reps st u⟩
 |ag q r ps =>
   obtain⟨p,as,us,e,I,b,w,V,Y⟩:=h;obtain⟨m,Z,c⟩:=V.mo;obtain⟨h1,h2⟩:=k p m (.inl e) Z;exact⟨p,as,us,e,h1,b,w,c H' h2,Y.step (λa vs S D=>k a (.l vs) (.inr ⟨p,us,e,V.o,Y.parts_iff.mpr S⟩) D) (λ_ _ r=>ok.rep st r) λ_ _ r=>ok.reps st r⟩
 |al _ _=>exact h |ro q ps =>
   obtain⟨p,us,e,I,V,Y⟩:=h;have f:∀a o,¬W a->H a=↑o->¬W' a:=λa o n e z=>(st.ws a z).elim n λy=>by rw[y] at e;cases e
   obtain⟨m,Z,c⟩:=V.mo;exact⟨p,us,e,f p _ I Z,c H' (st.keep p _ Z I),Y.step (λa vs g D=>⟨f a _ g D,st.keep a _ D g⟩) (λ_ _ r=>ok.rep st r) λ_ _ r=>ok.reps st r⟩
def Ok.same(ok:Ok K G H0 W env σ H)(s:aS H H'):Ok K G H0 W env σ H':=by
 have st:Step W H W H':=Step.same s;have bk:∀ {i:Nat} {sl:Sl} {v:V} {a:Addr},env[i]?=↑↑sl->σ[i]?=↑↑v->aX H' sl v a->aX H sl v a:=λ{i sl v a} e I o=>by
  obtain⟨f,D,h⟩:=ok.slot i sl e;rw[I] at D;cases D;exact h.back (λl _ _ vs q=>s l _ q) o
 refine⟨ok.stay.trans s,ok.good,λl h=>?_,λi sl e=>?_,λi j Y s2 Z v2 a I D S U c d=>ok.uniq i j Y s2 Z v2 a I D S U (bk I S c) (bk D U d),ok.len⟩
 ·obtain⟨a,vs,b⟩:=ok.wl l h
  exact⟨a,vs,s _ _ b⟩
 ·obtain⟨v,I,h⟩:=ok.slot i sl e
  exact⟨v,I,ok.slstep st h λa vs o D=>⟨h.owns o,s _ _ D⟩⟩
def y9{o:HO}(h:H a=none):aS H (aO H a o):=λb u e=>by rw[i3 (o4 e h)];exact e
def bO(W:Addr->Prop)(l:Addr):Addr->Prop:=λa=>W a\/a=l
def Ok.fresh0(ok:Ok K G H0 W env σ H)(s:aS H H')(D:H l=none)(I:H' l=↑(.lst vs)) :
  ¬W l/\H0 l=none/\Ok K G H0 (bO W l) env σ H'/\Step W H (bO W l) H':=by
 have U:H0 l=none:=ok.stay.free D;have V:¬W l:=λz=>by obtain⟨_,vs,q⟩:=ok.wl l z;rw[D] at q;cases q
 have st:Step W H (bO W l) H':=⟨λb o e _=>s b o e,λa z=>z.elim .inl λq=>.inr (by rw[q];exact D)⟩;have S:=ok.same s;refine⟨V,U,⟨ok.stay.trans s,ok.good,λa z=>?_,λi sl e=>?_,S.uniq,ok.len⟩,st⟩
 ·rcases z with z |rfl
  ·obtain⟨q,us,b⟩:=ok.wl a z
   exact⟨q,us,s _ _ b⟩
  ·exact⟨U,.l vs,I⟩
 ·obtain⟨v,Y,h⟩:=ok.slot i sl e
  exact⟨v,Y,ok.slstep st h λa vs o Z=>⟨.inl (h.owns o),s _ _ Z⟩⟩
def Ok.fresh(ok:Ok K G H0 W env σ H)(s:aS H H')(D:H l=none)(I:H' l=↑(.lst vs))(r:aC K H' (λa=>(Ow G W a\/H a=none)/\a≠l) ds vs) :
  ¬W l/\H0 l=none/\Ok K G H0 (bO W l) env σ H'/\aC K H' (Ow G (bO W l)) ds vs/\Step W H (bO W l) H':=by
 have U:H0 l=none:=ok.stay.free D;have V:¬W l:=λz=>by obtain⟨_,vs,q⟩:=ok.wl l z;rw[D] at q;cases q
 have st:Step W H (bO W l) H':=⟨λb o e _=>s b o e,λa z=>z.elim .inl λq=>.inr (by rw[q];exact D)⟩;have Y:∀a,W a->H a≠none:=λa z q=>by obtain⟨_,vs,e⟩:=ok.wl a z;rw[q] at e;cases e
 have S:=ok.same s;refine⟨V,U,⟨ok.stay.trans s,ok.good,λa z=>?_,λi sl e=>?_,S.uniq,ok.len⟩,r.mono (λ_ _ h=>h) λa us o h=>⟨⟨?_,?_⟩,h⟩,st⟩
 ·rcases z with z |rfl
  ·obtain⟨q,us,b⟩:=ok.wl a z
   exact⟨q,us,s _ _ b⟩
  ·exact⟨U,.l vs,I⟩
 ·obtain⟨v,Z,h⟩:=ok.slot i sl e
  exact⟨v,Z,ok.slstep st h λa vs o c=>⟨.inl (h.owns o),s _ _ c⟩⟩
 ·rcases o.1 with q |q
  ·exact q.1
  ·exact ok.good a (ok.stay.free q)
 ·rintro(z |z)
  ·rcases o.1 with q |q
   ·exact q.2 z
   ·exact Y a z q
  ·exact o.2 z
def Ok.noOwn(ok:Ok K G H0 W env σ H)(I:¬W l):∀(j:Nat) (s:Sl) (v:V),env[j]?=↑↑s->σ[j]?=↑↑v->¬aX H s v l:=λj s v e S o=>by
 obtain⟨U,D,h⟩:=ok.slot j s e;rw[S] at D;cases D;exact I (h.owns o)
variable{α:Type}
def wh{N:List α}(D:N.Nodup){x:α}(a:N[i]?=↑x)(b:N[j]?=↑x):i=j:=by
 obtain⟨h1,I⟩:=au.mp a;obtain⟨h2,S⟩:=au.mp b;exact(List.getElem_inj D).mp (I.trans S.symm)
theorem qa{xs:List α}{x y:α}(h:(xs.set i x)[j]?=↑y):(i=j/\y=x/\i<xs.length)\/(i≠j/\xs[j]?=↑y):=by
 by_cases D:i=j
 ·subst D
  by_cases hi:i<xs.length
  ·rw[f8 hi] at h;cases h;exact .inl ⟨rfl,rfl,hi⟩
  ·rw[cz (by rw[e7];lia)] at h;cases h
 ·rw[eg D] at h;exact .inr ⟨D,h⟩
def Ok.put(ok:Ok K G H0 W env σ H)(h:cR K G W H s v)(c:∀(j:Nat) (s':Sl) (d:V) (a:Addr),env[j]?=↑↑s'->σ[j]?=↑↑d->aX H s v a->¬aX H s' d a) :
  Ok K G H0 W (env.set i ↑s) (σ.set i ↑v) H:=by
 refine⟨ok.stay,ok.good,ok.wl,λj sl e=>?_,λj k f s2 g v2 a Y l D I Z b=>?_,by rw[e7,e7,ok.len]⟩
 ·rcases qa e with⟨rfl,q,hi⟩ | ⟨hj,q⟩
  ·cases q
   exact⟨v,f8 (by rw[<-ok.len];exact hi),h⟩
  ·obtain⟨u,Y,r⟩:=ok.slot j sl q
   exact⟨u,by rw[eg hj];exact Y,r⟩
 ·rcases qa Y with⟨a1,b1,c1⟩ | ⟨a1,b1⟩ <;> rcases qa l with⟨S,U,m⟩ | ⟨S,U⟩
  ·rw[<-a1,<-S]
  ·subst a1
   cases b1;rw[f8 (by rw[<-ok.len];exact c1)] at D;cases D;rw[eg S] at I;exact absurd b (c k s2 v2 a U I Z)
  ·subst S
   cases U;rw[f8 (by rw[<-ok.len];exact m)] at I;cases I;rw[eg a1] at D;exact absurd Z (c j f g a b1 D b)
  ·rw[eg a1] at D
   rw[eg S] at I;exact ok.uniq j k f s2 g v2 a b1 U D I Z b
def Ok.set(ok:Ok K G H0 W env σ H)(r:aN K H (Ow G W) d v):Ok K G H0 W (env.set i ⇑d) (σ.set i ↑v) H :=
 ok.put (s:=.sh d) r λ_ _ _ _ _ _ o=>o.elim
def Ok.setO(ok:Ok K G H0 W env σ H)(D:W l)(I:H l=↑(.lst vs))(r:aC K H (Ow G W) ds vs)(S:∀(j:Nat) (s:Sl) (v:V),env[j]?=↑↑s->σ[j]?=↑↑v->¬aX H s v l) :
  Ok K G H0 W (env.set i ↑(.ow ds)) (σ.set i ↑(.ref l)) H :=
 ok.put (s:=.ow ds) ⟨l,vs,rfl,D,I,r⟩ λj s' U a e Y o=>by
  have:l=a:=by have o:V.ref l=V.ref a:=o;simpa using o
  subst this;exact S j s' U e Y
def Ok.let(ok:Ok K G H0 W env σ H)(e:env[i]?=↑↑s)(Y:σ[i]?=↑↑v)(W':Addr->Prop)(I:∀a,W' a↔W a/\¬aX H s v a)(r:aN K H (Ow G W') d v) :
  Step W H W' H/\Ok K G H0 W' (env.set i ⇑d) σ H:=by
 have st:Step W H W' H:=⟨λb o q _=>q,λa z=>.inl ((I a).mp z).1⟩;refine⟨st,⟨ok.stay,ok.good,λa z=>ok.wl a ((I a).mp z).1,λj sl q=>?_,λj k g s2 l v2 a m S n p Z c=>?_,by rw[e7,ok.len]⟩⟩
 ·rcases qa q with⟨rfl,D,_⟩ | ⟨hj,D⟩
  ·cases D
   exact⟨v,Y,r⟩
  ·obtain⟨u,f,h⟩:=ok.slot j sl D
   exact⟨u,f,ok.slstep st h λa vs o S=>⟨(I a).mpr ⟨h.owns o,λz=>hj (ok.uniq i j s sl v u a e D Y f z o)⟩,S⟩⟩
 ·rcases qa m with⟨_,U,_⟩ | ⟨a1,U⟩
  ·cases U;exact Z.elim
  ·rcases qa S with⟨_,V,_⟩ | ⟨a2,V⟩
   ·cases V;exact c.elim
   ·exact ok.uniq j k g s2 l v2 a U V n p Z c
def Ok.share(ok:Ok K G H0 W env σ H)(e:env[i]?=↑↑(.ow ds)) :
  ∃W' v,σ[i]?=↑↑v/\Step W H W' H/\Ok K G H0 W' (env.set i ⇑(.lst ds)) σ H/\aN K H (Ow G W') (.lst ds) v:=by
 obtain⟨v,I,l,vs,rfl,U,V,r⟩:=ok.slot i _ e;have S:aN K H (Ow G λa=>W a/\¬aX H (.ow ds) (.ref l) a) (.lst ds) (.ref l) :=
  .lst ⟨ok.good l (ok.wl l U).1,λz=>z.2 rfl⟩ (.inl V) (r.mono (λ_ _ h=>h) λa us o h=>⟨⟨o.1,λz=>o.2 z.1⟩,h⟩)
 obtain⟨st,D⟩:=ok.let e I _ (λa=>Iff.rfl) S;exact⟨_,.ref l,I,st,D,S⟩
def pK:∀ {dss:List f0} {ls:el},pI K G W H dss ls->(∀a,a∈ls->W a->G a/\¬W' a)->(∀ds vs,aC K H (Ow G W) ds vs->aC K H (Ow G W') ds vs)->aC K H (Ow G W') (dss.map D.lst) (ls.map V.ref)
 | [],[],_,_,_=>.nil |ds::dss,a::ls,h,g,r=>by
   obtain⟨U,vs,Y,Z⟩:=h.2 0 ds a rfl rfl;refine .cons (.lst (g a bh U) (.inl Y) (r _ _ Z)) (pK (dss:=dss) (ls:=ls) ⟨pq h.1,λj ds' I b c=>h.2 (j+1) ds' I (by simpa using b) (by simpa using c)⟩ (λI S=>g I (av _ S)) r)
variable{dss:List f0}
def Ok.share2(ok:Ok K G H0 W env σ H)(e:env[i]?=↑↑(.o2 dss)) :
  ∃W' v,σ[i]?=↑↑v/\Step W H W' H/\Ok K G H0 W' (env.set i ⇑(.lst (dss.map D.lst))) σ H/\aN K H (Ow G W') (.lst (dss.map D.lst)) v:=by
 obtain⟨v,S,l,ls,rfl,Y,U,c,hi⟩:=ok.slot i _ e;have V:aN K H (Ow G λa=>W a/\¬aX H (.o2 dss) (.ref l) a) (.lst (dss.map D.lst)) (.ref l) :=
  .lst ⟨ok.good l (ok.wl l Y).1,λz=>z.2 (.inl rfl)⟩ (.inl U) (pK hi (λa Z b=>⟨ok.good a (ok.wl a b).1,λz=>z.2 (.inr ⟨l,ls,rfl,U,Z⟩)⟩) λds vs r=>r.mono (λ_ _ h=>h) λa us o h=>⟨⟨o.1,λz=>o.2 z.1⟩,h⟩)
 obtain⟨st,I⟩:=ok.let e S _ (λa=>Iff.rfl) V;exact⟨_,.ref l,S,st,I,V⟩
def Ok.chg(ok:Ok K G H0 W env σ H){s':Sl}(S:Mo)(e:env[i]?=↑↑s)(r:σ[i]?=↑↑v)(x:aX H s v a)(y:cR K G W (aO H a S.out) s' v)(t:∀b,aX (aO H a S.out) s' v b->aX H s v b):Ok K G H0 W (env.set i ↑s') σ (aO H a S.out)/\Step W H W (aO H a S.out):=by
 have c:W a:=by obtain⟨N,f,h⟩:=ok.slot i s e;rw[r] at f;cases f;exact h.owns x
 have st:Step W H W (aO H a S.out):=⟨λb o q n=>by rw[i3 (λz:b=a=>n (by rw[z];exact c))];exact q,λb z=>.inl z⟩;have w:∀ {j:Nat} {sl:Sl} {u:V} {b:Addr},i≠j->env[j]?=↑↑sl->σ[j]?=↑↑u->aX H sl u b->b≠a:=λ{j sl u b} hj q D o z=>by
  subst z;exact hj (ok.uniq i j s sl v u b e q r D x o)
 have bk:∀ {j:Nat} {sl:Sl} {u:V} {b:Addr},i≠j->env[j]?=↑↑sl->σ[j]?=↑↑u->aX (aO H a S.out) sl u b->aX H sl u b:=λ{j sl u b} hj q D o=>by
  obtain⟨O,U,h⟩:=ok.slot j sl q;rw[D] at U;cases U;cases sl with
  |sh d=>exact o.elim |ow ds=>exact o |o2 dss=>exact h.back (λl Y _ vs Z=>by rw[i3 (w hj q D (.inl Y))];exact Z) o |ag k p ps=>exact h.back (λl Y _ vs Z=>by rw[i3 (w hj q D (.inl Y))];exact Z) o |al _ _=>exact o.elim |ro _ _=>exact o.elim
 refine⟨⟨λb o q=>?_,ok.good,λb z=>?_,λj sl q=>?_,λj k P s2 A v2 b D U Y Z B o2=>?_,by rw[e7,ok.len]⟩,st⟩
 ·rw[i3 (λz=>by rw[z,(ok.wl a c).1] at q;cases q)];exact ok.stay b o q
 ·obtain⟨q,us,t⟩:=ok.wl b z
  by_cases h:b=a
  ·exact⟨q,S,by rw[h,mv]⟩
  ·exact⟨q,us,by rw[i3 h];exact t⟩
 ·rcases qa q with⟨rfl,I,_⟩ | ⟨hj,I⟩
  ·cases I
   exact⟨v,r,y⟩
  ·obtain⟨u,f,h⟩:=ok.slot j sl I
   exact⟨u,f,ok.slstep st h λb vs o U=>⟨h.owns o,by rw[i3 (w hj I f o)];exact U⟩⟩
 ·have back:∀ {m:Nat} {sl:Sl} {u:V},(env.set i ↑s')[m]?=↑↑sl->σ[m]?=↑↑u->aX (aO H a S.out) sl u b->∃g,env[m]?=↑↑g/\aX H g u b:=λ{m sl u} q D o=>by
   rcases qa q with⟨rfl,I,_⟩ | ⟨hj,I⟩
   ·cases I
    rw[r] at D;cases D;exact⟨s,e,t b o⟩
   ·exact⟨sl,I,bk hj I D o⟩
  obtain⟨C,E,F⟩:=back D Y B;obtain⟨J,L,M⟩:=back U Z o2;exact ok.uniq j k C J A v2 b E L Y Z F M
variable{ds':f0}{vs':fw}
def Ok.turn(ok:Ok K G H0 W env σ H)(e:env[i]?=↑↑(.ow ds))(I:σ[i]?=↑↑(.ref l))(r:aC K H (Ow G W) ds' vs') :
  Ok K G H0 W (env.set i ↑(.ow ds')) σ (aO H l (.lst vs'))/\Step W H W (aO H l (.lst vs')):=by
 obtain⟨v,D,U,vs,rfl,S,V,_⟩:=ok.slot i _ e;rw[I] at D;cases D;have st:Step W H W (aO H l (.lst vs')):=⟨λb o q n=>by rw[i3 (λz:b=l=>n (by rw[z];exact S))];exact q,λb z=>.inl z⟩;exact ok.chg (.l vs') e I (show aX H (.ow ds) (.ref l) l from rfl) ⟨l,vs',rfl,S,mv,ok.reps st r⟩ λb o=>o
def Ok.turn2(ok:Ok K G H0 W env σ H)(e:env[i]?=↑↑(.o2 dss))(s:σ[i]?=↑↑(.ref l))(Y:H l=↑(.lst (ls.map V.ref)))(u:dss[j]?=↑ds)(Z:ls[j]?=↑a)(r:aC K H (Ow G W) ds' vs'):Ok K G H0 W (env.set i ↑(.o2 (dss.set j ds'))) σ (aO H a (.lst vs'))/\Step W H W (aO H a (.lst vs')):=by
 obtain⟨v,D,w,d,rfl,x,I,f,hi⟩:=ok.slot i _ e;rw[s] at D;cases D;rw[Y] at I;have:=za (by simpa using I);subst this;have t:a∈ls:=bv Z;have S:W a:=(hi.2 j ds a u Z).1;have st:Step W H W (aO H a (.lst vs')):=⟨λb o q n=>by rw[i3 (λz:b=a=>n (by rw[z];exact S))];exact q,λb z=>.inl z⟩;have g:l≠a:=λz=>by subst z;exact(df.mp f).1 t
 have U:aO H a (.lst vs') l=↑(.lst (ls.map V.ref)):=by rw[i3 g];exact Y
 refine ok.chg (.l vs') e s (.inr ⟨l,ls,rfl,Y,t⟩) ⟨l,ls,rfl,x,U,f,by rw[e7];exact hi.1,λk es b y c=>?_⟩ λb o=>?_
 ·rcases qa y with⟨rfl,z,_⟩ | ⟨hk,q'⟩
  ·cases z
   rw[Z] at c;cases c;exact⟨S,vs',mv,ok.reps st r⟩
  ·obtain⟨h,us,m,A⟩:=hi.2 k es b q' c
   refine⟨h,us,?_,ok.reps st A⟩;have p:b≠a:=λz=>hk (by
    subst z;exact wh (df.mp f).2 Z c)
   rw[i3 p];exact m
 ·rcases o with o | ⟨w,d,z,q,m⟩
  ·exact .inl o
  ·cases z
   rw[U] at q;have:=za (by simpa using q);subst this;exact .inr ⟨l,ls,rfl,Y,m⟩
def aP.get(h:aP K G W H ps as us)(e:ps[j]?=↑(.o ds)):∃a vs,us[j]?=↑(.ref a)/\a∈as/\W a/\H a=↑(.lst vs)/\aC K H (Ow G W) ds vs:=by
 induction h generalizing j with
 |nil=>simp at e |d _ _ ih =>
   cases j with
   |zero=>simp at e |succ j=>obtain⟨a,vs,h1,h2⟩:=ih (j:=j) (by simpa using e);exact⟨a,vs,by simpa using h1,h2⟩
 | @o _ a vs _ _ _ hW hl r _ ih =>
   cases j with
   |zero=>simp at e;subst e;exact⟨a,vs,rfl,bh,hW,hl,r⟩ |succ j=>obtain⟨a,vs,h1,h2,D⟩:=ih (j:=j) (by simpa using e);exact⟨a,vs,by simpa using h1,av _ h2,D⟩
def aP.getD(h:aP K G W H ps as us)(e:ps[j]?=↑(.d d)):∃v,us[j]?=↑v/\aN K H (Ow G W) d v:=by
 induction h generalizing j with
 |nil=>simp at e |d q _ ih =>
   cases j with
   |zero=>simp at e;subst e;exact⟨_,rfl,q⟩ |succ j=>obtain⟨a,h1,h2⟩:=ih (j:=j) (by simpa using e);exact⟨a,by simpa using h1,h2⟩
 |o _ _ _ _ ih =>
   cases j with
   |zero=>simp at e |succ j=>obtain⟨a,h1,h2⟩:=ih (j:=j) (by simpa using e);exact⟨a,by simpa using h1,h2⟩
def aP.set(st:Step W H W (aO H a (.lst vs')))(ok:Ok K G H0 W env σ H)(h:aP K G W H ps as us)(I:as.Nodup)(e:ps[j]?=↑(.o ds))(D:us[j]?=↑(.ref a))(r:aC K H (Ow G W) ds' vs') :
  aP K G W (aO H a (.lst vs')) (ps.set j (.o ds')) as us:=by
 induction h generalizing j with
 |nil=>simp at e |d q t ih =>
   cases j with
   |zero=>simp at e |succ j=>exact .d (ok.rep st q) (ih I (by simpa using e) (by simpa using D))
 | @o es b vs ps' as' us' hW hl q t ih =>
   cases j with
   |zero =>
     simp at D;subst D;refine .o hW mv (ok.reps st r) (t.step (λb vs S D=>⟨(t.own S).1,?_⟩) (λ_ _ r=>ok.rep st r) λ_ _ r=>ok.reps st r);rw[i3 (λz:b=_=>by subst z;exact(df.mp I).1 S)];exact D
   |succ j =>
     have U:a∈as':=t.parts_iff.mp ⟨j,ds,e,D⟩;have V:b≠a:=λz=>by subst z;exact(df.mp I).1 U
     exact .o hW (by rw[i3 V];exact hl) (ok.reps st q) (ih (df.mp I).2 e D)
variable{b:Expr}
def CO{b:Addr}(e:ps[j]?=↑(.o ds))(h:kS (ps.set j (.o ds')) us b):kS ps us b:=by
 obtain⟨i,es,h1,h2⟩:=h;rcases qa h1 with⟨rfl,_,_⟩ | ⟨_,z⟩
 ·exact⟨j,ds,e,h2⟩
 ·exact⟨i,es,z,h2⟩
variable{r:R2}
def Ok.turnP(ok:Ok K G H0 W env σ H){r:Option Nat}(e:env[i]?=↑↑(.ag k r ps))(s:σ[i]?=↑↑(.ref p))(S:cP K H k p us)(U:ps[j]?=↑(.o ds))(V:us[j]?=↑(.ref a))(u:aC K H (Ow G W) ds' vs') :
  Ok K G H0 W (env.set i ↑(.ag k r (ps.set j (.o ds')))) σ (aO H a (.lst vs'))/\Step W H W (aO H a (.lst vs')):=by
 obtain⟨v,D,p',as,Y,rfl,w,Z,x,c,d⟩:=ok.slot i _ e;rw[s] at D;cases D;have:=vk c S.o;subst this;have t:a∈as:=d.parts_iff.mp ⟨j,ds,U,V⟩;have f:=(d.own t).1;have st:Step W H W (aO H a (.lst vs')):=⟨λb o q n=>by rw[i3 (λz:b=a=>n (by rw[z];exact f))];exact q,λb z=>.inl z⟩;have g:p≠a:=λz=>by subst z;exact(df.mp Z).1 t
 have h:=aP.set st ok d (df.mp Z).2 U V u;obtain⟨m,y,A⟩:=S.mo;have I:cP K (aO H a (.lst vs')) k p us:=A _ (by rw[i3 g];exact y);refine ok.chg (.l vs') e s (.inr ⟨p,us,rfl,S.o,j,ds,U,V⟩) ⟨p,as,us,rfl,w,Z,x,I,h⟩ λb o=>?_;rcases o with o | ⟨p',Y,z,q,hb⟩
 ·exact .inl o
 ·cases z
  rw[vk I q] at hb;exact .inr ⟨p,us,rfl,S.o,CO U hb⟩
structure At (X:Cx) (i:Nat) (x:Str):Prop where
 n:X.N[i]?=↑x
 v:i0 X.env.scope x
 d:(x==("__debug__" : Str))=false
 c:(x==("__classdict__" : Str))=false
def At.pe(h:At X i x):PE X (.Name x pos) (gQ i):=AO h.n h.v h.d h.c
structure To (X:Cx) (i:Nat) (x:Str):Prop where
 nd:X.N.Nodup
 n:X.N[i]?=↑x
 l:Loc X.env.scope x
 f:X.fn x=true\/X.env.scope.names.lookup x=some .local
structure Bn (X:Cx) (x:Str):Prop where
 g:Gl X x
 m:X.mg x=none
structure bZ (N cs:ed) (X:Cx):Prop where
 n:X.N=N
 get:∀i x,N[i]?=↑x->At X i x
 ck:∀u∈cs,X.env.kindOf u=some .cell\/X.env.kindOf u=some .free
structure eF (N:ed) (X:Cx):Prop where
 to:∀i x,N[i]?=↑x->To X i x
variable{N cs:ed}
protected def bZ.a(h:bZ N cs X)(e:N[i]?=↑x):At X i x:=h.get i x e
protected def eF.t(h:eF N X)(e:N[i]?=↑x):To X i x:=h.to i x e
def bZ.nox(h:bZ N cs X):bZ N cs X.nox:=⟨h.n,λi x e=>let z:=h.get i x e;⟨z.n,z.v,z.d,z.c⟩,h.ck⟩
def eF.nox(h:eF N X):eF N X.nox:=⟨λi x e=>let z:=h.to i x e;⟨z.nd,z.n,z.l,z.f⟩⟩
def gC(x:Str):Bool:=!(x==("__debug__" : Str)) && !(x==("__classdict__" : Str))
def uz(h:gC x=true):(x==("__debug__" : Str))=false/\(x==("__classdict__" : Str))=false:=by
 unfold gC at h;rwa [il,lh,lh] at h
def ut{o:Option NameKind}{k:NameKind}(h:(o==↑k)=true):o=↑k:=by
 cases o with
 |none=>cases h
 |some a=>cases a <;> cases k <;> first |rfl |cases h
def bH(N:ed)(ix:em):ed:=ix.map λi=>N.getD i ("" : Str)
def ua(N cs:ed)(ix:em)(y:Str)(sc:Scope):Bool:=decide ((y::bH N ix).Nodup) && decide (sc.kind=.function) && (sc.names.lookup y==some .local) && decide (∀z∈sc.names,z.2≠.cell) && decide (∀z∈sc.names,z.2=.local->sc.names.lookup z.1=some .local) && decide (∀z∈sc.names,z.2=.free->z.1∈bH N ix) && (bH N ix).all (λu=>(sc.names.lookup u==some .free) && cs.elem u) && (y::bH N ix).all gC
def pL(h:X.env.scope.names.lookup x=some .globalImplicit):Gl X x:=h
variable{s:Shared}
def CP(h:sc.names.lookup x=some .local):i0 (lq X y N' sc cl C s H fp).env.scope x:=.inl (ph h)
def CQ(h:sc.names.lookup x=some .free):i0 (lq X y N' sc cl C s H fp).env.scope x:=.inr (kR h)
def yx(hA:bZ N cs X)(h:ua N cs ix y sc=true):pG X y (bH N ix) ix sc:=by
 unfold ua at h;simp only[il,kx,jk] at h;obtain⟨⟨⟨⟨⟨⟨⟨h1,h2⟩,I⟩,S⟩,U⟩,V⟩,D⟩,_⟩:=h;exact⟨by rw[hA.n];rfl,h1,h2,ut I,S,U,λz Y Z=>hA.ck z.1 (List.mem_of_elem_eq_true (D z.1 (V z Y Z)).2),λu a=>ut (D u a).1⟩
def xo(h:ua N cs ix y sc=true):bZ (y::bH N ix) (bH N ix) (lq X y (bH N ix) sc cl C s₂ H₂ fp):=by
 unfold ua at h;simp only[il,kx,jk] at h;obtain⟨⟨⟨⟨⟨⟨⟨h1,h2⟩,S⟩,V⟩,Y⟩,Z⟩,D⟩,I⟩:=h;refine⟨rfl,λi x e=>⟨e,?_,(uz (I x (bv e))).1,(uz (I x (bv e))).2⟩,λu U=>?_⟩
 ·rcases cj.mp (bv e) with rfl |hm
  ·exact CP (ut S)
  ·exact CQ (ut (D x hm).1)
 ·exact kR (env:=X.env) (ut (D u U).1)
abbrev FE:=aJ->Option (D×aJ)
abbrev FT:=aJ->Option (Bool×aJ)
abbrev FA:=aJ->Option (f0×aJ)
inductive DP (K:fc) (G:Gd) (H0:Hp) {β:Type} (f:aJ->Option (β×aJ)) (P:(Addr->Prop)->aJ->β->aJ->Prop) (σ:St) (H:Hp):Prop
 |mk (W:Addr->Prop) (env:aJ) (d:β) (env':aJ) (ok:Ok K G H0 W env σ H) (q:f env=↑(d,env')) (k:P W env d env'):DP K G H0 f P σ H
def tD(K:fc)(G:Gd)(H0:Hp)(f:FE):TE:=λσ H Q=>DP K G H0 f (λW env d env' =>
 ∀W' v H',Step W H W' H'->Ok K G H0 W' env' σ H'->aN K H' (Ow G W') d v->Q v H') σ H
def kT(K:fc)(G:Gd)(H0:Hp)(f:FT):TT:=λσ H Q=>DP K G H0 f (λW env b env' =>
 ∀W' H',Step W H W' H'->Ok K G H0 W' env' σ H'->Q b H') σ H
def iF(K:fc)(G:Gd)(H0:Hp)(f:FA):TA:=λσ H Q=>DP K G H0 f (λW env ds env' =>
 ∀W' vs H',Step W H W' H'->Ok K G H0 W' env' σ H'->aC K H' (Ow G W') ds vs->Q vs H') σ H
def g8(K:fc)(G:Gd)(H0:Hp)(f:FA):TE:=λσ H Q=>DP K G H0 f (λW env ds env' =>
 ∀W' l vs H',Step W H (bO W' l) H'->Ok K G H0 W' env' σ H'->Ok K G H0 (bO W' l) env' σ H'->¬W' l->H' l=↑(.lst vs)->aC K H' (Ow G (bO W' l)) ds vs->Q (.ref l) H') σ H
structure aM (X:Cx) (G:Gd) (H0:Hp) (e:Expr) (f:FE):Prop where
 out:PE X e (tD X.K G H0 f)
structure fB (X:Cx) (G:Gd) (H0:Hp) (e:Expr) (f:FT):Prop where
 out:PT X e (kT X.K G H0 f)
structure dM (X:Cx) (G:Gd) (H0:Hp) (es:et) (f:FA):Prop where
 out:PA X es (iF X.K G H0 f)
structure eY (X:Cx) (G:Gd) (H0:Hp) (e:Expr) (f:FA):Prop where
 out:PE X e (g8 X.K G H0 f)
variable{e:Expr}{t:TE}
def PE.imp{t':TE}(h:PE X e t)(i:∀σ H Q,t' σ H Q->t σ H Q):PE X e t':=λpins s σ H Q I q=>h pins s σ H Q I (i σ H Q q)
def PT.imp{t t':TT}(h:PT X e t)(i:∀σ H Q,t' σ H Q->t σ H Q):PT X e t':=λpins s σ H Q I q=>h pins s σ H Q I (i σ H Q q)
def PA.imp{e:et}{t t':TA}(h:PA X e t)(i:∀σ H Q,t' σ H Q->t σ H Q):PA X e t':=λpos pins s σ H Q I q=>h pos pins s σ H Q I (i σ H Q q)
@[simp] def fVar(i:Nat):FE:=λe=>match e[i]? with
 |some ⇑d=>↑(d,e) |some ↑(.ow ds)=>↑(.lst ds,e.set i ⇑(.lst ds))
 |some ↑(.o2 dss)=>↑(.lst (dss.map D.lst),e.set i ⇑(.lst (dss.map D.lst)))
 |_=>none
@[simp] def fC(d:D):FE:=λe=>↑(d,e)
@[simp] def fBin(op:D->D->f4)(f g:FE):FE:=λe=>(f e).bind λr=>(g r.2).bind λq=>(op r.1 q.1).map λd=>(d,q.2)
@[simp] def fY(op:D->f4)(f:FE):FE:=λe=>(f e).bind λr=>(op r.1).map λd=>(d,r.2)
@[simp] def dY(f g:FT):FT:=λe=>(f e).bind λr=>if r.1=true then g r.2 else ↑(false,r.2)
@[simp] def fOr(f g:FT):FT:=λe=>(f e).bind λr=>if r.1=true then ↑(true,r.2) else g r.2
@[simp] def cI(f:FT):FT:=λe=>(f e).map λr=>(!r.1,r.2)
@[simp] def fTst(f:FE):FT:=λe=>(f e).bind λr=>match r.1 with | .bl b=>↑(b,r.2) |_=>none
@[simp] def ve(f g:FE):FE:=λe=>(f e).bind λr=>match r.1 with | .bl true=>g r.2 | .bl false=>↑(.bl false,r.2) |_=>none
@[simp] def pM(f:FE):FE:=λe=>(f e).bind λr=>match r.1 with | .bl b=>↑(.bl (!b),r.2) |_=>none
@[simp] def aB:FA:=λe=>↑([],e)
@[simp] def bz(f:FE)(g:FA):FA:=λe=>(f e).bind λr=>(g r.2).bind λq=>↑(r.1::q.1,q.2)
@[simp] def bP(g:FA):FE:=λe=>(g e).bind λr=>if r.1.length<=64 then ↑(.tup r.1,r.2) else none
@[simp] def ig(g:FA):FA:=λe=>(g e).bind λr=>if r.1.length<=64 then ↑(r.1,r.2) else none
@[simp] def aH(g:FA):FE:=λe=>(g e).map λr=>(.lst r.1,r.2)
@[simp] def iq:D->D->f4 | .int i,.int j=>↑↥(i+j) |_,_=>none
@[simp] def dSub:D->D->f4 | .int i,.int j=>↑↥(i-j) |_,_=>none
def ma(i:Int):Prop:=-(2 ^ 64)<i/\i<2 ^ 64
noncomputable instance (i:Int):Decidable (ma i):=Classical.propDecidable _
def bI(n:Nat):Prop:=n<=2 ^ 20
noncomputable instance (n:Nat):Decidable (bI n):=Classical.propDecidable _
def eT(lo hi i:Int):Prop:=lo<=i/\i<hi
noncomputable instance (lo hi i:Int):Decidable (eT lo hi i):=Classical.propDecidable _
def dMul:D->D->f4 | .int i,.int j=>if ma i\/ma j then ↑↥(i*j) else none |_,_=>none
def aQ:D->D->f4 | .int i,.int j=>if 0<j then ↑↥(i % j) else none |_,_=>none
def bE:D->D->f4 | .int i,.int j=>if eT 1 1073741824 j then ↑↥(i / j) else none |_,_=>none
@[simp] def dG:D->f4 | .int i=>↑↥(-i) |_=>none
@[simp] def dLt:D->D->f4 | .int i,.int j=>↑(.bl (decide (i<j))) |_,_=>none
@[simp] def dGt:D->D->f4 | .int i,.int j=>↑(.bl (decide (j<i))) |_,_=>none
@[simp] def gW:D->D->f4 | .int i,.int j=>↑(.bl (decide (j<=i))) |_,_=>none
@[simp] def dEq:D->D->f4
 | .int i,.int j=>↑(.bl (decide (i=j))) | .str i,.str j=>↑(.bl (decide (i=j))) | .bl i,.bl j=>↑(.bl (decide (i=j))) |_,_=>none
@[simp] def gD:D->D->f4
 | .int i,.int j=>↑(.bl (!decide (i=j))) | .str i,.str j=>↑(.bl (!decide (i=j))) | .bl i,.bl j=>↑(.bl (!decide (i=j))) |_,_=>none
@[simp] def dIx:D->D->f4 | .tup ds,.int i=>aW ds i | .lst ds,.int i=>aW ds i |_,_=>none
def eM(X:Cx)(G:Gd)(H0:Hp)(r:R2)(op:D->D->f4):Prop :=
 ∀W env σ H x y d1 d2 d (Q:VK),Ok X.K G H0 W env σ H->aN X.K H (Ow G W) d1 x->aN X.K H (Ow G W) d2 y->op d1 d2=↑d ->
  (∀v H',Step W H W H'->Ok X.K G H0 W env σ H'->aN X.K H' (Ow G W) d v->Q v H')->r x y H Q
variable{g:FE}{op:D->D->f4}
def kU(V:eM X G H0 r op):∀σ H Q,tD X.K G H0 (fBin op f g) σ H Q->jJ r (tD X.K G H0 f) (tD X.K G H0 g) σ H Q:=by
 rintro σ H Q ⟨W,env,d,env',ok,e,k⟩;cases e1:f env with
 |none=>simp[e1] at e |some r1 =>
   cases e2:g r1.2 with
   |none=>simp[e1,e2] at e |some r2 =>
     have e:(op r1.1 r2.1).map (λd=>(d,r2.2))=↑(d,env'):=by simpa[fBin,e1,e2] using e
     cases e3:op r1.1 r2.1 with
     |none=>rw[e3] at e;cases e
     |some d' =>
       rw[e3] at e;have Y:(d',r2.2)=(d,env'):=bn e;cases Y;refine⟨W,env,r1.1,r1.2,ok,e1,λW1 Z H1 a D p1=>⟨W1,r1.2,r2.1,r2.2,D,e2,λU v2 H2 s2 I p2=>?_⟩⟩;exact V U _ σ H2 Z v2 _ _ _ Q I (D.rep s2 p1) p2 e3 λv b c S h=>k U v b ((a.trans s2).trans c) S h
variable{a:Expr}{p:D->D->f4}
def yp{op:Operator}(D:eL X (binaryOp op) r)(hd:eM X G H0 r p)(I:aM X G H0 a f)(S:aM X G H0 b g):aM X G H0 (.BinOp a op b pos) (fBin p f g) :=
 ⟨(oI D I.out S.out).imp (kU hd)⟩
def wm{op:CmpOp}(D:eL X (compareOp op) r)(hd:eM X G H0 r p)(I:aM X G H0 a f)(S:aM X G H0 b g)(U:behindInMarks op b=false):aM X G H0 (.Compare a [op] [b] pos) (fBin p f g) :=
 ⟨(BJ D I.out S.out U).imp (kU hd)⟩
def CT(D:gO X r)(hd:eM X G H0 r p)(I:aM X G H0 a f)(S:aM X G H0 b g)(U:xi b):aM X G H0 (.Subscript a b pos) (fBin p f g) :=
 ⟨(kQ D I.out S.out U).imp (kU hd)⟩
def w5(h:∀σ H Q,tD X.K G H0 f σ H Q->t σ H Q):∀σ H Q,kT X.K G H0 (fTst f) σ H Q->v7 t σ H Q:=by
 rintro σ H Q ⟨W,env,b,env',ok,e,k⟩;refine h σ H _ ?_;cases e1:f env with
 |none=>simp[e1] at e |some r1 =>
   obtain⟨d,D⟩:=r1;cases d with
   |bl b' =>
     have e:↑(b',D)=↑(b,env'):=by simpa[fTst,e1] using e
     cases e;exact⟨W,env,_,_,ok,e1,λW1 U H1 S I p1=>⟨_,p1.bl_,k W1 H1 S I⟩⟩
   |_=>simp[e1] at e
def yo{op:CmpOp}(D:eL X (compareOp op) r)(hd:eM X G H0 r p)(I:aM X G H0 a f)(S:aM X G H0 b g)(U:behindInMarks op b=false):fB X G H0 (.Compare a [op] [b] pos) (fTst (fBin p f g)) :=
 ⟨(BK D I.out S.out U).imp (w5 (kU hd))⟩
variable{g:Int->Int->Int}
def iG{C:Int->Int->Prop}(h:∀D I d,op D I=↑d->∃i j,D=.int i/\I=.int j/\C i j/\d=.int (g i j)):eM X G H0 (rI C λi j=>.int (g i j)) op:=by
 intro W env σ H x y D I d Q ok p1 p2 e k;obtain⟨i,j,rfl,rfl,S,rfl⟩:=h _ _ _ e;exact⟨i,j,p1.int_,p2.int_,S,k _ H Step.refl ok ↥_⟩
def w6(h:∀D I d,op D I=↑d->∃i j,D=.int i/\I=.int j/\d=.int (g i j)):eM X G H0 (fX λi j=>.int (g i j)) op:=by
 intro W env σ H x y D I d Q ok p1 p2 e k;obtain⟨i,j,rfl,rfl,rfl⟩:=h _ _ _ e;exact⟨i,j,p1.int_,p2.int_,k _ H Step.refl ok ↥_⟩
variable{g:FE}
def pN{g:Int->Int->Bool}(h:∀D I d,op D I=↑d->∃i j,D=.int i/\I=.int j/\d=.bl (g i j)):eM X G H0 (fX λi j=>.bl (g i j)) op:=by
 intro W env σ H x y D I d Q ok p1 p2 e k;obtain⟨i,j,rfl,rfl,rfl⟩:=h _ _ _ e;exact⟨i,j,p1.int_,p2.int_,k _ H Step.refl ok (.bl _)⟩
def CU:eM X G H0 (fX λi j=>.int (i+j)) iq:=w6 λD I d e=>by
 cases D <;> try (cases e;done)
 all_goals cases I <;> first | (cases e;done) |exact⟨_,_,rfl,rfl,(bn e).symm⟩
def CV:eM X G H0 (fX λi j=>.int (i-j)) dSub:=w6 λD I d e=>by
 cases D <;> try (cases e;done)
 all_goals cases I <;> first | (cases e;done) |exact⟨_,_,rfl,rfl,(bn e).symm⟩
def CW:eM X G H0 (rI gS λi j=>.int (i*j)) dMul:=iG λD I d e=>by
 cases D <;> try (cases e;done)
 all_goals cases I <;> first
  | (cases e;done)
  | (rename_i i j
     by_cases h:ma i\/ma j
     ·simp only[dMul,az h] at e;exact⟨_,_,rfl,rfl,h,(bn e).symm⟩
     ·simp only[dMul,bu h] at e;cases e)
def CY:eM X G H0 (rI (λ_ j=>0<j) λi j=>.int (i % j)) aQ:=iG λD I d e=>by
 cases D <;> try (cases e;done)
 all_goals cases I <;> first
  | (cases e;done)
  | (rename_i i j
     by_cases h:0<j
     ·simp only[aQ,az h] at e;exact⟨_,_,rfl,rfl,h,(bn e).symm⟩
     ·simp only[aQ,bu h] at e;cases e)
theorem CZ:eM X G H0 (rI jL λi j=>.int (i / j)) bE:=iG λD I d e=>by
 cases D <;> try (cases e;done)
 all_goals cases I <;> first
  | (cases e;done)
  | (rename_i i j
     by_cases h:eT 1 1073741824 j
     ·simp only[bE,az h] at e;exact⟨_,_,rfl,rfl,⟨by have:=h.1;lia,h.2⟩,(bn e).symm⟩
     ·simp only[bE,bu h] at e;cases e)
def C_:eM X G H0 (fX λi j=>.bl (decide (i<j))) dLt:=pN λD I d e=>by
 cases D <;> try (cases e;done)
 all_goals cases I <;> first | (cases e;done) |exact⟨_,_,rfl,rfl,(bn e).symm⟩
def wA:eM X G H0 (fX λi j=>.bl (decide (j<i))) dGt:=pN λD I d e=>by
 cases D <;> try (cases e;done)
 all_goals cases I <;> first | (cases e;done) |exact⟨_,_,rfl,rfl,(bn e).symm⟩
def Da:eM X G H0 (fX λi j=>.bl (decide (j<=i))) gW:=pN λD I d e=>by
 cases D <;> try (cases e;done)
 all_goals cases I <;> first | (cases e;done) |exact⟨_,_,rfl,rfl,(bn e).symm⟩
def wB(i j:Int):decide (V.int i=V.int j)=decide (i=j):=by simp
def wC(i j:Str):decide (V.str i=V.str j)=decide (i=j):=by simp
def wE(i j:Bool):decide (V.bl i=V.bl j)=decide (i=j):=by simp
def wF:eM X G H0 u_ dEq:=by
 intro W env σ H x y D I d Q ok p1 p2 e k;cases D <;> try (cases e;done)
 all_goals cases I <;> first
  | (cases e;done)
  | (cases p1.int_;cases p2.int_;cases e;refine⟨rfl,?_⟩;rw[wB];exact k _ H Step.refl ok (.bl _))
  | (cases p1.str_;cases p2.str_;cases e;refine⟨rfl,?_⟩;rw[wC];exact k _ H Step.refl ok (.bl _))
  | (cases p1.bl_;cases p2.bl_;cases e;refine⟨rfl,?_⟩;rw[wE];exact k _ H Step.refl ok (.bl _))
def Db:eM X G H0 vl gD:=by
 intro W env σ H x y D I d Q ok p1 p2 e k;cases D <;> try (cases e;done)
 all_goals cases I <;> first
  | (cases e;done)
  | (cases p1.int_;cases p2.int_;cases e;refine⟨rfl,?_⟩;rw[wB];exact k _ H Step.refl ok (.bl _))
  | (cases p1.str_;cases p2.str_;cases e;refine⟨rfl,?_⟩;rw[wC];exact k _ H Step.refl ok (.bl _))
  | (cases p1.bl_;cases p2.bl_;cases e;refine⟨rfl,?_⟩;rw[wE];exact k _ H Step.refl ok (.bl _))
def xh{i:Int}(r:aC K H O ds vs)(h:aW ds i=↑d):∃v,aW vs i=↑v/\aN K H O d v:=by
 unfold aW at h ⊢;rw[<-r.length];cases q:cU ds.length i with
 |none=>rw[q] at h;cases h
 |some j=>rw[q] at h;exact r.get h
def Dc:eM X G H0 (vM X.K) dIx:=by
 intro W env σ H x y S U d Q ok p1 p2 e k;cases S <;> first
  | (cases e;done)
  | (cases U <;> first
      | (cases e;done)
      | (cases p2
         first
          | (obtain⟨a, vs, rfl, h, r⟩ := p1.tup_
             obtain⟨v,D,I⟩:=xh r e;exact .inr (.inl ⟨a,vs,_,v,rfl,rfl,dW.of h,D,k _ H Step.refl ok I⟩))
          | (obtain⟨a, vs, rfl, h, r⟩ := p1.lst_
             obtain⟨v,D,I⟩:=xh r e;exact .inl ⟨a,vs,_,v,rfl,rfl,h.sq,D,k _ H Step.refl ok I⟩)))
def li(D:aM X G H0 a f)(I:aM X G H0 b g):aM X G H0 (.BinOp a .Add b pos) (fBin iq f g):=yp BA CU D I
def mr(D:aM X G H0 a f)(I:aM X G H0 b g):aM X G H0 (.BinOp a .Sub b pos) (fBin dSub f g):=yp BB CV D I
def qh(D:aM X G H0 a f)(I:aM X G H0 b g):aM X G H0 (.BinOp a .Mult b pos) (fBin dMul f g):=yp BC CW D I
def nr(D:aM X G H0 a f)(I:aM X G H0 b g):aM X G H0 (.BinOp a .Mod b pos) (fBin aQ f g):=yp BE CY D I
def sx(D:aM X G H0 a f)(I:aM X G H0 b g):aM X G H0 (.BinOp a .FloorDiv b pos) (fBin bE f g):=yp BD CZ D I
def Dd(D:aM X G H0 a f)(I:aM X G H0 b g):aM X G H0 (.Compare a [.Gt] [b] pos) (fBin dGt f g):=wm v6 wA D I (vn _)
def wG(D:aM X G H0 a f)(I:aM X G H0 b g):aM X G H0 (.Compare a [.Eq] [b] pos) (fBin dEq f g):=wm v5 wF D I (vn _)
def qf(D:aM X G H0 a f)(I:aM X G H0 b g):fB X G H0 (.Compare a [.Lt] [b] pos) (fTst (fBin dLt f g)):=yo BH C_ D I (vn _)
def p8(D:aM X G H0 a f)(I:aM X G H0 b g):fB X G H0 (.Compare a [.Gt] [b] pos) (fTst (fBin dGt f g)):=yo v6 wA D I (vn _)
def pO(D:aM X G H0 a f)(I:aM X G H0 b g):fB X G H0 (.Compare a [.GtE] [b] pos) (fTst (fBin gW f g)):=yo BI Da D I (vn _)
def qy(D:aM X G H0 a f)(I:aM X G H0 b g):fB X G H0 (.Compare a [.Eq] [b] pos) (fTst (fBin dEq f g)):=yo v5 wF D I (vn _)
def wf(D:aM X G H0 a f)(I:aM X G H0 b g):fB X G H0 (.Compare a [.NotEq] [b] pos) (fTst (fBin gD f g)):=yo BG Db D I (vn _)
def qe(D:aM X G H0 a f)(I:aM X G H0 b g)(S:xi b:=by intro _ _;rfl):aM X G H0 (.Subscript a b pos) (fBin dIx f g):=CT oZ Dc D I S
def cx{Nn Cn:ed}(an:bZ Nn Cn X)(S:‹Nn[i]?=↑x›):aM X G H0 (.Name x pos) (fVar i):=⟨((an.a S).pe).imp λσ H Q U=>by
 obtain⟨W,env,d,env',ok,e,k⟩:=U;unfold fVar at e;cases q:env[i]? with
 |none=>rw[q] at e;cases e
 |some o =>
   cases o with
   |none=>rw[q] at e;cases e
   |some sl =>
     cases sl with
     |sh d' =>
       rw[q] at e;cases e;obtain⟨v,I,r⟩:=ok.slot i _ q;exact⟨v,I,k W v H Step.refl ok r⟩
     |ow ds =>
       rw[q] at e;cases e;obtain⟨W',v,I,st,D,r⟩:=ok.share q;exact⟨v,I,k W' v H st D r⟩
     |o2 dss =>
       rw[q] at e;cases e;obtain⟨W',v,I,st,D,r⟩:=ok.share2 q;exact⟨v,I,k W' v H st D r⟩
     |ag _ _ _=>rw[q] at e;cases e
     |al _ _=>rw[q] at e;cases e
     |ro _ _=>rw[q] at e;cases e⟩
def gX(h:PE X e (tC v))(r:∀H O,aN X.K H O d v):aM X G H0 e (fC d):=⟨h.imp λσ H Q D=>by
 obtain⟨W,env,d',env',ok,q,k⟩:=D;cases q;exact k W v H Step.refl ok (r _ _)⟩
def dz{i:Int}:aM X G H0 (.Constant ↥i j pos) (fC ↥i):=gX nT λ_ _=>.int _
def ox{i:Bool}:aM X G H0 (.Constant (.bool i) j pos) (fC (.bl i)):=gX AQ λ_ _=>.bl _
def wH{i:Str}:aM X G H0 (.Constant (.str i) j pos) (fC (.str i)):=gX uQ λ_ _=>.str _
def wx(U:aM X G H0 a f):aM X G H0 (.UnaryOp .USub a pos) (fY dG f):=⟨(uY uZ U.out).imp λσ H Q V=>by
 obtain⟨W,env,d',env',ok,q,k⟩:=V;cases e1:f env with
 |none=>simp[e1] at q |some r =>
   obtain⟨d,I⟩:=r;cases d with
   |int i =>
     have q:↑(D.int (-i),I)=↑(d',env'):=by simpa[fY,e1,dG] using q
     cases q;exact⟨W,env,_,_,ok,e1,λW1 Z H1 Y S p1=>⟨i,p1.int_,k W1 _ H1 Y S ↥_⟩⟩
   |_=>simp[e1] at q⟩
section
variable {X:Cx} {G:Gd} {H0:Hp} {a b c e:Expr} {es rest:et} {f g:FE} {F:FA} {p q:FT} {pos:Pos}
structure iH (X:Cx) (G:Gd) (H0:Hp) (e:Expr) (f:FT):Prop where
 out:PW X e (kT X.K G H0 f)
def PW.imp{X:Cx}{e:Expr}{t t':TT}(h:PW X e t)(i:∀σ H Q,t' σ H Q->t σ H Q):PW X e t':=λw pins s σ H Q I q=>h w pins s σ H Q I (i σ H Q q)
def dA(h:iH X G H0 e p):fB X G H0 e p:=⟨PW.pt h.out⟩
def yw(h:fB X G H0 a p):iH X G H0 (.BoolOp .And [a] pos) p:=⟨AV h.out⟩
def sw(h:fB X G H0 a p):iH X G H0 (.BoolOp .Or [a] pos) p:=⟨AW h.out⟩
def yn(h:fB X G H0 a p)(h2:iH X G H0 (.BoolOp .And (b::rest) pos) q):iH X G H0 (.BoolOp .And (a::b::rest) pos) (dY p q):=⟨(AX h.out h2.out).imp λσ H Q V=>by
 obtain⟨W,env,d,env',ok,e,k⟩:=V;cases e1:p env with
 |none=>simp[e1] at e |some r =>
   obtain⟨t,D⟩:=r;refine⟨W,env,t,D,ok,e1,λW1 H1 U I=>?_⟩;cases t with
   |true =>
     exact⟨W1,D,d,env',I,by simpa[dY,e1] using e,λY H2 s2 S=>k Y H2 (U.trans s2) S⟩
   |false =>
     have e:↑(false,D)=↑(d,env'):=by simpa[dY,e1] using e
     cases e;exact k W1 H1 U I⟩
def qx(h:fB X G H0 a p)(h2:iH X G H0 (.BoolOp .Or (b::rest) pos) q):iH X G H0 (.BoolOp .Or (a::b::rest) pos) (fOr p q):=⟨(AY h.out h2.out).imp λσ H Q V=>by
 obtain⟨W,env,d,env',ok,e,k⟩:=V;cases e1:p env with
 |none=>simp[e1] at e |some r =>
   obtain⟨t,D⟩:=r;refine⟨W,env,t,D,ok,e1,λW1 H1 U I=>?_⟩;cases t with
   |false =>
     exact⟨W1,D,d,env',I,by simpa[fOr,e1] using e,λY H2 s2 S=>k Y H2 (U.trans s2) S⟩
   |true =>
     have e:↑(true,D)=↑(d,env'):=by simpa[fOr,e1] using e
     cases e;exact k W1 H1 U I⟩
def tm(h:fB X G H0 a p):fB X G H0 (.UnaryOp .Not a pos) (cI p):=⟨(AZ h.out).imp λσ H Q I=>by
 obtain⟨W,env,d,env',ok,e,k⟩:=I;cases e1:p env with
 |none=>simp[e1] at e |some r =>
   have e:↑(!r.1,r.2)=↑(d,env'):=by simpa[cI,e1] using e
   cases e;exact⟨W,env,_,_,ok,e1,λW1 H1 S D=>k W1 H1 S D⟩⟩
def q9(h:aM X G H0 a f)(D:∀whole,isTrue a X.env whole=(do let v <-whole;standAt a.pos;holding [v] (truthy v)):=by intro _;rfl):fB X G H0 a (fTst f):=⟨(AT h.out D).imp (w5 λ_ _ _ z=>z)⟩
def wI{op:BoolOp}(h:aM X G H0 a f):aM X G H0 (.BoolOp op [a] pos) f:=⟨Bb h.out⟩
def wJ(h:aM X G H0 a f)(h2:aM X G H0 (.BoolOp .And (b::rest) pos) g):aM X G H0 (.BoolOp .And (a::b::rest) pos) (ve f g):=⟨(Bc h.out h2.out).imp λσ H Q Y=>by
 obtain⟨W,env,d,env',ok,e,k⟩:=Y;cases e1:f env with
 |none=>simp[e1] at e |some r =>
   obtain⟨t,I⟩:=r;refine⟨W,env,t,I,ok,e1,λW1 c H1 V S p1=>?_⟩;cases t with
   |bl t =>
     refine⟨t,p1.bl_,?_⟩;cases t with
     |true =>
       exact⟨W1,I,d,env',S,by simpa[ve,e1] using e,λZ v2 H2 s2 U p2=>k Z v2 H2 (V.trans s2) U p2⟩
     |false =>
       have e:↑(D.bl false,I)=↑(d,env'):=by simpa[ve,e1] using e
       cases e;exact k W1 _ H1 V S (.bl _)
   |_=>simp[e1] at e⟩
def De(h:aM X G H0 a f):aM X G H0 (.UnaryOp .Not a pos) (pM f):=⟨(Be h.out).imp λσ H Q U=>by
 obtain⟨W,env,d,env',ok,e,k⟩:=U;cases e1:f env with
 |none=>simp[e1] at e |some r =>
   obtain⟨t,I⟩:=r;refine⟨W,env,t,I,ok,e1,λW1 Y H1 V S p1=>?_⟩;cases t with
   |bl t =>
     have e:↑(D.bl (!t),I)=↑(d,env'):=by simpa[pM,e1] using e
     cases e;exact⟨t,p1.bl_,k W1 _ H1 V S (.bl _)⟩
   |_=>simp[e1] at e⟩
def e8  : dM X G H0 [] aB:=⟨qi.imp λσ H Q D=>by
 obtain⟨W,env,ds,env',ok,e,k⟩:=D;cases e;exact k W [] H Step.refl ok .nil⟩
def du(U:aM X G H0 e f)(V:dM X G H0 es F)(Y:‹starEach (e::es) X.env=(false,eval e X.env)::starEach es X.env›):dM X G H0 (e::es) (bz f F):=⟨(o9 U.out V.out Y).imp λσ H Q Z=>by
 obtain⟨W,env,ds,env',ok,q,k⟩:=Z;cases e1:f env with
 |none=>simp[e1] at q |some r =>
   obtain⟨d,D⟩:=r;cases e2:F D with
   |none=>simp[e1,e2] at q |some r2 =>
     have q:↑(d::r2.1,r2.2)=↑(ds,env'):=by simpa[bz,e1,e2] using q
     cases q;exact⟨W,env,d,D,ok,e1,λW1 c H1 a I p1=>⟨W1,D,_,_,I,e2,λb vs H2 s2 S p2=>k b _ H2 (a.trans s2) S (.cons (I.rep s2 p1) p2)⟩⟩⟩
def jT{n:Nat}(h:n<=64):n<=sizeLine:=b6 h (by rw[gy];decide)
def o7{k1}(h:dM X G H0 es F):aM X G H0 (.Tuple es k1 pos) (bP F):=⟨(Ca h.out).imp λσ H Q V=>by
 obtain⟨W,env,d,env',ok,q,k⟩:=V;cases e1:F env with
 |none=>simp[e1] at q |some r =>
   obtain⟨ds,I⟩:=r;by_cases U:ds.length<=64
   ·have q:↑(D.tup ds,I)=↑(d,env'):=by simpa[bP,e1,U] using q
    cases q;refine⟨W,env,ds,_,ok,e1,λW1 vs H1 Y S p1=>⟨by rw[<-p1.length];exact jT U,λl Z=>?_⟩⟩;have sm:aS H1 (aO H1 l (.tup vs)):=y9 Z;have st:Step W1 H1 W1 (aO H1 l (.tup vs)):=Step.same sm;exact k W1 _ _ (Y.trans st) (S.same sm) (.tup mv (S.reps st p1))
   ·simp[e1,U] at q⟩
def uy{W:Addr->Prop}{env:aJ}{σ:St}{H:Hp}{l:Addr}{vs:fw}{ds:f0}(ok:Ok X.K G H0 W env σ H)(r:aC X.K H (Ow G W) ds vs)(I:H l=none) :
  Step W H (bO W l) (aO H l (.lst vs))/\Ok X.K G H0 W env σ (aO H l (.lst vs))/\Ok X.K G H0 (bO W l) env σ (aO H l (.lst vs))/\¬W l/\aO H l (.lst vs) l=↑(.lst vs)/\aC X.K (aO H l (.lst vs)) (Ow G (bO W l)) ds vs:=by
 have sm:aS H (aO H l (.lst vs)):=y9 I;obtain⟨h1,h2,S,U,Y⟩:=ok.fresh (l:=l) (vs:=vs) (ds:=ds) sm I mv ((r.mono (O':=λa=>(Ow G W a\/H a=none)/\a≠l) (λ_ _ h=>sm _ _ h) λa us o h=>⟨⟨.inl o,λz=>by
  subst z;have h2:Rd H a (.lst us):=h;rcases h2 with h2 | ⟨_,h2⟩ <;> rw[I] at h2 <;> cases h2⟩,h.keep λo e=>sm _ o e⟩))
 exact⟨Y,ok.same sm,S,h1,mv,U⟩
def kh(h:dM X G H0 es F):eY X G H0 (.List es pos) (ig F):=⟨(Cb h.out).imp λσ H Q U=>by
 obtain⟨W,env,d,env',ok,q,k⟩:=U;cases e1:F env with
 |none=>simp[e1] at q |some r =>
   obtain⟨ds,D⟩:=r;by_cases I:ds.length<=64
   ·have q:↑(ds,D)=↑(d,env'):=by simpa[ig,e1,I] using q
    cases q;refine⟨W,env,_,_,ok,e1,λW1 vs H1 V S p1=>⟨by rw[<-p1.length];exact jT I,λl Y=>?_⟩⟩;obtain⟨h1,h2,Z,a,b,c⟩:=uy S p1 Y;exact k W1 l vs _ (V.trans h1) h2 Z a b c
   ·simp[e1,I] at q⟩
def jw(h:eY X G H0 e F):aM X G H0 e (aH F):=⟨h.out.imp λσ H Q V=>by
 obtain⟨W,env,d,env',ok,q,k⟩:=V;cases e1:F env with
 |none=>simp[e1] at q |some r =>
   have q:↑(D.lst r.1,r.2)=↑(d,env'):=by simpa[aH,e1] using q
   cases q;refine⟨W,env,_,_,ok,e1,λW1 l vs H1 U I S Y Z b=>k W1 _ H1 ⟨U.keep,λa z=>U.ws a (.inl z)⟩ I (.lst ⟨I.good l (S.wl l (.inr rfl)).1,Y⟩ (.inl Z) (b.mono (λ_ _ h=>h) λa us o h=>⟨⟨o.1,λz=>o.2 (.inl z)⟩,h⟩))⟩⟩
def bR(P:Program)(w:World)(K:fc)(mg:Str->ei)(base:Heap)(CX:fE)(x:Str)(k:Nat)(sp:Sp):Prop :=
 ∃fa fd ps,bK P w K mg base CX k fa fd ps sp/\mg x=↑(.ref fa)/\PySem.W.keepIn K (.ref fa)=true/\Binds K fd ps []/\(x==("__debug__" : Str))=false
def bU(K:fc)(m:f0->f4):Sp:=λvs H Q _=>∃O ds d,aC K H O ds vs/\m ds=↑d/\∀v H',aS H H'->aN K H' (λa=>O a\/H a=none) d v->Q v H'
def iI(K:fc)(m:f0->Option f0):Sp:=λvs H Q _=>∃O ds I,aC K H O ds vs/\m ds=↑I/\∀l us H',aS H H'->H l=none->H' l=↑(.lst us)->aC K H' (λa=>(O a\/H a=none)/\a≠l) I us->Q (.ref l) H'
@[simp] def f9(m:f0->f4)(F:FA):FE:=λe=>(F e).bind λr=>(m r.1).map λd=>(d,r.2)
@[simp] def jb(m:f0->Option f0)(F:FA):FA:=λe=>(F e).bind λr=>(m r.1).map λd=>(d,r.2)
def Df{m:f0->f4}{E:XK}:∀σ H Q,tD X.K G H0 (f9 m F) σ H Q->kN (bU X.K m) [] E (iF X.K G H0 F) σ H Q:=λσ H Q U=>by
 obtain⟨W,env,d,env',ok,q,k⟩:=U;cases e1:F env with
 |none=>simp[e1] at q |some r =>
   obtain⟨ds,S⟩:=r;cases e2:m ds with
   |none=>simp[e1,e2] at q |some d' =>
     have q:↑(d',S)=↑(d,env'):=by simpa[f9,e1,e2] using q
     cases q;refine⟨W,env,ds,_,ok,e1,λW1 vs H1 V I p1=>?_⟩;show bU X.K m (vs++[]) H1 Q E;rw[di];refine⟨Ow G W1,ds,_,p1,e2,λv H2 sm Y=>?_⟩;refine k W1 v H2 (V.trans (Step.same sm)) (I.same sm) (Y.mono (λ_ _ h=>h) λa us o h=>⟨?_,h⟩);rcases o with o |o
     ·exact o
     ·exact⟨I.good a (I.stay.free o),λz=>by obtain⟨_,us,q⟩:=I.wl a z;rw[o] at q;cases q⟩
def Dg{m:f0->Option f0}{E:XK}:∀σ H Q,g8 X.K G H0 (jb m F) σ H Q->kN (iI X.K m) [] E (iF X.K G H0 F) σ H Q:=λσ H Q V=>by
 obtain⟨W,env,d,env',ok,q,k⟩:=V;cases e1:F env with
 |none=>simp[e1] at q |some r =>
   obtain⟨ds,I⟩:=r;cases e2:m ds with
   |none=>simp[e1,e2] at q |some d' =>
     have q:↑(d',I)=↑(d,env'):=by simpa[jb,e1,e2] using q
     cases q;refine⟨W,env,ds,_,ok,e1,λW1 vs H1 Y S p1=>?_⟩;show iI X.K m (vs++[]) H1 Q E;rw[di];refine⟨Ow G W1,ds,_,p1,e2,λl us H2 sm Z U a=>?_⟩;obtain⟨h1,h2,b,c,e⟩:=S.fresh sm Z U a;exact k W1 l us H2 (Y.trans e) (S.same sm) b h1 U c
variable {CX:fE} {k:Nat} {fa:Addr} {fd:FuncData} {ps:ed} {m:f0->f4} {mF:f0->Option f0} {x:Str} {p':Pos} {E:XK}
def jv{jr:Nat}(c:bR X.prog X.w X.K X.mg X.base bF x k (bU X.K m))(S:aV jr X.A)(U:dM X G H0 (e::es) F)(hkj:k<=jr:=by decide)(V:Gl X x:=by walk_at "g")(Y:‹starEach (e::es) X.env=(false,eval e X.env)::starEach es X.env›)(D:‹(backTo pos (starEach es X.env)).any (·.1)=false›) :
  aM X G H0 (.Call (.Name x p') (e::es) [] pos) (f9 m F):=let ⟨_,_,_,Z,a,b,d,I⟩:=c;⟨(oU Z (S.mono hkj) V a b d .nil p3 U.out I Y D).imp Df⟩
def wK{jr:Nat}(c:bR X.prog X.w X.K X.mg X.base bF x k (iI X.K mF))(S:aV jr X.A)(U:dM X G H0 (e::es) F)(hkj:k<=jr:=by decide)(V:Gl X x:=by walk_at "g")(Y:‹starEach (e::es) X.env=(false,eval e X.env)::starEach es X.env›)(D:‹(backTo pos (starEach es X.env)).any (·.1)=false›) :
  eY X G H0 (.Call (.Name x p') (e::es) [] pos) (jb mF F):=let ⟨_,_,_,Z,a,b,d,I⟩:=c;⟨(oU Z (S.mono hkj) V a b d .nil p3 U.out I Y D).imp Dg⟩
end
section
variable {X:Cx} {G:Gd} {H0:Hp} {a b c e:Expr} {es rest:et} {f g:FE} {F:FA} {p q:FT} {pos p':Pos} {x:Str}
def ur(X:Cx)(G:Gd)(H0:Hp)(r:fw->Hp->VK->Prop)(op:f0->f4):Prop :=
 ∀W env σ H vs ds d (Q:VK),Ok X.K G H0 W env σ H->aC X.K H (Ow G W) ds vs->op ds=↑d ->
  (∀v H',Step W H W H'->Ok X.K G H0 W env σ H'->aN X.K H' (Ow G W) d v->Q v H')->r vs H Q
def pP(X:Cx)(G:Gd)(H0:Hp)(r:fw->Hp->VK->Prop)(op:f0->Option f0):Prop :=
 ∀W env σ H vs ds rs (Q:VK),Ok X.K G H0 W env σ H->aC X.K H (Ow G W) ds vs->op ds=↑rs ->
  (∀l us H',Step W H (bO W l) H'->Ok X.K G H0 W env σ H'->Ok X.K G H0 (bO W l) env σ H'->¬W l->H' l=↑(.lst us)->aC X.K H' (Ow G (bO W l)) rs us->Q (.ref l) H')->r vs H Q
def wL{r:fw->Hp->VK->Prop}{op:f0->f4}(hd:ur X G H0 r op):∀σ H Q,tD X.K G H0 (f9 op F) σ H Q->kO r (iF X.K G H0 F) σ H Q:=λσ H Q Y=>by
 obtain⟨W,env,d,env',ok,q,k⟩:=Y;cases e1:F env with
 |none=>simp[e1] at q |some z =>
   obtain⟨ds,I⟩:=z;cases e2:op ds with
   |none=>simp[e1,e2] at q |some d' =>
     have q:↑(d',I)=↑(d,env'):=by simpa[f9,e1,e2] using q
     cases q;exact⟨W,env,ds,_,ok,e1,λW1 vs H1 Z S p1=>hd W1 _ σ H1 vs ds _ Q S p1 e2 λv H2 s2 U p2=>k W1 v H2 (Z.trans s2) U p2⟩
def Dh{r:fw->Hp->VK->Prop}{op:f0->Option f0}(hd:pP X G H0 r op):∀σ H Q,g8 X.K G H0 (jb op F) σ H Q->kO r (iF X.K G H0 F) σ H Q:=λσ H Q Z=>by
 obtain⟨W,env,d,env',ok,q,k⟩:=Z;cases e1:F env with
 |none=>simp[e1] at q |some z =>
   obtain⟨ds,I⟩:=z;cases e2:op ds with
   |none=>simp[e1,e2] at q |some d' =>
     have q:↑(d',I)=↑(d,env'):=by simpa[jb,e1,e2] using q
     cases q;exact⟨W,env,ds,_,ok,e1,λW1 vs H1 a S p1=>hd W1 _ σ H1 vs ds _ Q S p1 e2 λl us H2 s2 U Y b c e=>k W1 l us H2 (a.trans s2) U Y b c e⟩
variable {id T:String} {r:fw->Hp->VK->Prop} {op:f0->f4} {opF:f0->Option f0}
def kW(S:p5 X (.builtin id) r)(hd:ur X G H0 r op)(U:Gl X x)(V:X.mg x=none)(Y:bootBuiltins x=↑(.builtin id))(Z:dM X G H0 (e::es) F)(a:x ≠ "__name__":=by decide)(D:(x==("__debug__" : Str))=false:=by decide)(b:‹starEach (e::es) X.env=(false,eval e X.env)::starEach es X.env›)(I:‹(backTo pos (starEach es X.env)).any (·.1)=false›):aM X G H0 (.Call (.Name x p') (e::es) [] pos) (f9 op F):=⟨(kP S U V Y Z.out a D b I).imp (wL hd)⟩
def Di(S:p5 X (.type T) r)(hd:ur X G H0 r op)(U:Gl X x)(V:X.mg x=none)(Y:bootBuiltins x=↑(.type T))(Z:dM X G H0 (e::es) F)(a:x ≠ "__name__":=by decide)(D:(x==("__debug__" : Str))=false:=by decide)(b:‹starEach (e::es) X.env=(false,eval e X.env)::starEach es X.env›)(I:‹(backTo pos (starEach es X.env)).any (·.1)=false›):aM X G H0 (.Call (.Name x p') (e::es) [] pos) (f9 op F):=⟨(oV S U V Y Z.out a D b I).imp (wL hd)⟩
def Dj(S:p5 X (.type T) r)(hd:pP X G H0 r opF)(U:Gl X x)(V:X.mg x=none)(Y:bootBuiltins x=↑(.type T))(Z:dM X G H0 (e::es) F)(a:x ≠ "__name__":=by decide)(D:(x==("__debug__" : Str))=false:=by decide)(b:‹starEach (e::es) X.env=(false,eval e X.env)::starEach es X.env›)(I:‹(backTo pos (starEach es X.env)).any (·.1)=false›):eY X G H0 (.Call (.Name x p') (e::es) [] pos) (jb opF F):=⟨(oV S U V Y Z.out a D b I).imp (Dh hd)⟩
def qw{K:fc}{H:Hp}{O:Addr->Prop}{d:D}{vs:fw}(h:aC K H O [d] vs):∃v,vs=[v]/\aN K H O d v:=by
 cases h with |cons r t=>cases t;exact⟨_,rfl,r⟩
def pQ{K:fc}{H:Hp}{O:Addr->Prop}{d d':D}{vs:fw}(h:aC K H O [d,d'] vs):∃v I,vs=[v,I]/\aN K H O d v/\aN K H O d' I:=by
 cases h with |cons r t=>cases t with |cons r' t=>cases t;exact⟨_,_,rfl,r,r'⟩
@[simp] def eN:f0->f4 | [.tup ds]=>↑↥ds.length | [.lst ds]=>↑↥ds.length |_=>none
def Dk:ur X G H0 (λxs H Q=>∃p ys,xs=[.ref p]/\(cN X.K H p ys\/dW X.K H p ys)/\Q ↥ys.length H) eN:=by
 intro W env σ H vs ds d Q ok r e k;unfold eN at e;split at e
 ·rename_i ds
  cases e;obtain⟨v,rfl,D⟩:=qw r;have r:=D;obtain⟨a,us,rfl,h,r⟩:=r.tup_;exact⟨a,us,rfl,.inr (dW.of h),by rw[<-r.length];exact k _ H Step.refl ok ↥_⟩
 ·rename_i ds
  cases e;obtain⟨v,rfl,D⟩:=qw r;have r:=D;obtain⟨a,us,rfl,h,r⟩:=r.lst_;exact⟨a,us,rfl,.inl h.sq,by rw[<-r.length];exact k _ H Step.refl ok ↥_⟩
 ·cases e
def pR(I:dM X G H0 [e] F)(D:Bn X "len":=by walk_at "b")(S:‹starEach [e] X.env=(false,eval e X.env)::starEach [] X.env›):aM X G H0 (.Call (.Name "len" p') [e] [] pos) (f9 eN F) :=
 kW vO Dk D.g D.m PySem.boot_len I (by decide) (by decide) S rfl
@[simp] def gI:f0->f4 | [↥i]=>↑↥i | [.bl k]=>↑↥(if k then 1 else 0) |_=>none
def Dl:ur X G H0 (λxs H Q=>(∃i,xs=[↥i]/\Q ↥i H)\/∃k,xs=[.bl k]/\Q ↥(if k then 1 else 0) H) gI:=by
 intro W env σ H vs ds d Q ok r e k;unfold gI at e;split at e
 ·cases e
  obtain⟨v,rfl,D⟩:=qw r;have r:=D;exact .inl ⟨_,by rw[r.int_],k _ H Step.refl ok ↥_⟩
 ·cases e
  obtain⟨v,rfl,D⟩:=qw r;have r:=D;exact .inr ⟨_,by rw[r.bl_],k _ H Step.refl ok ↥_⟩
 ·cases e
def Dm:bootBuiltins "int" = ↑(.type "int"):=by decide +kernel
def Do(I:dM X G H0 [e] F)(D:Bn X "int":=by walk_at "b")(S:‹starEach [e] X.env=(false,eval e X.env)::starEach [] X.env›):aM X G H0 (.Call (.Name "int" p') [e] [] pos) (f9 gI F) :=
 Di BM Dl D.g D.m Dm I (by decide) (by decide) S rfl
@[simp] def gY:f0->f4 | [↥i,↥j]=>↑↥(if j<i then j else i) |_=>none
def Dp:ur X G H0 (λxs H Q=>∃i j,xs=[↥i,↥j]/\Q ↥(if j<i then j else i) H) gY:=by
 intro W env σ H vs ds d Q ok r e k;unfold gY at e;split at e
 ·cases e
  obtain⟨v,S,rfl,D,I⟩:=pQ r;have r:=D;exact⟨_,_,by rw[r.int_,I.int_],k _ H Step.refl ok ↥_⟩
 ·cases e
def Dq(S:dM X G H0 [a,b] F)(U:‹X.calm=true›)(I:Bn X "min":=by walk_at "b")(V:‹starEach [a,b] X.env=(false,eval a X.env)::starEach [b] X.env›)(D:‹(backTo pos (starEach [b] X.env)).any (·.1)=false›):aM X G H0 (.Call (.Name "min" p') [a,b] [] pos) (f9 gY F) :=
 kW (BL U) Dp I.g I.m boot_min S (by decide) (by decide) V D
def bJ:f0->Option ep
 | []=>↑[] | .int i::r=>(bJ r).map (i::·)
 |_::_=>none
def xm:∀ {ds:f0} {ns:ep},bJ ds=↑ns->ds=ns.map D.int
 | [],ns,h=>by cases h;rfl
 | .int i::r,ns,h=>by
   unfold bJ at h;cases q:bJ r with
   |none=>rw[q] at h;cases h
   |some ms=>rw[q] at h;cases h;rw[xm q];rfl
 | .str _::_,_,h=>by cases h
def dH(ns:ep):bJ (ns.map D.int)=↑ns:=by
 induction ns with
 |nil=>rfl |cons n r ih=>show(bJ (r.map D.int)).map (n::·)=_;rw[ih];rfl
def xt{K:fc}{H:Hp}{O:Addr->Prop}:∀ {ns:ep} {vs:fw},aC K H O (ns.map D.int) vs->vs=ns.map V.int
 | [],_,h=>by cases h;rfl
 |n::r,_,h=>by cases h with |cons a t=>rw[xt t,a.int_];rfl
def wM(Y:X.calm=true):p5 X (.builtin "sum") (λxs H Q=>∃p,∃ns:ep,xs=[.ref p]/\cN X.K H p (ns.map V.int)/\Q ↥ns.sum H):=by
 intro pins s σ H xs us Q I r h;obtain⟨p,ns,rfl,Z,q⟩:=h;obtain⟨u,rfl,a⟩:=vg r;cases a;obtain⟨its,b,pl,e⟩:=I.list Z;have hi:IntsAre its ns:=oW b;have S:=pl.isList;obtain⟨xs,D⟩:=hi.allInts.items;rw[D] at S;refine sum_intListG (I.ok.hd Y) S λh' tk t' c=>⟨.int ns.sum,H,I.kept c,⟨t',?_⟩,q⟩;have d:numsOf its=ns:=hi.numsOf;have U:numsOf (intItems xs).toList=ns:=by rw[<-D];exact d
 rw[nums_intItems] at U;rw[preSum_eq,iw ⋯,U]
def dU:f0->f4 | [.lst ds]=>(bJ ds).map λns=>.int ns.sum |_=>none
def Dr:ur X G H0 (λxs H Q=>∃p,∃ns:ep,xs=[.ref p]/\cN X.K H p (ns.map V.int)/\Q ↥ns.sum H) dU:=by
 intro W env σ H vs ds d Q ok r e k;unfold dU at e;split at e
 ·rename_i ds
  cases q:bJ ds with
  |none=>rw[q] at e;cases e
  |some ns =>
    rw[q] at e;cases e;obtain⟨v,rfl,D⟩:=qw r;have r:=D;obtain⟨a,us,rfl,h,r⟩:=r.lst_;rw[xm q] at r;rw[xt r] at h;exact⟨a,ns,rfl,h.sq,k _ H Step.refl ok ↥_⟩
 ·cases e
def kX(I:dM X G H0 [e] F)(S:‹X.calm=true›)(D:Bn X "sum":=by walk_at "b")(U:‹starEach [e] X.env=(false,eval e X.env)::starEach [] X.env›):aM X G H0 (.Call (.Name "sum" p') [e] [] pos) (f9 dU F) :=
 kW (wM S) Dr D.g D.m boot_sum I (by decide) (by decide) U rfl
@[simp] def sv:f0->Option f0 | [.lst ds]=>↑ds | [.tup ds]=>↑ds |_=>none
def Ds:pP X G H0 (λxs H Q=>∃p ys,xs=[.ref p]/\(cN X.K H p ys\/dW X.K H p ys)/\∀l,H l=none->Q (.ref l) (aO H l (.lst ys))) sv:=by
 intro W env σ H vs ds Z Q ok r e k;unfold sv at e;split at e
 ·cases e
  obtain⟨v,rfl,D⟩:=qw r;have r:=D;obtain⟨a,us,rfl,h,r⟩:=r.lst_;refine⟨a,us,rfl,.inl h.sq,λl I=>?_⟩;obtain⟨h1,h2,S,U,V,Y⟩:=uy ok r I;exact k l us _ h1 h2 S U V Y
 ·cases e
  obtain⟨v,rfl,D⟩:=qw r;have r:=D;obtain⟨a,us,rfl,h,r⟩:=r.tup_;refine⟨a,us,rfl,.inr (dW.of h),λl I=>?_⟩;obtain⟨h1,h2,S,U,V,Y⟩:=uy ok r I;exact k l us _ h1 h2 S U V Y
 ·cases e
def wN:bootBuiltins "list" = ↑(.type "list"):=by decide +kernel
def Dt(I:dM X G H0 [e] F)(D:Bn X "list":=by walk_at "b")(S:‹starEach [e] X.env=(false,eval e X.env)::starEach [] X.env›):eY X G H0 (.Call (.Name "list" p') [e] [] pos) (jb sv F) :=
 Dj Cz Ds D.g D.m wN I (by decide) (by decide) S rfl
end
section
variable {X:Cx} {G:Gd} {H0:Hp} {a b c e:Expr} {es rest:et} {f g:FE} {F:FA} {p q:FT} {pos p' p1 pos1:Pos} {x:Str}
def aG.of:∀ {xs:fw} {us:ee},xs.length=us.length->(∀(j:Nat) (x:V) (u:Value),xs[j]?=↑x->us[j]?=↑u->RelV x u)->aG xs us
 | [],[],_,_=>.nil |x::xs,u::us,h,r=>.cons (r 0 x u rfl rfl) (aG.of (pq h) λj y w D I=>r (j+1) y w (by simpa using D) (by simpa using I))
def Du(ta:TA):TE:=λσ H Q=>ta σ H λvs H1=>∃i j:Int,vs=[↥i,↥j]/\∀r,H1 r=none->Q (.ref r) (aO H1 r (.rng i j))
def Dv{ta:TA}(S:Bn X "range")(V:PA X [a,b] ta)(Y:‹starEach [a,b] X.env=[(false,eval a X.env),(false,eval b X.env)]›)(D:‹starEach [b] X.env=[(false,eval b X.env)]›) :
  PE X (.Call (.Name "range" p') [a,b] [] pos) (Du ta):=by
 intro pins s σ H Q I h;refine Call_ (ud I S.g S.m boot_range (f6 (aU (V pos pins s σ H _ I h) λus Z c=>?_) (by rw[Y,D]) (by rw[D];rfl)));obtain⟨vs,H1,U,d,f⟩:=c;obtain⟨i,j,e,q⟩:=f;subst e;obtain⟨u,k,rfl,⟨t,rfl⟩,t',rfl⟩:=oK d;refine call_range_2 ?_;exact⟨.ref Z.heap.objs.size,_,U.laid (o:=.rng i j) (λb l q=>bc _ q) (bj _) (show bG X.prog X.w _ _ _ (.rng i j) from⟨_,_,_,cg _ rfl⟩),rfl,q _ (U.hok.fresh (bj _))⟩
def cV(lo hi:Int):ep:=(List.range (hi-lo).toNat).map λ(k:Nat)=>lo+(k:Int)
def pS(lo hi:Int):(cV lo hi).length=(hi-lo).toNat:=by simp[cV]
theorem Dw(a:X.calm=true):p5 X (.type "list") (λxs H Q=>∃r lo hi,xs=[.ref r]/\H r=↑(.rng lo hi)/\(-(2 ^ 62)<=lo/\lo<2 ^ 62/\-(2 ^ 62)<=hi/\hi<2 ^ 62)/\(hi-lo).toNat<=2 ^ 20 /\
  ∀l,H l=none->Q (.ref l) (aO H l (.lst ((cV lo hi).map V.int)))):=by
 intro pins s σ H xs us Q I r h;obtain⟨p,lo,hi,rfl,b,⟨c,d,b3,e⟩,Z,q⟩:=h;obtain⟨u,rfl,f⟩:=vg r;cases f;obtain⟨t,u,v,g⟩:=(show bG X.prog X.w H s.heap p (.rng lo hi) from I.hok p _ b);refine call_list_range (n:=(hi-lo).toNat) (I.ok.hd a) (show IsRange s.heap p lo hi 1 t u v from g) (small_one c d b3 e) (by rw[rangeSize_one];split <;> lia) (b6 Z (by decide)) λh' tk D i m o S=>?_;have y:aG ((cV lo hi).map V.int) D.toList:=by
  obtain⟨z,A⟩:=S;refine aG.of (by rw[ae,pS,ii,z]) λj x u U B=>?_;obtain⟨t,rfl⟩:=A j u (by simpa using B);rw[bo,cV,bo] at U;cases q:(List.range (hi-lo).toNat)[j]? with
  |none=>rw[q] at U;cases U
  |some k =>
    rw[q] at U;have Y:k=j:=by
     rw[kg] at q
     ·exact(bn q).symm
     ·have:=(au.mp q).1;simpa using this
    cases U;exact⟨t,by rw[Y,Int.mul_one]⟩
 exact⟨.ref s.heap.objs.size,_,I.laid m (bj _) (show bG X.prog X.w _ h' _ (.lst _) from⟨by rw[ae,pS];exact b6 Z (by rw[gy];decide),D.toList,i,y,o⟩),rfl,q _ (I.hok.fresh (bj _))⟩
def we(ds:f0):Option f0:=match ds with
 | [↥i,↥j]=>if eT (-(2 ^ 20)) (2 ^ 20+1) i/\eT (-(2 ^ 62)) (2 ^ 62) j/\eT (-(2 ^ 63)) (2 ^ 20+1) (j-i) then ↑((cV i j).map D.int) else none
 |_=>none
def kY{K:fc}{H:Hp}{O:Addr->Prop}:∀(ns:ep),aC K H O (ns.map D.int) (ns.map V.int)
 | []=>.nil |n::r=>.cons ↥n (kY r)
def Dx{W:Addr->Prop}{env:aJ}{σ:St}{H:Hp}{lo hi:Int}{Q:VK}(ok:Ok X.K G H0 W env σ H)(Y:(-(2 ^ 62)<=lo/\lo<2 ^ 62/\-(2 ^ 62)<=hi/\hi<2 ^ 62))(Z:(hi-lo).toNat<=2 ^ 20)(k:∀l us H',Step W H (bO W l) H'->Ok X.K G H0 W env σ H'->Ok X.K G H0 (bO W l) env σ H'->¬W l->H' l=↑(.lst us)->aC X.K H' (Ow G (bO W l)) ((cV lo hi).map D.int) us->Q (.ref l) H')(r:Addr)(a:H r=none):∃U I S,[V.ref r]=[.ref U]/\(aO H r (.rng lo hi)) U=↑(.rng I S)/\(-(2 ^ 62)<=I/\I<2 ^ 62/\-(2 ^ 62)<=S/\S<2 ^ 62)/\(S-I).toNat<=2 ^ 20 /\
   ∀l,aO H r (.rng lo hi) l=none->Q (.ref l) (aO (aO H r (.rng lo hi)) l (.lst ((cV I S).map V.int))):=by
 refine⟨r,lo,hi,rfl,mv,Y,Z,λl b=>?_⟩;have sm:aS H (aO H r (.rng lo hi)):=y9 a;obtain⟨h1,h2,c,d,e,f⟩:=uy (ok.same sm) (kY (cV lo hi)) b;exact k l _ _ ((Step.same sm).trans h1) h2 c d e f
theorem Dy(f:dM X G H0 [a,b] F)(h:‹X.calm=true›)(c:Bn X "list":=by walk_at "b")(S:Bn X "range":=by walk_at "b")(n:‹starEach [a,b] X.env=[(false,eval a X.env),(false,eval b X.env)]›)(U:‹starEach [b] X.env=[(false,eval b X.env)]›)(e:‹starEach [.Call (.Name "range" p1) [a,b] [] pos1] X.env=(false,eval (.Call (.Name "range" p1) [a,b] [] pos1) X.env)::starEach [] X.env›) :
  eY X G H0 (.Call (.Name "list" p') [.Call (.Name "range" p1) [a,b] [] pos1] [] pos) (jb we F) :=
 ⟨(oV (Dw h) c.g c.m wN (o9 (Dv S f.out n U) qi e) (by decide) (by decide) e rfl).imp λσ H Q o=>by
  obtain⟨W,env,d,env',ok,q,k⟩:=o;cases e1:F env with
  |none=>simp[e1] at q |some z =>
    obtain⟨ds,D⟩:=z;cases e2:we ds with
    |none=>simp[e1,e2] at q |some d' =>
      have q:↑(d',D)=↑(d,env'):=by simpa[jb,e1,e2] using q
      cases q;refine⟨W,env,ds,_,ok,e1,λW1 vs H1 p V p1=>?_⟩;unfold we at e2;split at e2
      ·rename_i i j
       split at e2
       ·rename_i I
        cases e2;obtain⟨v,A,rfl,s,t⟩:=pQ p1;cases s;cases t;exact⟨i,j,rfl,λr u=>Dx V ⟨by have:=I.1.1;lia,by have:=I.1.2;lia,I.2.1.1,I.2.1.2⟩ (by have:=I.2.2.2;lia) (λl us H2 s2 Y Z w x y=>k W1 l us H2 (p.trans s2) Y Z w x y) r u⟩
       ·cases e2
      ·cases e2⟩
abbrev FO:=aJ->Option (ez×aJ)
def Dz(K:fc)(G:Gd)(H0:Hp)(f:FO):TO:=λσ H Q=>DP K G H0 f (λW env o env'=> ∀W' H',Step W H W' H'->Ok K G H0 W' env' σ H'->Q o H') σ H
structure kZ (X:Cx) (G:Gd) (H0:Hp) (e:Option Expr) (f:FO):Prop where
 out:PO X e (Dz X.K G H0 f)
def PO.imp{X:Cx}{e:Option Expr}{t t':TO}(h:PO X e t)(i:∀σ H Q,t' σ H Q->t σ H Q):PO X e t':=λpins s σ H Q I q=>h pins s σ H Q I (i σ H Q q)
@[simp] def fZ:FO:=λe=>↑(none,e)
@[simp] def fS(f:FE):FO:=λe=>(f e).bind λr=>match r.1 with | .int i=>↑(↑i,r.2) |_=>none
def xg  : kZ X G H0 none fZ:=⟨Cj.imp λσ H Q ⟨W,env,o,env',ok,q,k⟩=>by cases q;exact k W H Step.refl ok⟩
def xf(h:aM X G H0 e f):kZ X G H0 ↑e (fS f):=⟨(Ck h.out).imp λσ H Q S=>by
 obtain⟨W,env,o,env',ok,q,k⟩:=S;cases e1:f env with
 |none=>simp[e1] at q |some r =>
   obtain⟨d,D⟩:=r;cases d with
   |int i =>
     have q:↑(↑i,D)=↑(o,env'):=by simpa[fS,e1] using q
     cases q;exact⟨W,env,_,_,ok,e1,λW1 V H1 U I p1=>⟨i,p1.int_,k W1 H1 U I⟩⟩
   |_=>simp[e1] at q⟩
def cutD(xs:f0)(lo hi:ez):f0:=(xs.drop (HT.sIx xs.length 0 lo)).take (HT.sIx xs.length xs.length hi-HT.sIx xs.length 0 lo)
def aC.cut{K:fc}{H:Hp}{O:Addr->Prop}{ds:f0}{vs:fw}(r:aC K H O ds vs)(lo hi:ez):aC K H O (cutD ds lo hi) (g7 vs lo hi):=by
 unfold cutD g7;rw[r.length];exact(r.drop _).take _
@[simp] def fT(f:FE)(l h:FO):FA:=λe=>(f e).bind λr=>(l r.2).bind λD=>(h D.2).bind λI=>match r.1 with | .lst ds=>↑(cutD ds D.1 I.1,I.2) |_=>none
def wd{lo hi:Option Expr}{fl V:FO}{sp:Pos}(g:aM X G H0 a f)(i:kZ X G H0 lo fl)(j:kZ X G H0 hi V) :
  eY X G H0 (.Subscript a (.Slice lo hi none sp) pos) (fT f fl V):=⟨(Cp Cy g.out i.out j.out).imp λσ H Q m=>by
 obtain⟨W,env,d,env',ok,q,k⟩:=m;cases e1:f env with
 |none=>simp[e1] at q |some r =>
   obtain⟨n,D⟩:=r;cases e2:fl D with
   |none=>simp[e1,e2] at q |some r2 =>
     obtain⟨b,I⟩:=r2;cases e3:V I with
     |none=>simp[e1,e2,e3] at q |some r3 =>
       obtain⟨c,S⟩:=r3;cases n with
       |lst ds =>
         have q:↑(cutD ds b c,S)=↑(d,env'):=by simpa[fT,e1,e2,e3] using q
         cases q;refine⟨W,env,_,_,ok,e1,λW1 z H1 o U p1=>⟨W1,D,_,_,U,e2,λp H2 s2 Y=>⟨p,I,_,_,Y,e3,λs A e Z=>?_⟩⟩⟩;obtain⟨l,us,rfl,h,r⟩:=(U.rep (s2.trans e) p1).lst_;refine⟨l,us,rfl,h.sq,λt u=>?_⟩;obtain⟨h1,h2,v,w,x,y⟩:=uy Z (r.cut b c) u;exact k s t _ _ (((o.trans s2).trans e).trans h1) h2 v w x y
       |_=>simp[e1,e2,e3] at q⟩
def D0(K:fc):R2:=λx y H Q=>∃l b xs D,x=.ref l/\y=.ref b/\cN K H l xs/\cN K H b D/\xs.length+D.length<=sizeLine/\∀p,H p=none->Q (.ref p) (aO H p (.lst (xs++D)))
theorem D1:eL X (binaryOp .Add) (D0 X.K):=by
 intro pins s σ H x y v u Q I f g h;obtain⟨l,b,xs,w,rfl,rfl,i,j,A,q⟩:=h;cases f;cases g;obtain⟨its,r,⟨⟨cls,dd,data,sl⟩,n,c,k,V,hd⟩,z⟩:=I.list i;obtain⟨D,d,⟨⟨e,m,data2,Y⟩,o,S,Z,U,a⟩,B⟩:=I.list j;subst k hd Z a V U;have C:=r.length;have p:=d.length;refine concat_meets ⟨_,c,rfl⟩ ⟨_,S,rfl⟩ noFill_list_add seq_list_add PySem.F.slot_list_add PySem.F.entry_list_add (PySem.F.args_list_add_2 _ _) (list_addW l b its.toArray D.toArray n o none none sl Y (by simp;lia)) ⟨c,S,?_⟩;have t:its.toArray++D.toArray=(its++D).toArray:=by simp
 rw[t];exact⟨.ref _,_,I.lnew (t':=s.toks) (r.append d) (by rw[ai];lia),rfl,q _ I.fresh⟩
@[simp] def cQ(f g:FE):FA:=λe=>(f e).bind λr=>(g r.2).bind λq=>match r.1,q.1 with | .lst ds,.lst es=>if bI (ds.length+es.length) then ↑(ds++es,q.2) else none |_,_=>none
def ux(c:aM X G H0 a f)(e:aM X G H0 b g):eY X G H0 (.BinOp a .Add b pos) (cQ f g):=⟨(oI D1 c.out e.out).imp λσ H Q i=>by
 obtain⟨W,env,d,env',ok,q,k⟩:=i;cases e1:f env with
 |none=>simp[e1] at q |some r =>
   obtain⟨j,D⟩:=r;cases e2:g D with
   |none=>simp[e1,e2] at q |some r2 =>
     obtain⟨m,I⟩:=r2;cases j with
     |lst ds =>
       cases m with
       |lst es =>
         by_cases U:bI (ds.length+es.length)
         ·have q:↑(ds++es,I)=↑(d,env'):=by simpa only[cQ,e1,e2,ac,az U] using q
          cases q;refine⟨W,env,_,_,ok,e1,λW1 y H1 o S p1=>⟨W1,D,_,_,S,e2,λp v2 H2 s2 V p2=>?_⟩⟩;obtain⟨l,us,rfl,h,r⟩:=(S.rep s2 p1).lst_;obtain⟨s,Y,rfl,h',Z⟩:=p2.lst_;refine⟨l,s,us,Y,rfl,rfl,h.sq,h'.sq,?_,λn t=>?_⟩
          ·rw[<-r.length,<-Z.length];exact b6 U (by rw[gy];decide)
          ·obtain⟨h1,h2,u,v,w,x⟩:=uy V (r.append Z) t
           exact k p n _ _ ((o.trans s2).trans h1) h2 u v w x
         ·simp only[cQ,e1,e2,ac,bu U] at q;cases q
       |_=>simp[e1,e2] at q
     |_=>simp[e1,e2] at q⟩
@[simp] def jd(i:Nat):FE:=λe=>match e[i]? with
 |some ↑(.ow ds)=>↑(.int ds.length,e) |some ⇑(.lst ds)=>↑(.int ds.length,e) |some ⇑(.tup ds)=>↑(.int ds.length,e) |_=>none
def lp{Nn Cn:ed}{i:Nat}(an:bZ Nn Cn X)(U:Bn X "len":=by walk_at "b")(S:‹Nn[i]?=↑x›)(V:‹starEach [.Name x p1] X.env=(false,eval (.Name x p1) X.env)::starEach [] X.env›):aM X G H0 (.Call (.Name "len" p') [.Name x p1] [] pos) (jd i) :=
 ⟨(kP vO U.g U.m PySem.boot_len (o9 ((an.a S).pe) qi V) (by decide) (by decide) V rfl).imp λσ H Q Y=>by
  obtain⟨W,env,d,env',ok,q,k⟩:=Y;unfold jd at q;split at q
  ·rename_i ds D
   cases q;obtain⟨v,I,l,vs,rfl,b,Z,r⟩:=ok.slot i _ D;exact⟨_,I,l,vs,rfl,.inl (.inl (.inl Z)),by rw[<-r.length];exact k W _ H Step.refl ok ↥_⟩
  ·rename_i ds D
   cases q;obtain⟨v,I,r⟩:=ok.slot i _ D;obtain⟨l,us,rfl,h,r⟩:=aN.lst_ r;exact⟨_,I,l,us,rfl,.inl h.sq,by rw[<-r.length];exact k W _ H Step.refl ok ↥_⟩
  ·rename_i ds D
   cases q;obtain⟨v,I,r⟩:=ok.slot i _ D;obtain⟨l,us,rfl,h,r⟩:=aN.tup_ r;exact⟨_,I,l,us,rfl,.inr (dW.of h),by rw[<-r.length];exact k W _ H Step.refl ok ↥_⟩
  ·cases q⟩
@[simp] def bN:D->Option gj->f4
 | .int k,↑↑(.ow ds)=>aW ds k | .int k,↑⇑(.lst ds)=>aW ds k | .int k,↑⇑(.tup ds)=>aW ds k |_,_=>none
@[simp] def fIxV(i:Nat)(g:FE):FE:=λe=>match e[i]? with
 |some ↑_=>(g e).bind λr=>(bN r.1 r.2[i]?).map λd=>(d,r.2)
 |_=>none
def gw{Nn Cn:ed}{i:Nat}(n:aM X G H0 b g)(an:bZ Nn Cn X)(o:xi b:=by intro _ _;rfl)(c:‹Nn[i]?=↑x›):aM X G H0 (.Subscript (.Name x p1) b pos) (fIxV i g) :=
 ⟨(kQ oZ ((an.a c).pe) n.out o).imp λσ H Q p=>by
  obtain⟨W,env,d,env',ok,q,k⟩:=p;unfold fIxV at q;split at q;case h_2=>cases q
  rename_i t e;obtain⟨v,Z,_⟩:=ok.slot i _ e;cases e1:g env with
  |none=>rw[e1] at q;cases q
  |some r =>
    obtain⟨j,S⟩:=r;rw[e1,ac] at q;cases e3:bN j S[i]? with
    |none=>rw[e3] at q;cases q
    |some d' =>
      rw[e3] at q;cases q;refine⟨v,Z,W,env,j,_,ok,e1,λW1 w H1 f D p1=>?_⟩;unfold bN at e3;split at e3
      ·rename_i kk ds U
       obtain⟨m,I,l,vs,rfl,y,s,r⟩:=D.slot i _ U;rw[Z] at I;cases I;obtain⟨u,V,Y⟩:=xh r e3;exact .inl ⟨l,vs,kk,u,rfl,p1.int_,.inl (.inl s),V,k W1 _ H1 f D Y⟩
      ·rename_i kk ds U
       obtain⟨m,I,r⟩:=D.slot i _ U;rw[Z] at I;cases I;obtain⟨l,us,rfl,h,r⟩:=aN.lst_ r;obtain⟨u,V,Y⟩:=xh r e3;exact .inl ⟨l,us,kk,u,rfl,p1.int_,h.sq,V,k W1 _ H1 f D Y⟩
      ·rename_i kk ds U
       obtain⟨m,I,r⟩:=D.slot i _ U;rw[Z] at I;cases I;obtain⟨l,us,rfl,h,r⟩:=aN.tup_ r;obtain⟨u,V,Y⟩:=xh r e3;exact .inr (.inl ⟨l,us,kk,u,rfl,p1.int_,dW.of h,V,k W1 _ H1 f D Y⟩)
      ·cases e3⟩
end
section
variable {X:Cx} {G:Gd} {H0:Hp} {a b c e:Expr} {es rest:et} {f g:FE} {F:FA} {p q:FT} {pos p' p1 pos1:Pos} {x:Str}
@[simp] def iJ:D->String | .non=>"NoneType" | .bl _=>"bool" | .int _=>"int" | .str _=>"str" | .tup _=>"tuple" | .lst _=>"list" | .dct _ _=>"dict" | .exc _=>"exc"
@[simp] def gZ(t T:String):Bool:=t==T || (t=="bool" && T=="int")
def pT(T:String):Bool:=T=="int" || T=="bool" || T=="str" || T=="tuple" || T=="list"
def D2(K:fc)(d:D)(T:String)(h:pT T=true)(hd:∀a,d≠.exc a):PySem.W.kitOne K (.type (iJ d)) (.type T)=↑(gZ (iJ d) T):=by
 simp only[pT,Bool.or_eq_true,beq_iff_eq] at h;rcases h with(((rfl |rfl) |rfl) |rfl) |rfl <;> cases d <;> first |rfl |exact absurd rfl (hd _)
def D3:p5 X (.builtin "isinstance") (λxs H Q=>∃x T t b,xs=[x,.ty T]/\(dF X.K H x t\/(t=.type "list"/\∃a us,x=.ref a/\cN X.K H a us))/\PySem.W.kitOne X.K t (.type T)=↑b/\Q (.bl b) H):=by
 intro pins s σ H xs us Q I r h;obtain⟨x,T,t,b,rfl,D,e,q⟩:=h;obtain⟨u,U,rfl,S,rt⟩:=oK r;cases (show U=Value.type T from rt);rcases D with D | ⟨rfl,a,ws,rfl,hq⟩
 ·exact BY I S D e λtk=>⟨.bl b,H,I.tok tk,rfl,q⟩
 ·cases (show u=Value.ref a from S)
  obtain⟨its,_,⟨o,n,h1,h2,_⟩,_⟩:=I.list hq;exact fj pi I.kIn ⟨o,h1,h2⟩ e (λz=>nomatch z) λtk=>⟨.bl b,H,I.tok tk,rfl,q⟩
def D4{K:fc}{H:Hp}{O:Addr->Prop}{d:D}{v:V}(r:aN K H O d v)(hd:∀a,d≠.exc a):dF K H v (.type (iJ d))\/(Value.type (iJ d)=.type "list"/\∃a us,v=.ref a/\cN K H a us):=by
 cases r with
 |non=>exact .inl .non |bl b=>exact .inl (.bl b) |int i=>exact .inl ↥i
 |str s=>exact .inl (.str s) |tup h _=>exact .inl (.tup h) |lst o h _=>exact .inr ⟨rfl,_,_,rfl,.inl h⟩ |klst h _=>exact .inr ⟨rfl,_,_,rfl,.inr h⟩ |dct h _=>exact .inl (.dK h) |exc a=>exact absurd rfl (hd a)
def D5:bootBuiltins "isinstance" = ↑(.builtin "isinstance"):=by decide +kernel
@[simp] def dZ(T:String)(f:FE):FE:=λe=>(f e).bind λr=>match r.1 with | .exc _=>none |d=>↑(.bl (gZ (iJ d) T),r.2)
structure Ty (x:Str) (T:String):Prop where
 b:bootBuiltins x=↑(.type T)
 k:pT T=true
 d:(x==("__debug__" : Str))=false
 n:x ≠ "__name__"
def uw{T:String}(D:Ty x T)(e:aM X G H0 a f)(Z:Bn X "isinstance":=by walk_at "b")(I:Gl X x:=by walk_at "g")(S:X.mg x=none:=by assumption)(c:‹starEach [a,.Name x p1] X.env=(false,eval a X.env)::starEach [.Name x p1] X.env›)(U:‹starEach [.Name x p1] X.env=(false,eval (.Name x p1) X.env)::starEach [] X.env›)(V:‹(backTo pos (starEach [.Name x p1] X.env)).any (·.1)=false›) :
  aM X G H0 (.Call (.Name "isinstance" p') [a,.Name x p1] [] pos) (dZ T f) :=
 ⟨(kP D3 Z.g Z.m D5 (o9 e.out (o9 (AS (v:=.ty T) I S D.b rfl D.n D.d) qi U) c) (by decide) (by decide) c V).imp λσ H Q h=>by
  obtain⟨W,env,d,env',ok,q,k⟩:=h;cases e1:f env with
  |none=>simp[e1] at q |some r =>
    unfold dZ at q;rw[e1,ac] at q;split at q
    ·cases q
    ·rename_i hd
     cases q;exact⟨W,env,_,_,ok,e1,λW1 i H1 j Y p1=>⟨i,T,_,_,rfl,D4 p1 hd,D2 X.K _ T D.k hd,k W1 _ H1 j Y (.bl _)⟩⟩⟩
abbrev FI:=aJ->Option (f0×aJ)
structure Walk (K:fc) (G:Gd) (J:It) (W:Addr->Prop) (H:Hp) (ds:f0):Prop where
 go:∀W' H' (i:Nat) d,Step W H W' H'->ds[i]?=↑d->J.go i H'/\∀x H'',J.yld i H' x H''->H''=H'/\aN K H' (Ow G W') d x
 stop:∀W' H',Step W H W' H'->J.stop ds.length H'
def pU(K:fc)(G:Gd)(H0:Hp)(f:FI):TI:=λσ H R=>DP K G H0 f (λW env ds env' =>
 ∀W' J H',Step W H W' H'->Ok K G H0 W' env' σ H'->Walk K G J W' H' ds->R J H') σ H
structure pV (Cm:Cx->Prop) (X:Cx) (G:Gd) (H0:Hp) (tg:Expr) (e:Expr) (f:FI):Prop where
 out:gN Cm X tg e (pU X.K G H0 f)
abbrev gE:=pV λX=>X.calm=true
def PI.imp{X:Cx}{tg e:Expr}{t t':TI}(h:PI X tg e t)(i:∀σ H Q,t' σ H Q->t σ H Q):PI X tg e t':=λpins s σ H Q I q=>h pins s σ H Q I (i σ H Q q)
def gN.imp{Cm:Cx->Prop}{X:Cx}{tg e:Expr}{t t':TI}(h:gN Cm X tg e t)(i:∀σ H Q,t' σ H Q->t σ H Q):gN Cm X tg e t':=λpins s σ H Q I q=>h pins s σ H Q I (i σ H Q q)
def D6{W:Addr->Prop}{H:Hp}{a:Addr}{vs:fw}{ds:f0}{env:aJ}{σ:St}(ok:Ok X.K G H0 W env σ H)(h:fH X.K H (Ow G W) a vs)(r:aC X.K H (Ow G W) ds vs):Walk X.K G (oD X.K a) W H ds where
 go:=λW' H' i d st e=>by
  obtain⟨v,I,S⟩:=(ok.reps st r).get e;have h':=(ok.lsstep st h).sq;exact⟨⟨vs,v,h',I⟩,λx H'' ⟨e2,y⟩=>⟨e2,by have:=y vs h';rw[I] at this;cases this;exact S⟩⟩
 stop:=λW' H' st=>⟨vs,(ok.lsstep st h).sq,by rw[r.length];exact bj _⟩
def D7{W:Addr->Prop}{H:Hp}{a:Addr}{vs:fw}{ds:f0}{env:aJ}{σ:St}(ok:Ok X.K G H0 W env σ H)(h:H a=↑(.tup vs))(r:aC X.K H (Ow G W) ds vs):Walk X.K G (oE X.K a) W H ds where
 go:=λW' H' i d st e=>by
  obtain⟨v,I,S⟩:=(ok.reps st r).get e;have h':=ok.tstep st a vs h;exact⟨⟨vs,v,dW.of h',I⟩,λx H'' ⟨e2,y⟩=>⟨e2,by have:=y vs (dW.of h');rw[I] at this;cases this;exact S⟩⟩
 stop:=λW' H' st=>⟨vs,dW.of (ok.tstep st a vs h),by rw[r.length];exact bj _⟩
def wO{W:Addr->Prop}{H:Hp}{lo:Int}{n:Nat}:Walk X.K G (hZ lo n) W H ((List.range n).map λ(k:Nat)=>D.int (lo+(k:Int))) where
 go:=λW' H' i d st e=>by
  rw[bo] at e;have hi:i<n:=by
   have:=(au.mp (show((List.range n).map λ(k:Nat)=>D.int (lo+(k:Int)))[i]?=↑d by rw[bo];exact e)).1;simpa using this
  rw[kg hi] at e;cases e;exact⟨hi,λx H'' ⟨e2,y⟩=>⟨e2,by rw[y];exact .int _⟩⟩
 stop:=λW' H' st=>by rw[ae,h9];exact bj _
@[simp] def cM(f:FE):FI:=λe=>(f e).bind λr=>match r.1 with | .lst ds=>↑(ds,r.2) | .tup ds=>↑(ds,r.2) |_=>none
def PI.or{tg:Expr}{t t':TI}(h:PI X tg e t)(h':PI X tg e t'):PI X tg e (λσ H R=>t σ H R\/t' σ H R):=λpins s σ H R I q=>q.elim (h pins s σ H R I) (h' pins s σ H R I)
def l8{tg:Expr}(h:aM X G H0 e f):gE X G H0 tg e (cM f):=⟨((B1 h.out).or (B2 h.out)).imp λσ H R U=>by
 obtain⟨W,env,ds,env',ok,q,k⟩:=U;cases e1:f env with
 |none=>simp[e1] at q |some r =>
   obtain⟨d,I⟩:=r;cases d with
   |lst ds' =>
     have q:↑(ds',I)=↑(ds,env'):=by simpa[cM,e1] using q
     cases q;refine .inl ⟨W,env,_,_,ok,e1,λW1 V H1 S D p1=>?_⟩;obtain⟨a,vs,rfl,h.out,r⟩:=p1.lst_;exact⟨a,rfl,⟨vs,h.out.sq⟩,k W1 _ H1 S D (D6 D h.out r)⟩
   |tup ds' =>
     have q:↑(ds',I)=↑(ds,env'):=by simpa[cM,e1] using q
     cases q;refine .inr ⟨W,env,_,_,ok,e1,λW1 V H1 S D p1=>?_⟩;obtain⟨a,vs,rfl,h.out,r⟩:=p1.tup_;exact⟨a,rfl,⟨vs,dW.of h.out⟩,k W1 _ H1 S D (D7 D h.out r)⟩
   |_=>simp[e1] at q⟩
def bA(lo:Int)(n:Nat):f0:=(List.range n).map λ(k:Nat)=>D.int (lo+(k:Int))
def eG(ds:f0):Option f0:=match ds with | [↥j]=>if eT (-(2 ^ 62)) (2 ^ 62) j then ↑(bA 0 j.toNat) else none |_=>none
def i_(ds:f0):Option f0:=match ds with | [↥i,↥j]=>if eT (-(2 ^ 62)) (2 ^ 62) i/\eT (-(2 ^ 62)) (2 ^ 62) j then ↑(bA i (j-i).toNat) else none |_=>none
def D8{Cm:Cx->Prop}{tg:Expr}(hT:∀(it:Addr) (lo:Int) (n:Nat),wg Cm X.prog X.w X.K tg (hZ lo n) [it] it (λi h=>IsRangeIter h it (lo+(i:Nat)*1) ((n:Int)-(i:Nat)) 1))(V:dM X G H0 [a] F)(S:Bn X "range":=by walk_at "b")(Y:‹starEach [a] X.env=[(false,eval a X.env)]›):pV Cm X G H0 tg (.Call (.Name "range" p') [a] [] pos) (jb eG F) :=
 ⟨gN.imp (B5 hT S.g S.m V.out Y) λσ H R Z=>by
  obtain⟨W,env,ds,env',ok,q,k⟩:=Z;cases e1:F env with
  |none=>simp[e1] at q |some z =>
    obtain⟨as,D⟩:=z;cases e2:eG as with
    |none=>simp[e1,e2] at q |some d' =>
      have q:↑(d',D)=↑(ds,env'):=by simpa[jb,e1,e2] using q
      cases q;refine⟨W,env,as,_,ok,e1,λW1 vs H1 b I p1=>?_⟩;unfold eG at e2;split at e2
      ·rename_i j
       split at e2
       ·rename_i U
        cases e2;obtain⟨v,rfl,c⟩:=qw p1;cases c;exact⟨j,rfl,U.1,U.2,k W1 _ H1 b I wO⟩
       ·cases e2
      ·cases e2⟩
def tu{tg:Expr}(D:dM X G H0 [a] F)(I:Bn X "range":=by walk_at "b")(S:‹starEach [a] X.env=[(false,eval a X.env)]›):gE X G H0 tg (.Call (.Name "range" p') [a] [] pos) (jb eG F):=D8 (λit lo n=>uW it lo n) D I S
def D9{tg:Expr}(Y:dM X G H0 [a,b] F)(V:Bn X "range":=by walk_at "b")(Z:‹starEach [a,b] X.env=[(false,eval a X.env),(false,eval b X.env)]›)(S:‹starEach [b] X.env=[(false,eval b X.env)]›) :
  gE X G H0 tg (.Call (.Name "range" p') [a,b] [] pos) (jb i_ F) :=
 ⟨(B6 V.g V.m Y.out Z S).imp λσ H R c=>by
  obtain⟨W,env,ds,env',ok,q,k⟩:=c;cases e1:F env with
  |none=>simp[e1] at q |some z =>
    obtain⟨as,D⟩:=z;cases e2:i_ as with
    |none=>simp[e1,e2] at q |some d' =>
      have q:↑(d',D)=↑(ds,env'):=by simpa[jb,e1,e2] using q
      cases q;refine⟨W,env,as,_,ok,e1,λW1 vs H1 d U p1=>?_⟩;unfold i_ at e2;split at e2
      ·rename_i i j
       split at e2
       ·rename_i I
        cases e2;obtain⟨v,h,rfl,e,f⟩:=pQ p1;cases e;cases f;exact⟨i,j,rfl,⟨I.1.1,I.1.2,I.2.1,I.2.2⟩,k W1 _ H1 d U wO⟩
       ·cases e2
      ·cases e2⟩
def cW:gj->gj |some (.sh d)=>⇑d |_=>none
def oa(tt:FT)(te:FE)(base:aJ):f0->Option f0
 | []=>↑[] |d::r=>(tt (⇑d::base)).bind λb=>if b.1=true then(te b.2).bind λv=>(oa tt te base r).map (v.1::·) else oa tt te base r
def jy(fi:FI)(ix:em)(tt:FT)(te:FE):FA:=λe=>(fi e).bind λr=>if bI r.1.length then(oa tt te (ix.map λj=>cW (r.2.getD j none)) r.1).map λds=>(ds,r.2) else none
@[simp] def bL:FT:=λe=>↑(true,e)
def fI(K:fc)(f:FT):TT:=λσ H Q=>∃G H0,kT K G H0 f σ H Q
def jj(K:fc)(f:FE):TE:=λσ H Q=>∃G H0,tD K G H0 f σ H Q
def cG:Addr->Prop:=λ_=>False
def wP{W:Addr->Prop}{env pre:aJ}{σ σp:St}{H:Hp}{ix:em}{G':Gd}{cap:gj->gj}(ok:Ok X.K G H0 W env σ H)(Z:∀a,H a=none->G' a)(S:pre.length=σp.length)(b:∀(i:Nat) (s:Sl),pre[i]?=↑↑s->∃d u,s=.sh d/\σp[i]?=↑↑u/\aN X.K H (Ow G' cG) d u)(c:∀(U s:Sl) (u:V),cap ↑U=↑s->cR X.K G W H U u->∃d,s=.sh d/\aN X.K H (Ow G' cG) d u)(Y:cap none=none) :
  Ok X.K G' H cG (pre++ix.map λj=>cap (env.getD j none)) (σp++ix.map λj=>σ.getD j none) H:=by
 have D:∀(i:Nat) (s:Sl),(pre++ix.map λj=>cap (env.getD j none))[i]?=↑↑s->∃d u,s=.sh d/\(σp++ix.map λj=>σ.getD j none)[i]?=↑↑u/\aN X.K H (Ow G' cG) d u:=λi s z=>by
  by_cases hi:i<pre.length
  ·rw[a0 hi] at z
   rw[a0 (S ▸ hi)];exact b i s z
  ·have hi:=ji hi
   rw[b9 hi,bo] at z;rw[b9 (S ▸ hi),<-S,bo];obtain⟨j,q,z⟩:=iu.mp z;rw[q,aj] at *;cases q2:env[j]? with
   |none=>rw[q2] at z;exact absurd (Y.symm.trans z) nofun |some o =>
     rw[q2] at z;cases o with
     |none=>exact absurd (Y.symm.trans z) nofun |some U =>
       obtain⟨u,I,r⟩:=ok.slot j _ q2;obtain⟨d,f,r⟩:=c U s u z r;exact⟨d,u,f,by rw[aw,aj,I];rfl,r⟩
 refine⟨aS.refl _,Z,λl z=>z.elim,λi s e=>?_,λi j g s2 h v2 a I _ _ _ o _=>by obtain⟨d',_,rfl,_⟩:=D i g I;exact o.elim,by simp[S]⟩;obtain⟨d,u,rfl,I,r⟩:=D i s e;exact⟨u,I,r⟩
def DA{W:Addr->Prop}{H:Hp}{G':Gd}(S:∀ {d:D} {v:V},aN X.K H (Ow G W) d v->aN X.K H (Ow G' cG) d v):∀(I s:Sl) (u:V),cW ↑I=↑s->cR X.K G W H I u->∃d,s=.sh d/\aN X.K H (Ow G' cG) d u:=λI s u z r=>by
 cases I <;> cases z;exact⟨_,rfl,S r⟩
def wQ{W:Addr->Prop}{env:aJ}{σ:St}{H:Hp}{ix:em}{d:D}{v:V}(ok:Ok X.K G H0 W env σ H)(r:aN X.K H (Ow G W) d v) :
  Ok X.K (gd λa=>Ow G W a\/H a=none) H cG (⇑d::ix.map λj=>cW (env.getD j none)) (↑v::ix.map λj=>σ.getD j none) H:=by
 have I:∀ {d:D} {v:V},aN X.K H (Ow G W) d v->aN X.K H (Ow (gd λa=>Ow G W a\/H a=none) cG) d v:=λr=>r.mono (λ_ _ h=>h) λa us o h=>⟨⟨.inl o,λz=>z⟩,h⟩;refine wP (pre:=[⇑d]) (σp:=[↑v]) ok (λa z=>.inr z) rfl (λi s z=>?_) (DA I) rfl;cases i with
 |zero=>cases z;exact⟨d,v,rfl,rfl,I r⟩
 |succ i=>cases z
inductive g_ (K:fc) (O:Addr->Prop) (H1:Hp) (ds d:f0) (f:f0->Option f0) (i m:Nat) (H':Hp) (ys:fw):Prop
 |mk (rest done:f0) (hm:m=ds.length-i) (hi:i<=ds.length) (sm:aS H1 H') (rp:aC K H' O done ys) (hd:done.length<=i) (ec:f (ds.drop i)=↑rest) (hz:d=done++rest):g_ K O H1 ds d f i m H' ys
def k_:2 ^ 20<=sizeLine:=by rw[gy];decide
structure wR (K:fc) (G:Gd) (J:It) (W:Addr->Prop) (H:Hp) (ds:f0):Prop where
 go:∀H' (i:Nat) d,aS H H'->ds[i]?=↑d->J.go i H'/\∀x H'',J.yld i H' x H''->H''=H'/\aN K H' (Ow G W) d x
 stop:∀H',aS H H'->J.stop ds.length H'
protected def Walk.s{K:fc}{J:It}{W:Addr->Prop}{H:Hp}{ds:f0}(I:Walk K G J W H ds):wR K G J W H ds:=⟨λH2 i d sm e=>I.go W H2 i d (Step.same sm) e,λH2 sm=>I.stop W H2 (Step.same sm)⟩
def la(K:fc)(G:Gd)(H0:Hp)(f:FI):TI:=λσ H R=>DP K G H0 f (λW env ds env' =>
 ∀W' J H',Step W H W' H'->Ok K G H0 W' env' σ H'->wR K G J W' H' ds->R J H') σ H
def DB{tt:FT}{te:FE}{fn:f0->Option f0}{G':Gd}{W1:Addr->Prop}{H1 H2:Hp}{ds d rest I:f0}{i:Nat}{p f:aJ}{Y σ:St}{ys:fw}(t:bI ds.length)(S:i<ds.length)(m:Ok X.K G' H2 cG p Y H2)(g:Ok X.K G H0 W1 f σ H2)(sm:aS H1 H2)(n:aC X.K H2 (Ow G W1) I ys)(hd:I.length<=i)(o:d=I++rest)(c:((tt p).bind λb=>if b.1=true then(te b.2).bind λv=>(fn (ds.drop (i+1))).map (v.1::·) else fn (ds.drop (i+1)))=↑rest)(back:∀ {q h e w},aN X.K h (Ow G' q) e w->e∈d->aN X.K h (Ow G W1) e w) :
  fI X.K tt Y H2 λb H2=>if b=true then jj X.K te Y H2 λv h=>ys.length<sizeLine/\∃j,j<ds.length-i/\g_ X.K (Ow G W1) H1 ds d fn (i+1) j h (ys++[v]) else ∃j,j<ds.length-i/\g_ X.K (Ow G W1) H1 ds d fn (i+1) j H2 ys:=by
 obtain⟨⟨b,U⟩,u,c⟩:=dq.mp c;refine⟨_,_,cG,_,b,U,m,u,λx H2 s2 Z=>?_⟩;have r:ds.length-(i+1)<ds.length-i:=m6 _ _ S;cases b with
 |false=>exact⟨_,r,rest,I,rfl,S,sm.trans Z.stay,g.reps (Step.same Z.stay) n,pv hd,c,o⟩ |true =>
   obtain⟨⟨e,k⟩,y,c⟩:=dq.mp c;obtain⟨a,z,s⟩:=iu.mp c;refine⟨_,_,x,U,e,k,Z,y,λq v h A l r3=>⟨?_,_,r,a,I++[e],rfl,S,sm.trans l.stay,(g.reps (Step.same l.stay) n).append (.cons (back r3 (by rw[o,<-s];simp)) .nil),?_,z,?_⟩⟩
   ·rw[<-n.length];exact bq (Nat.lt_of_le_of_lt hd (bq S t)) k_
   ·rw[ai];exact Nat.succ_le_succ hd
   ·rw[o,<-s,dn];rfl
def DC{fn:f0->Option f0}{W W1:Addr->Prop}{H H1 H':Hp}{ds d rest I:f0}{i:Nat}{S:aJ}{σ:St}{ys:fw}{Q:VK}(c:bI ds.length)(U:i<=ds.length)(Y:¬i<ds.length)(Z:Ok X.K G H0 W1 S σ H')(e:Step W H W1 H1)(sm:aS H1 H')(a:aC X.K H' (Ow G W1) I ys)(hd:I.length<=i)(f:d=I++rest)(b:fn (ds.drop i)=↑rest)(g:fn []=↑[])(k:∀W' l vs H',Step W H (bO W' l) H'->Ok X.K G H0 W' S σ H'->Ok X.K G H0 (bO W' l) S σ H'->¬W' l->H' l=↑(.lst vs)->aC X.K H' (Ow G (bO W' l)) d vs->Q (.ref l) H'):ys.length<=sizeLine/\∀D,H' D=none->Q (.ref D) (aO H' D (.lst ys)):=by
 cases mf U (ji Y);rw[qv,g] at b;cases b;refine⟨by rw[<-a.length];exact b6 hd (b6 c k_),λl h=>?_⟩;obtain⟨h1,h2,j,m,n,o⟩:=uy Z a h;rw[f,di] at k;exact k W1 l _ _ ((e.trans (Step.same sm)).trans h1) h2 j m n o
def wS{fi:FI}{ix:em}{tt:FT}{te:FE}{c:FA}{cap:gj->gj}{pr:D->Prop}(p:∀ {e d e'},c e=↑(d,e')->∃ds,fi e=↑(ds,e')/\bI ds.length/\oa tt te (ix.map λj=>cap (e'.getD j none)) ds=↑d/\∀x∈d,pr x)(hi:∀ {W env σ H d v},Ok X.K G H0 W env σ H->aN X.K H (Ow G W) d v->∃G',Ok X.K G' H cG (⇑d::ix.map λj=>cap (env.getD j none)) (↑v::ix.map λj=>σ.getD j none) H/\∀ {W3 H3 dv w},aN X.K H3 (Ow G' W3) dv w->pr dv->aN X.K H3 (Ow G W) dv w) :
  ∀σ H Q,g8 X.K G H0 c σ H Q->uu (la X.K G H0 fi) ix (fI X.K tt) (jj X.K te) σ H Q:=λσ H Q z=>by
 obtain⟨W,env,d,U,ok,q,k⟩:=z;obtain⟨ds,s,f,t,u⟩:=p q;refine⟨W,env,ds,_,ok,s,λW1 J H1 A Y g=>⟨g_ X.K (Ow G W1) H1 ds d (oa tt te (ix.map λj=>cap (U.getD j none))),⟨ds.length,d,[],rfl,fy _,aS.refl _,.nil,bj _,t,rfl⟩,λi m H' ys z=>?_⟩⟩;obtain⟨rest,l,B,V,sm,n,hd,Z,o⟩:=z;subst B;have S:=Y.same sm;by_cases I:i<ds.length
 ·rw[kv I] at Z
  obtain⟨C,E⟩:=g.go H' i ds[i] sm (ak I);refine .inr ⟨C,λx a y=>?_⟩;obtain⟨e,F⟩:=E x a y;subst e;obtain⟨G',b,back⟩:=hi S F;exact DB f I b S sm n hd o Z λr h=>back r (u _ h)
 ·exact .inl ⟨by cases mf V (ji I);exact g.stop H' sm,DC f V I S A sm n hd o Z rfl k⟩
def DD{fi:FI}{ix:em}{tt:FT}{te:FE}:∀σ H Q,g8 X.K G H0 (jy fi ix tt te) σ H Q->uu (la X.K G H0 fi) ix (fI X.K tt) (jj X.K te) σ H Q :=
 wS (cap:=cW) (pr:=λ_=>True) (λq=>by
  obtain⟨⟨ds,I⟩,U,q⟩:=dq.mp q;by_cases D:bI ds.length;case neg=>cases (bu D).symm.trans q
  obtain⟨S,V,q⟩:=iu.mp ((az D).symm.trans q);cases q;exact⟨ds,U,D,V,λ_ _=>trivial⟩) λok r=>⟨_,wQ ok r,λr3 _=>r3.mono (λ_ _ h=>h) λa us o h=>⟨o.1.elim id λz=>⟨ok.good a (ok.stay.free z),λw=>by obtain⟨_,us,q⟩:=ok.wl a w;rw[z] at q;cases q⟩,h⟩⟩
def pW{fi:FI}{ix:em}{tt:FT}{te:FE}:∀σ H Q,g8 X.K G H0 (jy fi ix tt te) σ H Q->uu (pU X.K G H0 fi) ix (fI X.K tt) (jj X.K te) σ H Q:=λσ H Q z=>by
 obtain⟨W,env,ds,env',ok,e,k⟩:=DD σ H Q z;exact⟨W,env,ds,env',ok,e,λW' J H' s o w=>k W' J H' s o w.s⟩
def lc{D:Cx}(U:D.K=X.K):fG D [] (fI X.K bL):=λpins s σ H Q I S=>by
 obtain⟨G,H0,W,env,b,env',ok,e,k⟩:=S;cases e;exact CH pins s σ H Q I (k W H Step.refl ok)
def pX{D:Cx}{tt:FT}(S:D.K=X.K)(h:∀G H0,fB D G H0 c tt):fG D [c] (fI X.K tt):=λpins s σ H Q I ⟨G,H0,q⟩=>CI (h G H0).out pins s σ H Q I (by rw[S];exact q)
def gJ{D:Cx}{te:FE}(S:D.K=X.K)(h:∀G H0,aM D G H0 e te):PE D e (jj X.K te):=λpins s σ H Q I ⟨G,H0,q⟩=>(h G H0).out pins s σ H Q I (by rw[S];exact q)
def vw{Nn Cn:ed}{ix:em}{sc:Scope}{px:Pos}{fi:FI}{te:FE}(an:bZ Nn Cn X)(hi:gE X G H0 (.Name x px) a fi)(I:∀cl C s₂ H₂ fp G H0,bZ (x::(bH Nn ix)) (bH Nn ix) (lq X x (bH Nn ix) sc cl C s₂ H₂ fp)->aM (lq X x (bH Nn ix) sc cl C s₂ H₂ fp) G H0 e te)(D:ua Nn Cn ix x sc=true:=by decide +kernel)(S:‹X.calm=true›)(U:∀v,foldedSetIterable a X.env v=pure v:=by intro _;rfl) :
  eY X G H0 (.ListComp e [⟨.Name x px,a,[],0⟩] sc pos) (jy fi ix bL te) :=
 ⟨(pH (yx an D) (λ_ _ _ _ _ _ _ _ _=>S) hi.out (λcl C s₂ H₂ fp _=>lc (X:=X) rfl) (λcl C s₂ H₂ fp _=>gJ (X:=X) rfl (λG H0=>I cl C s₂ H₂ fp G H0 (xo D))) U).imp pW⟩
def DE{Nn Cn:ed}{ix:em}{sc:Scope}{px:Pos}{fi:FI}{te:FE}{tt:FT}{U:Expr}(an:bZ Nn Cn X)(hi:gE X G H0 (.Name x px) a fi)(I:∀cl C s₂ H₂ fp G H0,bZ (x::(bH Nn ix)) (bH Nn ix) (lq X x (bH Nn ix) sc cl C s₂ H₂ fp)->fB (lq X x (bH Nn ix) sc cl C s₂ H₂ fp) G H0 U tt)(S:∀cl C s₂ H₂ fp G H0,bZ (x::(bH Nn ix)) (bH Nn ix) (lq X x (bH Nn ix) sc cl C s₂ H₂ fp)->aM (lq X x (bH Nn ix) sc cl C s₂ H₂ fp) G H0 e te)(D:ua Nn Cn ix x sc=true:=by decide +kernel)(V:‹X.calm=true›)(Y:∀v,foldedSetIterable a X.env v=pure v:=by intro _;rfl) :
  eY X G H0 (.ListComp e [⟨.Name x px,a,[U],0⟩] sc pos) (jy fi ix tt te) :=
 ⟨(pH (yx an D) (λ_ _ _ _ _ _ _ _ _=>V) hi.out (λcl C s₂ H₂ fp _=>pX (X:=X) rfl (λG H0=>I cl C s₂ H₂ fp G H0 (xo D))) (λcl C s₂ H₂ fp _=>gJ (X:=X) rfl (λG H0=>S cl C s₂ H₂ fp G H0 (xo D))) Y).imp pW⟩
end
def d_(h h':Heap):Prop:=∀b o,h.get? b=↑o->∃o',h'.get? b=↑o'
def d_.trans{a b c:Heap}(x:d_ a b)(y:d_ b c):d_ a c:=λp o q=>let ⟨o',e⟩:=x p o q;y p o' e
def pY{a:Addr}{f:Obj->Obj}(D:∀o,h.get? a=↑o->(h.update a f).get? a=↑(f o)):d_ h (h.update a f):=λb o q=>by
 by_cases e:a=b
 ·subst e;exact⟨_,D o q⟩
 ·exact⟨o,(de _ _ e).trans q⟩
structure h6 (B:Heap) (l:er) (e:Addr) (cls fl:Value) (h:Heap):Prop where
 stay:B.StaysIn h
 new:B.get? e=none
 fr:h.FunFrames B l
 tr:∃oe vs T oT ts,h.get? e=↑oe/\oe.cls=cls/\oe.dict=none/\oe.data=.fields vs/\vs[1]?=↑(.ref T)/\vs[2]?=some .none/\B.get? T=none/\T≠e/\h.get? T=↑oT/\oT.data=.fields ts/\ts[3]?=↑fl
def DF(o:Obj)(f:fk->fk):(o.mapFields f).dict=o.dict:=by obtain⟨c,d,D,sl⟩:=o;cases D <;> rfl
variable{env:Env}{Q:Unit->Shared->Prop}{e L:Addr}{M:Model}{E:Value->Shared->Prop}{B:Heap}{outer:er}
def wT{D:Obj}{vs:fk}{hd:Value}{nx:Bool}(r:A.frames=↑(env::outer))(Y:s.heap.FunFrames B (env::outer))(t:env.frame=↑L)(Z:s.heap.get? e=↑D)(gd:D.dict=none)(I:D.data=.fields vs)(j:1<vs.size)(u:vs[2]?=some .none)(k1:B.StaysIn s.heap)(k2:B.get? e=none)(h:∀h',h6 B (env::outer) e D.cls (rawInt L) h'->s.heap.UpToSlots h'->d_ s.heap h'->Q () { s with heap:=h' }) :
  wpAny M A (do let a <-frameOf env;let pl <-entryPlaceOf L nx;let b <-EntryCells.newEntry hd a .none (rawInt L) .none pl;setField (.ref e) 1 b) Q E s:=by
 have c:e∉(env::outer).filterMap (·.frame):=λz=>by
  obtain⟨_,o,k,v⟩:=Y.mem z;rw[Z] at k;cases k;exact v vs I
 refine cr (wpAny_frameOf_fun r Y t λh1 S=>?_);refine cr (wpAny_entryPlaceOf λpl U=>?_);refine cr (u8 ?_ (U.sizeOk5 _ _ _ _ _));have l:h1.get? e=↑D:=(S.2.1 e c).trans Z;have m:B.StaysIn h1:=λb o q=>(S.2.1 b λz=>by rw[(Y.mem z).1] at q;cases q).trans (k1 b o q);generalize V:({ cls:=.type "traceback",dict:=none,data:=.fields ([hd,.ref L,.none,rawInt L,.none]++(if pl.isEmpty then List.replicate 6 Value.none else pl)).toArray }:Obj)=ob;have d:∃ts,ob.data=.fields ts/\ts[3]?=↑(rawInt L):=by subst V;exact⟨_,rfl,by first | (simp;done) | (rcases U with rfl | ⟨_,_,_,_,_,_,_,rfl⟩ <;> simp)⟩
 have f:ob.isFreed=false:=by subst V;rfl
 have g:=bc (h:=h1) ob l;have p:h1.objs.size≠e:=l9 (bw l);have i:=Obj.data_mapFields I (·.setIfInBounds 1 (Value.ref h1.objs.size));refine wpAny_setField g I j (h _ ?_ ?_ ?_)
 ·refine⟨λb o q=>?_,k2,Y.of_keeps λb o q n=>?_,?_⟩
  ·rw[de _ _ (λz:e=b=>by rw[<-z,k2] at q;cases q)]
   exact bc _ (m b o q)
  ·obtain⟨sl,z⟩:=S.2.2 b o q
   refine⟨{ o with slots:=sl },?_,rfl⟩;rw[de _ _ (λy:e=b=>by rw[<-y,Z] at q;cases q;exact n vs I)];exact bc _ z
  ·obtain⟨ts,w,x⟩:=d
   refine⟨_,_,h1.objs.size,ob,ts,ic _ g (Obj.isFreed_of_fields i),Obj.cls_mapFields _ _,(DF _ _).trans gd,i,by simp[j],by rw[Array.getElem?_setIfInBounds_ne (by decide)];exact u,m.fresh,p,?_,w,x⟩;rw[de _ _ (Ne.symm p)];exact cg h1 f
 ·intro b o q n
  obtain⟨sl,z⟩:=S.2.2 b o q;refine⟨sl,?_⟩;rw[de _ _ (λy:e=b=>by rw[<-y,Z] at q;cases q;exact n vs I)];exact bc _ z
 ·intro b o q
  obtain⟨sl,z⟩:=S.2.2 b o q;exact pY (λo q=>ic _ q (by rw[g] at q;cases q;exact Obj.isFreed_of_fields i)) b _ (bc _ z)
variable{l:er}{cls fl:Value}
def wU(x:h6 B l e cls fl s.heap)(h:∀h',h6 B l e cls .none h'->s.heap.UpToSlots h'->d_ s.heap h'->Q () { s with heap:=h' }):wpAny M A (setFlight (.ref e) none) Q E s:=by
 obtain⟨i,vs,T,j,ts,U,c,gd,V,Y,d,Z,a,D,I,g⟩:=x.tr;have sz:3<ts.size:=(kr.mp g).1;unfold setFlight;refine cr (zt U V Y ?_);have S:=Obj.data_mapFields I (·.setIfInBounds 3 ((none:Option Addr).elim Value.none λf=>rawInt f));refine wpAny_setField D I sz (h _ ⟨λb o q=>?_,x.new,x.fr.of_keeps λb o q n=>⟨o,?_,rfl⟩,_,vs,T,_,_,(de _ _ a).trans U,c,gd,V,Y,d,Z,a,ic _ D (Obj.isFreed_of_fields S),S,by simp[sz]⟩ (λb o q n=>⟨o.slots,?_⟩) (pY λo q=>ic _ q (by rw[D] at q;cases q;exact Obj.isFreed_of_fields S)))
 ·exact(de _ _ λz=>by rw[<-z,Z] at q;cases q).trans (x.stay b o q)
 ·exact(de _ _ λz=>by rw[<-z,D] at q;cases q;exact n ts I).trans q
 ·exact(de _ _ λz=>by rw[<-z,D] at q;cases q;exact n ts I).trans q
def DG(c:A.frames=↑(env::outer))(S:env.frame=↑L)(x:h6 B (env::outer) e cls .none s.heap)(h:∀h',h6 B (env::outer) e cls (rawInt L) h'->s.heap.UpToSlots h'->d_ s.heap h'->Q () { s with heap:=h' }):wpAny M A (noteFrame (.ref e) env) Q E s:=by
 obtain⟨j,vs,T,k,ts,U,d,gd,V,Y,f,g,i,D,I,Z⟩:=x.tr;subst d;unfold noteFrame;simp only[S];refine cr (zt U V Y ?_);refine cr (zt D I Z ?_);refine cr (wpAny_setField D I (kr.mp Z).1 ?_);have a:∀b o,s.heap.get? b=↑o->(∀vs,o.data≠.fields vs)->(s.heap.update T (Obj.mapFields (·.setIfInBounds 3 Value.none))).get? b=↑o:=λb o q n =>
  (de _ _ λz=>by rw[<-z,D] at q;cases q;exact n ts I).trans q
 refine wT c (x.fr.of_keeps λb o q n=>⟨o,a b o q n,rfl⟩) S ((de _ _ i).trans U) gd V (kr.mp Y).1 f (λb o q=>(de _ _ λz=>by rw[<-z,g] at q;cases q).trans (x.stay b o q)) x.new λh' y u w=>h h' y (λb o q n=>u b o (a b o q n) n) (d_.trans (pY λo q=>ic _ q (by rw[D] at q;cases q;exact Obj.isFreed_of_fields (Obj.data_mapFields I _))) w)
def DH(D:A.frames=↑(env::outer))(I:env.frame=↑L)(x:h6 B (env::outer) e cls .none s.heap)(h:∀h',h6 B (env::outer) e cls .none h'->s.heap.UpToSlots h'->d_ s.heap h'->Q () { s with heap:=h' }):wpAny M A (noteFrame (.ref e) env) (λ_ S=>wpAny M A (setFlight (.ref e) none) Q E S) E s :=
 DG D I x λh1 U V Y=>wU U λh2 Z a b=>h h2 Z (V.trans a) (Y.trans b)
def DI{D:Heap}{args:ee}(U:A.frames=↑(env::outer))(V:D.FunFrames B (env::outer))(I:env.frame=↑L)(k1:B.StaysIn D)(m:Heap.MadeExcOf D s.heap e cls args)(h:∀h',h6 B (env::outer) e cls .none h'->s.heap.UpToSlots h'->d_ s.heap h'->Q () { s with heap:=h' }):wpAny M A (noteFrame (.ref e) env) (λ_ Y=>wpAny M A (setFlight (.ref e) none) Q E Y) E s:=by
 obtain⟨t,S,_,_⟩:=m.there;have k2:B.get? e=none:=by
  cases q:B.get? e with
  |none=>rfl |some o=>have:=k1 e o q;rw[m.new] at this;cases this
 unfold noteFrame;simp only[I];refine cr (zt S rfl (x:=Value.none) rfl ?_);exact wT U (V.of_keeps λb o q _=>⟨o,m.keeps b o q,rfl⟩) I S rfl rfl ⋯ rfl (λb o q=>m.keeps b o (k1 b o q)) k2 λh1 Z a c=>wU Z λh2 d f g=>h h2 d (a.trans f) (c.trans g)
end L2
namespace L2
open PySem PySem.Spec PyProof.Rows PySem.W
def Cl(K:fc)(c:Str)(C:Addr):Prop:=PySem.W.nsIn K mainGlobals c=↑↑(.ref C)
def jl(P:Program)(w:World)(l:er)(H:Hp)(s:Shared)(C e:Addr)(H':Hp)(s':Shared):Prop :=
 ∃B,h6 B l e (.ref C) .none s'.heap/\(∀b o,s.heap.get? b=↑o->H b=none->b∉dJ l->B.get? b=↑o)/\dL P w H' B/\Un (dJ l) [] H H' s.heap s'.heap/\s'.os=s.os/\AllBare s'.gens
abbrev dV(P:Program)(w:World):fE:=λl H s E e s'=>∃D C H',e=.ref D/\jl P w l H s C D H' s'/\E (.ref C) none H'
def XS(X:Cx)(pins:fh)(σ:St)(H:Hp)(C e:Addr)(s':Shared):Prop :=
 (∃s H1,Inv X pins σ H1 s/\jl X.prog X.w X.stack H1 s C e H s')\/∃s args,Inv X pins σ H s/\Heap.MadeExcOf s.heap s'.heap e (.ref C) args/\s'={ s with heap:=s'.heap }
variable{CX:fE}{P:Program}{w:World}{K:fc}{mg:Str->ei}{base:Heap}{x qual:Str}{st:Stmt}{f:Addr}{fd:FuncData}{N ps:ed}{k:Nat}{sp:Sp}
theorem fR.okX(F:fR K x qual st f fd)(S:ug N ps (im st))(len:∀vs H Q E,sp vs H Q E->vs.length=ps.length)(D:∀(cdv:Value) (A:Around) (outer:er) (s:Shared) (H:Hp) (vs:fw) (Q:VK) (E:XK),aV k (A.deeper (envOfC qual (im st) s.heap.objs.size f cdv))->sp vs H Q E ->
   ∃t,fA (bC CX P w K mg base N qual (im st) f cdv A outer s H E) (mz st) t/\t { nx:=λ_ H'=>Q .non H',rt:=Q } (start N vs) H):bK P w K mg base CX (k+1) f fd ps sp:=by
 obtain⟨oc,od,kV,Y,b,an,cdv,ct,osl,rfl,Z,I⟩:=F.ex;exact Cg Z I S len λA outer s H vs Q E a U=>D cdv A outer s H vs Q E a U
theorem fR.okC(F:fR K x qual st f fd)(S:ug N ps (im st))(len:∀vs H Q E,sp vs H Q E->vs.length=ps.length)(D:∀(cdv:Value) (A:Around) (outer:er) (s:Shared) (H:Hp) (vs:fw) (Q:VK) (E:XK),aV k (A.deeper (envOfC qual (im st) s.heap.objs.size f cdv))->sp vs H Q E ->
   ∃t,fA (bC CX P w K mg base N qual (im st) f cdv A outer s H E).nox (mz st) t/\t { nx:=λ_ H'=>Q .non H',rt:=Q } (start N vs) H):bK P w K mg base CX (k+1) f fd ps sp :=
 F.okX S len λcdv A outer s H vs Q E I h=>let ⟨t,p,q⟩:=D cdv A outer s H vs Q E I h;⟨t,p.nox,q⟩
variable{X:Cx}{pins:fh}{σ:St}{H H':Hp}{s s':Shared}{C e:Addr}
def jl.inv(I:Inv X pins σ H s)(f:jl X.prog X.w X.stack H s C e H' s'):Inv X pins σ H' s':=by
 obtain⟨B,x,_,D,un,os,S⟩:=f;exact I.call' (ch:=[]) os un (D.kept x.stay) S λb z=>absurd z ⋯
def XS.come{E:Value->Shared->Prop}{Q:Unit->Shared->Prop}(h:XS X pins σ H' C e s')(U:X.stack=X.env::X.outer)(l:X.env.frame=↑X.env.locals)(p:∀h2 D H1,Inv X pins σ H1 D->jl X.prog X.w X.stack H1 D C e H' { s' with heap:=h2 }->Q () { s' with heap:=h2 }):wpAny (model X.prog X.w) X.A (noteFrame (.ref e) X.env) (λ_ D=>wpAny (model X.prog X.w) X.A (setFlight (.ref e) none) Q E D) E s':=by
 rcases h with⟨D,H1,I,f⟩ | ⟨D,args,I,m,es⟩
 ·obtain⟨B,x,r,s,un,os,t⟩:=f
  have st:=I.stack;rw[U] at x st;refine DH (I.ok.frames.trans (by rw[U])) l x λh2 V d Y=>p h2 D H1 I ⟨B,U ▸ V,r,s,⟨λb o q n S _=>V.stay b o (r b o q n S),λb o q n S g=>?_,un.free,λb o q g=>?_,un.tups,un.frzs,un.tbls⟩,os,t⟩
  ·obtain⟨sl,z⟩:=un.slot b o q n S g
   rw[U] at S;obtain⟨_,v,y,i⟩:=st.mem S;rw[q] at y;cases y;obtain⟨j,F⟩:=d b _ z i;exact⟨j,F⟩
  ·obtain⟨o',z⟩:=un.there b o q g
   exact Y b o' z
 ·have st:=I.stack
  have G:∀b∈dJ X.stack,H' b=none:=I.stkFree;have Z:∀b o,H' b=↑o->b∉dJ X.stack:=λb o q z=>by rw[G b z] at q;cases q
  have k:dL X.prog X.w H' (hideAll D.heap (dJ X.stack)):=λb o q =>
   (I.hok b o q).stay (λc u hc z=>hideAll_get _ z (by rcases hc with rfl |hc;exact Z _ _ q;exact Z _ _ hc)) (λ_ z=>z) λ_ _ z=>z
  have H:D.heap.FunFrames (hideAll D.heap (dJ X.stack)) (X.env::X.outer):=U ▸ funFrames_hide (as:=dJ X.stack) st λenv Y a J=>oj.mpr ⟨env,Y,J⟩;refine DI (B:=hideAll D.heap (dJ X.stack)) (I.ok.frames.trans (by rw[U])) H l (λb o q=>of_hideAll _ q) m λh2 V d Y=>p h2 D H' I ⟨_,U ▸ V,λb o q n S=>hideAll_get _ q S,k,⟨λb o q n S _=>V.stay b o (hideAll_get _ q S),λb o q n S _=>?_,λ_ _ _ n _=>n,λb o q _=>Y b o (m.keeps b o q),λ_ _ z=>z,λ_ _ _ z=>z,λ_ ps z=>⟨#[],by rw[Array.append_empty];exact z⟩⟩,by rw[es],by rw[es];exact I.bare⟩;obtain⟨_,v,y,i⟩:=st.mem S;rw[q] at y;cases y;exact d b o (m.keeps b o q) i
def wV{scope:Scope}{D:Value}{A:Around}{outer:er}{s₀:Shared}{H₀:Hp}{E:XK}(h:XS (bC (dV P w) P w K mg base N qual scope f D A outer s₀ H₀ E) pins σ H' C e s')(U:E (.ref C) none H'):(bC (dV P w) P w K mg base N qual scope f D A outer s₀ H₀ E).xe (.ref e) s':=by
 refine cr (h.come rfl rfl λh2 Z H1 I f=>⟨e,C,H',rfl,?_,U⟩);have J:=f.inv I;obtain⟨B,x,V,Y,_⟩:=f;refine⟨B,⟨x.stay,x.new,x.fr.2.2,x.tr⟩,λb o q n S=>?_,Y,J.base,J.os,J.bare⟩;refine V b o (I.base.keep b o q n S (by simp[bC])) (I.base.free b o q n (by simp[bC])) λz=>?_;rcases cj.mp (show b∈s₀.heap.objs.size::dJ outer from z) with z |z
 ·rw[z] at q;exact absurd (bw q) (ie _)
 ·exact S z
end L2
namespace L2
open PySem PySem.Spec PyProof.Rows
inductive Fl where
 |nx |bk |ct |rt (d:D) |rf (ds:f0) |r2 (dss:List f0) |xc (c:Str) |ra (k:AK) (ps:f5)
abbrev FS:=aJ->Option (Fl×aJ)
structure N2 (K:fc) (G:Gd) (H0 H:Hp) (l:Addr) (ls:el) (dss:List f0):Prop where
 nd:(l::ls).Nodup
 new:∀a∈l::ls,H0 a=none
 cB:H l=↑(.lst (ls.map V.ref))
 len:ls.length=dss.length
 inn:∀(j:Nat) (ds:f0) (a:Addr),dss[j]?=↑ds->ls[j]?=↑a->∃vs,H a=↑(.lst vs)/\aC K H (λb=>G b/\b∉l::ls) ds vs
def cZ(X:Cx)(G:Gd)(H0:Hp)(W:Addr->Prop)(H:Hp)(Dn:eX)(env':aJ):Fl->Prop
 | .nx=>∀W' D H',Step W H W' H'->Ok X.K G H0 W' env' D H'->Dn.nx D H' | .bk=>∀W' D H',Step W H W' H'->Ok X.K G H0 W' env' D H'->Dn.bk D H' | .ct=>∀W' D H',Step W H W' H'->Ok X.K G H0 W' env' D H'->Dn.ct D H' | .rt d=>∀W' D v H',Step W H W' H'->Ok X.K G H0 W' env' D H'->aN X.K H' (Ow G W') d v->Dn.rt v H' | .rf ds=>∀l vs H',aS H0 H'->H0 l=none->H' l=↑(.lst vs)->aC X.K H' (λa=>G a/\a≠l) ds vs->Dn.rt (.ref l) H'
 | .r2 dss=>∀l ls H',aS H0 H'->N2 X.K G H0 H' l ls dss->Dn.rt (.ref l) H'
 | .xc c=>∀W' D H' C,Cl X.K c C->Step W H W' H'->Ok X.K G H0 W' env' D H'->∀pins e s',XS X pins D H' C e s'->X.xe (.ref e) s' | .ra k ps=>∀W' D p H',Step W H W' H'->Ok X.K G H0 W' env' D H'->cR X.K G W' H' (.ag k none ps) (.ref p)->Dn.rt (.ref p) H'
def lk(X:Cx)(G:Gd)(H0:Hp)(g:FS):TS:=λDn σ H=>DP X.K G H0 g (λW env fl env'=> cZ X G H0 W H Dn env' fl) σ H
structure dN (X:Cx) (G:Gd) (H0:Hp) (s:Stmt) (g:FS):Prop where
 out:PS X s (lk X G H0 g)
structure eI (X:Cx) (G:Gd) (H0:Hp) (s:List Stmt) (g:FS):Prop where
 out:fA X s (lk X G H0 g)
variable{X:Cx}{e:Expr}{t t':TS}
def PS.imp{e:Stmt}(h:PS X e t)(i:∀D σ H,t' D σ H->t D σ H):PS X e t':=λpins s σ H D I q=>h pins s σ H D I (i D σ H q)
def fA.imp{e:List Stmt}(h:fA X e t)(i:∀D σ H,t' D σ H->t D σ H):fA X e t':=λpins s σ H D I q=>h pins s σ H D I (i D σ H q)
variable{G:Gd}{W W1:Addr->Prop}{H0 H H1:Hp}{Dn:eX}{env':aJ}{fl:Fl}
def cZ.step(st:Step W H W1 H1)(h:cZ X G H0 W H Dn env' fl):cZ X G H0 W1 H1 Dn env' fl:=by
 cases fl with
 |nx=>exact λW' D H' s o=>h W' D H' (st.trans s) o |bk=>exact λW' D H' s o=>h W' D H' (st.trans s) o |ct=>exact λW' D H' s o=>h W' D H' (st.trans s) o |rt d=>exact λW' D v H' s o=>h W' D v H' (st.trans s) o |rf ds=>exact h |r2 dss=>exact h |xc c=>exact λW' D H' C z s o=>h W' D H' C z (st.trans s) o |ra k ps=>exact λW' D p H' s o=>h W' D p H' (st.trans s) o
def Fl.out:Fl->Bool | .rt _=>true | .rf _=>true | .r2 _=>true | .xc _=>true | .ra _ _=>true |_=>false
variable{Dn':eX}
protected def cZ.go(I:fl.out=true)(h:cZ X G H0 W H Dn env' fl)(e:Dn'.rt=Dn.rt)(st:Step W H W1 H1):cZ X G H0 W1 H1 Dn' env' fl:=by
 cases fl with
 |nx=>cases I
 |bk=>cases I
 |ct=>cases I
 |rt d=>intro W' D v H' s o r;rw[e];exact h W' D v H' (st.trans s) o r
 |rf ds=>intro v vs H' s n l r;rw[e];exact h v vs H' s n l r
 |r2 dss=>intro v ls H' s n;rw[e];exact h v ls H' s n
 |xc c=>exact λW' D H' C z s o=>h W' D H' C z (st.trans s) o |ra k ps=>intro W' D p H' s o r;rw[e];exact h W' D p H' (st.trans s) o r
@[simp] def sNil:FS:=λe=>↑(.nx,e)
@[simp] def sSeq(g h:FS):FS:=λe=>(g e).bind λr=>match r.1 with | .nx=>h r.2 |_=>↑r
@[simp] def sSet(i:Nat)(f:FE):FS:=λe=>(f e).map λr=>(.nx,r.2.set i ⇑r.1)
@[simp] def bY(i:Nat)(f:FA):FS:=λe=>(f e).map λr=>(.nx,r.2.set i ↑(.ow r.1))
@[simp] def aK(f:FE):FS:=λe=>(f e).map λr=>(.rt r.1,r.2)
@[simp] def pZ(f:FA):FS:=λe=>(f e).map λr=>(.rf r.1,r.2)
@[simp] def sIf(c:FT)(g h:FS):FS:=λe=>(c e).bind λr=>if r.1=true then g r.2 else h r.2
@[simp] def j8(f:FE):FS:=λe=>(f e).map λr=>(.nx,r.2)
@[simp] def ym:FS:=λ_=>none
def b_(i:Nat)(g:FS):f0->aJ->Option (Fl×aJ)
 | [],e=>↑(.nx,e) |d::r,e=>(g (e.set i ⇑d)).bind λq=>match q.1 with | .nx=>b_ i g r q.2 | .ct=>b_ i g r q.2 | .bk=>↑(.nx,q.2) | .rt d=>↑(.rt d,q.2) | .rf ds=>↑(.rf ds,q.2) | .r2 ds=>↑(.r2 ds,q.2) | .xc c=>↑(.xc c,q.2) | .ra k ps=>↑(.ra k ps,q.2)
@[simp] def bQ(i:Nat)(fi:FI)(g:FS):FS:=λe=>(fi e).bind λr=>b_ i g r.1 r.2
def nk(c:FT)(g:FS):Nat->aJ->Option (Fl×aJ)
 |0,_=>none |n+1,e=>(c e).bind λr=>if r.1=true then(g r.2).bind λq=>match q.1 with | .nx=>nk c g n q.2 | .ct=>nk c g n q.2 | .bk=>↑(.nx,q.2) | .rt d=>↑(.rt d,q.2) | .rf ds=>↑(.rf ds,q.2) | .r2 ds=>↑(.r2 ds,q.2) | .xc c=>↑(.xc c,q.2) | .ra k ps=>↑(.ra k ps,q.2) else ↑(.nx,r.2)
section
variable {X:Cx} {G:Gd} {H0:Hp} {a b c e:Expr} {es rest:et} {f g:FE} {F:FA} {p q:FT} {s:Stmt} {ss:List Stmt} {u v:FS} {pos p' p1 pos1:Pos} {x:Str} {i:Nat}
def j9  : eI X G H0 [] sNil:=⟨Bg.imp λDn σ H D=>by
 obtain⟨W,env,fl,env',ok,q,k⟩:=D;cases q;exact k W σ H Step.refl ok⟩
def fg(h1:dN X G H0 s u)(h2:eI X G H0 ss v):eI X G H0 (s::ss) (sSeq u v):=⟨(Bh h1.out h2.out).imp λDn σ H U=>by
 obtain⟨W,env,fl,env',ok,q,k⟩:=U;cases e1:u env with
 |none=>simp[e1] at q |some r =>
   obtain⟨I,D⟩:=r;refine⟨W,env,I,D,ok,e1,?_⟩;cases I with
   |nx =>
     have q:v D=↑(fl,env'):=by simpa[sSeq,e1] using q
     exact λW1 V H1 Y S=>⟨W1,D,fl,env',S,q,k.step Y⟩
   |bk =>
     have q:↑(Fl.bk,D)=↑(fl,env'):=by simpa[sSeq,e1] using q
     cases q;exact k
   |ct =>
     have q:↑(Fl.ct,D)=↑(fl,env'):=by simpa[sSeq,e1] using q
     cases q;exact k
   |rt d =>
     have q:↑(Fl.rt d,D)=↑(fl,env'):=by simpa[sSeq,e1] using q
     cases q;exact k
   |rf d =>
     have q:↑(Fl.rf d,D)=↑(fl,env'):=by simpa[sSeq,e1] using q
     cases q;exact k
   |r2 d =>
     have q:↑(Fl.r2 d,D)=↑(fl,env'):=by simpa[sSeq,e1] using q
     cases q;exact k
   |xc d =>
     have q:↑(Fl.xc d,D)=↑(fl,env'):=by simpa[sSeq,e1] using q
     cases q;exact k
   |ra d d' =>
     have q:↑(Fl.ra d d',D)=↑(fl,env'):=by simpa[sSeq,e1] using q
     cases q;exact k⟩
def fx(h:dN X G H0 s u):eI X G H0 [s] u:=⟨Bi h.out⟩
def DJ(U:X.N.Nodup)(hi:‹X.N[i]?=↑x›)(V:aM X G H0 e f)(ps:PS X (.Assign [.Name x p'] e pos) (dX (tD X.K G H0 f) (ni i))):dN X G H0 (.Assign [.Name x p'] e pos) (sSet i f):=⟨ps.imp λDn σ H I=>by
 obtain⟨W,env,fl,env',ok,q,k⟩:=I;cases e1:f env with
 |none=>simp[e1] at q |some r =>
   have q:↑(Fl.nx,r.2.set i ↑(Sl.sh r.1))=↑(fl,env'):=by simpa[sSet,e1] using q
   cases q;exact⟨W,env,_,_,ok,e1,λW1 Y H1 S D p1=>k W1 _ H1 S (D.set p1)⟩⟩
def oy(ps:PS X (.Assign [.Name x p'] e pos) (dX (g8 X.K G H0 F) (ni i))):dN X G H0 (.Assign [.Name x p'] e pos) (bY i F):=⟨ps.imp λDn σ H S=>by
 obtain⟨W,env,fl,env',ok,q,k⟩:=S;cases e1:F env with
 |none=>simp[e1] at q |some r =>
   have q:↑(Fl.nx,r.2.set i ↑(Sl.ow r.1))=↑(fl,env'):=by simpa[bY,e1] using q
   cases q;exact⟨W,env,_,_,ok,e1,λW1 l vs H1 U D I V Y Z=>k (bO W1 l) _ H1 U (I.setO (.inr rfl) Y Z (D.noOwn V))⟩⟩
def jc(I:aM X G H0 e f):dN X G H0 (.Return ↑e pos) (aK f):=⟨(n_ I.out).imp λDn σ H S=>by
 obtain⟨W,env,fl,env',ok,q,k⟩:=S;cases e1:f env with
 |none=>simp[e1] at q |some r =>
   have q:↑(Fl.rt r.1,r.2)=↑(fl,env'):=by simpa[aK,e1] using q
   cases q;exact⟨W,env,_,_,ok,e1,λW1 U H1 V D p1=>k W1 σ U H1 V D p1⟩⟩
def DK(S:eY X G H0 e F):dN X G H0 (.Return ↑e pos) (pZ F):=⟨(n_ S.out).imp λDn σ H U=>by
 obtain⟨W,env,fl,env',ok,q,k⟩:=U;cases e1:F env with
 |none=>simp[e1] at q |some r =>
   have q:↑(Fl.rf r.1,r.2)=↑(fl,env'):=by simpa[pZ,e1] using q
   cases q;exact⟨W,env,_,_,ok,e1,λW1 l vs H1 Z D I b V Y=>k l vs H1 D.stay (I.wl l (.inr rfl)).1 V (Y.mono (λ_ _ h=>h) λa us o h=>⟨⟨o.1,λz=>o.2 (.inr z)⟩,h⟩)⟩⟩
@[simp] def p_(i:Nat):FS:=λe=>match e[i]? with |some ↑(.ow ds)=>↑(.rf ds,e) |_=>none
def DL{Nn Cn:ed}{i:Nat}(an:bZ Nn Cn X)(D:‹Nn[i]?=↑x›):dN X G H0 (.Return ↑(.Name x p') pos) (p_ i):=⟨(n_ ((an.a D).pe)).imp λDn σ H S=>by
 obtain⟨W,env,fl,env',ok,q,k⟩:=S;unfold p_ at q;split at q
 ·rename_i ds U
  cases q;obtain⟨v,V,l,vs,rfl,I,Y,r⟩:=ok.slot i _ U;exact⟨_,V,k l vs H ok.stay (ok.wl l I).1 Y (r.mono (λ_ _ h=>h) λa us o h=>⟨⟨o.1,λz=>o.2 (z ▸ I)⟩,h⟩)⟩
 ·cases q⟩
def j7{S U:List Stmt}(Y:fB X G H0 c p)(Z:eI X G H0 S u)(a:eI X G H0 U v):dN X G H0 (.If c S U pos) (sIf p u v):=⟨(Bl Y.out Z.out a.out).imp λDn σ H b=>by
 obtain⟨W,env,fl,env',ok,q,k⟩:=b;cases e1:p env with
 |none=>simp[e1] at q |some r =>
   obtain⟨t,D⟩:=r;refine⟨W,env,t,D,ok,e1,λW1 H1 V I=>?_⟩;cases t with
   |true=>rw[az rfl];exact⟨W1,D,fl,env',I,by simpa[sIf,e1] using q,k.step V⟩ |false=>rw[bu ce];exact⟨W1,D,fl,env',I,by simpa[sIf,e1] using q,k.step V⟩⟩
def ll  : dN X G H0 s ym:=⟨Bo.imp λDn σ H ⟨W,env,fl,env',ok,q,k⟩=>by cases q⟩
def md(I:aM X G H0 e f)(S:‹swapsWith e none pos.line X.env=pure false›):dN X G H0 (.Expr e pos) (j8 f):=⟨(uR I.out S).imp λDn σ H U=>by
 obtain⟨W,env,fl,env',ok,q,k⟩:=U;cases e1:f env with
 |none=>simp[e1] at q |some r =>
   have q:↑(Fl.nx,r.2)=↑(fl,env'):=by simpa[j8,e1] using q
   cases q;exact⟨W,env,_,_,ok,e1,λW1 Y H1 V D p1=>k W1 σ H1 V D⟩⟩
structure wW (K:fc) (G:Gd) (J:It) (W:Addr->Prop) (H:Hp) (ds:f0):Prop where
 go:∀W' H' (i:Nat) d,Step W H W' H'->ds[i]?=↑d->J.go i H'/\∀x H'',J.yld i H' x H''->aS H' H''/\aN K H'' (Ow G W') d x
 stop:∀W' H',Step W H W' H'->J.stop ds.length H'
def DM(K:fc)(G:Gd)(H0:Hp)(f:FI):TI:=λσ H R=>DP K G H0 f (λW env ds env' =>
 ∀W' J H',Step W H W' H'->Ok K G H0 W' env' σ H'->wW K G J W' H' ds->R J H') σ H
structure jA (X:Cx) (G:Gd) (H0:Hp) (tg:Expr) (e:Expr) (f:FI):Prop where
 out:PI X tg e (DM X.K G H0 f)
def pV.dj{tg:Expr}{f:FI}(h:gE X G H0 tg a f):jA X G H0 tg a f:=⟨h.out.imp λσ H R z=>by
 obtain⟨W,env,ds,env',ok,q,k⟩:=z;exact⟨W,env,ds,env',ok,q,λW' J H' st D w=>k W' J H' st D ⟨λI H2 i d s e=>⟨(w.go I H2 i d s e).1,λx S y=>by
  obtain⟨U,r⟩:=(w.go I H2 i d s e).2 x S y;cases U;exact⟨aS.refl _,r⟩⟩,w.stop⟩⟩⟩
def jU(k:aJ->Option (Fl×aJ))(q:Fl×aJ):Option (Fl×aJ):=match q.1 with | .nx=>k q.2 | .ct=>k q.2 | .bk=>↑(.nx,q.2) | .rt d=>↑(.rt d,q.2) | .rf ds=>↑(.rf ds,q.2) | .r2 ds=>↑(.r2 ds,q.2) | .xc c=>↑(.xc c,q.2) | .ra k ps=>↑(.ra k ps,q.2)
def cZ.loop{Dn:eX}{W W':Addr->Prop}{H H':Hp}{fl V:Fl}{I env':aJ}{N:St->Hp->Prop}{kk:aJ->Option (Fl×aJ)}(k:cZ X G H0 W H Dn env' fl)(st:Step W H W' H')(Y:jU kk (V,I)=↑(fl,env'))(Z:∀U D H2,Step W' H' U H2->Ok X.K G H0 U I D H2->kk I=↑(fl,env')->N D H2) :
  cZ X G H0 W' H' { Dn with nx:=N,ct:=N,bk:=Dn.nx } I V:=by
 cases V with
 |nx=>exact λU D H2 s2 S=>Z U D H2 s2 S Y |ct=>exact λU D H2 s2 S=>Z U D H2 s2 S Y |bk=>cases Y;exact λU D H2 s2 S=>k U D H2 (st.trans s2) S
 |_=>cases Y;exact k.go rfl rfl st
inductive iK (X:Cx) (G:Gd) (H0:Hp) (W1:Addr->Prop) (H1:Hp) (ds:f0) (L:f0->aJ->Option (Fl×aJ)) (r:Option (Fl×aJ)) (n m:Nat) (σ:St) (H:Hp):Prop
 |mk (W:Addr->Prop) (env:aJ) (hm:m=ds.length-n) (hn:n<=ds.length) (st:Step W1 H1 W H) (ok:Ok X.K G H0 W env σ H) (ef:L (ds.drop n) env=r):iK X G H0 W1 H1 ds L r n m σ H
def wX{tg:Expr}{g:TG}{body:List Stmt}{fi:FI}{b:D->aJ->Option aJ}{L:f0->aJ->Option (Fl×aJ)}(hi:jA X G H0 tg a fi)(i:PG X tg g)(E:eI X G H0 body u)(F:∀ {W env env' σ H d x} {Q:St->Hp->Prop},Ok X.K G H0 W env σ H->aN X.K H (Ow G W) d x->b d env=↑env'->(∀S,Ok X.K G H0 W env' S H->Q S H)->g x σ H Q)(M:∀e,L [] e=↑(.nx,e))(h1:∀d r e,L (d::r) e=(b d e).bind λe'=>(u e').bind λq=>jU (L r) q)(N:PassesOwn (model X.prog X.w) X.A X.env X.xe)(O:X.calm=true)(P:∀x,foldedSetIterable a X.env x=pure x):dN X G H0 (.For tg a body [] pos) (λe=>(fi e).bind λr=>L r.1 r.2):=⟨(B8 N O hi.out i E.out P).imp λDn σ H z=>by
 obtain⟨W,env,fl,env',ok,q,k⟩:=z;obtain⟨⟨ds,U⟩,R,q⟩:=dq.mp q;refine⟨W,env,ds,U,ok,R,λW1 J H1 t j v=>⟨iK X G H0 W1 H1 ds L ↑(fl,env'),⟨ds.length,W1,U,rfl,fy _,Step.refl,j,q⟩,λn m S H' z=>?_⟩⟩;obtain⟨W',B,T,hn,st,Z,V⟩:=z;subst T;by_cases I:n<ds.length
 ·rw[kv I,h1] at V
  obtain⟨c,e2,V⟩:=dq.mp V;obtain⟨⟨l,Y⟩,e3,V⟩:=dq.mp V;obtain⟨i,hy⟩:=v.go W' H' n ds[n] st (ak I);refine .inr ⟨i,λf H2=>∃C,C<ds.length-n/\iK X G H0 W1 H1 ds L ↑(fl,env') (n+1) C f H2,λ_ _ h=>h,λx o y=>?_⟩;obtain⟨sm,rx⟩:=hy x o y;have sn:=st.trans (Step.same sm);exact F (Z.same sm) rx e2 λaa p=>⟨W',c,l,Y,p,e3,k.loop (t.trans sn) V λW2 f H2 s2 s e=>⟨_,m6 _ _ I,W2,Y,rfl,I,sn.trans s2,s,e⟩⟩
 ·cases mf hn (ji I)
  rw[qv,M] at V;cases V;exact .inl ⟨v.stop W' H' st,k W' S H' (t.trans st) Z⟩⟩
def nj{tg:Str}{px:Pos}{body:List Stmt}{fi:FI}(hi:gE X G H0 (.Name tg px) a fi)(D:PG X (.Name tg px) (ni i))(I:eI X G H0 body u)(S:PassesOwn (model X.prog X.w) X.A X.env X.xe:=by passes_own)(U:‹X.calm=true›)(V:∀x,foldedSetIterable a X.env x=pure x:=by intro _;rfl):dN X G H0 (.For (.Name tg px) a body [] pos) (bQ i fi u) :=
 wX (b:=λd e=>↑(e.set i ⇑d)) (L:=b_ i u) hi.dj D I (λok r e k=>by cases e;exact k _ (ok.set r)) (λ_=>rfl) (λ_ _ _=>rfl) S U V
inductive iL (X:Cx) (G:Gd) (H0:Hp) (W1:Addr->Prop) (H1:Hp) (L:Nat->aJ->Option (Fl×aJ)) (r:Option (Fl×aJ)) (m:Nat) (σ:St) (H:Hp):Prop
 |mk (W:Addr->Prop) (env:aJ) (st:Step W1 H1 W H) (ok:Ok X.K G H0 W env σ H) (ef:L m env=r):iL X G H0 W1 H1 L r m σ H
def wY{body:List Stmt}{n:Nat}(j:fB X G H0 c p)(l:eI X G H0 body u)(o:PassesOwn (model X.prog X.w) X.A X.env X.xe:=by passes_own):dN X G H0 (.While c body [] pos) (nk p u n):=⟨(Bx o j.out l.out).imp λDn σ H z=>by
 obtain⟨W,env,fl,env',ok,q,k⟩:=z;refine⟨iL X G H0 W H (nk p u) ↑(fl,env'),⟨n,W,env,Step.refl,ok,q⟩,λm Z H' z=>?_⟩;obtain⟨W',U,st,a,S⟩:=z;cases m with
 |zero=>cases S
 |succ m =>
   obtain⟨⟨t,D⟩,r,S⟩:=dq.mp S;refine⟨W',U,t,D,a,r,λf H2 s2 V=>?_⟩;cases t with
   |false =>
     cases S;exact k f Z H2 (st.trans s2) V
   |true =>
     obtain⟨⟨b,I⟩,s,S⟩:=dq.mp S;exact⟨λY g=>∃i,i<m+1/\iL X G H0 W H (nk p u) ↑(fl,env') i Y g,λ_ _ h=>h,f,D,b,I,V,s,k.loop (kk:=nk p u m) (st.trans s2) S λv Y g x d e=>⟨m,e9 _,v,I,(st.trans s2).trans x,d,e⟩⟩⟩
end
variable{n:Nat}
def h8(h:n<2 ^ 20):n<sizeLine:=bq h (by rw[gy];decide)
@[simp] def t9(d:D)(e:aJ)(i:Nat):Option (D×aJ):=match e[i]? with
 |some ↑(.ow ds)=>if bI (ds.length+1) then ↑(.non,e.set i ↑(.ow (ds++[d]))) else none
 |_=>none
@[simp] def n6(i:Nat)(f:FE):FE:=λe=>match e[i]? with
 |some ↑(.ow _)=>(f e).bind λr=>t9 r.1 r.2 i
 |_=>none
variable{Nn Cn:ed}{i:Nat}{a:Expr}{f:FE}{pos p' p1:Pos}{x:Str}
def vx(m:aM X G H0 a f)(an:bZ Nn Cn X)(Z:‹Nn[i]?=↑x›)(D:‹attributeBase (.Name x p') "append" X.env (eval (.Name x p') X.env)=eval (.Name x p') X.env›)(S:((backTo pos (starEach [a] X.env)).all (λx=>!x.1) && (backToKw pos (keywordEach [] X.env)).all (λx=>x.1.isSome)
   && decide ([a].length+([]:List Keyword).length+(if ([]:List Keyword).isEmpty then 0 else 1)<30))=true:=by rfl)(I:‹(p1.endLine==pos.line)=true›)(g:‹starEach [a] X.env=(false,eval a X.env)::starEach [] X.env›) :
  aM X G H0 (.Call (.Attribute (.Name x p') "append" p1) [a] [] pos) (n6 i f):=⟨(vf ff ln lm pj ((an.a Z).pe) (o9 m.out qi g) D S I g rfl).imp λσ H Q n=>by
 obtain⟨W,env,d,env',ok,q,k⟩:=n;unfold n6 at q;split at q;case h_2=>cases q
 rename_i o b;obtain⟨v,c,l,p,rfl,s,e,_⟩:=ok.slot i _ b;cases e1:f env with
 |none=>rw[e1] at q;cases q
 |some r =>
   obtain⟨t,U⟩:=r;rw[e1,ac] at q;unfold t9 at q;split at q;case h_2=>cases q
   rename_i ds h;split at q;case isFalse=>cases q
   rename_i V;cases q;refine⟨_,c,.inl ⟨rfl,_,.inl (.inl e)⟩,W,env,t,U,ok,e1,λW1 u H1 w Y y=>?_⟩;obtain⟨E,j,F,vs,z,J,A,r⟩:=Y.slot i _ h;rw[c] at j;cases j;cases z;obtain⟨B,C⟩:=Y.turn h c (r.append (.cons y .nil));exact⟨l,vs,u,rfl,rfl,A,by rw[<-r.length];exact h8 (ky V),k W1 _ _ (w.trans C) B .non⟩⟩
@[simp] def iM(i:Nat):FE:=λe=>match e[i]? with
 |some ↑(.ow ds)=>(ds[ds.length-1]?).map λd=>(d,e.set i ↑(.ow ds.dropLast))
 |_=>none
def DN(an:bZ Nn Cn X)(S:‹Nn[i]?=↑x›)(D:‹attributeBase (.Name x p') "pop" X.env (eval (.Name x p') X.env)=eval (.Name x p') X.env›)(I:‹(p1.endLine==pos.line)=true›) :
  aM X G H0 (.Call (.Attribute (.Name x p') "pop" p1) [] [] pos) (iM i):=⟨(C0 ff PySem.F.slot_list_pop PySem.F.type_list_pop C5 ((an.a S).pe) D I).imp λσ H Q b=>by
 obtain⟨W,env,d,env',ok,q,k⟩:=b;unfold iM at q;split at q;case h_2=>cases q
 rename_i ds U;obtain⟨v,V,l,vs,rfl,g,Y,r⟩:=ok.slot i _ U;cases e1:ds[ds.length-1]? with
 |none=>rw[e1] at q;cases q
 |some d' =>
   rw[e1] at q;cases q;obtain⟨u,c,e⟩:=r.get e1;obtain⟨f,Z⟩:=ok.turn U V r.dropLast;exact⟨_,V,.inl ⟨rfl,_,.inl (.inl Y)⟩,l,vs,u,rfl,rfl,Y,by rw[<-r.length];exact c,k W _ _ Z f (ok.rep Z e)⟩⟩
def qq(k:D)(e:aJ)(i:Nat):Option (D×aJ):=match k,e[i]? with
 | .int k,↑↑(.ow ds)=>if bI ds.length then(cU ds.length k).bind λj=>(ds[j]?).map λd=>(d,e.set i ↑(.ow (ds.eraseIdx j))) else none
 |_,_=>none
def yl(i:Nat)(f:FE):FE:=λe=>match e[i]? with
 |some ↑(.ow _)=>(f e).bind λr=>qq r.1 r.2 i
 |_=>none
theorem DO(o:aM X G H0 a f)(an:bZ Nn Cn X)(Z:‹Nn[i]?=↑x›)(I:‹attributeBase (.Name x p') "pop" X.env (eval (.Name x p') X.env)=eval (.Name x p') X.env›)(V:((backTo pos (starEach [a] X.env)).all (λx=>!x.1) && (backToKw pos (keywordEach [] X.env)).all (λx=>x.1.isSome)
   && decide ([a].length+([]:List Keyword).length+(if ([]:List Keyword).isEmpty then 0 else 1)<30))=true:=by rfl)(S:‹(p1.endLine==pos.line)=true›)(g:‹starEach [a] X.env=(false,eval a X.env)::starEach [] X.env›) :
  aM X G H0 (.Call (.Attribute (.Name x p') "pop" p1) [a] [] pos) (yl i f):=⟨(vf ff PySem.F.slot_list_pop PySem.F.type_list_pop C7 ((an.a Z).pe) (o9 o.out qi g) I V S g rfl).imp λσ H Q p=>by
 obtain⟨W,env,d,env',ok,q,k⟩:=p;unfold yl at q;split at q;case h_2=>cases q
 rename_i s b;obtain⟨v,c,l,t,rfl,w,e,_⟩:=ok.slot i _ b;cases e1:f env with
 |none=>rw[e1] at q;cases q
 |some r =>
   obtain⟨L,Y⟩:=r;rw[e1,ac] at q;unfold qq at q;dsimp only at q;split at q;case h_2=>cases q
   rename_i kk ds h;split at q;case isFalse=>cases q
   rename_i D;cases e2:cU ds.length kk with
   |none=>rw[e2] at q;cases q
   |some j =>
     rw[e2,ac] at q;cases e3:ds[j]? with
     |none=>rw[e3] at q;cases q
     |some d' =>
       rw[e3] at q;cases q;obtain⟨y,M,N,O⟩:=oX e2;refine⟨_,c,.inl ⟨rfl,_,.inl (.inl e)⟩,W,env,_,Y,ok,e1,λW1 P H1 z U A=>?_⟩;obtain⟨R,m,T,vs,B,hW,C,r⟩:=U.slot i _ h;rw[c] at m;cases m;cases B;obtain⟨u,E,J⟩:=r.get e3;obtain⟨K,n⟩:=U.turn h c (r.eraseIdx j);exact⟨l,vs,kk,j,u,rfl,by rw[A.int_],C,by have:ds.length<=2 ^ 20:=D;lia,by have:ds.length<=2 ^ 20:=D;lia,by rw[<-r.length];exact y,E,k W1 _ _ (z.trans n) K (U.rep n J)⟩⟩
@[simp] def wc(d k:D)(e:aJ)(i:Nat):Option (Fl×aJ):=match k,e[i]? with
 | .int k,↑↑(.ow ds)=>(cU ds.length k).map λj=>(.nx,e.set i ↑(.ow (ds.set j d)))
 |_,_=>none
@[simp] def tf(i:Nat)(D I:FE):FS:=λe=>(I e).bind λr=>match r.2[i]? with
 |some ↑(.ow _)=>(D r.2).bind λq=>wc r.1 q.1 q.2 i
 |_=>none
variable{b:Expr}{g:FE}
def qA(n:aM X G H0 b g)(o:aM X G H0 e f)(an:bZ Nn Cn X)(Y:‹Nn[i]?=↑x›)(p:‹swapsWithSole [.Subscript (.Name x p') b p1] e pos.line X.env=pure false›)(s:‹swappedStores [.Subscript (.Name x p') b p1] e X.env=pure none›)(h1:‹(assignEach [.Subscript (.Name x p') b p1] X.env).map (·.2)=[assign (.Subscript (.Name x p') b p1) X.env]›)(S:∀v,assign (.Subscript (.Name x p') b p1) X.env v=(do
   let ov <-holding [v] (eval (.Name x p') X.env);let iv <-holding [v,ov] (eval b X.env)
   standAt p1
   holding [v,ov,iv] (setItem ov iv v)
   release [v,ov,iv] []):=by intro _;rfl) :
  dN X G H0 (.Assign [.Subscript (.Name x p') b p1] e pos) (tf i g f):=⟨(Bt o.out (Bs ((an.a Y).pe) n.out o_ S) p s h1).imp λDn σ H t=>by
 obtain⟨W,env,fl,env',ok,q,k⟩:=t;cases e1:f env with
 |none=>simp[e1] at q |some r =>
   obtain⟨u,D⟩:=r;simp only[tf,e1,ac] at q;split at q;case h_2=>cases q
   rename_i w Z;cases e2:g D with
   |none=>rw[e2] at q;cases q
   |some c =>
     obtain⟨M,U⟩:=c;rw[e2,ac] at q;unfold wc at q;dsimp only at q;split at q;case h_2=>cases q
     rename_i kk ds h;cases e3:cU ds.length kk with
     |none=>rw[e3] at q;cases q
     |some j =>
       rw[e3] at q;cases q;refine⟨W,env,u,D,ok,e1,λW1 N H1 y I z=>?_⟩;obtain⟨v,d,l,A,rfl,B,C,_⟩:=I.slot i _ Z;refine⟨_,d,W1,D,_,U,I,e2,λE v2 H2 s2 V c=>?_⟩;obtain⟨O,m,P,vs,F,Q,J,r⟩:=V.slot i _ h;rw[d] at m;cases m;cases F;obtain⟨K,L⟩:=V.turn h d (aC.set (I.rep s2 z) j r);exact⟨l,vs,kk,j,rfl,c.int_,J,by rw[<-r.length];exact e3,k E _ _ ((y.trans s2).trans L) K⟩⟩
def ki(n:Nat)(ds:f0):aJ:=ds.map (λd=>↑(Sl.sh d))++List.replicate (n-ds.length) none
def aL(n ar:Nat)(g:FS):f0->f4:=λds=>if ds.length=ar then(match g (ki n ds) with |some (.rt d,_)=>↑d |some (.nx,_)=>some .non |_=>none) else none
def fJ(n ar:Nat)(g:FS):f0->Option f0:=λds=>if ds.length=ar then(match g (ki n ds) with |some (.rf d,_)=>↑d |_=>none) else none
def lu:∀ {n:Nat} {ds:f0} {i:Nat} {s:Sl},(ki n ds)[i]?=↑↑s->∃d,ds[i]?=↑d/\s=.sh d:=λ{n ds i s} h=>by
 unfold ki at h;by_cases hi:i<ds.length
 ·rw[a0 (by simpa using hi),bo] at h
  cases e:ds[i]? with
  |none=>rw[e] at h;cases h
  |some d=>rw[e] at h;cases h;exact⟨d,rfl,rfl⟩
 ·rw[b9 (by simpa using hi),zu] at h
  split at h <;> cases h
variable{O:Addr->Prop}{ds:f0}{vs:fw}{N:ed}{K:fc}
def y8(r:aC K H O ds vs):Ok K (gd λa=>O a\/H a=none) H cG (ki N.length ds) (start N vs) H:=by
 refine⟨aS.refl _,λa z=>.inr z,λl z=>z.elim,λi s e=>?_,λi j U s2 V v2 a D _ _ _ o _=>?_,?_⟩
 ·obtain⟨d,D,rfl⟩:=lu e
  obtain⟨v,I,S⟩:=r.get D;refine⟨v,?_,S.mono (λ_ _ h=>h) λa us o h=>⟨⟨.inl o,λz=>z⟩,h⟩⟩;unfold start;rw[a0 (by simpa using(au.mp I).1),bo,I];rfl
 ·obtain⟨d,_,z⟩:=lu D
  subst z;exact o.elim
 ·unfold ki start
  rw[ai,ai,ae,ae,i5,i5,r.length]
variable{f:Addr}{CX:fE}{qual:Str}{st:Stmt}{fd:FuncData}{ps:ed}{k ar:Nat}{P:Program}{w:World}{mg:Str->ei}{base:Heap}
theorem jV{g:FS}(F:fR K x qual st f fd)(S:ug N ps (im st))(Y:n=N.length)(Z:ar=ps.length)(D:∀(cdv:Value) (A:Around) (outer:er) (s:Shared) (H:Hp) (E:XK) (G:Gd) (H0:Hp),aV k (A.deeper (envOfC qual (im st) s.heap.objs.size f cdv)) ->
   eI (bC CX P w K mg base N qual (im st) f cdv A outer s H E).nox G H0 (mz st) g):bK P w K mg base CX (k+1) f fd ps (bU K (aL n ar g)):=by
 subst Y Z;refine F.okC S (λvs H Q E h=>?_) (λcdv A outer s H vs Q E b h=>?_)
 ·obtain⟨O,ds,d,r,e,_⟩:=h
  rw[<-r.length];unfold aL at e;split at e
  ·assumption
  ·cases e
 ·obtain⟨O,ds,d,r,e,k⟩:=h
  refine⟨_,(D cdv A outer s H E (gd λa=>O a\/H a=none) H b).out,?_⟩;unfold aL at e;split at e;case isFalse=>cases e
  split at e
  ·rename_i d' env' U
   cases e;exact⟨cG,_,_,env',y8 r,U,λW' V v H' st I c=>k v H' I.stay (c.mono (λ_ _ h=>h) λa us o h=>⟨o.1,h⟩)⟩
  ·rename_i env' U
   cases e;exact⟨cG,_,_,env',y8 r,U,λW' V H' st I=>k .non H' I.stay .non⟩
  ·cases e
theorem qB{g:FS}(F:fR K x qual st f fd)(S:ug N ps (im st))(I:n=N.length)(U:ar=ps.length)(D:∀(cdv:Value) (A:Around) (outer:er) (s:Shared) (H:Hp) (E:XK) (G:Gd) (H0:Hp),aV k (A.deeper (envOfC qual (im st) s.heap.objs.size f cdv)) ->
   eI (bC CX P w K mg base N qual (im st) f cdv A outer s H E).nox G H0 (mz st) g):bK P w K mg base CX (k+1) f fd ps (iI K (fJ n ar g)):=by
 subst I U;refine F.okC S (λvs H Q E h=>?_) (λcdv A outer s H vs Q E V h=>?_)
 ·obtain⟨O,ds,d,r,e,_⟩:=h
  rw[<-r.length];unfold fJ at e;split at e
  ·assumption
  ·cases e
 ·obtain⟨O,ds,d,r,e,k⟩:=h
  refine⟨_,(D cdv A outer s H E (gd λa=>O a\/H a=none) H V).out,?_⟩;unfold fJ at e;split at e;case isFalse=>cases e
  split at e
  ·rename_i d' env' Y
   cases e;exact⟨cG,_,_,env',y8 r,Y,λl vs' H' sm Z b c=>k l vs' H' sm Z b c⟩
  ·cases e
def l0(K:fc):Sp:=λvs H Q _=>∃(a:Addr) (ns:ep),vs=[.ref a]/\cN K H a (ns.map V.int)/\ns.length<=63/\∀H',Q (.bl true) H'
theorem DQ{m:f0->f4}(F:bK P w K mg base CX k f fd ps (bU K m))(h:∀ns:ep,ns.length<=63->m [.lst (ns.map D.int)]=↑(.bl true)) :
  bK P w K mg base CX k f fd ps (l0 K):=F.imp λvs H Q E I=>by
 obtain⟨a,ns,e,S,U,q⟩:=I;subst e;exact⟨λ_=>True,[.lst (ns.map D.int)],.bl true,.cons (S.elim (λz=>.lst trivial z (kY ns)) λz=>.klst z (kY ns)) .nil,h ns U,λv H' _ r=>by rw[r.bl_];exact q H'⟩
variable{F:FA}
def qC:∀σ H Q,tD X.K G H0 (aH F) σ H Q->g8 X.K G H0 F σ H Q:=λσ H Q V=>by
 obtain⟨W,env,d,env',ok,q,k⟩:=V;cases e1:F env with
 |none=>simp[e1] at q |some r =>
   have q:↑(D.lst r.1,r.2)=↑(d,env'):=by simpa[aH,e1] using q
   cases q;refine⟨W,env,_,_,ok,e1,λW1 l vs H1 U I S Y Z b=>k W1 _ H1 ⟨U.keep,λa z=>U.ws a (.inl z)⟩ I (.lst ⟨I.good l (S.wl l (.inr rfl)).1,Y⟩ (.inl Z) (b.mono (λ_ _ h=>h) λa us o h=>⟨⟨o.1,λz=>o.2 (.inl z)⟩,h⟩))⟩
variable{f:FE}
def i9(I:eF Nn X)(S:aM X G H0 e f)(D:‹Nn[i]?=↑x›)(U:‹swapsWith e ↑(.Name x p') pos.line X.env=pure false›):dN X G H0 (.Assign [.Name x p'] e pos) (sSet i f):=DJ (I.t D).nd (I.t D).n S (oB (I.t D).nd (I.t D).n (I.t D).l S.out U (I.t D).f)
def wZ(ps:PS X (.Assign [.Name x p'] e pos) (dX (g8 X.K G H0 F) (ni i))):dN X G H0 (.Assign [.Name x p'] e pos) (sSet i (aH F)):=⟨(PS.imp ps (t':=dX (tD X.K G H0 (aH F)) (ni i)) λDn σ H h=>qC σ H _ h).imp λDn σ H I=>by
 obtain⟨W,env,fl,env',ok,q,k⟩:=I;cases e1:aH F env with
 |none=>simp only[sSet,e1,Option.map_none] at q;cases q
 |some r =>
   have q:↑(Fl.nx,r.2.set i ↑(Sl.sh r.1))=↑(fl,env'):=by simpa only[sSet,e1,aw] using q
   cases q;exact⟨W,env,_,_,ok,e1,λW1 U H1 S D p1=>k W1 _ H1 S (D.set p1)⟩⟩
variable{y:Str}{ix:em}{sc:Scope}{spos:Pos}{fi:FI}{te:FA}
def xl{px Z:Pos}{te:FE}(an:bZ Nn Cn X)(U:eF Nn X)(hi:gE X G H0 (.Name x px) a fi)(V:∀cl C s₂ H₂ fp G H0,bZ (x::(bH Nn ix)) (bH Nn ix) (lq X x (bH Nn ix) sc cl C s₂ H₂ fp)->aM (lq X x (bH Nn ix) sc cl C s₂ H₂ fp) G H0 e te)(S:ua Nn Cn ix x sc=true:=by decide +kernel)(b:‹X.calm=true›)(I:‹Nn[i]?=↑y›)(Y:‹swapsWith (.ListComp e [⟨.Name x px,a,[],0⟩] sc pos) ↑(.Name y Z) spos.line X.env=pure true›)(c:∀v,foldedSetIterable a X.env v=pure v:=by intro _;rfl) :
  PS X (.Assign [.Name y Z] (.ListComp e [⟨.Name x px,a,[],0⟩] sc pos) spos) (dX (g8 X.K G H0 (jy fi ix bL te)) (ni i)) :=
 (v_ (yx an S) (λ_ _ _ _ _ _ _ _ _=>b) (U.t I).nd (U.t I).n (U.t I).l hi.out (λcl C s₂ H₂ fp _=>lc (X:=X) rfl) (λcl C s₂ H₂ fp _=>gJ (X:=X) rfl (λG H0=>V cl C s₂ H₂ fp G H0 (xo S))) Y (U.t I).f c).imp λD σ H h=>pW σ H _ h
abbrev jW:=aJ->Option (List f0×aJ)
def hB(K:fc)(G:Gd)(H0:Hp)(f:jW):TE:=λσ H Q=>DP K G H0 f (λW env dss env' =>
 ∀W' l H',Step W H W' H'->Ok K G H0 W' env' σ H'->cR K G W' H' (.o2 dss) (.ref l) ->
  (∀(j:Nat) (s:Sl) (v:V) (a:Addr),env'[j]?=↑↑s->σ[j]?=↑↑v->aX H' (.o2 dss) (.ref l) a->¬aX H' s v a)->Q (.ref l) H') σ H
structure DS (X:Cx) (G:Gd) (H0:Hp) (e:Expr) (f:jW):Prop where
 out:PE X e (hB X.K G H0 f)
@[simp] def yg(i:Nat)(f:jW):FS:=λe=>(f e).map λr=>(.nx,r.2.set i ↑(.o2 r.1))
def DT{D:jW}(ps:PS X (.Assign [.Name x p'] e pos) (dX (hB X.K G H0 D) (ni i))):dN X G H0 (.Assign [.Name x p'] e pos) (yg i D):=⟨ps.imp λDn σ H S=>by
 obtain⟨W,env,fl,env',ok,q,k⟩:=S;cases e1:D env with
 |none=>simp[e1] at q |some r =>
   have q:↑(Fl.nx,r.2.set i ↑(Sl.o2 r.1))=↑(fl,env'):=by simpa[yg,e1] using q
   cases q;exact⟨W,env,_,_,ok,e1,λW1 l H1 U I h1 V=>k W1 _ H1 U (I.put h1 V)⟩⟩
def ww(te:FA)(base:aJ):f0->Option (List f0)
 | []=>↑[] |d::r=>(te (⇑d::base)).bind λv=>(ww te base r).map (v.1::·)
def uc(fi:FI)(ix:em)(te:FA):jW:=λe=>(fi e).bind λr=>if bI r.1.length then(ww te (ix.map λj=>cW (r.2.getD j none)) r.1).map λds=>(ds,r.2) else none
def jX(K:fc)(f:FA):TE:=λσ H Q=>∃G H0,g8 K G H0 f σ H Q
def DU{D:Cx}(S:D.K=X.K)(h:∀G H0,eY D G H0 e te):PE D e (jX X.K te):=λpins s σ H Q I ⟨G,H0,q⟩=>(h G H0).out pins s σ H Q I (by rw[S];exact q)
inductive w_ (X:Cx) (G:Gd) (H0:Hp) (env:aJ) (σ:St) (W1:Addr->Prop) (H1:Hp) (ds:f0) (d:List f0) (f:f0->Option (List f0)) (i m:Nat) (H':Hp) (ys:fw):Prop
 |mk (Wi:Addr->Prop) (rest done:List f0) (ls:el) (hm:m=ds.length-i) (hi:i<=ds.length) (sm:aS H1 H') (st:Step W1 H1 Wi H') (ok:Ok X.K G H0 Wi env σ H') (hy:ys=ls.map V.ref) (inn:pI X.K G Wi H' done ls) (nd:ls.Nodup) (fr:∀a∈ls,H1 a=none) (hd:done.length<=i) (ec:f (ds.drop i)=↑rest) (hz:d=done++rest):w_ X G H0 env σ W1 H1 ds d f i m H' ys
theorem DV:∀σ H Q,hB X.K G H0 (uc fi ix te) σ H Q->uu (pU X.K G H0 fi) ix (fI X.K bL) (jX X.K te) σ H Q:=λσ H Q z=>by
 obtain⟨W,env,d,env',ok,q,k⟩:=z;obtain⟨⟨ds,f⟩,e1,q⟩:=dq.mp q;by_cases R:bI ds.length;case neg=>cases (bu R).symm.trans q
 obtain⟨am,e2,q⟩:=iu.mp ((az R).symm.trans q);cases q;refine⟨W,env,ds,_,ok,e1,λW1 J H1 s1 p wk=>⟨w_ X G H0 f σ W1 H1 ds d (ww te (ix.map λj=>cW (f.getD j none))),⟨ds.length,W1,d,[],[],rfl,fy _,aS.refl _,Step.refl,p,rfl,⟨rfl,λj ds a e=>by cases e⟩,List.nodup_nil,(λa h=>by cases h),bj _,e2,rfl⟩,λi m H' ys z=>?_⟩⟩;obtain⟨C,rest,D,ls,hm,hi,sm,st,U,hy,Y,nd,fr,hd,B,T⟩:=z;subst hm hy;have I:ls.length=D.length:=Y.1;have E:∀a∈ls,∃vs,H' a=↑(.lst vs):=λa F=>by
  obtain⟨j,hj,e⟩:=nv F;obtain⟨_,vs,h,_⟩:=Y.2 j (D[j]'(I ▸ hj)) a (ak _) (e ▸ ak hj);exact⟨vs,h⟩
 by_cases S:i<ds.length
 ·rw[kv S] at B
  obtain⟨⟨dv,L⟩,e4,B⟩:=dq.mp B;obtain⟨t,e5,e6⟩:=iu.mp B;obtain⟨hg,hy⟩:=wk.go C H' i ds[i] st (ak S);refine .inr ⟨hg,λx Z y=>?_⟩;obtain⟨e,rx⟩:=hy x Z y;subst e;refine⟨_,_,cG,_,true,_,wQ (ix:=ix) U rx,rfl,λW2 H2 s2 aa=>?_⟩;refine⟨_,_,W2,_,dv,L,aa,e4,λW3 l vs H3 s3 ab M nW N rp=>⟨?_,ds.length-(i+1),m6 _ _ S,?_⟩⟩
  ·rw[ae,I];exact bq (Nat.lt_of_le_of_lt hd (bq S R)) k_
  ·have u:aS Z H3:=ab.stay
   have g:Z l=none:=(M.wl l (.inr rfl)).1;obtain⟨q1,q2,q3,q4,q5⟩:=U.fresh u g N (rp.mono (O':=λa=>(Ow G C a\/Z a=none)/\a≠l) (λ_ _ h=>h) λa us o h=>⟨⟨o.1,λz=>o.2 (.inr z)⟩,h⟩);have nl:l∉ls:=λz=>by obtain⟨us,h⟩:=E l z;rw[g] at h;cases h
   refine⟨bO C l,t,D++[dv],ls++[l],rfl,S,sm.trans u,st.trans q5,q3,by simp,⟨by simp[I],λj es a c n=>?_⟩,?_,λa F=>?_,by rw[ai,d5];lia,e5,by rw[T,<-e6,dn];rfl⟩
   ·by_cases hj:j<D.length
    ·rw[a0 hj] at c
     rw[a0 ∅] at n;obtain⟨w,us,h,r⟩:=Y.2 j es a c n;exact⟨.inl w,us,u _ _ h,U.reps q5 r⟩
    ·rw[b9 ∅] at c
     rw[b9 ∅,I] at n;have T:j-D.length=0:=by
      have:=(au.mp c).1;simp at this;lia
     rw[T] at c n;simp[Option.some.injEq] at c n;subst c n;exact⟨.inr rfl,vs,N,q4⟩
   ·rw[pz]
    exact⟨nd,by simp,λa F b hb=>by simp only[dm] at hb;subst hb;intro z;subst z;exact nl F⟩
   ·rcases d6.mp F with z |z
    ·exact fr a z
    ·rw[dm.mp z];exact sm.free g
 ·cases mf hi (ji S)
  rw[qv] at B;cases B;refine .inl ⟨wk.stop C H' st,by rw[ae,I];exact b6 hd (b6 R k_),λl g=>?_⟩;have A:aS H' (aO H' l (.lst (ls.map V.ref))):=y9 g;obtain⟨q1,q2,q3,q4⟩:=U.fresh0 (vs:=ls.map V.ref) A g mv;have nl:l∉ls:=λz=>by obtain⟨us,h⟩:=E l z;rw[g] at h;cases h
  have ag:aS H1 (aO H' l (.lst (ls.map V.ref))):=sm.trans A;rw[T,di] at k;refine k (bO C l) l _ ((s1.trans st).trans q4) q3 ⟨l,ls,rfl,.inr rfl,mv,df.mpr ⟨nl,nd⟩,Y.1,λj es a c n=>?_⟩ λj s v a ej ev o1 o2=>?_
  ·obtain⟨w,us,h,r⟩:=Y.2 j es a c n
   exact⟨.inl w,us,A _ _ h,U.reps q4 r⟩
  ·obtain⟨v',O,hs⟩:=p.slot j s ej
   rw[ev] at O;cases O;have al:aX H1 s v a:=hs.back (λl' _ _ vs q=>ag _ _ q) o2;have wa:W1 a:=hs.owns al;have P:H1 a≠none:=λz=>by obtain⟨_,us,q⟩:=p.wl a wa;rw[z] at q;cases q
   rcases o1 with o1 | ⟨l',ls',z,q,hb⟩
   ·cases o1;exact P (sm.free g)
   ·cases z
    rw[mv] at q;have:=za (by simpa using q);subst this;exact P (fr a hb)
def DW{px Z:Pos}(an:bZ Nn Cn X)(U:eF Nn X)(hi:gE X G H0 (.Name x px) a fi)(V:∀cl C s₂ H₂ fp G H0,bZ (x::(bH Nn ix)) (bH Nn ix) (lq X x (bH Nn ix) sc cl C s₂ H₂ fp)->eY (lq X x (bH Nn ix) sc cl C s₂ H₂ fp) G H0 e te)(S:ua Nn Cn ix x sc=true:=by decide +kernel)(b:‹X.calm=true›)(I:‹Nn[i]?=↑y›)(Y:‹swapsWith (.ListComp e [⟨.Name x px,a,[],0⟩] sc pos) ↑(.Name y Z) spos.line X.env=pure true›)(c:∀v,foldedSetIterable a X.env v=pure v:=by intro _;rfl) :
  PS X (.Assign [.Name y Z] (.ListComp e [⟨.Name x px,a,[],0⟩] sc pos) spos) (dX (hB X.K G H0 (uc fi ix te)) (ni i)) :=
 (v_ (yx an S) (λ_ _ _ _ _ _ _ _ _=>b) (U.t I).nd (U.t I).n (U.t I).l hi.out (λcl C s₂ H₂ fp _=>lc (X:=X) rfl) (λcl C s₂ H₂ fp _=>DU (X:=X) rfl (λG H0=>V cl C s₂ H₂ fp G H0 (xo S))) Y (U.t I).f c).imp λD σ H h=>DV σ H _ h
variable{env:aJ}{σ:St}
def DX(ok:Ok X.K G H0 W env σ H):Ok X.K (gd λa=>Ow G W a\/H a=none) H cG (env.map cW) σ H:=by
 have U:∀ {d:D} {v:V},aN X.K H (Ow G W) d v->aN X.K H (Ow (gd λa=>Ow G W a\/H a=none) cG) d v:=λr=>r.mono (λ_ _ h=>h) λa us o h=>⟨⟨.inl o,λz=>z⟩,h⟩;have I:∀(i:Nat) (s:Sl),(env.map cW)[i]?=↑↑s->∃d',s=.sh d'/\env[i]?=↑⇑d':=λi s z=>by
  rw[bo] at z;cases q:env[i]? with
  |none=>rw[q] at z;cases z
  |some o =>
    rw[q] at z;have z:cW o=↑s:=bn z;unfold cW at z;split at z
    ·cases z;exact⟨_,rfl,rfl⟩
    ·cases z
 refine⟨aS.refl _,λa z=>.inr z,λl z=>z.elim,λi s e=>?_,λi j Y s2 Z v2 a S _ _ _ o _=>by obtain⟨d',rfl,_⟩:=I i Y S;exact o.elim,by rw[ae];exact ok.len⟩;obtain⟨d',rfl,e'⟩:=I i s e;obtain⟨v,S,r⟩:=ok.slot i _ e';exact⟨v,S,U r⟩
variable{d:D}{v:V}
def DY{D:Addr->Prop}{H2:Hp}(ok:Ok X.K G H0 W env σ H)(r:aN X.K H2 (Ow (gd λa=>Ow G W a\/H a=none) D) d v):aN X.K H2 (Ow G W) d v:=r.mono (λ_ _ h=>h) λa us o h=>⟨by
 rcases o.1 with z |z
 ·exact z
 ·exact⟨ok.good a (ok.stay.free z),λw=>by obtain⟨_,us,q⟩:=ok.wl a w;rw[z] at q;cases q⟩,h⟩
variable{α:Type}{j:Nat}
def DZ{xs:List α}{k:Int}{y:α}(h:cU xs.length k=↑j)(h2:xs[j]?=↑y):aW xs k=↑y:=by
 unfold aW;rw[h];exact h2
def D_{dss:List f0}{k:Int}(ok:Ok X.K G H0 W env σ H)(Y:env[i]?=↑↑(.o2 dss))(Z:σ[i]?=↑↑v)(b:cU dss.length k=↑j)(S:dss[j]?=↑ds) :
  ∃(l:Addr) (ls:el) (a:Addr) (vs:fw),v=.ref l/\H l=↑(.lst (ls.map V.ref))/\ls[j]?=↑a/\aW (ls.map V.ref) k=↑(.ref a)/\H a=↑(.lst vs)/\aC X.K H (Ow G W) ds vs:=by
 obtain⟨d,U,l,ls,rfl,e,c,f,hi⟩:=ok.slot i _ Y;rw[Z] at U;cases U;have I:j<ls.length:=by rw[hi.1];exact(au.mp S).1
 obtain⟨_,vs,h,r⟩:=hi.2 j ds ls[j] S (by simp[I]);exact⟨l,ls,ls[j],vs,rfl,c,by simp[I],DZ (j:=j) (by rw[ae,hi.1];exact b) (by simp[I]),h,r⟩
@[simp] def jY(k d:D)(e:aJ)(i:Nat):Option (D×aJ):=match k,e[i]? with
 | .int k,↑↑(.o2 dss)=>(cU dss.length k).bind λj=>(dss[j]?).bind λds=>if bI (ds.length+1) then ↑(.non,e.set i ↑(.o2 (dss.set j (ds++[d])))) else none
 |_,_=>none
@[simp] def l2(i:Nat)(g f:FE):FE:=λe=>match e[i]? with
 |some ↑(.o2 _)=>(g e).bind λr=>(f (r.2.map cW)).bind λq=>jY r.1 q.1 r.2 i
 |_=>none
variable{p2:Pos}
def Ea(A:aM X G H0 b g)(B:∀G H0,aM X G H0 a f)(an:bZ Nn Cn X)(h:xi b:=by intro _ _;rfl)(m:‹Nn[i]?=↑x›)(U:‹attributeBase (.Subscript (.Name x p') b p2) "append" X.env (eval (.Subscript (.Name x p') b p2) X.env)=eval (.Subscript (.Name x p') b p2) X.env›)(Y:((backTo pos (starEach [a] X.env)).all (λx=>!x.1) && (backToKw pos (keywordEach [] X.env)).all (λx=>x.1.isSome)
   && decide ([a].length+([]:List Keyword).length+(if ([]:List Keyword).isEmpty then 0 else 1)<30))=true:=by rfl)(V:‹(p1.endLine==pos.line)=true›)(u:‹starEach [a] X.env=(false,eval a X.env)::starEach [] X.env›) :
  aM X G H0 (.Call (.Attribute (.Subscript (.Name x p') b p2) "append" p1) [a] [] pos) (l2 i g f) :=
 ⟨(vf ff ln lm pj (kQ oZ ((an.a m).pe) A.out h) (o9 (gJ (X:=X) rfl B) qi u) U Y V u rfl).imp λσ H Q C=>by
  obtain⟨W,env,d,env',ok,q,k⟩:=C;unfold l2 at q;split at q;case h_2=>cases q
  rename_i E n;obtain⟨v,o,_⟩:=ok.slot i _ n;cases e1:g env with
  |none=>rw[e1] at q;cases q
  |some r =>
    obtain⟨O,S⟩:=r;rw[e1,ac] at q;dsimp only at q;cases e2:f (S.map cW) with
    |none=>rw[e2] at q;cases q
    |some p =>
      obtain⟨F,Z⟩:=p;rw[e2,ac] at q;unfold jY at q;split at q;case h_2=>cases q
      rename_i kk dss w;cases e3:cU dss.length kk with
      |none=>rw[e3] at q;cases q
      |some j =>
        rw[e3,ac] at q;cases e4:dss[j]? with
        |none=>rw[e4] at q;cases q
        |some ds =>
          rw[e4,ac] at q;split at q;case isFalse=>cases q
          rename_i c;cases q;refine⟨v,o,W,env,_,S,ok,e1,λW1 P H1 J D K=>?_⟩;obtain⟨l,ls,a,vs,rfl,y,s,t,z,r⟩:=D_ D w o e3 e4;refine .inl ⟨l,_,kk,.ref a,rfl,K.int_,.inl (.inl y),t,.inl ⟨rfl,vs,.inl (.inl z)⟩,?_⟩;refine⟨_,_,cG,_,F,Z,DX D,e2,λR v2 H2 s2 I p=>?_⟩;have e:=D.same I.stay;have L:=D.reps (Step.same I.stay) r;obtain⟨M,N⟩:=e.turn2 w o (I.stay _ _ y) e4 s (L.append (.cons (DY D p) .nil));exact⟨a,vs,v2,rfl,rfl,I.stay _ _ z,by rw[<-r.length];exact h8 (ky c),k W1 _ _ ((J.trans (Step.same I.stay)).trans N) M .non⟩⟩
def qD{env:Env}:∀ {names:List (Str×NameKind)} {x:Str},names.lookup x=some .globalImplicit ->
  (names.map λ(n,k)=>if (k==NameKind.free && env.scope.kind==.function && env.kindOf n==some .cell) then(n,NameKind.cell) else(n,k)).lookup x=some .globalImplicit
 | (n,k)::r,x,h=>by
   have D:=@qD env r x;show List.lookup x ((if (k==NameKind.free && env.scope.kind==.function && env.kindOf n==some .cell)=true then(n,NameKind.cell) else(n,k))::_)=_;cases hx:x==n with
   |true =>
     simp only[cy,hx] at h;cases h;simp[cy,hx]
   |false =>
     simp only[cy,hx] at h;by_cases I:(k==NameKind.free && env.scope.kind==.function && env.kindOf n==some .cell)=true
     ·rw[az I];simp only[cy,hx];exact D h
     ·rw[bu I];simp only[cy,hx];exact D h
variable{N':ed}{cl:List (Str×Addr)}{C:Addr}{s:Shared}{fp:el}
def qE(h:sc.names.lookup x=some .globalImplicit):Gl (lq X y N' sc cl C s H fp) x:=qD h
def Eb:Ty "int" "int":=⟨by decide +kernel,by decide +kernel,by decide +kernel,by decide +kernel⟩
def Ec:Ty "bool" "bool":=⟨by decide +kernel,by decide +kernel,by decide +kernel,by decide +kernel⟩
def qF:Ty "str" "str":=⟨by decide +kernel,by decide +kernel,by decide +kernel,by decide +kernel⟩
def xa:Ty "list" "list":=⟨by decide +kernel,by decide +kernel,by decide +kernel,by decide +kernel⟩
def Ed:Ty "tuple" "tuple":=⟨by decide +kernel,by decide +kernel,by decide +kernel,by decide +kernel⟩
def Ee(l:List α)(k:Nat)(y:α):(l.toArray.extract 0 k).push y++l.toArray.extract k=(l.take k++y::l.drop k).toArray:=by
 simp;exact iw ⋯
def Ef:V->fw->Hp->VK->Prop:=λx vs H Q=>∃(l:Addr) (xs:fw) (i:Int) (y:V),x=.ref l/\vs=[↥i,y]/\H l=↑(.lst xs)/\0<=i/\i<=xs.length/\i<2 ^ 62/\xs.length<sizeLine/\Q .non (aO H l (.lst (xs.take i.toNat++y::xs.drop i.toNat)))
def aG.ins{xs:fw}{its:ee}{y:V}{u:Value}(r:aG xs its)(D:aG [y] [u])(k:Nat):aG (xs.take k++y::xs.drop k) (its.take k++u::its.drop k):=by
 have:=(r.take k).append (D.append (r.drop k));simpa using this
theorem Eg:iZ X "list.insert" Ef:=by
 intro pins s σ H x vs v us Q I Y Z h;obtain⟨l,xs,i,y,rfl,rfl,U,b,h1,h2,c,q⟩:=h;cases Y;obtain⟨d,V,rfl,D,S⟩:=Z.two;obtain⟨t,rfl⟩:=D;obtain⟨z,its,n,r,f,e⟩:=I.lstM U;refine lw F.slot_list_insert ⟨_,e,rfl⟩ F.entry_list_insert (F.args_list_insert_3 _ _ _) (PySem.AutoSeq1.list_insert_list_int_val_1 l its.toArray n i t V (by rw[fitsIndex_both (k:=i) ∅ ∅];decide) (by rw[bi];lia)) ⟨e,?_⟩;refine⟨.non,_,I.lset (its':=its.take i.toNat++V::its.drop i.toNat) U e ?_ (aG.ins r (.cons S .nil) _) ?_,rfl,q⟩
 ·have a:(if i<0 then(i+(its.toArray.size:Int)).toNat else min i.toNat its.toArray.size)=i.toNat:=by
   rw[bu ∅,bi]
   lia
  rw[a,Ee]
 ·rw[ai,aq,dy,gq]
  lia
def qG(k d:D)(e:aJ)(i:Nat):Option (D×aJ):=match k,e[i]? with
 | .int k,↑↑(.ow ds)=>if 0<=k/\k<=ds.length/\bI (ds.length+1) then ↑(.non,e.set i ↑(.ow (ds.take k.toNat++d::ds.drop k.toNat))) else none
 |_,_=>none
def l7(i:Nat)(f g:FE):FE:=λe=>match e[i]? with
 |some ↑(.ow _)=>(bz f (bz g aB) e).bind λr=>match r.1 with | [k,d]=>qG k d r.2 i |_=>none
 |_=>none
theorem Eh(t:aM X G H0 a f)(u:aM X G H0 b g)(an:bZ Nn Cn X)(Z:‹Nn[i]?=↑x›)(I:‹attributeBase (.Name x p') "insert" X.env (eval (.Name x p') X.env)=eval (.Name x p') X.env›)(U:((backTo pos (starEach [a,b] X.env)).all (λx=>!x.1) && (backToKw pos (keywordEach [] X.env)).all (λx=>x.1.isSome)
   && decide ([a,b].length+([]:List Keyword).length+(if ([]:List Keyword).isEmpty then 0 else 1)<30))=true:=by rfl)(S:‹(p1.endLine==pos.line)=true›)(n:‹starEach [a,b] X.env=(false,eval a X.env)::starEach [b] X.env›)(c:‹starEach [b] X.env=(false,eval b X.env)::starEach [] X.env›)(e:‹(backTo pos (starEach [b] X.env)).any (·.1)=false›) :
  aM X G H0 (.Call (.Attribute (.Name x p') "insert" p1) [a,b] [] pos) (l7 i f g):=⟨(vf ff PySem.F.slot_list_insert PySem.F.type_list_insert Eg ((an.a Z).pe) (du t (du u e8 c) n).out I U S n e).imp λσ H Q w=>by
 obtain⟨W,env,d,env',ok,q,k⟩:=w;unfold l7 at q;split at q;case h_2=>cases q
 rename_i y h;obtain⟨v,j,l,z,rfl,A,m,_⟩:=ok.slot i _ h;cases e1:bz f (bz g aB) env with
 |none=>rw[e1] at q;cases q
 |some r =>
   obtain⟨B,V⟩:=r;rw[e1,ac] at q;dsimp only at q;split at q;case h_2=>cases q
   unfold qG at q;split at q;case h_2=>cases q
   rename_i kk ds o;split at q;case isFalse=>cases q
   rename_i C;obtain⟨E,J,p⟩:=C;cases q;refine⟨_,j,.inl ⟨rfl,_,.inl (.inl m)⟩,W,env,_,V,ok,e1,λW1 K H1 L Y M=>?_⟩;obtain⟨v',s,l',vs,N,hW,O,r⟩:=Y.slot i _ o;rw[j] at s;cases s;cases N;cases M with
   |cons q1 r2 =>
   cases r2 with
   |cons q2 r3 =>
   cases r3;cases q1;obtain⟨P,R⟩:=Y.turn o j ((r.take kk.toNat).append (.cons q2 (r.drop kk.toNat)));have D:=r.length;have T:ds.length<sizeLine:=h8 (ky p);have c4:ds.length+1<=2 ^ 20:=p;exact⟨l,vs,kk,_,rfl,rfl,O,E,by rw[<-D];exact J,by lia,by rw[<-D];exact T,k W1 _ _ (L.trans R) P .non⟩⟩
def wv:em->f0->aJ->aJ
 |i::ix,d::ds,e=>wv ix ds (e.set i ⇑d)
 |_,_,e=>e
def iN:em->hY
 | []=>jF |i::ix=>uS (ni i) (iN ix)
def lA(ix:em)(d:D)(e:aJ):Option aJ:=match d with
 | .tup ds=>if ds.length=ix.length then ↑(wv ix ds e) else none
 |_=>none
def eZ(ix:em)(g:FS):f0->aJ->Option (Fl×aJ)
 | [],e=>↑(.nx,e) |d::r,e=>(lA ix d e).bind λI=>(g I).bind λq=>match q.1 with | .nx=>eZ ix g r q.2 | .ct=>eZ ix g r q.2 | .bk=>↑(.nx,q.2) | .rt d=>↑(.rt d,q.2) | .rf ds=>↑(.rf ds,q.2) | .r2 ds=>↑(.r2 ds,q.2) | .xc c=>↑(.xc c,q.2) | .ra k ps=>↑(.ra k ps,q.2)
@[simp] def t6(ix:em)(fi:FI)(g:FS):FS:=λe=>(fi e).bind λr=>eZ ix g r.1 r.2
def xn{K:fc}{W:Addr->Prop}{H:Hp}:∀(ix:em) (ds:f0) (vs:fw) (env:aJ) (σ:St) (Q:St->Hp->Prop),Ok K G H0 W env σ H->aC K H (Ow G W) ds vs->ds.length=ix.length ->
  (∀I,Ok K G H0 W (wv ix ds env) I H->Q I H)->iN ix vs σ H Q
 | [],ds,vs,env,σ,Q,ok,r,hl,k=>by
   cases r with
   |nil=>exact⟨rfl,k σ ok⟩ |cons _ _=>cases hl
 |i::ix,ds,vs,env,σ,Q,ok,r,hl,k=>by
   cases r with
   |nil=>cases hl
   | @cons d v ds vs r0 r =>
     refine⟨v,vs,rfl,?_⟩;exact xn ix ds vs _ _ Q (ok.set r0) r (pq hl) k
def lB  : gR X [] (iN []):=Bp
variable{es:et}
def re(I:eF Nn X)(h:gR X es (iN ix))(D:‹Nn[i]?=↑x›)(S:‹(assignEach (.Name x pos::es) X.env).map (·.2)=assign (.Name x pos) X.env::(assignEach es X.env).map (·.2)›):gR X (.Name x pos::es) (iN (i::ix)):=Bq (ot (I.t D).nd (I.t D).n (I.t D).l (I.t D).f) h S
variable{body:List Stmt}{u:FS}
def qH(hi:jA X G H0 (.Tuple es k p1) a fi)(h:gR X es (iN ix))(U:eI X G H0 body u)(V:PassesOwn (model X.prog X.w) X.A X.env X.xe:=by passes_own)(I:‹X.calm=true›)(Y:‹(assignEach es X.env).length=ix.length›)(D:‹(assignEach es X.env).findIdx? (·.1)=none›)(Z:∀x,foldedSetIterable a X.env x=pure x:=by intro _;rfl):dN X G H0 (.For (.Tuple es k p1) a body [] pos) (t6 ix fi u) :=
 wX (b:=lA ix) (L:=eZ ix u) hi (Br (n:=ix.length) I h Y D) U (λ{W env env' σ H d x Q} ok r e k=>by
  unfold lA at e;split at e;case h_2=>cases e
  split at e;case isFalse=>cases e
  rename_i S;cases e;cases r with
  | @tup a vs _ ht rr=>exact⟨a,vs,rfl,.inl (.inl ht),by rw[<-rr.length];exact S,xn ix _ vs _ σ _ ok rr S k⟩) (λ_=>rfl) (λ_ _ _=>rfl) V I Z
def x2(hi:gE X G H0 (.Tuple es k p1) a fi)(h:gR X es (iN ix))(I:eI X G H0 body u)(S:PassesOwn (model X.prog X.w) X.A X.env X.xe:=by passes_own)(U:‹X.calm=true›)(V:‹(assignEach es X.env).length=ix.length›)(D:‹(assignEach es X.env).findIdx? (·.1)=none›)(Y:∀x,foldedSetIterable a X.env x=pure x:=by intro _;rfl):dN X G H0 (.For (.Tuple es k p1) a body [] pos) (t6 ix fi u):=qH hi.dj h I S U V D Y
def hC(F:FA)(g:FE):FA:=λe=>(F e).bind λr=>(g r.2).bind λq=>match q.1 with
 | .int k=>if bI (r.1.length*k.toNat)/\eT (-(2 ^ 62)) (2 ^ 62) k then ↑((List.replicate k.toNat r.1).flatten,q.2) else none
 |_=>none
def aC.rep{K:fc}{H:Hp}{O:Addr->Prop}{ds:f0}{vs:fw}(r:aC K H O ds vs):∀k:Nat,aC K H O (List.replicate k ds).flatten (List.replicate k vs).flatten
 |0=>.nil |k+1=>by
   exact r.append (aC.rep r k)
theorem Ei(j:eY X G H0 a F)(m:aM X G H0 b g):eY X G H0 (.BinOp a .Mult b pos) (hC F g):=⟨(oI C9 j.out m.out).imp λσ H Q p=>by
 obtain⟨W,env,d,env',ok,q,k⟩:=p;unfold hC at q;cases e1:F env with
 |none=>rw[e1] at q;cases q
 |some r =>
   obtain⟨ds,D⟩:=r;rw[e1,ac] at q;cases e2:g D with
   |none=>rw[e2] at q;cases q
   |some r2 =>
     obtain⟨L,c⟩:=r2;rw[e2,ac] at q;dsimp only at q;split at q;case h_2=>cases q
     rename_i kk;split at q;case isFalse=>cases q
     rename_i s;obtain⟨t,u,v⟩:=s;cases q;refine⟨W,env,_,_,ok,e1,λW1 l vs H1 e I f w x i=>⟨W1,D,_,_,I,e2,λy v2 H2 s2 S p2=>?_⟩⟩;have U:Step W H W1 H1:=⟨e.keep,λa h=>e.ws a (.inl h)⟩;have V:aC X.K H1 (Ow G W1) ds vs:=i.mono (λ_ _ h=>h) λa us o h=>⟨⟨o.1,λz=>o.2 (.inl z)⟩,h⟩;have Y:=I.reps s2 V;have Z:H2 l=↑(.lst vs):=s2.keep l _ x w;cases p2;refine⟨l,kk,vs,rfl,rfl,Z,by lia,by lia,?_,λn A=>?_⟩
     ·rw[<-i.length];exact b6 t (by rw[gy];decide)
     ·obtain⟨h1,h2,B,C,E,J⟩:=uy S (aC.rep Y kk.toNat) A
      exact k y n _ _ ((U.trans s2).trans h1) h2 B C E J⟩
variable{wr:el}{pins:fh}{h2:Heap}
def Inv.tupled{tk:Nat}{T:Addr}{us:fk}(I:Inv X pins σ H s)(U:∀b∈wr,cT X pins H b)(hT:s.heap.objs.size<=T)(i:T∉wr)(k:∀b o,b∉wr->s.heap.get? b=↑o->h2.get? b=↑o)(Z:h2.IsTuple T us)(a:aG vs us.toList)(d:vs.length<=sizeLine) :
  Inv X pins σ (aO H T (.tup vs)) { s with heap:=h2,toks:=tk }:=by
 have V:H T=none:=I.hok.fresh hT;have Y:∀b u,H b=↑u->b∉wr:=λb u e z=>by rw[(U b z).1] at e;cases e
 have neT:∀b o,s.heap.get? b=↑o->b≠T:=λb o e=>db (bq (bw e) hT);refine I.step (g':=s.gens) (d':=s.drawn) (ch:=wr) (λb D=>⟨(U b D).2.2.2.1,(U b D).2.1,(U b D).2.2.2.2.1,(U b D).2.2.2.2.2⟩) (λb o _ _ S e _=>k b o S e) (λb o _ _ S e _=>⟨o.slots,k b o S e⟩)
  (λb o _ e n=>by rw[i3 (neT b o e)];exact n) (λb o S e=>⟨o,k b o S e⟩) (λb xs e=>by rw[i3 (o4 e V)];exact e) (λb o u e=>by rw[i3 (o4 e V)];exact e)
  (λb ps e=>⟨#[],by rw[i3 (o4 e V),e];simp⟩) (λm f=>?_) (λb u e=>?_) I.bare
 ·obtain⟨o,es,g,h,r⟩:=f
  exact⟨o,es,g,k _ o (λz=>(U _ z).2.1 rfl) h,r⟩
 ·by_cases D:b=T
  ·subst D
   rw[mv] at e;cases e;exact⟨d,us.toList,a,by rw[Array.toArray_toList];exact Z⟩
  ·rw[i3 D] at e
   refine(I.hok b u e).stay (λc v S q=>k c v ?_ q) (λc q=>by rw[i3 (o4 q V)];exact q) λc xs q=>by rw[i3 (o4 q V)];exact q
   rcases S with z |z
   ·rw[z];exact Y b u e
   ·exact Y c _ z
def Inv.turnedL{tk:Nat}(I:Inv X pins σ H s)(S:∀b∈wr,cT X pins H b)(k:∀b o,b∉wr->s.heap.get? b=↑o->h2.get? b=↑o) :
  Inv X pins σ H { s with heap:=h2,toks:=tk }:=by
 have U:∀b u,H b=↑u->b∉wr:=λb u e z=>by rw[(S b z).1] at e;cases e
 refine I.step (g':=s.gens) (d':=s.drawn) (ch:=wr) (λb V=>⟨(S b V).2.2.2.1,(S b V).2.1,(S b V).2.2.2.2.1,(S b V).2.2.2.2.2⟩) (λb o _ _ D e _=>k b o D e) (λb o _ _ D e _=>⟨o.slots,k b o D e⟩)
  (λ_ _ _ _ n=>n) (λb o D e=>⟨o,k b o D e⟩) (λ_ _ e=>e) (λ_ _ _ e=>e) (λb ps e=>⟨#[],by rw[e];simp⟩) (λm Y=>?_) (λb u e=>?_) I.bare
 ·obtain⟨o,es,Z,a,r⟩:=Y
  exact⟨o,es,Z,k _ o (λz=>(S _ z).2.1 rfl) a,r⟩
 ·refine(I.hok b u e).stay (λc v D q=>k c v ?_ q) (λ_ q=>q) λ_ _ q=>q
  rcases D with z |z
  ·rw[z];exact U b u e
  ·exact U c _ z
def x3(go:Nat->Hp->Prop)(pr:Nat->Hp->fw->Prop)(D:Nat->Hp->Prop):It :=
 ⟨go,λi H x H'=>∃t vs,H t=none/\x=.ref t/\H'=aO H t (.tup vs)/\pr i H vs,D⟩
variable{it:Addr}
def Ej{Y:Nat->Heap->Prop}{go:Nat->Hp->Prop}{pr:Nat->Hp->fw->Prop}{S:Nat->Hp->Prop}(mem:it∈fp)(obj:∀i h,Y i h->∀b∈fp,∃o,h.get? b=↑o/\∀v,o.data≠.cell v)(keep:∀i h h',Y i h->(∀b∈fp,∀o,h.get? b=↑o->h'.get? b=↑o)->Y i h')(y:∀(X:Cx),X.prog=P->X.w=w->X.K=K->X.A.handled=none->∀(i:Nat) (pins:fh) (s:Shared) (σ:St) (H:Hp),Inv X pins σ H s->(∀b∈fp,cT X pins H b)->Y i s.heap->(go i H\/S i H) ->
   ∃Z wr n Pt St a j,WalksT P w X.A it Z wr n Pt St a/\St j s.heap/\(∀b∈wr,b∈fp)/\(∀h,St (j+1) h->Y (i+1) h)/\(go i H->j<n)/\(S i H->j=n) /\
    (go i H->∀D,Pt j D->∃vs,aG vs D.toList/\vs.length<=sizeLine/\pr i H vs))(self:∀(A:Around) (i:Nat) (s:Shared) (Q:Value->Shared->Prop) (E:Value->Shared->Prop),Y i s.heap->Q (.ref it) s->wpAny (model P w) A (pyIter (.ref it)) Q E s) :
  f_ P w K (.Tuple es k pos) (x3 go pr S) fp it Y where
 mem:=mem
 obj:=obj
 keep:=keep
 item:=by
  intro X hP q r t i pins s σ H E I d st f;obtain⟨Z,wr,n,Pt,St,a,j,W,u,c,g,lt,_,x⟩:=y X hP q r (I.ok.hd t) i pins s σ H I d st (.inl f);refine W.item j s _ _ (lt f) u λT D h1 tk z hT B l kk=>⟨_,rfl,?_⟩;obtain⟨vs,C,F,G⟩:=x f D z;have m:T∉wr:=W.apart j T h1 l;refine W.go es k pos j T _ _ _ l λh2 s2 p=>?_;refine⟨.ref T,aO H T (.tup vs),?_,rfl,⟨T,vs,I.hok.fresh hT,rfl,rfl,G⟩,g h2 s2,λb U=>?_⟩
  ·exact I.tupled (λb U=>d b (c b U)) hT m (λb o U e=>p b o U (kk b o U e)) (B.at λo e=>p T o m e) C F
  ·obtain⟨o,J,_⟩:=obj i _ st b U
   rw[i3 (db (bq (bw J) hT))];exact(d b U).1
 done:=by
  intro X hP q r t i pins s σ H E I d st f;obtain⟨Z,wr,n,Pt,St,a,j,W,u,c,g,_,L,_⟩:=y X hP q r (I.ok.hd t) i pins s σ H I d st (.inr f);cases L f;exact W.done s _ _ u λh1 tk kk=>⟨rfl,I.turnedL (λb U=>d b (c b U)) kk⟩
 self:=self
variable{A:Around}{l:Addr}
theorem Ek(I:A.handled=none)(S:l≠it)(c:Nat)(its:fk) :
  Draws P w A.in1 it [it,l] (c+its.size) (λj x=>∃i,j=c+i/\its[i]?=↑x) (λj h=>∃i,j=c+i/\i<=its.size/\h.IsListIter it l i/\h.IsList l its) where
 live:=λj h ⟨i,_,_,⟨o,e,_⟩,_⟩=>⟨o,e⟩
 frame:=λj h h' ⟨i,e,hi,a,b⟩ k=>⟨i,e,hi,a.at λo e=>k it ⋯ o e,b.at λo e=>k l ⋯ o e⟩
 item:=λj s Q E hj ⟨i,e,hi,a,b⟩ hQ=>by
  subst e;have hi:i<its.size:=by lia
  refine wpAny_nextOf_list_item a b (x:=its[i]) (by simp[hi]) λh' U D=>?_;exact hQ _ h' s.toks ⟨i,rfl,by simp[hi]⟩ ⟨i+1,by lia,hi,U,b.extBut D.extBut S⟩ D
 done:=λs Q E ⟨i,e,hi,a,b⟩ hE=>by
  have hi:i=its.size:=by lia
  subst hi;exact wpAny_nextOf_list_end I a b ⋯ hE
def qI(K:fc)(a:Addr)(c:Nat):It :=
 x3 (λi H=>∃xs x,cN K H a xs/\xs[i]?=↑x) (λi H vs=>∃y,vs=[↥(c+i:Nat),y]/\∀xs,cN K H a xs->xs[i]?=↑y) (λi H=>∃xs,cN K H a xs/\xs.length=i)
theorem x4(a it e:Addr)(c:Nat)(O:e≠it) :
  f_ P w K (.Tuple es k pos) (qI K a c) [e,it] e (λi h=>(∃S,IsEnum h e it (c+i:Nat) S)/\h.IsListIter it a i):=by
 refine Ej ⋯ (λi h st b F=>?_) (λi h h' st kk=>?_) ?_ λA i s Q E st W=>?_
 ·obtain⟨⟨S,U⟩,o,ho,_,hd⟩:=st
  rcases cj.mp F with z |z
  ·subst z
   exact⟨_,U,λv z=>by cases (show Data.fields _=Data.cell v from z)⟩
  ·cases dm.mp z
   exact⟨o,ho,λv z=>by rw[hd] at z;cases z⟩
 ·exact⟨st.1.imp λS U=>kk e ⋯ _ U,st.2.at λo x=>kk it ⋯ o x⟩
 ·intro X hP hw hK hh i pins s σ H I hf st Z
  subst hP hw hK;obtain⟨⟨S,U⟩,d⟩:=st;have G:∃xs,cN X.K H a xs/\i<=xs.length:=by
   rcases Z with⟨xs,x,q,f⟩ | ⟨xs,q,f⟩
   ·exact⟨xs,q,pw (au.mp f).1⟩
   ·exact⟨xs,q,Nat.le_of_eq f.symm⟩
  obtain⟨xs,q,J⟩:=G;obtain⟨its,R,p,hz⟩:=I.list q;have hl:=R.length;obtain⟨ol,Y,g,_⟩:=id p.isList;obtain⟨oi,j,l,_⟩:=id d;have L:a≠it:=λz=>by
   subst z;rw[Y] at j;cases j;rw[g] at l;exact absurd l (by decide)
  have M:e≠a:=λz=>by
   subst z;rw[U] at Y;cases Y;exact absurd (show Value.type "enumerate" = Value.type "list" from g) (by decide)
  have D:=Ek (P:=X.prog) (w:=X.w) hh L c its.toArray;refine⟨_,_,_,_,_,_,c+i,WalksT.enumerateD D e O (by simp[O,M]) ⋯,⟨⟨S,U⟩,i,rfl,by simpa[<-hl] using J,d,p.isList⟩,λb F=>F,λh st=>?_,λZ=>?_,λhs=>?_,λZ T hv=>?_⟩
  ·obtain⟨⟨m,N⟩,n,e',_,r,_⟩:=st
   have:n=i+1:=by lia
   subst this;exact⟨⟨m,N⟩,r⟩
  ·obtain⟨ys,y,B,V⟩:=Z
   rw[I.list_inj B q] at V;have:=(au.mp V).1;simp
   lia
  ·obtain⟨ys,B,V⟩:=hs
   rw[I.list_inj B q] at V;simp
   lia
  ·obtain⟨t,x,⟨n,e',f⟩,rfl⟩:=hv
   have:n=i:=by lia
   subst this;obtain⟨ys,y,B,V⟩:=Z;rw[I.list_inj B q] at V;obtain⟨u,hu,ru⟩:=R.get V;have:u=x:=by
    have C:its[n]?=↑x:=by simpa using f
    rw[hu] at C;cases C;rfl
   subst this;exact⟨[↥(c+n:Nat),y],.cons ⟨t,rfl⟩ (.cons ru .nil),by show 2<=sizeLine;rw[gy];decide,y,rfl,λzs G=>by rw[I.list_inj G q];exact V⟩
 ·obtain⟨⟨S,U⟩,_⟩:=st
  exact u7 U W
structure Is (z ti to i1 i2:Addr):Prop where
 a1:ti≠z
 a2:to≠z
 a3:i1≠z
 a4:i2≠z
 a5:ti≠to
 a6:ti≠i1
 a7:ti≠i2
 a8:to≠i1
 a9:to≠i2
 aA:i1≠i2
abbrev gK(h:Heap)(l:Addr):Heap:=h.push { cls:=.type "list_iterator",data:=.fields #[.ref l,.int 0 0] }
abbrev fL(h:Heap)(l:Addr):Heap:=(gK h l).push { cls:=.type "enumerate",data:=.fields #[.none,.bool false,.ref h.objs.size,rawInt 1,.none,.none] }
def El(v:Value)(t:Tok):checkTypeCall "enumerate" ⟨[v],[("start",.int 1 t)]⟩=pure ():=by kernel_rfl
def Em(v:Value)(t:Tok):checkBuiltinCall "enumerate.__new__" ⟨[.type "enumerate",v],[("start",.int 1 t)]⟩=pure ():=by kernel_rfl
def En(l:Addr)(D:fk)(n:Nat)(S:Option Addr)(sl:Array ei)(t:Tok) :
  Meets (Builtin.«enumerate.__new__» ⟨[.type "enumerate",.ref l],[("start",.int 1 t)]⟩) (λ_ R s=>s.heap.get? l=↑⟨.type "list",S,.seq D n,sl⟩/\R (.ok (.ret (.ref (gK s.heap l).objs.size))) { s with heap:=fL s.heap l }) :=
 .of_wp λprog w A R s h=>by
  obtain⟨Y,g,d,tk,os⟩:=s;obtain⟨I,h⟩:=h;have U:=sub_enumerate;have V:Heap.IsList (Shared.heap ⟨Y,g,d,tk,os⟩) l D:=⟨_,I,rfl,n,rfl⟩
  wp_walk using AutoSeq1.wpAny_loadPart' I
  refine wpAny_stack_any λst=>ft ?_;split
  ·rename_i c _ _ _ _ _
   cases (c==Value.type "enumerate") <;> (refine cr (wpAny_of_eq (a:=(Value.ref l,↑(Value.int 1 t))) (by rfl) ?_);wp_walk using AutoSeq1.wpAny_loadPart' I,u6 V;exact⟨_,rfl,h⟩)
  ·refine cr (wpAny_of_eq (a:=(Value.ref l,↑(Value.int 1 t))) (by rfl) ?_);wp_walk using AutoSeq1.wpAny_loadPart' I,u6 V;exact⟨_,rfl,h⟩
variable{t:Tok}
theorem Eo{v x:Value}:Meets (Builtin.«object.__init__» ⟨[v,x],[("start",.int 1 t)]⟩) (λ_ R s=>s.TypeIs v "enumerate"/\R (.ok (.ret .none)) s) :=
 .of_wp λprog w A R s D=>by
  obtain⟨hT,h⟩:=D;have I:=F.called_enumerate.made;have S:=F.called_enumerate.init.lookup;repeat (any_goals (first |assumption |wp_step))
  exact⟨_,rfl,h⟩
theorem Ep(a b:Value)(t:Tok):argsOk "object.__init__" ⟨[a,b],[("start",.int 1 t)]⟩:=by
 unfold argsOk;rw[signature?_of (id:="object.__init__") (n:=['_','_','t','i','n','i','_','_']) (o:=['t','c','e','j','b','o']) (by kernel_rfl) F.owner_object];kernel_rfl
variable{prog:Program}{E:Value->Shared->Prop}
theorem Er{D:fk}{Q:Value->Shared->Prop}(a:s.heap.IsList l D)(h:Q (.ref (gK s.heap l).objs.size) { s with heap:=fL s.heap l }):wpAny (model prog w) A (call (.type "enumerate") [.ref l] [("start",.int 1 t)]) Q E s:=by
 obtain⟨⟨c,S,b,sl⟩,d,U,n,hd⟩:=a;replace U:c=.type "list":=U;replace hd:b=.seq D n:=hd;subst U hd;have V:=F.called_enumerate.made;have Z:=F.called_enumerate.sub;have e:=El (.ref l) t;refine wpAny_call (codeAny_of_tree (show wpAny _ _ (callAny (.type "enumerate") _) _ _ _ from ft ⟨Code.quiet_builtin _ (by decide +kernel),codeAny_builtin F.entry_type_call ?_⟩));repeat (any_goals (first |assumption |wp_step))
 refine j3 (codeAny_call_builtin (R:=λr I=>r=.ok (.ret (.ref (gK s.heap l).objs.size))/\I={ s with heap:=fL s.heap l }) F.called_enumerate.plain F.entry_enumerate_new (wpAny_of_eq (Em _ t) (En l D n S sl t prog w A.in1 (λr I=>r=.ok (.ret (.ref (gK s.heap l).objs.size))/\I={ s with heap:=fL s.heap l }) s ⟨d,rfl,rfl⟩))) λr I f=>?_;obtain⟨rfl,rfl⟩:=f;have hT:Shared.TypeIs { s with heap:=fL s.heap l } (.ref (gK s.heap l).objs.size) "enumerate":=⟨_,cg _ rfl,rfl⟩;have g:=F.called_enumerate.init.lookup;have i:=F.called_enumerate.init.bind (.ref (gK s.heap l).objs.size);repeat (any_goals (first |assumption |wp_step))
 refine j3 (codeAny_call_builtin (R:=λr s2=>r=.ok (.ret .none)/\s2={ s with heap:=fL s.heap l }) F.called_enumerate.init.plain F.entry_object_init (F.called_enumerate.init.check _ _ _ _ _ _ _ _ hT (Ep _ _ t) (Eo prog w A.in1 (λr s2=>r=.ok (.ret .none)/\s2={ s with heap:=fL s.heap l }) _ ⟨hT,rfl,rfl⟩))) λj s2 Y=>?_;obtain⟨rfl,rfl⟩:=Y;repeat (any_goals (first |assumption |wp_step))
variable{c:Nat}
theorem jZ(h:c∈[n+1,n]):n<=c:=by simp at h;lia
def x5:bootBuiltins "enumerate" = ↑(.type "enumerate"):=by decide +kernel
def qJ(K:fc)(c:Nat)(ta:TA):TI:=λσ H R=>ta σ H λvs H1=>∃l xs,vs=[.ref l]/\cN K H1 l xs/\R (qI K l c) H1
variable{p:Pos}{ta:TA}
def Es(Y:Bn X "enumerate")(b:PA X [a] ta)(d:‹starEach [a] X.env=[(false,eval a X.env)]›) :
  PI X (.Tuple es k p1) (.Call (.Name "enumerate" p) [a] [] pos) (qJ X.K 0 ta):=by
 intro pins s σ H R I h;refine Call_ (ud I Y.g Y.m x5 (f6 (aU (b pos pins s σ H _ I h) λus D f=>?_) d rfl));obtain⟨vs,H1,S,i,j⟩:=f;obtain⟨l,xs,e,n,q⟩:=j;subst e;cases i with
 |cons r rr =>
   cases rr;cases r;obtain⟨its,u,pl,v⟩:=S.list n;refine call_enumerate_list pl.isList λh' Z V o t=>u7 Z ?_;refine⟨D.heap.objs.size+1,[D.heap.objs.size+1,D.heap.objs.size],_,_,H1,rfl,S.kept (t':=D.toks) t,x4 l _ _ 0 (Nat.succ_ne_self _),⟨⟨.none,Z⟩,V⟩,λc U=>?_,q⟩;have U:D.heap.objs.size<=c:=jZ U;exact S.fpOk U (S.hok.fresh U)
variable{kp:Pos}
def Et(Z:Bn X "enumerate")(d:PA X [a] ta)(f:‹starEach [a] X.env=(false,eval a X.env)::starEach [] X.env›)(V:‹(backTo pos (starEach [a] X.env)).any (·.1)=false›) :
  PI X (.Tuple es k p1) (.Call (.Name "enumerate" p) [a] [⟨some "start",.Constant ↥1 j p2,kp⟩] pos) (qJ X.K 1 ta):=by
 intro pins s σ H R I h;refine ja (ud I Z.g Z.m x5 ?_);refine PySem.W.callWith_of (P:=λ_=>True) (by rw[V];rfl) (λ_ _=>⟨Keeper.machine,.inr (.inl rfl),PySem.W.Looks.of_pure rfl⟩) (evalArgs_kw2 rfl (aU (d pos pins s σ H _ I h) λus n Y=>?_) f);obtain⟨vs,H1,u,v,w⟩:=Y;refine aU (Ce (nm:=some "start") (kpos:=kp) (nT (i:=1) (j:=j) (pos:=p2)) Cd pos pins n σ H1 (λws H2=>H2=H1/\ws=[↥1]) u ⟨rfl,rfl⟩) λws s2 Y=>?_;obtain⟨B,H2,U,x,y,z⟩:=Y;refine⟨trivial,?_⟩;subst y z;obtain⟨l,xs,e,A,q⟩:=w;subst e;cases v with
 |cons r rr =>
   cases rr;cases r;cases x with
   |cons r' rr' =>
   obtain⟨t,rfl⟩:=r';obtain⟨its,C,pl,E⟩:=U.list A;refine Er (t:=t) pl.isList ?_;have b:IsEnum (fL s2.heap l) (gK s2.heap l).objs.size s2.heap.objs.size 1 .none:=cg _ rfl;have D:(gK s2.heap l).objs.size=s2.heap.objs.size+1:=l3 ..;refine u7 b ?_;refine⟨(gK s2.heap l).objs.size,[(gK s2.heap l).objs.size,s2.heap.objs.size],_,_,H2,rfl,U.kept (t':=s2.toks) (λc o e=>bc _ (bc _ e)),x4 l _ _ 1 (by rw[D];exact Nat.succ_ne_self _),⟨⟨.none,b⟩,⟨_,bc _ (cg _ rfl),rfl,rfl⟩⟩,λc S=>?_,q⟩;have S:s2.heap.objs.size<=c:=by rw[D] at S;exact jZ S
   exact U.fpOk S (U.hok.fresh S)
def p7:Nat->f0->f0
 |_,[]=>[] |c,d::r=>.tup [↥c,d]::p7 (c+1) r
theorem xA:∀(ds:f0) (c i:Nat),(p7 c ds)[i]?=ds[i]?.map λd=>.tup [↥(c+i:Nat),d]
 | [],c,i=>by simp[p7]
 |d::r,c,0=>by simp[p7] |d::r,c,i+1=>by
   simp only[p7,ah];rw[xA r (c+1) i];rw[show c+1+i=c+(i+1) by lia]
def xB:∀(ds:f0) (c:Nat),(p7 c ds).length=ds.length
 | [],_=>rfl |d::r,c=>by simp[p7,xB r]
@[simp] def hF(c:Nat)(ds:f0):Option f0:=match ds with | [.lst ds]=>↑(p7 c ds) |_=>none
variable{H':Hp}
def Eu{W':Addr->Prop}{t:Addr}(r:aC K H' (Ow G W') ds vs)(D:H' t=none):aN K (aO H' t (.tup vs)) (Ow G W') (.tup ds) (.ref t):=by
 refine .tup (mv ..) (r.mono (λa us e=>by rw[i3 (o4 e D)];exact e) λa us o h=>⟨o,?_⟩);exact h.keep λo e=>by rw[i3 (o4 e D)];exact e
def Ev(c:Nat)(ok:Ok X.K G H0 W env σ H)(h:fH X.K H (Ow G W) l vs)(r:aC X.K H (Ow G W) ds vs):wW X.K G (qI X.K l c) W H (p7 c ds) where
 go:=λW' H' i d st e=>by
  rw[xA] at e;cases e0:ds[i]? with
  |none=>rw[e0] at e;cases e
  |some d0 =>
    rw[e0] at e;cases e;obtain⟨v,D,I⟩:=(ok.reps st r).get e0;have h':=(ok.lsstep st h).sq;refine⟨⟨vs,v,h',D⟩,λx H'' ⟨t,us,hn,ex,eH,y,eu,hy⟩=>?_⟩;subst ex eH eu;have:=hy vs h';rw[D] at this;cases this;exact⟨y9 hn,Eu (.cons ↥_ (.cons I .nil)) hn⟩
 stop:=λW' H' st=>⟨vs,(ok.lsstep st h).sq,by rw[xB,r.length]⟩
variable{tg:Expr}
def xC(S:PI X tg e (qJ X.K c (iF X.K G H0 F))):jA X G H0 tg e (jb (hF c) F):=⟨S.imp λσ H R U=>by
 obtain⟨W,env,ds,env',ok,q,k⟩:=U;cases e1:F env with
 |none=>simp[e1] at q |some z =>
   obtain⟨as,D⟩:=z;cases e2:hF c as with
   |none=>rw[jb,e1] at q;simp only[ac,e2] at q;cases q
   |some d' =>
     have q:↑(d',D)=↑(ds,env'):=by rw[jb,e1] at q;simp only[ac,e2] at q;exact q
     cases q;refine⟨W,env,as,_,ok,e1,λW1 vs H1 V I p1=>?_⟩;unfold hF at e2;split at e2
     ·rename_i xs
      cases e2;obtain⟨v,rfl,Y⟩:=qw p1;obtain⟨l,us,rfl,h,r⟩:=Y.lst_;exact⟨l,us,rfl,h.sq,k W1 _ H1 V I (Ev c I h r)⟩
     ·cases e2⟩
def Ew(D:dM X G H0 [a] F)(I:Bn X "enumerate":=by walk_at "b")(S:‹starEach [a] X.env=[(false,eval a X.env)]›) :
  jA X G H0 (.Tuple es k p1) (.Call (.Name "enumerate" p) [a] [] pos) (jb (hF 0) F):=xC (Es I D.out S)
def Ex(I:dM X G H0 [a] F)(S:Bn X "enumerate":=by walk_at "b")(U:‹starEach [a] X.env=(false,eval a X.env)::starEach [] X.env›)(D:‹(backTo pos (starEach [a] X.env)).any (·.1)=false›) :
  jA X G H0 (.Tuple es k p1) (.Call (.Name "enumerate" p) [a] [⟨some "start",.Constant ↥1 j p2,kp⟩] pos) (jb (hF 1) F):=xC (Et S I.out U D)
def Ey{env0:aJ}{z:Int}(h:fVar i env=↑(.int z,env0)):env[i]?=↑⇑↥z/\env0=env:=by
 unfold fVar at h;split at h
 ·rename_i d hd
  cases h;exact⟨hd,rfl⟩
 all_goals cases h
variable{op:D->D->f4}{o:Int->Int->Int}
def Ez(Y:∀D I d,op D I=↑d->∃u v,D=.int u/\I=.int v/\d=.int (o u v)):∀Dn σ H,lk X G H0 (sSet i (fBin op (fVar i) f)) Dn σ H->jG i (tD X.K G H0 f) (kJ o) Dn σ H :=
 λDn σ H Z=>by
 obtain⟨W,env,fl,env',ok,q,k⟩:=Z;unfold sSet fBin at q;cases e0:fVar i env with
 |none=>rw[e0] at q;cases q
 |some r0 =>
   obtain⟨a,env0⟩:=r0;rw[e0,ac] at q;cases e1:f env0 with
   |none=>rw[e1] at q;cases q
   |some S =>
     obtain⟨D,V⟩:=S;rw[e1,ac] at q;cases e2:op a D with
     |none=>rw[e2] at q;cases q
     |some I =>
       rw[e2] at q;cases q;obtain⟨u,v,rfl,rfl,rfl⟩:=Y _ _ _ e2;obtain⟨b,rfl⟩:=Ey e0;obtain⟨y,c,e⟩:=ok.slot i _ b;refine⟨y,c,W,env0,_,_,ok,e1,λW1 h H1 g U S=>⟨u,v,aN.int_ e,S.int_,k W1 _ H1 g (U.set ↥_)⟩⟩
def qK(I:eF Nn X)(S:aM X G H0 e f)(D:‹Nn[i]?=↑x›) :
  dN X G H0 (.AugAssign (.Name x p') .Add e pos) (sSet i (fBin iq (fVar i) f)):=⟨(Bu (I.t D).nd (I.t D).n (I.t D).l S.out uV (I.t D).f).imp (Ez λU V d h=>by
 cases U <;> try (cases h;done)
 all_goals cases V <;> first | (cases h;done) |exact⟨_,_,rfl,rfl,(bn h).symm⟩)⟩
def xD:V->V->Hp->VK->Prop:=λo i H Q=>∃l xs k v,o=.ref l/\i=.int k/\H l=↑(.lst xs)/\0<=k/\xs[k.toNat]?=↑v/\Q v H
theorem xE:jH X xD:=by
 intro pins s σ H o i a b Q I ro U h;obtain⟨l,xs,k,v,rfl,rfl,V,Y,S,q⟩:=h;cases ro;obtain⟨t,rfl⟩:=U;obtain⟨its,r,pl,c⟩:=I.list (.inl (.inl V));obtain⟨w,Z,D⟩:=r.get S;have d:=(au.mp S).1;have e:=wy;exact wpAny_getItem_list pl.isList Y ∅ (by simpa using Z) ⟨v,H,I,D,q⟩
def lC(i:Nat)(op:D->D->f4)(k:Int)(d v:D)(e:aJ):Option (Fl×aJ):=match e[i]? with
 |some ↑(.ow ds)=>if k.toNat<ds.length then(op d v).map λr=>(.nx,e.set i ↑(.ow (ds.set k.toNat r))) else none
 |_=>none
def uv(i:Nat)(op:D->D->f4)(U V:FE):FS:=λe=>match e[i]? with
 |some ↑(.ow _)=>(U e).bind λI=>match I.1,I.2[i]? with
   | .int k,↑↑(.ow ds)=>if 0<=k then(ds[k.toNat]?).bind λd=>(V I.2).bind λS=>lC i op k d S.1 S.2 else none
   |_,_=>none
 |_=>none
theorem xF(z:∀s t d,op s t=↑d->∃u v,s=.int u/\t=.int v/\d=.int (o u v)) :
  ∀Dn σ H,lk X G H0 (uv i op g f) Dn σ H->uT (gQ i) (tD X.K G H0 g) (tD X.K G H0 f) xD (kJ o) vN Dn σ H:=λDn σ H A=>by
 obtain⟨W,env,fl,env',ok,q,k⟩:=A;unfold uv at q;split at q;case h_2=>cases q
 rename_i B c;obtain⟨v,a,l,C,rfl,E,F,_⟩:=ok.slot i _ c;cases e1:g env with
 |none=>rw[e1] at q;cases q
 |some b =>
 obtain⟨dk,I⟩:=b;rw[e1,ac] at q;dsimp only at q;split at q;case h_2=>cases q
 rename_i kk ds J;split at q;case isFalse=>cases q
 rename_i S;cases e2:ds[kk.toNat]? with
 |none=>rw[e2] at q;cases q
 |some dd =>
 rw[e2,ac] at q;cases e3:f I with
 |none=>rw[e3] at q;cases q
 |some r3 =>
 obtain⟨L,x⟩:=r3;rw[e3,ac] at q;unfold lC at q;split at q;case h_2=>cases q
 rename_i M U;split at q;case isFalse=>cases q
 cases e4:op dd L with
 |none=>rw[e4] at q;cases q
 |some dr =>
 rw[e4] at q;cases q;obtain⟨u,w,rfl,rfl,rfl⟩:=z _ _ _ e4;refine⟨_,a,W,env,_,_,ok,e1,λW1 v1 H1 N V b=>?_⟩;obtain⟨O,D,P,e,Q,R,h,j⟩:=V.slot i _ J;rw[a] at D;cases D;cases Q;obtain⟨T,m,n⟩:=j.get e2;refine⟨l,e,kk,T,rfl,b.int_,h,S,m,W1,I,_,_,V,e3,λW2 v2 H2 s2 Y r2=>?_⟩;refine⟨u,w,n.int_,r2.int_,?_⟩;obtain⟨O,D,P,p,e6,aa,r,Z⟩:=Y.slot i _ U;rw[a] at D;cases D;cases e6;obtain⟨t1,t2⟩:=Y.turn U a (aC.set ↥(o u w) kk.toNat Z);have y:=Z.length;refine⟨l,p,kk,kk.toNat,rfl,b.int_,r,?_,k W2 _ _ ((N.trans s2).trans t2) t1⟩;unfold cU;rw[az S,az ∅]
def E1(U:aM X G H0 b g)(V:aM X G H0 e f)(an:bZ Nn Cn X)(S:‹Nn[i]?=↑x›)(Y:∀D I new,augStore b D I new=(do holding [new,D,I] (setItem D I new);release [new,D,I] [];pure .next):=by intros;rfl) :
  dN X G H0 (.AugAssign (.Subscript (.Name x p') b p1) .Add e pos) (uv i iq g f):=⟨(uU ((an.a S).pe) U.out xE V.out uV o_ Y).imp (xF λZ c d h=>by
 cases Z <;> try (cases h;done)
 all_goals cases c <;> first | (cases h;done) |exact⟨_,_,rfl,rfl,(bn h).symm⟩)⟩
def E2(U:aM X G H0 b g)(V:aM X G H0 e f)(an:bZ Nn Cn X)(S:‹Nn[i]?=↑x›)(Y:∀D I new,augStore b D I new=(do holding [new,D,I] (setItem D I new);release [new,D,I] [];pure .next):=by intros;rfl) :
  dN X G H0 (.AugAssign (.Subscript (.Name x p') b p1) .Sub e pos) (uv i dSub g f):=⟨(uU ((an.a S).pe) U.out xE V.out Bv o_ Y).imp (xF λZ c d h=>by
 cases Z <;> try (cases h;done)
 all_goals cases c <;> first | (cases h;done) |exact⟨_,_,rfl,rfl,(bn h).symm⟩)⟩
def lD(I:f0)(e:aJ)(i:Nat):Option (D×aJ):=match e[i]? with
 |some ↑(.ow ds)=>if bI (ds.length+I.length) then ↑(.non,e.set i ↑(.ow (ds++I))) else none
 |_=>none
def xb(i:Nat)(F:FA):FE:=λe=>match e[i]? with
 |some ↑(.ow _)=>(F e).bind λr=>lD r.1 r.2 i
 |_=>none
def xG(m:eY X G H0 a F)(an:bZ Nn Cn X)(Z:‹Nn[i]?=↑x›)(D:‹attributeBase (.Name x p') "extend" X.env (eval (.Name x p') X.env)=eval (.Name x p') X.env›)(S:((backTo pos (starEach [a] X.env)).all (λx=>!x.1) && (backToKw pos (keywordEach [] X.env)).all (λx=>x.1.isSome)
   && decide ([a].length+([]:List Keyword).length+(if ([]:List Keyword).isEmpty then 0 else 1)<30))=true:=by rfl)(I:‹(p1.endLine==pos.line)=true›)(f:‹starEach [a] X.env=(false,eval a X.env)::starEach [] X.env›) :
  aM X G H0 (.Call (.Attribute (.Name x p') "extend" p1) [a] [] pos) (xb i F):=⟨(vf ff PySem.F.slot_list_extend PySem.F.type_list_extend C4 ((an.a Z).pe) (o9 m.out qi f) D S I f rfl).imp λσ H Q o=>by
 obtain⟨W,env,d,env',ok,q,k⟩:=o;unfold xb at q;split at q;case h_2=>cases q
 rename_i p b;obtain⟨v,c,l,s,rfl,t,e,_⟩:=ok.slot i _ b;cases e1:F env with
 |none=>rw[e1] at q;cases q
 |some r =>
   obtain⟨u,U⟩:=r;rw[e1,ac] at q;unfold lD at q;split at q;case h_2=>cases q
   rename_i ds g;split at q;case isFalse=>cases q
   rename_i V;cases q;refine⟨_,c,.inl ⟨rfl,_,.inl (.inl e)⟩,W,env,u,U,ok,e1,λW1 n us H1 w y Y J z h=>?_⟩;obtain⟨K,j,L,vs,A,M,B,r⟩:=Y.slot i _ g;rw[c] at j;cases j;cases A;obtain⟨C,E⟩:=Y.turn g c (r.append h);refine⟨l,n,vs,us,rfl,rfl,B,z,?_,k _ _ _ (w.trans E) C .non⟩;rw[<-r.length,<-h.length];exact b6 V (by rw[gy];decide)⟩
def wp:D->Bool | .tup _=>false | .lst _=>false | .dct _ _=>false |_=>true
def aN.atom{D:fc}{O':Addr->Prop}(r:aN K H O d v)(h:wp d=true):aN D H' O' d v:=by
 cases r with
 |non=>exact .non |bl b=>exact .bl b |int i=>exact .int i
 |str s=>exact .str s |tup _ _=>cases h
 |lst _ _ _=>cases h
 |klst _ _=>cases h
 |dct _ _=>cases h
 |exc a=>exact .exc a
structure xH (X:Cx) (G:Gd) (H0:Hp) (tg:Expr) (e:Expr) (f:FI):Prop where
 out:PI X tg e (la X.K G H0 f)
def j_(i:Nat):FI:=λe=>match e[i]? with
 |some ↑(.ow ds)=>↑(ds,e) |some ⇑(.lst ds)=>↑(ds,e) |_=>none
def lE:gj->gj |some (.sh d)=>⇑d |some (.ow ds)=>⇑(.lst ds) |_=>none
def lF(fi:FI)(ix:em)(tt:FT)(te:FE):FA:=λe=>(fi e).bind λr=>if bI r.1.length then(oa tt te (ix.map λj=>lE (r.2.getD j none)) r.1).bind λds=>if ds.all wp=true then ↑(ds,r.2) else none else none
def E3(h:gE X G H0 tg e fi):xH X G H0 tg e fi:=⟨h.out.imp λσ H R ⟨W,env,ds,env',ok,q,k⟩ =>
 ⟨W,env,ds,env',ok,q,λW' J H' st D I=>k W' J H' st D I.s⟩⟩
def E4(ok:Ok X.K G H0 W env σ H)(r:aN X.K H (Ow G W) d v) :
  Ok X.K (gd λa=>G a\/H a=none) H cG (⇑d::ix.map λj=>lE (env.getD j none)) (↑v::ix.map λj=>σ.getD j none) H:=by
 have up1:∀(a:Addr) (us:fw),Ow G W a->Rd H a (.lst us)->Ow (gd λa=>G a\/H a=none) cG a/\Rd H a (.lst us):=λa us o h=>⟨⟨.inl o.1,λz=>z⟩,h⟩;have I:∀ {d:D} {v:V},aN X.K H (Ow G W) d v->aN X.K H (Ow (gd λa=>G a\/H a=none) cG) d v:=λr=>r.mono (λ_ _ h=>h) up1;refine wP (pre:=[⇑d]) (σp:=[↑v]) ok (λa z=>.inr z) rfl (λi s z=>?_) (λS s u z r=>?_) rfl
 ·cases i with
  |zero=>cases z;exact⟨d,v,rfl,rfl,I r⟩
  |succ i=>cases z
 ·cases S <;> cases z
  ·exact⟨_,rfl,I r⟩
  ·obtain⟨l,vs,rfl,U,Y,Z⟩:=r
   exact⟨_,rfl,.lst ⟨.inl (ok.good l (ok.wl l U).1),λz=>z⟩ (.inl Y) (Z.mono (λ_ _ h=>h) up1)⟩
def E5{tt:FT}{te:FE}:∀σ H Q,g8 X.K G H0 (lF fi ix tt te) σ H Q->uu (la X.K G H0 fi) ix (fI X.K tt) (jj X.K te) σ H Q :=
 wS (cap:=lE) (pr:=λd=>wp d=true) (λq=>by
  obtain⟨⟨ds,S⟩,V,q⟩:=dq.mp q;by_cases D:bI ds.length;case neg=>cases (bu D).symm.trans q
  obtain⟨U,Y,q⟩:=dq.mp ((az D).symm.trans q);split at q;case isFalse=>cases q
  rename_i I;cases q;exact⟨ds,V,D,Y,jk.mp I⟩) λok r=>⟨_,E4 ok r,λr3 h=>r3.atom h⟩
section
variable {X:Cx} {G:Gd} {H0:Hp} {a b c e:Expr} {es rest:et} {f g:FE} {F:FA} {u:FS} {pos p' p1 pos1:Pos} {x:Str} {i:Nat}
def E6{Nn Cn:ed}{ix:em}{sc:Scope}{px:Pos}{fi:FI}{te:FE}(an:bZ Nn Cn X)(hi:xH X G H0 (.Name x px) a fi)(I:∀cl C s₂ H₂ fp G H0,bZ (x::(bH Nn ix)) (bH Nn ix) (lq X x (bH Nn ix) sc cl C s₂ H₂ fp)->aM (lq X x (bH Nn ix) sc cl C s₂ H₂ fp) G H0 e te)(D:ua Nn Cn ix x sc=true:=by decide +kernel)(S:‹X.calm=true›)(U:∀v,foldedSetIterable a X.env v=pure v:=by intro _;rfl) :
  eY X G H0 (.ListComp e [⟨.Name x px,a,[],0⟩] sc pos) (lF fi ix bL te) :=
 ⟨(pH (yx an D) (λ_ _ _ _ _ _ _ _ _=>S) hi.out (λcl C s₂ H₂ fp _=>lc (X:=X) rfl) (λcl C s₂ H₂ fp _=>gJ (X:=X) rfl (λG H0=>I cl C s₂ H₂ fp G H0 (xo D))) U).imp E5⟩
def lG(i:Nat):FE:=λe=>match e[i]? with
 |some ↑(.ow ds)=>(bJ ds).map λns=>(.int ns.sum,e) |some ⇑(.lst ds)=>(bJ ds).map λns=>(.int ns.sum,e) |_=>none
def E7{Nn Cn:ed}{i:Nat}(an:bZ Nn Cn X)(Y:‹X.calm=true›)(U:Bn X "sum":=by walk_at "b")(D:‹Nn[i]?=↑x›)(V:‹starEach [.Name x p1] X.env=(false,eval (.Name x p1) X.env)::starEach [] X.env›):aM X G H0 (.Call (.Name "sum" p') [.Name x p1] [] pos) (lG i) :=
 ⟨(kP (wM Y) U.g U.m boot_sum (o9 ((an.a D).pe) qi V) (by decide) (by decide) V rfl).imp λσ H Q Z=>by
  obtain⟨W,env,d,env',ok,q,k⟩:=Z;unfold lG at q;split at q
  ·rename_i ds I
   cases e2:bJ ds with
   |none=>rw[e2] at q;cases q
   |some ns =>
   rw[e2] at q;cases q;cases xm e2;obtain⟨v,S,l,vs,rfl,c,b,r⟩:=ok.slot i _ I;cases xt r;exact⟨_,S,l,ns,rfl,.inl (.inl b),k W _ H Step.refl ok ↥_⟩
  ·rename_i ds I
   cases e2:bJ ds with
   |none=>rw[e2] at q;cases q
   |some ns =>
   rw[e2] at q;cases q;cases xm e2;obtain⟨v,S,r⟩:=ok.slot i _ I;obtain⟨l,us,rfl,h,r⟩:=aN.lst_ r;cases xt r;exact⟨_,S,l,ns,rfl,h.sq,k W _ H Step.refl ok ↥_⟩
  ·cases q⟩
def xI(K:fc)(G:Gd)(H0:Hp)(f:FA):TA:=λσ H Q=>DP K G H0 f (λW env ds env' =>
 ∀W' vs H',Step W H W' H'->Ok K G H0 W' env' σ H'->aC K H' G ds vs->Q vs H') σ H
structure lH (X:Cx) (G:Gd) (H0:Hp) (es:et) (f:FA):Prop where
 out:PA X es (xI X.K G H0 f)
def E8(h:dM X G H0 es F):lH X G H0 es F:=⟨h.out.imp λσ H Q ⟨W,env,ds,env',ok,q,k⟩ =>
 ⟨W,env,ds,env',ok,q,λW' vs H' st D r=>k W' vs H' st D (r.mono (λ_ _ h=>h) λa us o h=>⟨o.1,h⟩)⟩⟩
def z9(i:Nat)(F:FA):FA:=λe=>match e[i]? with
 |some ↑(.ow _)=>(F e).bind λq=>match q.2[i]? with |some ↑(.ow ds)=>↑(.lst ds::q.1,q.2) |_=>none
 |_=>none
def E9{Nn Cn:ed}{i:Nat}(c:lH X G H0 es F)(an:bZ Nn Cn X)(I:‹Nn[i]?=↑x›)(d:‹starEach (.Name x p1::es) X.env=(false,eval (.Name x p1) X.env)::starEach es X.env›):lH X G H0 (.Name x p1::es) (z9 i F) :=
 ⟨(o9 ((an.a I).pe) c.out d).imp λσ H Q e=>by
  obtain⟨W,env,ds,env',ok,q,k⟩:=e;unfold z9 at q;split at q;case h_2=>cases q
  rename_i f S;obtain⟨v,Y,l,g,rfl,j,m,_⟩:=ok.slot i _ S;cases e1:F env with
  |none=>rw[e1] at q;cases q
  |some r =>
    obtain⟨U,Z⟩:=r;rw[e1,ac] at q;split at q;case h_2=>cases q
    rename_i n V;cases q;refine⟨_,Y,W,env,U,_,ok,e1,λW1 vs H1 p D s=>?_⟩;obtain⟨A,b,B,t,u,w,y,z⟩:=D.slot i _ V;rw[Y] at b;cases b;cases u;exact k W1 _ H1 p D (.cons (.lst (D.good l (D.wl l w).1) (.inl y) (z.mono (λ_ _ h=>h) λa us o h=>⟨o.1,h⟩)) s)⟩
def yk(m:f0->f4)(F:FA):FE:=λe=>(F e).bind λr=>(m r.1).bind λd=>if wp d=true then ↑(d,r.2) else none
variable {CX:fE} {k:Nat} {fa:Addr} {fd:FuncData} {ps:ed} {m:f0->f4} {E:XK}
def EA:∀σ H Q,tD X.K G H0 (yk m F) σ H Q->kN (bU X.K m) [] E (xI X.K G H0 F) σ H Q:=λσ H Q U=>by
 obtain⟨W,env,d,env',ok,q,k⟩:=U;unfold yk at q;cases e1:F env with
 |none=>rw[e1] at q;cases q
 |some r =>
   obtain⟨ds,S⟩:=r;rw[e1,ac] at q;cases e2:m ds with
   |none=>rw[e2] at q;cases q
   |some d' =>
     rw[e2,ac] at q;split at q;case isFalse=>cases q
     rename_i D;cases q;refine⟨W,env,ds,_,ok,e1,λW1 vs H1 V I p1=>?_⟩;show bU X.K m (vs++[]) H1 Q E;rw[di];exact⟨G,ds,_,p1,e2,λv H2 sm Y=>k W1 v H2 (V.trans (Step.same sm)) (I.same sm) (Y.atom D)⟩
def EB{jr:Nat}(c:bR X.prog X.w X.K X.mg X.base bF x k (bU X.K m))(S:aV jr X.A)(U:lH X G H0 (e::es) F)(hkj:k<=jr:=by decide)(V:Gl X x:=by walk_at "g")(Y:‹starEach (e::es) X.env=(false,eval e X.env)::starEach es X.env›)(D:‹(backTo pos (starEach es X.env)).any (·.1)=false›) :
  aM X G H0 (.Call (.Name x p') (e::es) [] pos) (yk m F):=let ⟨_,_,_,Z,a,b,d,I⟩:=c;⟨(oU Z (S.mono hkj) V a b d .nil p3 U.out I Y D).imp EA⟩
end
section
variable {X:Cx} {G:Gd} {H0:Hp} {a b c e:Expr} {es rest:et} {f g:FE} {F:FA} {pos p' p1 pos1:Pos} {x:Str} {i:Nat}
theorem EC(f:X.calm=true):p5 X (.builtin "min") (λxs H Q=>∃p,∃ns:ep,∃M,xs=[.ref p]/\cN X.K H p (ns.map V.int)/\M∈ns/\(∀a,a∈ns->M<=a)/\Q ↥M H):=by
 intro pins s σ H xs us Q I r h;obtain⟨p,ns,M,rfl,g,Z,U,q⟩:=h;obtain⟨u,rfl,k⟩:=vg r;cases k;obtain⟨its,l,pl,w⟩:=I.list g;have hi:IntsAre its ns:=oW l;have c:=pl.isList;obtain⟨D,Y⟩:=hi.allInts.items;rw[Y] at c;have S:ns=D.toList.map (·.1):=by rw[<-hi.numsOf,<-nums_intItems,<-Y]
 have b:0<D.size:=by
  have d:=List.length_pos_of_mem Z;rw[S,ae,ii] at d;exact d
 refine min_intList (I.ok.hd f) c b λv h' tk m n=>?_;obtain⟨t,rfl⟩:=intItems_at m;obtain⟨h1,h2⟩:=argBest_lt (numAt D) (D.size-1);have e:numAt D (argBest (λi j=>decide (numAt D i<numAt D j)) (D.size-1))=M:=by
  apply Int.le_antisymm
  ·rw[S] at Z
   obtain⟨j,o,rfl⟩:=mem_getD Z;rw[ae,ii] at o;rw[<-numAt_eq];exact h2 j ∅
  ·apply U
   rw[S,numAt_eq];exact getD_mem (by rw[ae,ii];lia)
 exact⟨.int M,H,I.kept n,⟨t,by rw[<-e]⟩,q⟩
def fM:ep->ez
 | []=>none | [a]=>↑a |a::b::r=>(fM (b::r)).map λm=>if m<a then m else a
theorem qL:∀ {ns:ep} {M:Int},fM ns=↑M->M∈ns/\∀a,a∈ns->M<=a
 | [],M,h=>by cases h
 | [a],M,h=>by cases h;simp
 |a::b::r,M,h=>by
   unfold fM at h;cases e:fM (b::r) with
   |none=>rw[e] at h;cases h
   |some m =>
     rw[e] at h;obtain⟨h1,h2⟩:=qL e;cases h;show(if m<a then m else a)∈a::b::r/\∀z,z∈a::b::r->(if m<a then m else a)<=z;by_cases D:m<a
     ·rw[az D]
      refine⟨av _ h1,λz hz=>?_⟩;rcases cj.mp hz with rfl |hz
      ·lia
      ·exact h2 z hz
     ·rw[bu D]
      refine⟨bh,λz hz=>?_⟩;rcases cj.mp hz with rfl |hz
      ·lia
      ·have:=h2 z hz;lia
def xJ:∀ {ns:ep},ns≠[]->∃M,fM ns=↑M
 | [],h=>absurd rfl h | [a],_=>⟨a,rfl⟩ |a::b::r,_=>by
   obtain⟨m,D⟩:=xJ (ns:=b::r) ⋯;exact⟨_,by unfold fM;rw[D];rfl⟩
def wo:f0->f4 | [.lst ds]=>(bJ ds).bind λns=>(fM ns).map D.int |_=>none
def ED:ur X G H0 (λxs H Q=>∃p,∃ns:ep,∃M,xs=[.ref p]/\cN X.K H p (ns.map V.int)/\M∈ns/\(∀a,a∈ns->M<=a)/\Q ↥M H) wo:=by
 intro W env σ H vs ds d Q ok r e k;unfold wo at e;split at e
 ·rename_i D
  cases e1:bJ D with
  |none=>rw[e1] at e;cases e
  |some ns =>
    rw[e1,ac] at e;cases e2:fM ns with
    |none=>rw[e2] at e;cases e
    |some M =>
      rw[e2] at e;cases e;cases xm e1;obtain⟨v,rfl,I⟩:=qw r;obtain⟨l,us,rfl,h,S⟩:=I.lst_;cases xt S;obtain⟨h1,h2⟩:=qL e2;exact⟨l,ns,M,rfl,h.sq,h1,h2,k _ H Step.refl ok ↥_⟩
 ·cases e
def EE(I:dM X G H0 [e] F)(S:‹X.calm=true›)(D:Bn X "min":=by walk_at "b")(U:‹starEach [e] X.env=(false,eval e X.env)::starEach [] X.env›):aM X G H0 (.Call (.Name "min" p') [e] [] pos) (f9 wo F) :=
 kW (EC S) ED D.g D.m boot_min I (by decide) (by decide) U rfl
end
variable{xs:ed}
def qM(h:sc.names.lookup x=some .globalImplicit):Gl (o8 X xs N' sc cl C s H fp) x:=qD h
section
variable (P:Program) (w:World)
end
section
variable {X:Cx}
variable {a b:Expr} {ta tb:TE} {pos:Pos}
variable {tA tB':TT} {rest:et}
end
section
variable {X:Cx} {st:Stmt} {rest:List Stmt} {t u:TS} {e:Expr} {te:TE} {pos:Pos}
end
section
variable {X:Cx} {CX:fE} {k:Nat} {f C:Addr} {fd:FuncData} {ps ks:ed} {sp:Sp} {E:XK} {x m:Str} {p pos apos kpos:Pos} {e o:Expr} {es:et} {kws:List Keyword} {te ta:TE} {t tk:TA} {nm:ew}
variable {g:ee->ee->ee} {gV:fw->fw->fw}
end
section
variable {κ:Type} [DecidableEq κ]
def dS.getD{o:Option V}{u:ei}{d:V}{d':Value}(r:dS o u)(D:RelV d d'):RelV (o.getD d) (u.getD d'):=by
 cases o with
 |none=>cases u with
   |none=>exact D |some _=>exact(show False from r).elim
 |some _=>cases u with
   |none=>exact(show False from r).elim |some _=>exact r
end
structure M1 (X:Cx) (o:Expr) (m:Str) (apos:Pos) (e:Expr) (cpos:Pos):Prop where
 base:attributeBase o m X.env (eval o X.env)=eval o X.env
 few:((backTo cpos (starEach [e] X.env)).all (λx=>!x.1) && (backToKw cpos (keywordEach [] X.env)).all (λx=>x.1.isSome)
  && decide (([e]:et).length+([]:List Keyword).length+(if ([]:List Keyword).isEmpty then 0 else 1)<30))=true
 line:(apos.endLine==cpos.line)=true
 trees:backTo cpos (starEach [e] X.env)=[(false,eval e X.env)]
structure M2 (X:Cx) (o:Expr) (m:Str) (apos:Pos) (e f:Expr) (cpos:Pos):Prop where
 base:attributeBase o m X.env (eval o X.env)=eval o X.env
 few:((backTo cpos (starEach [e,f] X.env)).all (λx=>!x.1) && (backToKw cpos (keywordEach [] X.env)).all (λx=>x.1.isSome)
  && decide (([e,f]:et).length+([]:List Keyword).length+(if ([]:List Keyword).isEmpty then 0 else 1)<30))=true
 line:(apos.endLine==cpos.line)=true
 trees:backTo cpos (starEach [e,f] X.env)=[(false,eval e X.env),(false,eval f X.env)]
end L2
namespace Att
open PySem PySem.W PySem.Calls PyProof.Rows
end Att
namespace L2
open PySem PySem.Spec PyProof.Rows
section
variable {κ:Type} [DecidableEq κ]
end
section
variable {X:Cx} {G:Gd} {H0:Hp} {a b c e:Expr} {es rest:et} {f g:FE} {F:FA} {pos p' p1 pos1:Pos} {x:Str} {i:Nat}
end
section
variable {X:Cx} {G:Gd} {H0:Hp} {a b c e:Expr} {es rest:et} {f g:FE} {F:FA} {pos p' p1 pos1:Pos} {x:Str} {i:Nat}
def EF:iZ X "list.count" (λx xs H Q=>∃p,∃ns:ep,∃k:Int,x=.ref p/\xs=[↥k]/\cN X.K H p (ns.map V.int)/\Q ↥(ns.count k:Nat) H):=by
 intro pins s σ H x xs v us Q I D S h;obtain⟨p,ns,k,rfl,rfl,U,q⟩:=h;cases D;obtain⟨u,rfl,Y⟩:=S.one;obtain⟨t,rfl⟩:=Y;obtain⟨its,Z,pl,a⟩:=I.list U;exact count_list_ints pl.isList (oW Z) ⟨.int (ns.count k:Nat),H,I.tok _,⟨_,rfl⟩,q⟩
def vj:D->D->f4 | .lst ds,.int k=>(bJ ds).map λns=>.int (ns.count k:Nat) |_,_=>none
def EG{r:V->fw->Hp->VK->Prop}{op:D->D->f4}(b:∀Z c d,op Z c=↑d->∃ds,Z=.lst ds)(i:eM X G H0 (λx y H Q=>r x [y] H Q) op) :
  ∀σ H Q,tD X.K G H0 (fBin op f g) σ H Q->vQ X.K "list" r (tD X.K G H0 f) (oP (tD X.K G H0 g) gT) σ H Q:=by
 rintro σ H Q ⟨W,env,d,env',ok,e,k⟩;cases e1:f env with
 |none=>simp[fBin,e1] at e |some r1 =>
   cases e2:g r1.2 with
   |none=>simp[fBin,e1,e2] at e |some r2 =>
     have e:(op r1.1 r2.1).map (λd=>(d,r2.2))=↑(d,env'):=by simpa[fBin,e1,e2] using e
     cases e3:op r1.1 r2.1 with
     |none=>rw[e3] at e;cases e
     |some d' =>
       rw[e3] at e;have j:(d',r2.2)=(d,env'):=bn e;cases j;obtain⟨ds,S⟩:=b _ _ _ e3;refine⟨W,env,r1.1,r1.2,ok,e1,λW1 m H1 n I p1=>⟨?_,W1,r1.2,r2.1,r2.2,I,e2,λa v2 H2 s2 U p2=>?_⟩⟩
       ·rw[S] at p1
        obtain⟨l,us,rfl,h,s⟩:=p1.lst_;exact .inl ⟨rfl,_,h.sq⟩
       ·exact i a _ σ H2 m v2 _ _ _ Q U (I.rep s2 p1) p2 e3 λv o p Y q=>k a v o ((n.trans s2).trans p) Y q
def EH:eM X G H0 (λx y H Q=>∃p,∃ns:ep,∃k:Int,x=.ref p/\[y]=[V.int k]/\cN X.K H p (ns.map V.int)/\Q ↥(ns.count k:Nat) H) vj:=by
 intro W env σ H x y U Y d Q ok D I e k;unfold vj at e;split at e;case h_2=>cases e
 rename_i ds i;cases e1:bJ ds with
 |none=>rw[e1] at e;cases e
 |some ns =>
   rw[e1] at e;cases e;cases xm e1;obtain⟨l,us,rfl,h,S⟩:=D.lst_;cases xt S;exact⟨l,ns,i,rfl,by rw[I.int_],h.sq,k _ H Step.refl ok ↥_⟩
def EI(V:aM X G H0 b g)(Y:aM X G H0 a f)(D:‹attributeBase b "count" X.env (eval b X.env)=eval b X.env›)(S:((backTo pos (starEach [a] X.env)).all (λx=>!x.1) && (backToKw pos (keywordEach [] X.env)).all (λx=>x.1.isSome)
   && decide ([a].length+([]:List Keyword).length+(if ([]:List Keyword).isEmpty then 0 else 1)<30))=true:=by rfl)(I:‹(p1.endLine==pos.line)=true›)(U:‹starEach [a] X.env=(false,eval a X.env)::starEach [] X.env›) :
  aM X G H0 (.Call (.Attribute b "count" p1) [a] [] pos) (fBin vj g f):=⟨(vf ff PySem.F.slot_list_count PySem.F.type_list_count EF V.out (o9 Y.out qi U) D S I U rfl).imp
 (EG (λZ c d h=>by unfold vj at h;split at h;exact⟨_,rfl⟩;cases h) EH)⟩
end
section
variable {X:Cx} {G:Gd} {H0:Hp} {a b c e:Expr} {es rest:et} {f g:FE} {F:FA} {pos p' p1 pos1:Pos} {x:Str} {i:Nat}
end
end L2
namespace L2
open PySem
theorem xK{i:Nat}{g:FS}(P:Nat->aJ->Prop):∀(ds:f0) (e:aJ) (n:Nat),P n e->(∀(k:Nat) (d:D) (e:aJ),ds[k]?=↑d->P (n+k) e->∃e',g (e.set i ⇑d)=↑(.nx,e')/\P (n+k+1) e') ->
  ∃e',b_ i g ds e=↑(.nx,e')/\P (n+ds.length) e'
 | [],e,n,h,_=>⟨e,rfl,h⟩ |d::r,e,n,h,hs=>by
   obtain⟨I,h1,p1⟩:=hs 0 d e rfl h;obtain⟨S,h2,p2⟩:=xK P r I (n+1) p1 λk d' e' U V=>by
    have:=hs (k+1) d' e' (by simpa using U) (by rw[<-Nat.add_assoc,Nat.add_right_comm];exact V);rw[show n+(k+1)+1=n+1+k+1 by lia] at this;exact this
   refine⟨S,?_,by rw[aq,show n+(r.length+1)=n+1+r.length by lia];exact p2⟩;simp[b_,h1,h2]
variable{i:Int}{g:FS}
def uj{i:Nat}(P:Nat->aJ->Prop)(ds:f0)(e:aJ)(h:P 0 e)(I:∀(k:Nat) (d:D) (e:aJ),ds[k]?=↑d->P k e->∃e',g (e.set i ⇑d)=↑(.nx,e')/\P (k+1) e') :
  ∃e',b_ i g ds e=↑(.nx,e')/\P ds.length e':=by
 obtain⟨e',h1,h2⟩:=xK P ds e 0 h λk d e S U=>by
  obtain⟨e',V,Y⟩:=I k d e S (by simpa using U);exact⟨e',V,by simpa using Y⟩
 exact⟨e',h1,by simpa using h2⟩
variable{lo:Int}{n:Nat}{d:D}
def ui{k:Nat}(h:(bA lo n)[k]?=↑d):d=.int (lo+k)/\k<n:=by
 unfold bA at h;rw[bo] at h;by_cases D:k<n
 ·rw[kg D] at h
  exact⟨(bn h).symm,D⟩
 ·rw[cz (by simpa using D)] at h;cases h
def qm:(bA lo n).length=n:=by simp[bA]
theorem o3(h:-1000000000000<i/\i<1000000000000):ma i:=⟨by lia,by lia⟩
variable{α:Type}
theorem xM{xs:List α}(I:0<=i)(h1:i<xs.length):∃x,aW xs i=↑x/\xs[i.toNat]?=↑x:=by
 have D:i.toNat<xs.length:=by lia
 exact⟨xs[i.toNat],by unfold aW cU;rw[az I,az h1];simp[D],by simp[D]⟩
def EJ(a b c:FS):sSeq (sSeq a b) c=sSeq a (sSeq b c):=by
 funext e;simp;cases a e with
 |none=>rfl |some r=>obtain⟨fl,D⟩:=r;cases fl <;> rfl
def lr{ar:Nat}{ds:f0}{e':aJ}(h:ds.length=ar)(I:g (ki n ds)=↑(.rt d,e')):aL n ar g ds=↑d:=by
 unfold aL;rw[az h,I]
def few(h:n<=1000000):bI n:=b6 h (by decide)
theorem qg(n:Nat)(D:n<=1000000):eG [↥n]=↑(bA 0 n):=by
 unfold eG;dsimp only;rw[az (show eT _ _ _ from⟨by lia,by lia⟩),i8]
variable{j:Int}
def qN(h:ma j):dMul ↥i ↥j=↑↥(i*j):=by
 unfold dMul;dsimp only;rw[az (.inr h)]
def ub(h:ma i):dMul ↥i ↥j=↑↥(i*j):=by
 unfold dMul;dsimp only;rw[az (.inl h)]
def xN(h:0<j):aQ ↥i ↥j=↑↥(i % j):=by
 unfold aQ;dsimp only;rw[az h]
theorem EK(h:0<j)(h2:j<1073741824):bE ↥i ↥j=↑↥(i / j):=by
 unfold bE;dsimp only;rw[az (show eT _ _ _ from⟨by lia,h2⟩)]
def oh{α:Type}{te:FE}{base:aJ}(φ ψ:α->D):∀(xs:List α),(∀x∈xs,∃e',te (⇑(φ x)::base)=↑(ψ x,e'))->oa bL te base (xs.map φ)=↑(xs.map ψ)
 | [],_=>rfl |x::xs,h=>by
   obtain⟨e',I⟩:=h x bh;have S:=oh φ ψ xs λy U=>h y (av _ U);simp[oa,I,S]
def xO{α:Type}{tt:FT}{te:FE}{base:aJ}(φ ψ:α->D)(p:α->Bool):∀(xs:List α),(∀x∈xs,∃I,tt (⇑(φ x)::base)=↑(p x,I)/\(p x=true->∃e',te I=↑(ψ x,e')))->oa tt te base (xs.map φ)=↑((xs.filter p).map ψ)
 | [],_=>rfl |x::xs,h=>by
   obtain⟨I,h1,h2⟩:=h x bh;have S:=xO φ ψ p xs λy U=>h y (av _ U);cases hp:p x with
   |false =>
     simp[oa,h1,S,List.filter_cons,hp]
   |true =>
     obtain⟨e',V⟩:=h2 hp;simp[oa,h1,V,S,List.filter_cons,hp]
def qO{α:Type}{te:FA}{base:aJ}(φ:α->D)(ψ:α->f0):∀(xs:List α),(∀x∈xs,∃e',te (⇑(φ x)::base)=↑(ψ x,e'))->ww te base (xs.map φ)=↑(xs.map ψ)
 | [],_=>rfl |x::xs,h=>by
   obtain⟨e',I⟩:=h x bh;have S:=qO φ ψ xs λy U=>h y (av _ U);simp[ww,I,S]
def xP{α:Type}:∀ {l:List α} {n:Nat} {z:α},l[n]?=↑z->l.Perm (z::l.eraseIdx n)
 |a::l,0,z,h=>by simp at h;subst h;exact .refl _
 |a::l,n+1,z,h=>by
   have D:=xP (l:=l) (n:=n) (z:=z) (by simpa using h);exact(D.cons a).trans (List.Perm.swap z a _)
def xR{α:Type}:∀ {l:List (List α)} {j:Nat} {s:List α} {x:α},l[j]?=↑s->(l.set j (s++[x])).flatten.Perm (x::l.flatten)
 |a::l,0,s,x,h=>by
   simp at h;subst h;simp only[ay,cf,dn,gf];exact qs
 |a::l,j+1,s,x,h=>by
   have D:=xR (l:=l) (j:=j) (s:=s) (x:=x) (by simpa using h);exact(D.append_left a).trans qs
def xS(a b c:D):aW [a,b,c] 0=↑a:=rfl
def vd(a b c:D):aW [a,b,c] 1=↑b:=rfl
def wn(a b c:D):aW [a,b,c] 2=↑c:=rfl
def EL(a b c d:D):aW [a,b,c,d] 2=↑c:=rfl
def EM(a b c d:D):aW [a,b,c,d] 3=↑d:=rfl
def xT{α:Type}{i:Nat}{g:FS}(φ:α->D)(P:List α->aJ->Prop)(all:List α)(I:∀(p:List α) (x:α) (q:List α) (e:aJ),all=p++x::q->P p e->∃e',g (e.set i ⇑(φ x))=↑(.nx,e')/\P (p++[x]) e') :
  ∀(xs pre:List α) (e:aJ),all=pre++xs->P pre e->∃e',b_ i g (xs.map φ) e=↑(.nx,e')/\P all e'
 | [],pre,e,h,hp=>⟨e,rfl,by rw[h,di];exact hp⟩ |x::xs,pre,e,h,hp=>by
   obtain⟨S,h1,p1⟩:=I pre x xs e h hp;obtain⟨U,h2,p2⟩:=xT φ P all I xs (pre++[x]) S (by rw[h];simp) p1;exact⟨U,by simp[b_,h1,h2],p2⟩
def rh{i:Nat}(φ:α->D)(P:List α->aJ->Prop)(all:List α)(e:aJ)(I:P [] e)(S:∀(p:List α) (x:α) (q:List α) (e:aJ),all=p++x::q->P p e->∃e',g (e.set i ⇑(φ x))=↑(.nx,e')/\P (p++[x]) e') :
  ∃e',b_ i g (all.map φ) e=↑(.nx,e')/\P all e':=xT φ P all S all [] e rfl I
end L2
namespace L2
open PySem PySem.Spec PyProof.Rows PySem.W
abbrev Ag:=AK×f5
abbrev gr:=List Ag
abbrev gs:=Option (D×List Ag)
def h_(x:Ag)(j:Nat):Sl:=.ag x.1 ↑j x.2
def dI(env:aJ):em->Option gr
 | []=>↑[] |i::r=>match env[i]? with |some ↑(.ag k _ ps)=>(dI env r).map λt=>(k,ps)::t |_=>none
def cJ(env:aJ):em->gr->aJ
 |i::r,x::t=>match env[i]? with |some ↑(.ag _ l _)=>cJ (env.set i ↑(.ag x.1 l x.2)) r t |_=>cJ env r t
 |_,_=>env
def o6(ags:gr):aJ:=ags.zipIdx.map λp=>↑(h_ p.1 p.2)
variable{env:aJ}
def vv:∀ {is:em} {ags:gr} {j i:Nat},dI env is=↑ags->is[j]?=↑i->∃x l,ags[j]?=↑x/\env[i]?=↑↑(.ag x.1 l x.2)
 |a::r,ags,j,i,h,e=>by
   unfold dI at h;split at h
   ·rename_i k l ps q
    cases h2:dI env r with
    |none=>rw[h2] at h;cases h
    |some t =>
      rw[h2] at h;cases h;cases j with
      |zero=>simp at e;subst e;exact⟨(k,ps),l,rfl,q⟩
      |succ j=>obtain⟨x,D,I,S⟩:=vv h2 (by simpa using e);exact⟨x,D,by simpa using I,S⟩
   ·cases h
def lI:∀ {is:em} {ags:gr},dI env is=↑ags->ags.length=is.length
 | [],_,h=>by cases h;rfl
 |a::r,ags,h=>by
   unfold dI at h;split at h
   ·cases h2:dI env r with
    |none=>rw[h2] at h;cases h
    |some t=>rw[h2] at h;cases h;rw[aq,aq,lI h2]
   ·cases h
def qP:∀ {is:em} {ags:gr} {env:aJ},(cJ env is ags).length=env.length
 | [],_,_=>by simp[cJ] |a::r,[],_=>by simp[cJ] |a::r,x::t,env=>by
   unfold cJ;split
   ·rw[qP,e7]
   ·rw[qP]
def lJ:∀ {is:em} {ags:gr} {env:aJ} {i:Nat},i∉is->(cJ env is ags)[i]?=env[i]?
 | [],_,_,_,_=>by simp[cJ] |a::r,[],_,_,_=>by simp[cJ] |a::r,x::t,env,i,h=>by
   have h1:a≠i:=λz=>h (by simp[z]);have h2:i∉r:=λz=>h (by simp[z]);unfold cJ;split
   ·rw[lJ h2,eg h1]
   ·rw[lJ h2]
def qQ:∀ {is:em} {ags:gr} {env:aJ} {j i:Nat} {x:Ag} {k:AK} {l:Option Nat} {ps:f5},is.Nodup->is[j]?=↑i->ags[j]?=↑x->env[i]?=↑↑(.ag k l ps)->(cJ env is ags)[i]?=↑↑(.ag x.1 l x.2)
 |a::r,y::t,env,j,i,x,k,l,ps,nd,e1,e2,e3=>by
   cases j with
   |zero =>
     simp at e1 e2;subst e1;subst e2;unfold cJ;rw[e3];rw[lJ (df.mp nd).1,f8 (au.mp e3).1]
   |succ j =>
     have hi:a≠i:=λz=>by subst z;exact(df.mp nd).1 (bv (by simpa using e1))
     unfold cJ;split
     ·exact qQ (df.mp nd).2 (by simpa using e1) (by simpa using e2) (by rw[eg hi];exact e3)
     ·exact qQ (df.mp nd).2 (by simpa using e1) (by simpa using e2) e3
variable{ags:gr}{j:Nat}{s:Stmt}
def lK{s:Sl}(h:(o6 ags)[j]?=↑↑s):∃x,ags[j]?=↑x/\s=h_ x j:=by
 unfold o6 at h;rw[bo,nc] at h;cases e:ags[j]? with
 |none=>rw[e] at h;cases h
 |some x=>rw[e] at h;cases h;exact⟨x,rfl,by simp⟩
def xU:(o6 ags).length=ags.length:=by simp[o6]
def fN(H:Hp)(W:Addr->Prop):Hp:=λa=>open Classical in if W a then none else H a
variable{a:Addr}{W:Addr->Prop}{H:Hp}
def qR(h:W a):fN H W a=none:=az h
def xV(h:¬W a):fN H W a=H a:=bu h
variable{o:Expr}
def xW{o:HO}(h:fN H W a=↑o):¬W a/\H a=↑o:=by
 by_cases z:W a
 ·rw[qR z] at h;cases h
 ·rw[xV z] at h;exact⟨z,h⟩
def xX(h:fN H W a=none):W a\/H a=none:=by
 by_cases z:W a
 ·exact .inl z
 ·rw[xV z] at h;exact .inr h
def bM(H:Hp)(env:aJ)(σ:St)(is:em):Addr->Prop:=λa=>∃i s v,i∈is/\env[i]?=↑↑s/\σ[i]?=↑↑v/\aX H s v a
variable{is:em}{K:fc}{G:Gd}{H0:Hp}{σ:St}
def Ok.lentW(ok:Ok K G H0 W env σ H)(h:bM H env σ is a):W a:=by
 obtain⟨i,s,v,_,e,I,o⟩:=h;obtain⟨S,D,q⟩:=ok.slot i s e;rw[I] at D;cases D;exact q.owns o
def t5(G:Gd)(W L:Addr->Prop)(r:Nat->el):Gd:=⟨λa=>G a/\(W a->L a),r⟩
theorem Ok.lend(ok:Ok K G H0 W env σ H)(nd:is.Nodup)(f:dI env is=↑ags) :
  ∃(r:Nat->el) (us:fw),us.length=is.length/\(∀(j i:Nat),is[j]?=↑i->∃u,us[j]?=↑u/\σ[i]?=↑↑u) /\
   (∀(j i:Nat) (k:AK) (l:Option Nat) (ps:f5),is[j]?=↑i->env[i]?=↑↑(.ag k l ps)->∃p as,us[j]?=↑(.ref p)/\gU k (r j) p as/\∀n,l=↑n->gU k (G.r n) p as) /\
   Ok K (t5 G W (bM H env σ is) r) (fN H (bM H env σ is)) (bM H env σ is) (o6 ags) (us.map some) H:=by
 have E:∀a,bM H env σ is a->W a:=λa=>ok.lentW;have ex:∀j:Nat,∃t:el×V,∀(i:Nat) (x:Ag) (l:Option Nat),is[j]?=↑i->ags[j]?=↑x->env[i]?=↑↑(.ag x.1 l x.2) ->
   σ[i]?=↑↑t.2/\∃p as us,t.2=.ref p/\gU x.1 t.1 p as/\W p/\(p::as).Nodup/\(∀n,l=↑n->gU x.1 (G.r n) p as)/\cP K H x.1 p us/\aP K G W H x.2 as us:=λj=>by
  cases S:is[j]? with
  |none=>exact⟨([],.non),λi x l e=>by cases e⟩
  |some i =>
    obtain⟨x,l,h1,h2⟩:=vv f S;obtain⟨v,I,p,as,us,U,hW,L,hl,F,J⟩:=ok.slot i _ h2;refine⟨(match x.1 with | .ins true _ _=>[p] |_=>p::as,v),λM N O z1 z2 z3=>?_⟩;cases z1;rw[h1] at z2;cases z2;rw[h2] at z3;cases z3;refine⟨I,p,as,us,U,?_,hW,L,hl,F,J⟩;obtain⟨k,ps⟩:=x;cases k with
    |ls=>rfl |ins b c fs=>cases b <;> rfl
 obtain⟨t,Z⟩:=Classical.axiomOfChoice ex;have g:=lI f;refine⟨λj=>(t j).1,(List.range is.length).map λj=>(t j).2,by simp,λj i e=>?_,λj i k l ps I U=>?_,?_⟩
 ·have S:=(au.mp e).1
  obtain⟨x,l,h1,h2⟩:=vv f e;exact⟨_,by simp[S],(Z j i x l e h1 h2).1⟩
 ·have S:=(au.mp I).1
  obtain⟨x,O,h1,h2⟩:=vv f I;rw[U] at h2;cases h2;obtain⟨q1,p,as,us,y,P,_,_,q4,_⟩:=Z j i x l I h1 U;exact⟨p,as,by simp[S,y],P,q4⟩
 ·have own:∀ {j i:Nat} {x:Ag} {l:Option Nat},is[j]?=↑i->ags[j]?=↑x->env[i]?=↑↑(.ag x.1 l x.2)->∀a,aX H (h_ x j) (t j).2 a->bM H env σ is a:=λ{j i x l} I U A a o =>
   ⟨i,_,_,bv I,A,(Z j i x l I U A).1,o⟩
  have cv:∀ {d:D} {v:V},aN K H (Ow G W) d v->aN K H (Ow (t5 G W (bM H env σ is) λj=>(t j).1) (bM H env σ is)) d v:=λr =>
   r.mono (λ_ _ h=>h) λa us o h=>⟨⟨⟨o.1,λz=>absurd z o.2⟩,λz=>o.2 (E a z)⟩,h⟩
  have Q:∀ {d:f0} {v:fw},aC K H (Ow G W) d v->aC K H (Ow (t5 G W (bM H env σ is) λj=>(t j).1) (bM H env σ is)) d v:=λr =>
   r.mono (λ_ _ h=>h) λa us o h=>⟨⟨⟨o.1,λz=>absurd z o.2⟩,λz=>o.2 (E a z)⟩,h⟩
  have pos:∀ {j:Nat} {s:Sl},(o6 ags)[j]?=↑↑s->∃i x l,is[j]?=↑i/\ags[j]?=↑x/\env[i]?=↑↑(.ag x.1 l x.2)/\s=h_ x j/\(((List.range is.length).map λj=>(t j).2).map some)[j]?=↑↑(t j).2:=λ{j s} e=>by
   obtain⟨x,h1,rfl⟩:=lK e;have S:j<is.length:=by rw[<-g];exact(au.mp h1).1
   obtain⟨N,l,h2,Y⟩:=vv f (show is[j]?=↑is[j] by simp[S]);rw[h1] at h2;cases h2;exact⟨is[j],x,l,by simp[S],h1,Y,rfl,by simp[S]⟩
  refine⟨λa o e=>(xW e).2,λa e=>?_,λa e=>⟨qR e,(ok.wl a (E a e)).2⟩,λj s e=>?_,λj j' s s' v v' a I U A e4 o1 o2=>?_,by rw[xU,ae,ae,h9,g]⟩
  ·rcases xX e with z |z
   ·exact⟨ok.good a (ok.wl a (E a z)).1,λ_=>z⟩
   ·exact⟨ok.good a (ok.stay.free z),λw=>by obtain⟨_,m,q⟩:=ok.wl a w;rw[z] at q;cases q⟩
  ·obtain⟨i,x,l,h1,h2,Y,rfl,R⟩:=pos e
   obtain⟨q1,p,as,us,y,P,hW,L,q4,F,J⟩:=Z j i x l h1 h2 Y;refine⟨_,R,p,as,us,y,own h1 h2 Y p (.inl y),L,λn z=>by cases z;exact P,F,J.step (λa vs ha z=>⟨own h1 h2 Y a (.inr ⟨p,us,y,F.o,J.parts_iff.mpr ha⟩),z⟩) (λ_ _ r=>cv r) λ_ _ r=>Q r⟩
  ·obtain⟨i,x,l,h1,h2,Y,rfl,R⟩:=pos I
   obtain⟨M,N,O,B,T,C,rfl,X⟩:=pos U;rw[R] at A;cases A;rw[X] at e4;cases e4;have:=ok.uniq i M _ _ _ _ a Y C (Z j i x l h1 h2 Y).1 (Z j' M N O B T C).1 o1 o2;subst this;exact wh nd h1 B
variable{us:fw}{W':Addr->Prop}{H':Hp}
theorem Ok.unlend(ok:Ok K G H0 W env σ H){I:gr}{r:Nat->el}{env':aJ}{T:St}(nd:is.Nodup)(hg:dI env is=↑ags)(hu:∀(j i:Nat),is[j]?=↑i->∃u,us[j]?=↑u/\σ[i]?=↑↑u)(X:∀(j i:Nat) (k:AK) (l:Option Nat) (ps:f5),is[j]?=↑i->env[i]?=↑↑(.ag k l ps)->∃p as,us[j]?=↑(.ref p)/\gU k (r j) p as/\∀n,l=↑n->gU k (G.r n) p as)(hl:I.length=is.length)(am:∀(j:Nat) (x y:Ag),ags[j]?=↑x->I[j]?=↑y->y.1=x.1)(st:Step (bM H env σ is) H W' H')(E:Ok K (t5 G W (bM H env σ is) r) (fN H (bM H env σ is)) W' env' T H')(f:∀(j:Nat) (x:Ag),I[j]?=↑x->env'[j]?=↑↑(h_ x j)) :
  Ok K G H0 (λa=>W' a\/(W a/\¬bM H env σ is a)) (cJ env is I) σ H'/\Step W H (λa=>W' a\/(W a/\¬bM H env σ is a)) H' /\
   (∀ {d:D} {v:V},aN K H' (Ow (t5 G W (bM H env σ is) r) W') d v->aN K H' (Ow G (λa=>W' a\/(W a/\¬bM H env σ is a))) d v):=by
 have lW:∀a,bM H env σ is a->W a:=λa=>ok.lentW;have O:∀a,W' a->bM H env σ is a\/H a=none:=st.ws;have n':∀a,W' a->W a->bM H env σ is a:=λa h w=>(O a h).elim id λz=>by obtain⟨_,m,q⟩:=ok.wl a w;rw[z] at q;cases q
 have aa:Step W H (λa=>W' a\/(W a/\¬bM H env σ is a)) H':=⟨λb o e n=>st.keep b o e λz=>n (lW b z),λa z=>by
  rcases z with z |z
  ·exact(O a z).imp (lW a) id
  ·exact .inl z.1⟩
 have back:∀ {j i:Nat} {y:Ag} {k:AK} {l:Option Nat} {ps:f5},is[j]?=↑i->I[j]?=↑y->env[i]?=↑↑(.ag k l ps) ->
   ∃u p as vs,σ[i]?=↑↑u/\T[j]?=↑↑u/\u=.ref p/\W' p/\(p::as).Nodup/\(∀n,l=↑n->gU y.1 (G.r n) p as)/\cP K H' y.1 p vs/\aP K (t5 G W (bM H env σ is) r) W' H' y.2 as vs:=λ{j i y k l ps} U C F=>by
  obtain⟨x,l',h1,h2⟩:=vv hg U;rw[F] at h2;cases h2;obtain⟨v,N,p,as,vs,rfl,hW,n1,hr,hk,hp⟩:=E.slot j _ (f j y C);obtain⟨u,L,M⟩:=hu j i U;obtain⟨p0,P,R,g,z5⟩:=X j i _ _ _ U F;rw[L] at R;cases R;have hy:=am j x y h1 C;have Y:gU y.1 (r j) p as:=hr j rfl;have same:p=p0/\(as=P\/∃c fs,y.1=.ins true c fs):=by
   rw[<-hy] at g;generalize y.1=kk at Y g;cases kk with
   |ls=>have Y:r j=p::as:=Y;have g:r j=p0::P:=g;rw[Y] at g;cases g;exact⟨rfl,.inl rfl⟩
   |ins b c fs =>
     cases b with
     |true=>have Y:r j=[p]:=Y;have g:r j=[p0]:=g;rw[Y] at g;cases g;exact⟨rfl,.inr ⟨c,fs,rfl⟩⟩
     |false=>have Y:r j=p::as:=Y;have g:r j=p0::P:=g;rw[Y] at g;cases g;exact⟨rfl,.inl rfl⟩
  obtain⟨rfl,hs⟩:=same;refine⟨_,p,as,vs,M,N,rfl,hW,n1,λn hn=>?_,hk,hp⟩;have z6:=z5 n hn;rw[<-hy] at z6;rcases hs with rfl | ⟨c,fs,q⟩
  ·exact z6
  ·rw[q] at z6 ⊢;exact z6
 have up:∀(a:Addr) (us:fw),Ow (t5 G W (bM H env σ is) r) W' a->Rd H' a (.lst us)->Ow G (λa=>W' a\/(W a/\¬bM H env σ is a)) a/\Rd H' a (.lst us):=λa us o h=>⟨⟨o.1.1,λz=>z.elim o.2 λy=>y.2 (o.1.2 y.1)⟩,h⟩;have cv:∀ {d:D} {v:V},aN K H' (Ow (t5 G W (bM H env σ is) r) W') d v->aN K H' (Ow G (λa=>W' a\/(W a/\¬bM H env σ is a))) d v:=λrp=>rp.mono (λ_ _ h=>h) up;have an:∀ {d:f0} {v:fw},aC K H' (Ow (t5 G W (bM H env σ is) r) W') d v->aC K H' (Ow G (λa=>W' a\/(W a/\¬bM H env σ is a))) d v:=λrp=>rp.mono (λ_ _ h=>h) up;have t:∀ {i:Nat} {s:Sl} {v:V},i∉is->env[i]?=↑↑s->σ[i]?=↑↑v->∀a,aX H s v a->W a/\¬bM H env σ is a:=λ{i s v} hi e U a o=>by
  obtain⟨v',C,q⟩:=ok.slot i s e;rw[U] at C;cases C;refine⟨q.owns o,λz=>?_⟩;obtain⟨i',s',v',A,L,M,R⟩:=z;exact hi ((ok.uniq i i' s s' _ _ a e L U M o R) ▸ A)
 have Q:∀ {i:Nat} {s:Sl} {v:V},i∉is->env[i]?=↑↑s->σ[i]?=↑↑v->∀a (m:Mo),aX H s v a->H a=↑m.out->(W' a\/(W a/\¬bM H env σ is a))/\H' a=↑m.out:=λ{i s v} hi e U a m o q=>by
  have z:=t hi e U a o;exact⟨.inr z,st.keep a _ q z.2⟩
 have B:∀ {i:Nat} {s:Sl} {v:V} {a:Addr},i∉is->env[i]?=↑↑s->σ[i]?=↑↑v->aX H' s v a->aX H s v a:=λ{i s v a} hi e U o=>by
  obtain⟨v',C,q⟩:=ok.slot i s e;rw[U] at C;cases C;refine q.back (λl z w m M=>?_) o;refine st.keep l _ M λy=>?_;obtain⟨i',s',v',A,L,R,g⟩:=y;have ol:aX H s v l:=by
   cases s with
   |sh d=>exact o.elim |ow ds=>exact z |o2 dss=>exact .inl z |ag k r ps=>exact .inl z |al _ _=>exact o.elim |ro _ _=>exact o.elim
  exact hi ((ok.uniq i i' s s' _ _ l e L U R ol g) ▸ A)
 have S:∀ {i:Nat} {s:Sl},(cJ env is I)[i]?=↑↑s->(i∉is/\env[i]?=↑↑s)\/∃(j:Nat) (y:Ag) (k:AK) (l:Option Nat) (ps:f5),is[j]?=↑i/\I[j]?=↑y/\env[i]?=↑↑(.ag k l ps)/\s=.ag y.1 l y.2:=λ{i s} e=>by
  by_cases hi:i∈is
  ·obtain⟨j,hj,ej⟩:=nv hi
   have U:is[j]?=↑i:=by simp[hj,ej]
   obtain⟨x,l,h1,h2⟩:=vv hg U;have h3:I[j]?=↑(I[j]'∅):=by simp[hl,hj]
   rw[qQ nd U h3 h2] at e;cases e;exact .inr ⟨j,_,_,l,_,U,h3,h2,rfl⟩
  ·rw[lJ hi] at e;exact .inl ⟨hi,e⟩
 refine⟨⟨λb o e=>?_,ok.good,λa z=>?_,λi s e=>?_,λi i' s s' v v' a U C F N o1 o2=>?_,by rw[qP];exact ok.len⟩,aa,cv⟩
 ·exact st.keep b o (ok.stay b o e) λz=>by rw[(ok.wl b (lW b z)).1] at e;cases e
 ·rcases z with z |z
  ·refine⟨?_,(E.wl a z).2⟩
   rcases O a z with y |y
   ·exact(ok.wl a (lW a y)).1
   ·exact ok.stay.free y
  ·obtain⟨q,m,hm⟩:=ok.wl a z.1
   exact⟨q,m,st.keep a _ hm z.2⟩
 ·rcases S e with⟨hi,e⟩ | ⟨j,y,k,l,ps,U,C,F,rfl⟩
  ·obtain⟨v,U,q⟩:=ok.slot i s e
   exact⟨v,U,ok.slstep aa q (Q hi e U)⟩
  ·obtain⟨u,p,as,vs,J,_,rfl,hW,n1,ao,hk,hp⟩:=back U C F
   exact⟨_,J,p,as,vs,rfl,.inl hW,n1,ao,hk,hp.step (λa ws ha z=>⟨.inl (hp.own ha).1,z⟩) (λ_ _ r=>cv r) λ_ _ r=>an r⟩
 ·rcases S U with⟨hi,f1⟩ | ⟨j,y,k,l,ps,f1,f2,f3,rfl⟩ <;> rcases S C with⟨A,Z⟩ | ⟨j',y',k',l',ps',Z,f2',f3',rfl⟩
  ·exact ok.uniq i i' s s' v v' a f1 Z F N (B hi f1 F o1) (B A Z N o2)
  ·exfalso
   obtain⟨L,M⟩:=t hi f1 F a (B hi f1 F o1);obtain⟨u,p,as,vs,J,q2,_⟩:=back Z f2' f3';rw[N] at J;cases J;obtain⟨v0,w1,w2⟩:=E.slot j' _ (f j' y' f2');rw[q2] at w1;cases w1;exact M (n' a (w2.owns o2) L)
  ·exfalso
   obtain⟨L,M⟩:=t A Z N a (B A Z N o2);obtain⟨u,p,as,vs,J,q2,_⟩:=back f1 f2 f3;rw[F] at J;cases J;obtain⟨v0,w1,w2⟩:=E.slot j _ (f j y f2);rw[q2] at w1;cases w1;exact M (n' a (w2.owns o1) L)
  ·obtain⟨u,p,as,vs,J,q2,_⟩:=back f1 f2 f3
   obtain⟨u',p',ar,vs',ab,ap,_⟩:=back Z f2' f3';rw[F] at J;cases J;rw[N] at ab;cases ab;have:=E.uniq j j' _ _ _ _ a (f j y f2) (f j' y' f2') q2 ap o1 o2;subst this;rw[f1] at Z;cases Z;rfl
def eO(P:Program)(w:World)(K:fc)(mg:Str->ei)(base:Heap)(cn m:Str)(k:Nat)(sp:Sp):Prop :=
 ∃C fa fd ps,fQ K C/\gH K C m fa/\bK P w K mg base (dV P w) k fa fd ps sp/\Binds K fd ps []/\Cl K cn C
def ka(K:fc)(cn m:Str):Prop:=∃C,fQ K C/\c_ K C m/\Cl K cn C
def iO(P:Program)(w:World)(K:fc)(mg:Str->ei)(base:Heap)(x:Str)(k:Nat)(sp:Sp):Prop :=
 ∃C fa fd ps,Mk K C fa/\bK P w K mg base (dV P w) k fa fd ps sp/\mg x=↑(.ref C)/\Binds K fd ps []/\Cl K x C/\(x==("__debug__" : Str))=false
def gP(X:Cx)(σ:St):XK:=λcls _ H'=>∀pins H s C D s',cls=.ref C->Inv X pins σ H s->jl X.prog X.w X.stack H s C D H' s'->X.xe (.ref D) s'
variable{vs:fw}{X:Cx}{k:Nat}{f:Addr}{fd:FuncData}{ps:ed}{sp:Sp}
theorem qS{pins:fh}{s:Shared}{Q:VK}{us:ee}(F:bK X.prog X.w X.K X.mg X.base (dV X.prog X.w) k f fd ps sp)(U:aV k X.A)(V:Binds X.K fd ps [])(I:Inv X pins σ H s)(r:aG vs us)(h:sp vs H Q (gP X σ)):wpAny (model X.prog X.w) X.A (call (.ref f) us) (EP X pins σ Q) X.xe s:=by
 have Y:(us++[]).length=ps.length:=by rw[di,<-r.length];exact F.len _ _ _ _ h
 have S:=V s us I.kIn Y;rw[di] at S;refine wpAny_call (j3 (F.run X.A X.stack s H ⟨us,[]⟩ us vs Q (gP X σ) U I.env0 S r h) λr s' D=>?_);cases r with
 |error e =>
   obtain⟨Z,C,H',rfl,fl,z⟩:=D;exact z pins H s C Z s' rfl I fl
 |ok fl =>
   cases fl with
   |ret u=>exact I.after D |next=>exact False.elim D |brk=>exact False.elim D |cont=>exact False.elim D
def EO(X:Cx)(sp:Sp)(t:TA):TE:=λσ H Q=>t σ H λvs H1=>sp vs H1 Q (gP X σ)
variable{x:Str}{p pos:Pos}{e:Expr}{es:et}{t:TA}
def xY(F:bK X.prog X.w X.K X.mg X.base (dV X.prog X.w) k f fd ps sp)(V:aV k X.A)(Y:Gl X x)(Z:X.mg x=↑(.ref f))(a:PySem.W.keepIn X.K (.ref f)=true)(b:Binds X.K fd ps [])(c:PA X (e::es) t)(D:(x==("__debug__" : Str))=false:=by decide)(d:‹starEach (e::es) X.env=(false,eval e X.env)::starEach es X.env›)(S:‹(backTo pos (starEach es X.env)).any (·.1)=false›) :
  PE X (.Call (.Name x p) (e::es) [] pos) (EO X sp t):=by
 intro pins s σ H Q I h;refine ja (y7 I Y Z ?_ D);refine kj (h₀:=X.base) I.ok.mod.kin a (aU (c pos pins s σ H _ I h) λus i g=>?_) d S;obtain⟨vs,H1,U,r,q⟩:=g;refine⟨U.kIn,?_⟩;exact qS F V b U r q
def qT(X:Cx)(C:Addr)(m:Str)(sp:Sp)(ta:TE)(t:TA):TE:=λσ H Q=>ta σ H λx H1=>∃a dx fs,x=.ref a/\H1 a=↑(.ins C dx fs)/\fs.lookup m=none/\t σ H1 λvs H2=>sp (x::vs) H2 Q (gP X σ)
variable{C:Addr}{m:Str}{apos:Pos}{ta:TE}
def EQ{pl:Sem Bool}(b:PE X o ta)(c:fQ X.K C)(V:gH X.K C m f)(F:bK X.prog X.w X.K X.mg X.base (dV X.prog X.w) k f fd ps sp)(d:aV k X.A)(g:Binds X.K fd ps [])(i:PA X (e::es) t)(D:‹starEach (e::es) X.env=(false,eval e X.env)::starEach es X.env›)(S:‹(backTo pos (starEach es X.env)).any (·.1)=false›)(j:eval (.Call (.Attribute o m apos) (e::es) [] pos) X.env=(do
   let ov <-eval o X.env
   standAt apos.atName
   let (f,first) <-holding [ov] (getMethod ov m pl)
   callWith pos f first (backTo pos (starEach (e::es) X.env)) (backToKw pos (keywordEach [] X.env))):=by rfl) :
  PE X (.Call (.Attribute o m apos) (e::es) [] pos) (qT X C m sp ta t):=by
 intro pins s σ H Q I h;refine PySem.W.methodCall_KW (pl:=pl) (aU (b pins s σ H _ I h) λu n U=>?_) j;obtain⟨x,H1,Y,p,a,dx,fs,ex,v,l,q⟩:=U;subst ex;obtain rfl:u=Value.ref a:=p;refine vC Y v c V l ?_;refine kj (first:=[.ref a]) (h₀:=X.base) I.ok.mod.kin V.kp (aU (i pos pins n σ H1 _ Y q) λus s2 U=>?_) D S;obtain⟨vs,H2,Z,r,y⟩:=U;refine⟨Z.kIn,?_⟩;exact qS (us:=.ref a::us) (vs:=.ref a::vs) F d g Z (.cons rfl r) y
def ER{pl:Sem Bool}(U:PE X o ta)(c:fQ X.K C)(S:gH X.K C m f)(F:bK X.prog X.w X.K X.mg X.base (dV X.prog X.w) k f fd ps sp)(V:aV k X.A)(Y:Binds X.K fd ps [])(Z:eval (.Call (.Attribute o m apos) [] [] pos) X.env=(do
   let ov <-eval o X.env
   standAt apos.atName
   let (f,first) <-holding [ov] (getMethod ov m pl)
   callWith pos f first (backTo pos (starEach [] X.env)) (backToKw pos (keywordEach [] X.env))):=by rfl) :
  PE X (.Call (.Attribute o m apos) [] [] pos) (qT X C m sp ta gT):=by
 intro pins s σ H Q I h;refine PySem.W.methodCall_KW (pl:=pl) (aU (U pins s σ H _ I h) λu g b=>?_) Z;obtain⟨x,H1,D,d,a,dx,fs,ex,e,l,q⟩:=b;subst ex;obtain rfl:u=Value.ref a:=d;refine vC D e c S l ?_;exact PySem.W.callWith_K0 (first:=[.ref a]) D.kIn S.kp (qS (us:=[.ref a]) (vs:=[.ref a]) F V Y D (.cons rfl .nil) q)
def ES(X:Cx)(C:Addr)(sp:Sp)(t:TA):TE:=λσ H Q=>t σ H λvs H1=>∀x dx,H1 x=none->H1 dx=none->dx≠x ->
 sp (.ref x::vs) (aO (aO H1 dx (.own x)) x (.ins C dx [])) (λv H2=>v=.non/\Q (.ref x) H2) (gP X σ)
theorem ET(M:Mk X.K C f)(F:bK X.prog X.w X.K X.mg X.base (dV X.prog X.w) k f fd ps sp)(d:aV (k+1) X.A)(g:Gl X x)(i:X.mg x=↑(.ref C))(j:Binds X.K fd ps [])(l:PA X (e::es) t)(U:(x==("__debug__" : Str))=false:=by decide)(m:‹starEach (e::es) X.env=(false,eval e X.env)::starEach es X.env›)(Y:‹(backTo pos (starEach es X.env)).any (·.1)=false›) :
  PE X (.Call (.Name x p) (e::es) [] pos) (ES X C sp t):=by
 intro pins n σ H0 Q Z o;refine ja (y7 Z g i ?_ U);refine kj (h₀:=X.base) Z.ok.mod.kin M.kp (aU (l pos pins n σ H0 _ Z o) λus s q=>?_) m Y;obtain⟨vs,H,I,r,h⟩:=q;refine⟨I.kIn,?_⟩;have a:=h (s.heap.objs.size+1) s.heap.objs.size (I.hok.fresh (r8 _)) (I.hok.fresh (bj _)) (db (e9 _));have S:=Inv.made (C:=C) I;have b:aG (V.ref (s.heap.objs.size+1)::vs) (Value.ref (s.heap.objs.size+1)::us):=.cons rfl r;have y:((Value.ref (s.heap.objs.size+1)::us)++[]).length=ps.length:=by rw[di,<-b.length];exact F.len _ _ _ _ a
 have c:=j ⟨_,s.gens,s.drawn,s.toks,s.os⟩ (Value.ref (s.heap.objs.size+1)::us) S.kIn y;rw[di] at c;refine wpAny_call (BR (f:=f) I.kIn M.makes M.init (beq_iff_eq.mp M.fn) (j3 (F.run _ X.stack _ _ ⟨Value.ref (s.heap.objs.size+1)::us,[]⟩ (Value.ref (s.heap.objs.size+1)::us) _ _ (gP X σ) (d.make C us [])
  (S.env0.make C us []) c b a) λr s' D=>?_))
 cases r with
 |error e =>
   obtain⟨B,E,H',rfl,fl,z⟩:=D;exact z pins _ _ E B s' rfl S fl
 |ok fl =>
   cases fl with
   |ret u =>
     obtain⟨v,H',G,J,L,N⟩:=S.after D;subst L;exact⟨J,⟨V.ref (s.heap.objs.size+1),H',G,rfl,N⟩⟩
   |next=>exact False.elim D |brk=>exact False.elim D |cont=>exact False.elim D
abbrev XF:=aJ->Option (Str×aJ)
def qU(X:Cx)(G:Gd)(H0:Hp)(W:Addr->Prop)(H:Hp)(σ:St)(c:Str)(env':aJ):Prop:=∀W' H' C,Cl X.K c C->Step W H W' H'->Ok X.K G H0 W' env' σ H'->∀pins e s',XS X pins σ H' C e s'->X.xe (.ref e) s'
def lL(X:Cx)(G:Gd)(H0:Hp)(x:XF)(σ:St)(H:Hp):Prop:=DP X.K G H0 x (λW env c env'=> qU X G H0 W H σ c env') σ H
structure JX (X:Cx) (G:Gd) (H0:Hp) (e:Expr) (x:XF):Prop where
 out:PE X e (λσ H _=>lL X G H0 x σ H)
structure Iu (X:Cx) (G:Gd) (H0:Hp) (es:et) (x:XF):Prop where
 out:PA X es (λσ H _=>lL X G H0 x σ H)
structure xZ (X:Cx) (G:Gd) (H0:Hp) (s:Stmt) (x:XF):Prop where
 out:PS X s (λ_ σ H=>lL X G H0 x σ H)
@[simp] def hH(x:XF)(g:FS):FS:=λe=>match x e with |some r=>↑(.xc r.1,r.2) |none=>g e
variable{x:XF}{g:FS}
def wu(U:dN X G H0 s g)(V:xZ X G H0 s x):dN X G H0 s (hH x g):=⟨λpins s' σ H D I Y=>by
 obtain⟨W,env,fl,env',ok,q,k⟩:=Y;unfold hH at q;cases e1:x env with
 |none=>rw[e1] at q;exact U.out pins s' σ H D I ⟨W,env,fl,env',ok,q,k⟩ |some r =>
   rw[e1] at q;cases q;exact V.out pins s' σ H D I ⟨W,env,r.1,r.2,ok,e1,λW' H' C Z st S=>k W' σ H' C Z st S⟩⟩
def xk(h:JX X G H0 e x)(D:‹swapsWith e none pos.line X.env=pure false›):xZ X G H0 (.Expr e pos) x:=⟨(uR h.out D).imp λ_ _ _ z=>z⟩
variable{c:Str}
def Cl.inj{D:Addr}(h:Cl K c C)(h':Cl K c D):C=D:=by
 unfold Cl at h h';rw[h] at h';cases h';rfl
def z8(K:fc)(O:Addr->Prop)(H:Hp)(ags:gr)(us:fw):Prop :=
 us.length=ags.length/\∀(j:Nat) (x:Ag) (u:V),ags[j]?=↑x->us[j]?=↑u->∃p vs,u=.ref p/\cP K H x.1 p vs/\aR K (gd O) cG H x.2 vs
def fD(K:fc)(m:gr->f0->f4)(x:gr->f0->ew):Sp:=λvs H Q E =>
 ∃(O:Addr->Prop) (ags:gr) (us:fw) (ds:f0) (ws:fw),vs=us++ws/\z8 K O H ags us/\aC K H O ds ws /\
  ((∃d,m ags ds=↑d/\∀v H',aS H H'->aN K H' (λa=>O a\/H a=none) d v->Q v H')\/∃c,x ags ds=↑c/\∀C H',Cl K c C->aS H H'->E (.ref C) none H')
def n4(n:Nat)(ags:gr)(ds:f0):aJ:=ags.map (λx=>↑(Sl.ro x.1 x.2))++ki (n-ags.length) ds
def bV(n p ar:Nat)(g:FS):gr->f0->f4:=λags ds=>if ags.length=p/\ds.length=ar then(match g (n4 n ags ds) with |some (.rt d,_)=>↑d |some (.nx,_)=>some .non |_=>none) else none
def xQ(n p ar:Nat)(g:FS):gr->f0->ew:=λags ds=>if ags.length=p/\ds.length=ar then(match g (n4 n ags ds) with |some (.xc c,_)=>↑c |_=>none) else none
variable{O O':Addr->Prop}
def o0(h:∀a,O a->O' a):(∀(d:D) (v:V),aN K H O d v->aN K H O' d v)/\∀(d:f0) (v:fw),aC K H O d v->aC K H O' d v :=
 ⟨λd v r=>r.mono (λ_ _ h=>h) λa us o q=>⟨h a o,q⟩,λd v r=>r.mono (λ_ _ h=>h) λa us o q=>⟨h a o,q⟩⟩
variable{ws:fw}{ds:f0}{N:ed}
theorem x_(I:z8 K O H ags us)(r:aC K H O ds ws)(f:us.length<=N.length) :
  Ok K (gd λa=>O a\/H a=none) H cG (n4 N.length ags ds) (start N (us++ws)) H:=by
 have U:=y8 (N:=N.drop us.length) r;have S:=U.len;have es:start N (us++ws)=us.map some++start (N.drop us.length) ws:=by
  unfold start;rw[cb,dn,ai,gq,Nat.sub_sub]
 have Z:n4 N.length ags ds=ags.map (λx=>↑(Sl.ro x.1 x.2))++ki (N.drop us.length).length ds:=by unfold n4;rw[gq,I.1]
 rw[es,Z];refine⟨aS.refl _,U.good,U.wl,λi s e=>?_,λi j g s2 h v2 a D _ k _ o _=>?_,?_⟩
 ·by_cases hi:i<ags.length
  ·rw[a0 (by simpa using hi),bo] at e
   cases D:ags[i]? with
   |none=>rw[D] at e;cases e
   |some x =>
     rw[D] at e;cases e;have V:us[i]?=↑(us[i]'(by rw[I.1];exact hi)):=by simp[I.1,hi]
     obtain⟨p,vs,h1,h2,b⟩:=I.2 i x _ D V;refine⟨_,by rw[a0 (by rw[ae,I.1];exact hi),bo,V];rfl,p,vs,h1,λz=>z,h2,b.step (λa vs n z=>⟨n,z⟩) (λd v q=>(o0 λa z=>⟨.inl z.1,λz=>z⟩).1 d v q) λd v q=>(o0 λa z=>⟨.inl z.1,λz=>z⟩).2 d v q⟩
  ·rw[b9 (by simpa using hi),ae] at e
   obtain⟨v,Y,c⟩:=U.slot _ s e;rw[<-I.1] at Y;exact⟨v,by rw[b9 (by rw[ae,I.1];lia),ae];exact Y,c⟩
 ·by_cases hi:i<ags.length
  ·rw[a0 (by simpa using hi),bo] at D
   cases q:ags[i]? with
   |none=>rw[q] at D;cases D
   |some x=>rw[q] at D;cases D;exact o.elim
  ·rw[b9 (by simpa using hi)] at D
   obtain⟨d,_,rfl⟩:=lu D;exact o.elim
 ·rw[ai,ai,ae,ae,S,I.1]
variable{x qual:Str}{st:Stmt}{P:Program}{w:World}{mg:Str->ei}{base:Heap}
theorem y1{n p ar:Nat}(F:fR K x qual st f fd)(S:ug N ps (im st))(m:n=N.length)(q:p+ar=ps.length)(Y:∀(cdv:Value) (A:Around) (outer:er) (s:Shared) (H:Hp) (E:XK) (G:Gd) (H0:Hp),aV k (A.deeper (envOfC qual (im st) s.heap.objs.size f cdv)) ->
   eI (bC (dV P w) P w K mg base N qual (im st) f cdv A outer s H E) G H0 (mz st) g):bK P w K mg base (dV P w) (k+1) f fd ps (fD K (bV n p ar g) (xQ n p ar g)):=by
 subst m;have t:ps.length<=N.length:=by have:=congrArg List.length S.pre;rw[dy] at this;lia
 have Z:∀ {O:Addr->Prop} {H:Hp} {ags:gr} {us:fw} {ds:f0} {ws:fw},z8 K O H ags us->aC K H O ds ws->(ags.length=p/\ds.length=ar)->(us++ws).length=ps.length:=λU r h=>by rw[ai,U.1,h.1,<-r.length,h.2,q]
 refine F.okX S (λvs H Q E h=>?_) (λcdv A outer s H vs Q E u h=>?_)
 ·obtain⟨O,ags,us,ds,ws,rfl,U,r,h⟩:=h
  refine Z U r ?_;rcases h with⟨d,e,_⟩ | ⟨c,e,_⟩
  ·unfold bV at e;split at e
   ·assumption
   ·cases e
  ·unfold xQ at e;split at e
   ·assumption
   ·cases e
 ·obtain⟨O,ags,us,ds,ws,rfl,U,r,h⟩:=h
  refine⟨_,(Y cdv A outer s H E (gd λa=>O a\/H a=none) H u).out,?_⟩;rcases h with⟨d,e,k⟩ | ⟨c,e,k⟩
  ·unfold bV at e
   split at e;case isFalse=>cases e
   rename_i l;have j:=x_ (N:=N) U r (by rw[U.1,l.1];lia);split at e
   ·rename_i d' env' b
    cases e;exact⟨cG,_,_,env',j,b,λW' i v H' st I y=>k v H' I.stay (y.mono (λ_ _ h=>h) λa us o h=>⟨o.1,h⟩)⟩
   ·rename_i env' b
    cases e;exact⟨cG,_,_,env',j,b,λW' i H' st I=>k .non H' I.stay .non⟩
   ·cases e
  ·unfold xQ at e
   split at e;case isFalse=>cases e
   rename_i l;have j:=x_ (N:=N) U r (by rw[U.1,l.1];lia);split at e
   ·rename_i C env' b
    cases e;exact⟨cG,_,_,env',j,b,λW' i H' z B st I pins e s' xs=>wV xs (k z H' B I.stay)⟩
   ·cases e
def hI(K:fc)(m:gr->f0->gs)(x:gr->f0->Option (Str×gr)):Sp:=λvs H Q E =>
 ∃(G:Gd) (W:Addr->Prop) (U:Hp) (ags:gr) (us:fw) (ds:f0) (ws:fw),vs=us++ws/\us.length=ags.length/\Ok K G U W (o6 ags) (us.map some) H/\aC K H (Ow G W) ds ws /\
  ((∃d I, m ags ds = ↑(d, I) /\ ∀W' env' S v H', Step W H W' H' -> Ok K G U W' env' S H' -> (∀(j : Nat) (x : Ag), I[j]? = ↑x -> env'[j]? = ↑↑(h_ x j)) -> aN K H' (Ow G W') d v -> Q v H') \/
   ∃c I,x ags ds=↑(c,I)/\∀C W' env' S H',Cl K c C->Step W H W' H'->Ok K G U W' env' S H'->(∀(j:Nat) (x:Ag),I[j]?=↑x->env'[j]?=↑↑(h_ x j))->E (.ref C) none H')
def td(n:Nat)(ags:gr)(ds:f0):aJ:=o6 ags++ki (n-ags.length) ds
def eQ(e:aJ):Nat->em->Option gr
 |_,[]=>↑[] |j,_::r=>match e[j]? with |some ↑(.ag k ↑j' ps)=>if j'=j then(eQ e (j+1) r).map λt=>(k,ps)::t else none |_=>none
def eD(n p ar:Nat)(g:FS):gr->f0->gs:=λags ds=>if ags.length=p/\ds.length=ar then(match g (td n ags ds) with |some (.rt d,e)=>(eQ e 0 (List.range p)).map λt=>(d,t) |some (.nx,e)=>(eQ e 0 (List.range p)).map λt=>(.non,t) |_=>none) else none
def xL(n p ar:Nat)(g:FS):gr->f0->Option (Str×gr):=λags ds=>if ags.length=p/\ds.length=ar then(match g (td n ags ds) with |some (.xc c,e)=>(eQ e 0 (List.range p)).map λt=>(c,t) |_=>none) else none
theorem lM{e:aJ}:∀ {l:em} {i:Nat} {ags:gr},eQ e i l=↑ags->ags.length=l.length/\∀(j:Nat) (x:Ag),ags[j]?=↑x->e[i+j]?=↑↑(h_ x (i+j))
 | [],_,_,h=>by cases h;exact⟨rfl,λj x z=>by simp at z⟩
 |_::r,i,ags,h=>by
   unfold eQ at h;split at h
   ·rename_i k D ps q
    split at h
    ·rename_i I
     subst I;cases e2:eQ e (D+1) r with
     |none=>rw[e2] at h;cases h
     |some t =>
       rw[e2] at h;cases h;obtain⟨h1,h2⟩:=lM e2;refine⟨by rw[aq,aq,h1],λj x z=>?_⟩;cases j with
       |zero=>simp at z;subst z;exact q |succ j =>
         have:=h2 j x (by simpa using z);rwa [show D+1+j=D+(j+1) by lia] at this
    ·cases h
   ·cases h
theorem EU{I:Hp}(ok:Ok K G I W (o6 ags) (us.map some) H)(S:us.length=ags.length)(r:aC K H (Ow G W) ds ws) :
  Ok K G I W (td N.length ags ds) (start N (us++ws)) H:=by
 have U:(o6 ags).length=us.length:=by rw[xU,S]
 have es:start N (us++ws)=us.map some++start (N.drop us.length) ws:=by
  unfold start;rw[cb,dn,ai,gq,Nat.sub_sub]
 have f:td N.length ags ds=o6 ags++ki (N.drop us.length).length ds:=by unfold td;rw[gq,S]
 have g:=y8 (N:=N.drop us.length) (O:=Ow G W) r;rw[es,f];have D:∀ {i:Nat} {s:Sl},(o6 ags++ki (N.drop us.length).length ds)[i]?=↑↑s->(i<us.length/\(o6 ags)[i]?=↑↑s)\/(us.length<=i/\∃d,ds[i-us.length]?=↑d/\s=.sh d):=λ{i s} e=>by
  by_cases hi:i<us.length
  ·rw[a0 ∅] at e;exact .inl ⟨hi,e⟩
  ·rw[b9 ∅,U] at e
   obtain⟨d,q,z⟩:=lu e;exact .inr ⟨by lia,d,q,z⟩
 refine⟨ok.stay,ok.good,ok.wl,λi s e=>?_,λi j h s2 k v2 a l m V Y Z b=>?_,?_⟩
 ·rcases D e with⟨hi,e⟩ | ⟨hi,d,q,rfl⟩
  ·obtain⟨v,h1,h2⟩:=ok.slot i s e
   exact⟨v,by rw[a0 (by simpa using hi)];exact h1,h2⟩
  ·obtain⟨v,h1,h2⟩:=r.get q
   refine⟨v,?_,h2⟩;rw[b9 (by simpa using hi),ae];unfold start;rw[a0 (by simpa using(au.mp h1).1),bo,h1];rfl
 ·rcases D l with⟨hi,n⟩ | ⟨hi,d,q,rfl⟩
  ·rcases D m with⟨c,o⟩ | ⟨c,d,q,rfl⟩
   ·rw[a0 (by simpa using hi)] at V
    rw[a0 (by simpa using c)] at Y;exact ok.uniq i j h s2 k v2 a n o V Y Z b
   ·exact b.elim
  ·exact Z.elim
 ·rw[ai,ai,U,ae,g.len]
theorem y2{n p ar:Nat}(F:fR K x qual st f fd)(S:ug N ps (im st))(b:n=N.length)(i:p+ar=ps.length)(U:∀(cdv:Value) (A:Around) (outer:er) (s:Shared) (H:Hp) (E:XK) (G:Gd) (H0:Hp),aV k (A.deeper (envOfC qual (im st) s.heap.objs.size f cdv)) ->
   eI (bC (dV P w) P w K mg base N qual (im st) f cdv A outer s H E) G H0 (mz st) g):bK P w K mg base (dV P w) (k+1) f fd ps (hI K (eD n p ar g) (xL n p ar g)):=by
 subst b;refine F.okX S (λvs H Q E h=>?_) (λcdv A outer s H vs Q E l h=>?_)
 ·obtain⟨G,W,a,ags,us,ds,ws,rfl,Y,ok,r,h⟩:=h
  have:ags.length=p/\ds.length=ar:=by
   rcases h with⟨d,t,e,_⟩ | ⟨c,t,e,_⟩
   ·unfold eD at e;split at e
    ·assumption
    ·cases e
   ·unfold xL at e;split at e
    ·assumption
    ·cases e
  rw[ai,Y,this.1,<-r.length,this.2,i]
 ·obtain⟨G,W,a,ags,us,ds,ws,rfl,Y,ok,r,h⟩:=h
  refine⟨_,(U cdv A outer s H E G a l).out,?_⟩;have Z:=EU (N:=N) ok Y r;rcases h with⟨d,t,e,k⟩ | ⟨c,t,e,k⟩
  ·unfold eD at e
   split at e;case isFalse=>cases e
   split at e
   ·rename_i d' env' V
    cases e2:eQ env' 0 (List.range p) with
    |none=>rw[e2] at e;cases e
    |some t' =>
      rw[e2] at e;cases e;exact⟨W,_,_,env',Z,V,λW' D v H' st I m=>k W' env' D v H' st I (λj x z=>by have:=(lM e2).2 j x z;rwa [jg] at this) m⟩
   ·rename_i env' V
    cases e2:eQ env' 0 (List.range p) with
    |none=>rw[e2] at e;cases e
    |some t' =>
      rw[e2] at e;cases e;exact⟨W,_,_,env',Z,V,λW' D H' st I=>k W' env' D .non H' st I (λj x z=>by have:=(lM e2).2 j x z;rwa [jg] at this) .non⟩
   ·cases e
  ·unfold xL at e
   split at e;case isFalse=>cases e
   split at e
   ·rename_i u env' V
    cases e2:eQ env' 0 (List.range p) with
    |none=>rw[e2] at e;cases e
    |some t' =>
      rw[e2] at e;cases e;exact⟨W,_,_,env',Z,V,λW' D H' o q st I pins e s' xs=>wV xs (k o W' env' D H' q st I λj x z=>by have:=(lM e2).2 j x z;rwa [jg] at this)⟩
   ·cases e
def dB(env:aJ):em->Option gr
 | []=>↑[] |i::r=>match env[i]? with
   |some ↑(.ag k _ ps)=>(dB env r).map λt=>(k,ps)::t |some ↑(.ro k ps)=>(dB env r).map λt=>(k,ps)::t |_=>none
def e_(env:aJ)(is:em):Prop:=∀i∈is,∃s,env[i]?=↑↑s
instance (env:aJ) (is:em):Decidable (e_ env is):=Classical.propDecidable _
variable{ps:f5}{as:el}
def aP.ro(h:aP K G W H ps as us):aR K (gd (Ow G W)) cG H ps us:=by
 induction h with
 |nil=>exact .nil |d q _ ih=>exact .d ((o0 λa z=>⟨z,λz=>z⟩).1 _ _ q) ih |o hW hl q _ ih=>exact .o (λz=>z) hl ((o0 λa z=>⟨z,λz=>z⟩).2 _ _ q) ih
def aR.ro(h:aR K G W H ps us):aR K (gd (Ow G W)) cG H ps us :=
 h.step (λa vs _ z=>⟨λz=>z,z⟩) (λd v q=>(o0 λa z=>⟨z,λz=>z⟩).1 d v q) λd v q=>(o0 λa z=>⟨z,λz=>z⟩).2 d v q
def Ok.roAll(ok:Ok K G H0 W env σ H):∀ {is:em} {ags:gr} {us:fw},dB env is=↑ags->us.length=is.length->(∀(j i:Nat),is[j]?=↑i->∃u,us[j]?=↑u/\σ[i]?=↑↑u)->z8 K (Ow G W) H ags us
 | [],_,us,h,hl,_=>by cases h;exact⟨hl,λj x u e=>by simp at e⟩
 |i::r,ags,us,h,hl,hu=>by
   cases us with
   |nil=>simp at hl |cons u us =>
     obtain⟨n,a,b⟩:=hu 0 i rfl;simp at a;subst a;have U:∃k ps t,ags=(k,ps)::t/\dB env r=↑t/\∃p vs,u=.ref p/\cP K H k p vs/\aR K (gd (Ow G W)) cG H ps vs:=by
      unfold dB at h;split at h
      ·rename_i k l ps q
       cases h2:dB env r with
       |none=>rw[h2] at h;cases h
       |some t =>
         rw[h2] at h;cases h;obtain⟨v,D,p,as,vs,rfl,_,_,_,I,S⟩:=ok.slot i _ q;rw[b] at D;cases D;exact⟨k,ps,t,rfl,rfl,p,vs,rfl,I,S.ro⟩
      ·rename_i k ps q
       cases h2:dB env r with
       |none=>rw[h2] at h;cases h
       |some t =>
         rw[h2] at h;cases h;obtain⟨v,D,p,vs,rfl,_,I,S⟩:=ok.slot i _ q;rw[b] at D;cases D;exact⟨k,ps,t,rfl,rfl,p,vs,rfl,I,S.ro⟩
      ·cases h
     obtain⟨k,ps,t,rfl,h2,p,vs,rfl,I,S⟩:=U;obtain⟨c,d⟩:=ok.roAll (us:=us) h2 (by simpa using hl) λj f e=>by
      obtain⟨u,g,m⟩:=hu (j+1) f (by simpa using e);exact⟨u,by simpa using g,m⟩
     refine⟨by rw[aq,aq,c],λj x v Y Z=>?_⟩;cases j with
     |zero=>simp at Y Z;subst Y;subst Z;exact⟨p,vs,rfl,I,S⟩ |succ j=>exact d j x v (by simpa using Y) (by simpa using Z)
variable{v:V}
def Ok.newRep(ok:Ok K G H0 W env σ H){d:D}(r:aN K H' (λa=>Ow G W a\/H a=none) d v):aN K H' (Ow G W) d v :=
 r.mono (λ_ _ h=>h) λa us o h=>⟨o.elim id λz=>⟨ok.good a (ok.stay.free z),λw=>by obtain⟨_,m,q⟩:=ok.wl a w;rw[z] at q;cases q⟩,h⟩
def kb(X:Cx)(G:Gd)(H0:Hp)(is:em)(F:FA):TA:=λσ H Q=>∃W env ds env',Ok X.K G H0 W env σ H/\e_ env is/\F env=↑(ds,env') /\
 ∀W' us ws H',Step W H W' H'->Ok X.K G H0 W' env' σ H'->us.length=is.length->(∀(j i:Nat),is[j]?=↑i->∃u,us[j]?=↑u/\σ[i]?=↑↑u)->aC X.K H' (Ow G W') ds ws->Q (us++ws) H'
structure qV (X:Cx) (G:Gd) (H0:Hp) (is:em) (es:et) (F:FA):Prop where
 out:PA X es (kb X G H0 is F)
variable{F:FA}
def qj(h:dM X G H0 es F):qV X G H0 [] es F:=⟨h.out.imp λσ H Q ⟨W,env,ds,env',ok,_,q,k⟩=>⟨W,env,ds,env',ok,q,λW' vs H' st D r=>k W' [] vs H' st D rfl (λj i e=>by simp at e) r⟩⟩
def mq(m:gr->f0->f4)(is:em)(F:FA):FE:=λe=>if e_ e is then(F e).bind λr=>(dB r.2 is).bind λags=>(m ags r.1).map λd=>(d,r.2) else none
def q0(x:gr->f0->ew)(is:em)(F:FA):XF:=λe=>if e_ e is then(F e).bind λr=>(dB r.2 is).bind λags=>(x ags r.1).map λc=>(c,r.2) else none
variable{m:gr->f0->f4}{xx:gr->f0->ew}
def y3:∀σ H Q,tD X.K G H0 (mq m is F) σ H Q->kb X G H0 is F σ H λvs H1=>fD X.K m xx vs H1 Q (gP X σ):=λσ H Q S=>by
 obtain⟨W,env,d,env',ok,q,k⟩:=S;unfold mq at q;split at q;case isFalse=>cases q
 rename_i I;cases e1:F env with
 |none=>rw[e1] at q;cases q
 |some r =>
   rw[e1,ac] at q;cases e2:dB r.2 is with
   |none=>rw[e2] at q;cases q
   |some ags =>
     rw[e2,ac] at q;cases e3:m ags r.1 with
     |none=>rw[e3] at q;cases q
     |some d' =>
       rw[e3] at q;cases q;exact⟨W,env,r.1,r.2,ok,I,e1,λW1 us ws H1 U D V Y Z=>⟨Ow G W1,ags,us,r.1,ws,rfl,D.roAll e2 V Y,Z,.inl ⟨_,e3,λv H' sm a=>k W1 v H' (U.trans (Step.same sm)) (D.same sm) (D.newRep a)⟩⟩⟩
def EW:∀σ H (Q:VK),lL X G H0 (q0 xx is F) σ H->kb X G H0 is F σ H λvs H1=>fD X.K m xx vs H1 Q (gP X σ):=λσ H Q U=>by
 obtain⟨W,env,c,env',ok,q,k⟩:=U;unfold q0 at q;split at q;case isFalse=>cases q
 rename_i S;cases e1:F env with
 |none=>rw[e1] at q;cases q
 |some r =>
   rw[e1,ac] at q;cases e2:dB r.2 is with
   |none=>rw[e2] at q;cases q
   |some ags =>
     rw[e2,ac] at q;cases e3:xx ags r.1 with
     |none=>rw[e3] at q;cases q
     |some c' =>
       rw[e3] at q;cases q;refine⟨W,env,r.1,r.2,ok,S,e1,λW1 us ws H1 V D Y Z a=>⟨Ow G W1,ags,us,r.1,ws,rfl,D.roAll e2 Y Z,a,.inr ⟨_,e3,λC H' b sm pins H2 s2 f d s' e I fl=>?_⟩⟩⟩;cases e;exact k W1 H' C b (V.trans (Step.same sm)) (D.same sm) pins d s' (.inl ⟨s2,H2,I,fl⟩)
variable{jr:Nat}{p':Pos}
def xr(c:bR X.prog X.w X.K X.mg X.base (dV X.prog X.w) x k (fD X.K m xx))(S:aV jr X.A)(U:qV X G H0 is (e::es) F)(hkj:k<=jr:=by decide)(V:Gl X x:=by walk_at "g")(Y:‹starEach (e::es) X.env=(false,eval e X.env)::starEach es X.env›)(D:‹(backTo pos (starEach es X.env)).any (·.1)=false›) :
  aM X G H0 (.Call (.Name x p') (e::es) [] pos) (mq m is F):=let ⟨_,_,_,Z,a,b,d,I⟩:=c;⟨(xY Z (S.mono hkj) V a b d U.out I Y D).imp y3⟩
def xj(c:bR X.prog X.w X.K X.mg X.base (dV X.prog X.w) x k (fD X.K m xx))(S:aV jr X.A)(U:qV X G H0 is (e::es) F)(hkj:k<=jr:=by decide)(V:Gl X x:=by walk_at "g")(Y:‹starEach (e::es) X.env=(false,eval e X.env)::starEach es X.env›)(D:‹(backTo pos (starEach es X.env)).any (·.1)=false›) :
  JX X G H0 (.Call (.Name x p') (e::es) [] pos) (q0 xx is F):=let ⟨_,_,_,Z,a,b,d,I⟩:=c;⟨(xY Z (S.mono hkj) V a b d U.out I Y D).imp EW⟩
instance (a b:List AK):Decidable (a=b):=Classical.propDecidable _
def qz(m:gr->f0->gs)(is:em)(F:FA):FE:=λe=>if e_ e is then(F e).bind λr=>(dI r.2 is).bind λags=>(m ags r.1).bind λq=>if q.2.map (·.1)=ags.map (·.1) then ↑(q.1,cJ r.2 is q.2) else none else none
variable{b:Expr}
def EX{a b:gr}(h:b.map (·.1)=a.map (·.1)):b.length=a.length/\∀(j:Nat) (x y:Ag),a[j]?=↑x->b[j]?=↑y->y.1=x.1:=by
 refine⟨by simpa using congrArg List.length h,λj x y D I=>?_⟩;have:=congrArg (λl:List AK=>l[j]?) h;simp[bo,D,I,Option.some.injEq] at this;exact this
variable{m:Str}{xx:gr->f0->Option (Str×gr)}
theorem EY{m:gr->f0->gs}(b:is.Nodup):∀σ H Q,tD X.K G H0 (qz m is F) σ H Q->kb X G H0 is F σ H λvs H1=>hI X.K m xx vs H1 Q (gP X σ):=λσ H Q g=>by
 obtain⟨W,env,d,env',ok,q,k⟩:=g;unfold qz at q;split at q;case isFalse=>cases q
 rename_i U;cases e1:F env with
 |none=>rw[e1] at q;cases q
 |some r =>
   rw[e1,ac] at q;cases e2:dI r.2 is with
   |none=>rw[e2] at q;cases q
   |some ags =>
     rw[e2,ac] at q;cases e3:m ags r.1 with
     |none=>rw[e3] at q;cases q
     |some z =>
       rw[e3,ac] at q;split at q;case isFalse=>cases q
       rename_i V;cases q;obtain⟨i,l⟩:=EX V;refine⟨W,env,r.1,r.2,ok,U,e1,λW1 us ws H1 n I O p s=>?_⟩;obtain⟨P,S,t,c,w,Y⟩:=I.lend b e2;have x:S=us:=by
        apply gk;intro j;by_cases e:j<is.length
        ·obtain⟨u,y,A⟩:=p j is[j] (by simp[e])
         obtain⟨R,B,f⟩:=c j is[j] (by simp[e]);rw[A] at f;cases f;rw[y,B]
        ·rw[cz ∅,cz ∅]
       subst x;refine⟨_,_,_,ags,S,r.1,ws,rfl,by rw[t,lI e2],Y,?_,.inl ⟨_,_,e3,λW' env' C v H' st Z E J=>?_⟩⟩
       ·exact s.mono (λ_ _ h=>h) λa us o h=>⟨⟨⟨o.1,λz=>absurd z o.2⟩,λz=>o.2 (I.lentW z)⟩,h⟩
       ·obtain⟨L,M,N⟩:=I.unlend b e2 c w (by rw[i,lI e2]) l st Z E
        exact k _ v H' (n.trans M) L (N J)
def hJ(κ:AK)(e:aJ)(i:Nat):Prop:=(∃l ps,e[i]?=↑↑(.ag κ l ps))\/∃ps,e[i]?=↑↑(.ro κ ps)
instance (κ:AK) (e:aJ) (i:Nat):Decidable (hJ κ e i):=Classical.propDecidable _
def fK(κ:AK)(i:Nat)(f:FE):FE:=λe=>if hJ κ e i then f e else none
variable{i:Nat}
def hJ.at{K:fc}{W:Addr->Prop}{H:Hp}{env:aJ}{σ:St}{c:Str}{fs:ed}{C:Addr}(ok:Ok K G H0 W env σ H)(h:hJ (.ins false c fs) env i)(V:Cl K c C):∃p dx us,σ[i]?=↑↑(.ref p)/\H p=↑(.ins C dx (fs.zip us))/\fs.length=us.length:=by
 rcases h with⟨l,ps,e⟩ | ⟨ps,e⟩
 ·obtain⟨v,I,p,as,us,rfl,_,_,_,⟨Y,dx,S,D,U⟩,_⟩:=ok.slot i _ e
  rw[Cl.inj S V] at D;exact⟨p,dx,us,I,D,U⟩
 ·obtain⟨v,I,p,us,rfl,_,⟨Y,dx,S,D,U⟩,_⟩:=ok.slot i _ e
  rw[Cl.inj S V] at D;exact⟨p,dx,us,I,D,U⟩
variable{fs:ed}
def EZ(h:m∉fs):(fs.zip us).lookup m=none:=by
 induction fs generalizing us with
 |nil=>rfl |cons f r ih =>
   cases us with
   |nil=>rfl |cons u us =>
     rw[km,cy];have:(m==f)=false:=by simp;exact λz=>h (by simp[z])
     rw[this];exact ih λz=>h (by simp[z])
variable{f:FE}
def y4(V:Cl X.K c C)(Y:m∉fs)(h:∀σ H Q,tD X.K G H0 f σ H Q->kb X G H0 [i] F σ H λvs H1=>sp vs H1 Q (gP X σ)):∀σ H Q,tD X.K G H0 (fK (.ins false c fs) i f) σ H Q->qT X C m sp (gQ i) (iF X.K G H0 F) σ H Q:=λσ H Q Z=>by
 obtain⟨W,env,d,env',ok,q,k⟩:=Z;unfold fK at q;split at q;case isFalse=>cases q
 rename_i a;obtain⟨p,dx,us,U,b,_⟩:=a.at ok V;obtain⟨g,env0,ds,D,I,_,l,n⟩:=h σ H Q ⟨W,env,d,env',ok,q,k⟩;refine⟨_,U,p,dx,_,rfl,b,EZ Y,g,env0,ds,D,I,l,λW' ws H' st S r=>?_⟩;exact n W' [.ref p] ws H' st S rfl (λj o e=>by cases j with |zero=>simp at e;subst e;exact⟨_,rfl,U⟩ |succ j=>simp at e) r
section
variable {X:Cx} {G:Gd} {H0:Hp} {a b e:Expr} {es:et} {f:FE} {F:FA} {x m cn:Str} {fs:ed} {is:em} {pos p' p1 p2 apos:Pos} {i:Nat} {k:Nat} {fa C:Addr} {fd:FuncData} {ps:ed} {pl:Sem Bool}
variable {mm:gr->f0->f4} {xx:gr->f0->ew}
def xu{Nn Cn:ed}{jr:Nat}{i:Nat}(c:eO X.prog X.w X.K X.mg X.base cn m k (fD X.K mm xx))(U:aV jr X.A)(an:bZ Nn Cn X)(hkj:k<=jr:=by decide)(D:‹Nn[i]?=↑x›)(V:m∉fs:=by decide +kernel)(Y:eval (.Call (.Attribute (.Name x p') m apos) [] [] pos) X.env=(do
   let ov <-eval (.Name x p') X.env
   standAt apos.atName
   let (f,first) <-holding [ov] (getMethod ov m pl)
   callWith pos f first (backTo pos (starEach [] X.env)) (backToKw pos (keywordEach [] X.env))):=by rfl) :
  aM X G H0 (.Call (.Attribute (.Name x p') m apos) [] [] pos) (fK (.ins false cn fs) i (mq mm [i] aB)):=let ⟨_,_,_,_,c,I,Z,b,d⟩:=c;⟨(ER ((an.a D).pe) c I Z (U.mono hkj) b Y).imp λσ H Q h=>by
   obtain⟨e,h1,h2⟩:=y4 (F:=aB) d V (y3 (xx:=xx)) σ H Q h;obtain⟨a,dx,S,g,j,l,W,env,ds,env',ok,q,kk⟩:=h2;cases q;exact⟨e,h1,a,dx,S,g,j,l,kk W [] H Step.refl ok .nil⟩⟩
variable {mm:gr->f0->gs} {xx:gr->f0->Option (Str×gr)}
def yA{Nn Cn:ed}{jr:Nat}{i:Nat}(c:eO X.prog X.w X.K X.mg X.base cn m k (hI X.K mm xx))(V:aV jr X.A)(Y:dM X G H0 (e::es) F)(an:bZ Nn Cn X)(hkj:k<=jr:=by decide)(D:‹Nn[i]?=↑x›)(Z:m∉fs:=by decide +kernel)(I:‹starEach (e::es) X.env=(false,eval e X.env)::starEach es X.env›)(S:‹(backTo pos (starEach es X.env)).any (·.1)=false›)(b:eval (.Call (.Attribute (.Name x p') m apos) (e::es) [] pos) X.env=(do
   let ov <-eval (.Name x p') X.env
   standAt apos.atName
   let (f,first) <-holding [ov] (getMethod ov m pl)
   callWith pos f first (backTo pos (starEach (e::es) X.env)) (backToKw pos (keywordEach [] X.env))):=by rfl) :
  aM X G H0 (.Call (.Attribute (.Name x p') m apos) (e::es) [] pos) (fK (.ins false cn fs) i (qz mm [i] F)):=let ⟨_,_,_,_,c,U,d,g,h⟩:=c;⟨(EQ ((an.a D).pe) c U d (V.mono hkj) g Y.out I S b).imp (y4 h Z (EY ⋯))⟩
def rg{z:Int}(D:∃t,X.mg x=↑(.int z t))(I:Gl X x:=by walk_at "g")(hd:(x==("__debug__" : Str))=false:=by decide +kernel):aM X G H0 (.Name x pos) (fC ↥z):=by
 obtain⟨t,D⟩:=D;exact gX (AR I D (v:=.int z) ⟨t,rfl⟩ hd) λ_ _=>.int _
abbrev FV:=aJ->Option aJ
def tV(X:Cx)(G:Gd)(H0:Hp)(v:FV):TE:=λσ H Q=>∃W env env',Ok X.K G H0 W env σ H/\v env=↑env'/\∀W' z H',Step W H W' H'->Ok X.K G H0 W' env' σ H'->Q (.str z) H'
structure JV (X:Cx) (G:Gd) (H0:Hp) (e:Expr) (v:FV):Prop where
 out:PE X e (tV X G H0 v)
def E_{z:Str}{j:Nat}:JV X G H0 (.Constant (.str z) j pos) some:=⟨uQ.imp λσ H Q ⟨W,env,env',ok,q,k⟩=>by cases q;exact k W z H Step.refl ok⟩
structure qW (X:Cx) (G:Gd) (H0:Hp) (e:Expr) (v:FV):Prop where
 out:∀(pins:fh) (s:Shared) (σ:St) (H:Hp) (Q:Nat->Hp->Prop),Inv X pins σ H s->(∃W env env',Ok X.K G H0 W env σ H/\v env=↑env'/\∀n W' H',n<=1000->Step W H W' H'->Ok X.K G H0 W' env' σ H'->Q n H') ->
  wpAny (model X.prog X.w) X.A (eval e X.env) (λu s'=>∃z t H',u=.str z t/\Inv X pins σ H' s'/\Q z.length H') X.xe s
def vt{z:Str}{j:Nat}(D:z.length<=1000:=by decide):qW X G H0 (.Constant (.str z) j pos) some:=⟨λpins s σ H Q I S=>by
 obtain⟨W,env,env',ok,q,k⟩:=S;cases q;exact Calls.Constant_str ⟨z,_,H,rfl,I.tok _,k _ W H D Step.refl ok⟩⟩
def vInt(f:FE):FV:=λe=>(f e).bind λr=>match r.1 with | .int z=>if z.natAbs<1000000 then ↑r.2 else none |_=>none
theorem yv(h:aM X G H0 a f):qW X G H0 (.FormattedValue a (-1) none pos) (vInt f):=⟨λpins s σ H Q I S=>by
 obtain⟨W,env,env',ok,q,k⟩:=S;unfold vInt at q;cases e1:f env with
 |none=>rw[e1] at q;cases q
 |some r =>
   rw[e1,ac] at q;split at q;case h_2=>cases q
   rename_i z c;split at q;case isFalse=>cases q
   rename_i V;cases q;refine FormattedValue_plain (aU (h.out pins s σ H (λv H1=>v=.int z/\∀n,n<=1000->Q n H1) I ⟨W,env,r.1,r.2,ok,e1,λW1 v H1 Y U Z=>⟨by rw[c] at Z;exact Z.int_,λn d=>k n W1 H1 d Y U⟩⟩) λu Y S=>?_);obtain⟨v,H1,e,g,i,j⟩:=S;subst i;obtain⟨t,rfl⟩:=g;have D:z.natAbs.log2<1920:=by
    by_cases b:z.natAbs=0
    ·rw[b];decide
    ·exact(Nat.log2_lt b).mpr (bq V (b6 (by decide:(1000000:Nat)<=2 ^ 20) (j4 (by decide) (by decide))))
   refine formatField_int_small D ⟨_,_,H1,rfl,(e.tok _).tok _,j _ ?_⟩;have:(toString z).length<=6+1:=int_text_length_le10 (by decide) V;rw[PySem.ofString_length]
   lia⟩
structure lN (X:Cx) (G:Gd) (H0:Hp) (es:et) (v:FV):Prop where
 out:∀(acc:Str) (pins:fh) (s:Shared) (σ:St) (H:Hp) (Q:VK),acc.length+1000*es.length<=100000->Inv X pins σ H s->tV X G H0 v σ H Q ->
  wpAny (model X.prog X.w) X.A (joinParts acc (evalEach es X.env)) (EP X pins σ Q) X.xe s
theorem yu  : lN X G H0 [] some:=⟨λD pins s σ H Q U I S=>by
 obtain⟨W,env,env',ok,q,k⟩:=S;cases q;exact joinParts_nil ⟨.str D,H,I.tok _,⟨_,rfl⟩,k W D H Step.refl ok⟩ (by rw[gy];lia)⟩
theorem ql{v w:FV}(h:qW X G H0 e v)(t:lN X G H0 es w)(d:‹evalEach (e::es) X.env=eval e X.env::evalEach es X.env›):lN X G H0 (e::es) (λz=>(v z).bind w):=⟨λZ pins s σ H Q a I D=>by
 obtain⟨W,env,env',ok,q,k⟩:=D;cases e1:v env with
 |none=>simp only[e1] at q;cases q
 |some env1 =>
   have q:w env1=↑env':=by simpa only[e1,ac] using q
   rw[aq] at a;refine joinParts_cons (aU (h.out pins s σ H (λn H1=>n<=1000/\tV X G H0 w σ H1 Q) I ⟨W,env,env1,ok,e1,λn W1 H1 Y S U=>⟨Y,W1,env1,env',U,q,λW' z H' s2 V=>k W' z H' (S.trans s2) V⟩⟩) λu S D=>?_);obtain⟨z,tk,H1,b,c,Y,tv⟩:=D;subst b;exact⟨by rw[strLen_append,gy];lia,t.out _ pins S σ H1 Q (by rw[strLen_append];lia) c tv⟩⟩
theorem yt{e':Expr}{v:FV}(h:lN X G H0 (e::e'::es) v)(D:1000*(e::e'::es).length<=100000:=by decide):JV X G H0 (.JoinedStr (e::e'::es) pos) v :=
 ⟨λpins s σ H Q I t=>JoinedStr_many (h.out Str.empty pins s σ H Q (by show 0+_<=_;lia) I t)⟩
abbrev qX:ee:=[.type "ValueError",.type "Exception",.type "BaseException",.type "object"]
def XC(K:fc)(C:Addr):Prop:=PySem.W.excIn K C qX "ValueError.__new__" = true
def ik(K:fc)(mg:Str->ei)(c:Str):Prop:=∃C,Cl K c C/\XC K C/\mg c=↑(.ref C)/\(c==("__debug__" : Str))=false
def XC.obj{K:fc}{C:Addr}{h:Heap}(I:XC K C)(D:K.In h):∃bm N nm q bs hdct sn sub ab col dd k0 k1 k2 k3 k5 mN,h.get? C=↑(excClassObj nm q C N bs bm hdct sn sub ab col dd k0 k1 k2 k3 k5 "ValueError.__new__")/\h.Ns N mN/\mN "__init__" = none/\OwnTail h qX bm:=by
 unfold XC PySem.W.excIn at I;split at I;case h_2=>cases I
 rename_i dd U sl V;split at I;case h_2=>cases I
 rename_i k bm k0 k1 k2 k3 n k5 Y Z;simp only[il,beq_iff_eq,lh] at I;obtain⟨⟨⟨⟨⟨a,b⟩,c⟩,d⟩,S⟩,e⟩:=I;subst a;subst b;have f:=D _ _ V;obtain⟨nm,bs,g,ns,i,hd,sn,sub,ab,col,j⟩:=U;obtain⟨l⟩:=sl;subst Y;subst c;subst Z;exact⟨bm,ns,nm,i,bs,hd,sn,sub,ab,col,dd,k0,k1,k2,k3,k5,_,f,.of_isNs (isNs_of_in D S),nsMap_none_of_in D S e,tail_of_in D d⟩
def sy(c:Str)(v:FV):FS:=λe=>(v e).map λe'=>(.xc c,e')
def xq{v:FV}{c:Str}{j cpos:Pos}(l:ik X.K X.mg c)(n:JV X G H0 a v)(o:‹X.calm=true›)(p:Gl X c:=by walk_at "g")(V:‹starEach [a] X.env=(false,eval a X.env)::starEach [] X.env›)(Y:‹(backTo cpos (starEach [a] X.env)).any (·.1)=false›) :
  dN X G H0 (.Raise ↑(.Call (.Name c j) [a] [] cpos) none pos) (sy c v):=let ⟨C,r,t,u,Z⟩:=l;⟨λpins s σ H D I b=>by
 obtain⟨W,env,fl,env',ok,q,k⟩:=b;unfold sy at q;cases e1:v env with
 |none=>rw[e1] at q;cases q
 |some env1 =>
   rw[e1] at q;cases q;obtain⟨tl,N,nm,q,bs,hdct,sn,sub,ab,col,dd,k0,k1,k2,k3,k5,mN,w,x,y,h⟩:=t.obj I.ok.mod.kin;refine wpAny_Raise_call_subT (C:=C) (nm:=nm) (q:=q) (N:=N) (bs:=bs) (bm:=tl) (hdct:=hdct) (sn:=sn) (sub:=sub) (ab:=ab) (col:=col) (dd:=dd) (k0:=k0) (k1:=k1) (k2:=k2) (k3:=k3) (k5:=k5) u9 (mN:=mN)
    (h.hasType u9.hasBase) (I.ok.hd o) Y y (y7 I p u ⟨rfl,?_⟩ Z)
   rw[V];refine Calls.evalArgs_plain ?_;have i:=(o9 n.out qi V) cpos pins s σ H (λvs H1=>vs.length=1/\∃W1,Step W H W1 H1/\Ok X.K G H0 W1 env' σ H1) I ⟨W,env,env',ok,e1,λW1 z H1 d S=>⟨rfl,W1,d,S⟩⟩;rw[V] at i;refine aU i λus d b=>?_;obtain⟨vs,H1,U,A,B,W1,f,S⟩:=b;have g:us.length<=sizeLine:=by rw[<-A.length,B];decide
   exact⟨rfl,g,U.bk _ _ w,x.keeps U.bk,h.keeps U.bk,λh' e m=>k W1 σ H1 C r f S pins e _ (.inr ⟨d,us,U,m,rfl⟩)⟩⟩
end
def cE(e:aJ)(i:Nat):Option Ag:=match e[i]? with |some ↑(.ag k _ ps)=>↑(k,ps) |some ↑(.ro k ps)=>↑(k,ps) |_=>none
def t4:f5->Nat->Nat
 | .o _::r,j+1=>t4 r j+1 | .d _::r,j+1=>t4 r j |_,_=>0
inductive Acc where
 |at (κ:AK) |al (x:Nat)
def Acc.ok:Acc->aJ->Nat->Nat->Prop
 | .at κ,e,i,_=>hJ κ e i
 | .al x,e,i,j=>∃k r ps,e[i]?=↑↑(.ag k ↑r ps)/\e[x]?=↑↑(.al r (t4 ps j))
instance (A:Acc) (e:aJ) (i j:Nat):Decidable (A.ok e i j):=Classical.propDecidable _
def p6(A:Acc)(i j:Nat)(e:aJ):Option f0:=if A.ok e i j then(cE e i).bind λx=>match x.2[j]? with |some (.o ds)=>↑ds |_=>none else none
def cS(K:fc)(H:Hp)(env:aJ)(σ:St)(i j:Nat)(a:Addr):Prop:=∃k ps p us,cE env i=↑(k,ps)/\σ[i]?=↑↑(.ref p)/\cP K H k p us/\us[j]?=↑(.ref a)
def Fa(X:Cx)(G:Gd)(H0:Hp)(A:Acc)(i j:Nat):TE:=λσ H Q=>∃W env ds,Ok X.K G H0 W env σ H/\p6 A i j env=↑ds /\
 ∀a vs,cS X.K H env σ i j a->H a=↑(.lst vs)->aC X.K H (Ow G W) ds vs->Q (.ref a) H
structure qY (X:Cx) (G:Gd) (H0:Hp) (e:Expr) (A:Acc) (i j:Nat):Prop where
 out:PE X e (Fa X G H0 A i j)
protected def aP.ix(h:aP K G W H ps as us)(e:ps[j]?=↑(.o ds)):∃a,us[j]?=↑(.ref a)/\as[t4 ps j]?=↑a:=by
 induction h generalizing j with
 |nil=>simp at e |d _ _ ih =>
   cases j with
   |zero=>simp at e |succ j=>obtain⟨a,h1,h2⟩:=ih (j:=j) (by simpa using e);exact⟨a,by simpa using h1,h2⟩
 | @o _ a _ _ _ _ _ _ _ _ ih =>
   cases j with
   |zero=>exact⟨a,rfl,rfl⟩ |succ j=>obtain⟨b,h1,h2⟩:=ih (j:=j) (by simpa using e);exact⟨b,by simpa using h1,by simpa[t4] using h2⟩
variable{k:AK}
def Ok.part(ok:Ok K G H0 W env σ H)(e:cE env i=↑(k,ps))(V:ps[j]?=↑(.o ds)):∃p us a vs,σ[i]?=↑↑(.ref p)/\cP K H k p us/\us[j]?=↑(.ref a)/\H a=↑(.lst vs)/\aC K H (Ow G W) ds vs:=by
 unfold cE at e;split at e
 ·rename_i k' l ps' q
  cases e;obtain⟨v,D,p,as,us,rfl,_,_,_,I,S⟩:=ok.slot i _ q;obtain⟨a,vs,h1,_,_,h2,U⟩:=S.get V;exact⟨p,us,a,vs,D,I,h1,h2,U⟩
 ·rename_i k' ps' q
  cases e;obtain⟨v,D,p,us,rfl,_,I,S⟩:=ok.slot i _ q;obtain⟨a,vs,h1,_,h2,U⟩:=S.get V;exact⟨p,us,a,vs,D,I,h1,h2,U⟩
 ·cases e
variable{A:Acc}
def yB(h:p6 A i j env=↑ds):A.ok env i j/\∃k ps,cE env i=↑(k,ps)/\ps[j]?=↑(.o ds):=by
 unfold p6 at h;split at h;case isFalse=>cases h
 rename_i D;cases e:cE env i with
 |none=>rw[e] at h;cases h
 |some x =>
   rw[e,ac] at h;split at h
   ·rename_i ds' q;cases h;exact⟨D,x.1,x.2,rfl,q⟩
   ·cases h
def cS.inj{b:Addr}(h:cS K H env σ i j a)(h':cS K H env σ i j b):a=b:=by
 obtain⟨k,ps,p,us,h1,h2,V,Y⟩:=h;obtain⟨k',ps',p',Z,I,S,U,D⟩:=h';rw[h1] at I;cases I;rw[h2] at S;cases S;rw[vk V U.o] at D;rw[Y] at D;cases D;rfl
def qZ{f:Str}{u:V}(D:fs.Nodup)(h1:fs[j]?=↑f)(h2:us[j]?=↑u):(fs.zip us).lookup f=↑u:=by
 induction fs generalizing us j with
 |nil=>simp at h1 |cons g r ih =>
   cases us with
   |nil=>simp at h2 |cons w us =>
     rw[km,cy];cases j with
     |zero=>simp at h1 h2;subst h1;subst h2;simp |succ j =>
       have I:(f==g)=false:=by simp;exact λz=>(df.mp D).1 (z ▸ bv h1)
       rw[I];exact ih (df.mp D).2 h1 (by simpa using h2)
variable{Nn Cn:ed}{cn:Str}
def lO(c:ka X.K cn m)(an:bZ Nn Cn X)(I:‹Nn[i]?=↑x›)(V:‹fs[j]?=↑m›)(Y:fs.Nodup:=by decide +kernel)(Z:‹attributeBase (.Name x p') m X.env (eval (.Name x p') X.env)=eval (.Name x p') X.env›):qY X G H0 (.Attribute (.Name x p') m pos) (.at (.ins false cn fs)) i j:=let ⟨C,c,b,d⟩:=c;⟨(vD ((an.a I).pe) Z).imp λσ H Q e=>by
  obtain⟨W,env,ds,ok,q,k⟩:=e;obtain⟨f,κ,ps,D,g⟩:=yB q;obtain⟨p,us,a,vs,h1,h2,S,h,n⟩:=ok.part D g;have o:κ=.ins false cn fs:=by
   rcases f with⟨l,ps',z⟩ | ⟨ps',z⟩ <;> (unfold cE at D;rw[z] at D;cases D;rfl)
  subst o;obtain⟨s,dx,r,U,t⟩:=id h2;rw[Cl.inj r d] at U;exact⟨_,h1,p,C,dx,_,_,rfl,U,c,b,qZ Y V S,k a vs ⟨_,ps,p,us,D,h1,h2,S⟩ h n⟩⟩
structure JK (X:Cx) (e:Expr) (z:Int):Prop where
 out:PE X e (tC ↥z)
variable{z:Int}
def yC{D:Nat}:JK X (.Constant ↥z D pos) z:=⟨nT⟩
def yD(h:JK X e z):JK X (.UnaryOp .USub e pos) (-z):=⟨(uY uZ h.out).imp λσ H Q q=>⟨z,rfl,q⟩⟩
def jB(A:Acc)(i j:Nat)(z:Int):FE:=λe=>(p6 A i j e).bind λds=>(aW ds z).map λd=>(d,e)
def yE(h:qY X G H0 e A i j)(D:JK X b z)(I:xi b:=by intro _ _;rfl):aM X G H0 (.Subscript e b pos) (jB A i j z) :=
 ⟨(kQ vL h.out D.out I).imp λσ H Q S=>by
  obtain⟨W,env,d,env',ok,q,k⟩:=S;unfold jB at q;cases e1:p6 A i j env with
  |none=>rw[e1] at q;cases q
  |some ds =>
    rw[e1,ac] at q;cases e2:aW ds z with
    |none=>rw[e2] at q;cases q
    |some d' =>
      rw[e2] at q;cases q;refine⟨W,env,ds,ok,e1,λa vs _ U r=>?_⟩;obtain⟨v,V,Y⟩:=xh r e2;exact⟨a,vs,z,v,rfl,rfl,.inl (.inl U),V,k W v H Step.refl ok Y⟩⟩
def setP(e:aJ)(i j:Nat)(ds:f0):aJ:=match e[i]? with |some ↑(.ag k l ps)=>e.set i ↑(.ag k l (ps.set j (.o ds))) |_=>e
def Ok.setP{K:fc}{W:Addr->Prop}{H:Hp}{env:aJ}{σ:St}{k:AK}{l:Option Nat}{ps:f5}{ds ds':f0}{a:Addr}{vs':fw}(ok:Ok K G H0 W env σ H)(e:env[i]?=↑↑(.ag k l ps))(I:ps[j]?=↑(.o ds))(S:cS K H env σ i j a)(r:aC K H (Ow G W) ds' vs') :
  Ok K G H0 W (L2.setP env i j ds') σ (aO H a (.lst vs'))/\Step W H W (aO H a (.lst vs')):=by
 obtain⟨k',ps',p,us,h1,h2,U,Y⟩:=S;have:cE env i=↑(k,ps):=by unfold cE;rw[e]
 rw[this] at h1;cases h1;unfold L2.setP;rw[e];exact ok.turnP e h2 U I Y r
def hO(k:AK)(l:Option Nat):Prop:=l.isSome=true/\∀c fs,k≠.ins true c fs
instance (k:AK) (l:Option Nat):Decidable (hO k l):=Classical.propDecidable _
variable{l:Option Nat}
def Fb{W1:Addr->Prop}{H1:Hp}{S:aJ}{U:f5}{f:f0}(x:hO k l)(ok:Ok K G H0 W env σ H)(g:Ok K G H0 W1 S σ H1)(e:env[i]?=↑↑(.ag k l ps))(y:S[i]?=↑↑(.ag k l U))(z:ps[j]?=↑(.o ds))(h:U[j]?=↑(.o f))(A:t4 U j=t4 ps j)(B:cS K H env σ i j a):cS K H1 S σ i j a:=by
 obtain⟨r,rfl⟩:=ya.mp x.1;obtain⟨v,m,p,as,us,rfl,_,_,h1,C,E⟩:=ok.slot i _ e;obtain⟨M,Z,p',V,n,rfl,_,_,q,s,t⟩:=g.slot i _ y;rw[m] at Z;cases Z;have Y:=h1 r rfl;have I:=q r rfl;obtain⟨b,F,J⟩:=E.ix z;obtain⟨N,u,d⟩:=t.ix h;have L:cS K H env σ i j b:=⟨k,ps,p,us,by unfold cE;rw[e],m,C,F⟩;have ab:=B.inj L;subst ab;have w:V=as:=by
  cases k with
  |ls=>have Y:G.r r=p::as:=Y;have I:G.r r=p::V:=I;rw[Y] at I;cases I;rfl
  |ins bb c fs =>
    cases bb with
    |true=>exact absurd rfl (x.2 c fs) |false=>have Y:G.r r=p::as:=Y;have I:G.r r=p::V:=I;rw[Y] at I;cases I;rfl
 subst w;rw[A,J] at d;cases d;exact⟨k,U,p,n,by unfold cE;rw[y],m,s,u⟩
instance (k k':AK):Decidable (k=k'):=Classical.propDecidable _
def iP(i j:Nat)(k0:AK)(I:Option Nat)(n:Nat)(d:D)(e:aJ):Option (D×aJ):=match e[i]? with
 |some ↑(.ag k l ps)=>(match ps[j]? with |some (.o ds)=>if k=k0/\l=I/\t4 ps j=n/\bI (ds.length+1) then ↑(.non,setP e i j (ds++[d])) else none |_=>none)
 |_=>none
def wz(A:Acc)(i j:Nat)(f:FE):FE:=λe=>match e[i]? with
 |some ↑(.ag k l ps)=>if hO k l then(p6 A i j e).bind λ_=>(f e).bind λr=>iP i j k l (t4 ps j) r.1 r.2 else none
 |_=>none
variable{a:Expr}{p1:Pos}
def yF(h:qY X G H0 e A i j)(s:aM X G H0 a f)(I:‹attributeBase e "append" X.env (eval e X.env)=eval e X.env›)(Y:((backTo pos (starEach [a] X.env)).all (λx=>!x.1) && (backToKw pos (keywordEach [] X.env)).all (λx=>x.1.isSome)
   && decide ([a].length+([]:List Keyword).length+(if ([]:List Keyword).isEmpty then 0 else 1)<30))=true:=by rfl)(S:‹(p1.endLine==pos.line)=true›)(l:‹starEach [a] X.env=(false,eval a X.env)::starEach [] X.env›) :
  aM X G H0 (.Call (.Attribute e "append" p1) [a] [] pos) (wz A i j f):=⟨(vf ff ln lm pj h.out (o9 s.out qi l) I Y S l rfl).imp λσ H Q t=>by
 obtain⟨W,env,d,env',ok,q,k⟩:=t;unfold wz at q;split at q;case h_2=>cases q
 rename_i kk T u m;split at q;case isFalse=>cases q
 rename_i Z;cases e1:p6 A i j env with
 |none=>rw[e1] at q;cases q
 |some ds =>
   rw[e1,ac] at q;cases e2:f env with
   |none=>rw[e2] at q;cases q
   |some r =>
     rw[e2,ac] at q;unfold iP at q;split at q;case h_2=>cases q
     rename_i k1 l1 v D;split at q;case h_2=>cases q
     rename_i w U;split at q;case isFalse=>cases q
     rename_i y;obtain⟨rfl,rfl,z,c⟩:=y;cases q;obtain⟨_,κ,ps,n,B⟩:=yB e1;have:cE env i=↑(k1,u):=by unfold cE;rw[m]
     rw[this] at n;cases n;refine⟨W,env,ds,ok,e1,λad vs C E rr=>⟨.inl ⟨rfl,_,.inl (.inl E)⟩,W,env,r.1,r.2,ok,e2,λW1 F H1 J V K=>?_⟩⟩;have b:=Fb Z ok V m D B U z C;obtain⟨p,us,a1,g,L,M,N,O,o⟩:=V.part (i:=i) (by unfold cE;rw[D]) U;have:=b.inj ⟨_,_,p,us,by unfold cE;rw[D],L,M,N⟩;subst this;obtain⟨P,R⟩:=V.setP D U b (o.append (.cons K .nil));exact⟨ad,g,F,rfl,rfl,O,by rw[<-o.length];exact h8 (ky c),k W1 _ _ (J.trans R) P .non⟩⟩
abbrev FG:=aJ->Option (Ag×aJ)
def yG(env:aJ)(σ:St)(H:Hp)(s:Sl)(v:V):Prop:=∀(j:Nat) (s':Sl) (D:V) (a:Addr),env[j]?=↑↑s'->σ[j]?=↑↑D->aX H s v a->¬aX H s' D a
def Fc(X:Cx)(G:Gd)(H0:Hp)(f:FG):TE:=λσ H Q=>DP X.K G H0 f (λW env x env' =>
 ∀W' p H',Step W H W' H'->Ok X.K G H0 W' env' σ H'->cR X.K G W' H' (.ag x.1 none x.2) (.ref p)->yG env' σ H' (.ag x.1 none x.2) (.ref p)->Q (.ref p) H') σ H
structure yH (X:Cx) (G:Gd) (H0:Hp) (e:Expr) (f:FG):Prop where
 out:PE X e (Fc X G H0 f)
def yi(i:Nat)(f:FG):FS:=λe=>(f e).map λr=>(.nx,r.2.set i ↑(.ag r.1.1 none r.1.2))
variable{G':Gd}
def Ok.newA(ok:Ok K G H0 W env σ H)(sm:aS H H')(Y:∀a,W' a->H a=none)(A:∀a,W' a->∃m:Mo,H' a=↑m.out)(B:∀a,G' a->Ow G W a\/H a=none){k':AK}{p:Addr}(g:∀us,cP K H' k p us->cP K H' k' p us)(h:cR K G' W' H' (.ag k l ps) (.ref p)) :
  Ok K G H0 (λa=>W a\/W' a) env σ H'/\Step W H (λa=>W a\/W' a) H'/\cR K G (λa=>W a\/W' a) H' (.ag k' none ps) (.ref p)/\yG env σ H' (.ag k' none ps) (.ref p):=by
 have st:Step W H (λa=>W a\/W' a) H':=⟨λb o e _=>sm b o e,λa z=>z.imp id (Y a)⟩;have D:=ok.same sm;have Z:Ok K G H0 (λa=>W a\/W' a) env σ H':=by
  refine⟨D.stay,ok.good,λa z=>?_,λi s e=>?_,D.uniq,ok.len⟩
  ·rcases z with z |z
   ·exact D.wl a z
   ·exact⟨ok.stay.free (Y a z),A a z⟩
  ·obtain⟨v,c,q⟩:=ok.slot i s e
   exact⟨v,c,ok.slstep st q λa m o f=>⟨.inl (q.owns o),sm _ _ f⟩⟩
 obtain⟨p',as,us,e,t,C,L,I,S⟩:=h;cases e;have u:∀(a:Addr) (us:fw),Ow G' W' a->Rd H' a (.lst us)->Ow G (λa=>W a\/W' a) a/\Rd H' a (.lst us):=λa us o q=>⟨by
  rcases B a o.1 with z |z
  ·exact⟨z.1,λy=>y.elim z.2 o.2⟩
  ·exact⟨ok.good a (ok.stay.free z),λy=>y.elim (λw=>by obtain⟨_,m,q⟩:=ok.wl a w;rw[z] at q;cases q) o.2⟩,q⟩
 refine⟨Z,st,⟨p,as,us,rfl,.inr t,C,(λn z=>nomatch z),g us I,S.step (λa vs U z=>⟨.inr (S.own U).1,z⟩) (λd v r=>r.mono (λ_ _ h=>h) u) λd v r=>r.mono (λ_ _ h=>h) u⟩,λj s v a c f E F=>?_⟩;have J:W' a:=by
  rcases E with o | ⟨p',us',z,q,U⟩
  ·cases o;exact t
  ·cases z
   rw[vk (g us I) q] at U;exact(S.own (S.parts_iff.mp U)).1
 obtain⟨M,x,q⟩:=D.slot j s c;rw[f] at x;cases x;obtain⟨_,m,z⟩:=ok.wl a (q.owns F);rw[Y a J] at z;cases z
variable{g:FG}{y:XF}
def Fd{y:Str}(I:eF Nn X)(h:yH X G H0 e g)(D:‹Nn[i]?=↑y›)(U:‹swapsWith e ↑(.Name y p') pos.line X.env=pure false›) :
  dN X G H0 (.Assign [.Name y p'] e pos) (yi i g):=⟨(oB (I.t D).nd (I.t D).n (I.t D).l h.out U (I.t D).f).imp λDn σ H V=>by
 obtain⟨W,env,fl,env',ok,q,k⟩:=V;unfold yi at q;cases e1:g env with
 |none=>rw[e1] at q;cases q
 |some r =>
   rw[e1] at q;cases q;exact⟨W,env,r.1,r.2,ok,e1,λW1 p H1 Y S sl Z=>k W1 _ H1 Y (S.put sl Z)⟩⟩
variable{ps:ed}
def yh(c:Str)(m:gr->f0->gs)(F:FA):FG:=λe=>(F e).bind λr=>(m [(.ins true c [],[])] r.1).bind λq=>match q with
 | (.non,[(.ins true c' fs,ps)])=>↑((.ins false c' fs,ps),r.2) |_=>none
def Fe{D dx:Addr}(ok:Ok K G H0 W env σ H)(V:Cl K cn C)(h1:H D=none)(h2:H dx=none)(g:dx≠D)(r:aC K H (Ow G W) ds vs) :
  aS H (aO (aO H dx (.own D)) D (.ins C dx [])) /\
  Ok K ⟨Ow G W,λ_=>[D]⟩ (fN (aO (aO H dx (.own D)) D (.ins C dx [])) (λb=>b=D)) (λb=>b=D) (o6 [(.ins true cn [],[])]) [↑(.ref D)] (aO (aO H dx (.own D)) D (.ins C dx [])) /\
  aC K (aO (aO H dx (.own D)) D (.ins C dx [])) (Ow ⟨Ow G W,λ_=>[D]⟩ (λb=>b=D)) ds vs:=by
 have sm:aS H (aO (aO H dx (.own D)) D (.ins C dx [])):=λb o e=>by rw[i3 (o4 e h1),i3 (o4 e h2)];exact e
 have S:∀a,H a=none->Ow G W a:=λa z=>⟨ok.good a (ok.stay.free z),λw=>by obtain⟨_,m,q⟩:=ok.wl a w;rw[z] at q;cases q⟩;refine⟨sm,⟨λa o e=>(xW e).2,λa e=>?_,λa e=>⟨qR e,.i C dx [],by rw[show a=D from e,mv]⟩,λI s e=>?_,λI Y s s' v j b Z c k l p t=>?_,rfl⟩,?_⟩
 ·rcases xX e with z |z
  ·rw[show a=D from z];exact S D h1
  ·refine S a ?_
   by_cases y:a=D
   ·rw[y];exact h1
   ·rw[i3 y] at z
    by_cases U:a=dx
    ·rw[U];exact h2
    ·rwa [i3 U] at z
 ·obtain⟨x,q,rfl⟩:=lK e
  cases I with
  |zero =>
    simp at q;subst q;exact⟨.ref D,rfl,D,[],[],rfl,rfl,by simp,λn _=>rfl,⟨C,dx,V,mv,rfl⟩,.nil⟩
  |succ n=>simp at q
 ·obtain⟨_,d,_⟩:=lK Z
  obtain⟨_,f,_⟩:=lK c;cases I with
  |zero=>cases Y with
    |zero=>rfl |succ n=>simp at f
  |succ n=>simp at d
 ·refine r.mono (λa u z=>sm _ _ z) λa us o h=>⟨⟨o,λz=>?_⟩,h.keep λo z=>sm _ _ z⟩
  rw[show a=D from z] at h;rcases h with h | ⟨_,h⟩ <;> (have h2:=h1.symm.trans h;cases h2)
variable{k:Nat}
def Ff{m:gr->f0->gs}(c:iO X.prog X.w X.K X.mg X.base x k (hI X.K m xx))(Y:aV jr X.A)(n:dM X G H0 (e::es) F)(hkj:k+1<=jr:=by decide)(s:Gl X x:=by walk_at "g")(t:‹starEach (e::es) X.env=(false,eval e X.env)::starEach es X.env›)(Z:‹(backTo pos (starEach es X.env)).any (·.1)=false›) :
  yH X G H0 (.Call (.Name x p') (e::es) [] pos) (yh x m F):=let ⟨_,_,_,_,M,u,B,C,E,d⟩:=c;⟨(ET M u (Y.mono hkj) s B C n.out d t Z).imp λσ H Q J=>by
 obtain⟨W,env,y,env',ok,q,k⟩:=J;unfold yh at q;cases e1:F env with
 |none=>rw[e1] at q;cases q
 |some r =>
   rw[e1,ac] at q;cases e2:m [(.ins true x [],[])] r.1 with
   |none=>rw[e2] at q;cases q
   |some z =>
     rw[e2,ac] at q;split at q;case h_2=>cases q
     rename_i i S ps';cases q;refine⟨W,env,r.1,r.2,ok,e1,λW1 vs H1 L U N I dx h1 h2 O=>?_⟩;obtain⟨sm,f,Y⟩:=Fe U E h1 h2 O N;refine⟨_,_,_,_,[.ref I],r.1,vs,rfl,rfl,f,Y,.inl ⟨_,_,e2,λW' en P v H' st V R T=>⟨T.non_,?_⟩⟩⟩;have hs:=R 0 _ rfl;obtain⟨v',z1,j⟩:=V.slot 0 _ hs;have ev:v'=.ref I:=by
      obtain⟨p,as,us,rfl,_,_,g,_⟩:=j;have g:([I]:el)=[p]:=g 0 rfl;cases g;rfl
     subst ev;have h:aS H1 H':=λb o z=>st.keep b o (sm b o z) λy=>by rw[show b=I from y,h1] at z;cases z
     have hn:∀a,W' a->H1 a=none:=λa z=>by
      rcases st.ws a z with y |y
      ·rw[show a=I from y];exact h1
      ·cases q:H1 a with
       |none=>rfl |some o=>rw[sm a o q] at y;cases y
     obtain⟨w1,w2,w3,w4⟩:=U.newA (G':=⟨Ow G W1,λ_=>[I]⟩) (k:=.ins true i S) (l:=↑0) (ps:=ps') (p:=I) (k':=.ins false i S) h hn (λa z=>(V.wl a z).2) (λa z=>.inl z) (λus z=>z) j;exact k _ I H' (L.trans w2) w1 w3 w4⟩
mutual
def noL:D->Bool
 | .lst _=>false | .dct _ _=>false | .tup ds=>noLs ds |_=>true
def noLs:f0->Bool
 | []=>true |d::r=>noL d && noLs r
end
def aN.noL{d:D}{v:V}:aN K H O d v->L2.noL d=true->aN K H O' d v :=
 aN.rec (motive_1:=λd v _=>L2.noL d=true->aN K H O' d v) (motive_2:=λds vs _=>L2.noLs ds=true->aC K H O' ds vs) (λ_=>.non) (λb _=>.bl b) (λb _=>.int b) (λb _=>.str b) (λh _ q e=>.tup h (q (by rw[L2.noL] at e;exact e))) (λ_ _ _ _ e=>by rw[L2.noL] at e;cases e) (λ_ _ _ e=>by rw[L2.noL] at e;cases e) (λ_ _ _ e=>by rw[L2.noL] at e;cases e) (λa _=>.exc a) (λ_=>.nil) λ_ _ p q e=>by rw[L2.noLs,il] at e;exact .cons (p e.1) (q e.2)
def kl:Pt->D | .d d=>d | .o ds=>.lst ds
def t0(r:Nat):aJ->Option f5
 | []=>none |some (.ag .ls ↑r' ps)::e=>if r'=r then ↑ps else t0 r e
 |_::e=>t0 r e
def uq:f5->Nat->Option f0
 | .o ds::_,0=>↑ds | .o _::r,j+1=>uq r j | .d _::r,j=>uq r j | [],_=>none
def z7(b:Bool)(ps:f5):f5:=if b=true then ps.map λp=>.d (kl p) else ps
def k4(b:Bool)(env:aJ):gj->gj
 |some (.sh d)=>⇑d |some (.ow ds)=>⇑(.lst ds) |some (.o2 dss)=>⇑(.lst (dss.map D.lst)) |some (.ag .ls _ ps)=>⇑(.lst (ps.map kl)) |some (.ag k _ ps)=>↑(.ro k (z7 b ps)) |some (.ro .ls ps)=>⇑(.lst (ps.map kl)) |some (.ro k ps)=>↑(.ro k (z7 b ps)) |some (.al r j)=>(t0 r env).bind λps=>(uq ps j).map λds=>.sh (.lst ds) |none=>none
def frz(b:Bool)(env:aJ):aJ:=env.map (k4 b env)
def g9(r:Nat->el):Gd:=⟨λ_=>True,r⟩
def q_{r:Nat}{ps:f5}:∀ {env:aJ},t0 r env=↑ps->∃i:Nat,env[i]?=↑↑(Sl.ag AK.ls ↑r ps)
 |x::e,h=>by
   unfold t0 at h;split at h
   ·rename_i D;cases D
   ·rename_i S ps' e' q
    cases q;split at h
    ·rename_i I;cases h;subst I;exact⟨0,rfl⟩
    ·obtain⟨i,z⟩:=q_ h;exact⟨i+1,by simpa using z⟩
   ·rename_i q
    cases q;obtain⟨i,z⟩:=q_ h;exact⟨i+1,by simpa using z⟩
variable{a:Addr}{ps:f5}
def Fg(h:aP K G W H ps as us)(e:uq ps j=↑ds)(D:as[j]?=↑a):∃vs,H a=↑(.lst vs)/\aC K H (Ow G W) ds vs:=by
 induction h generalizing j with
 |nil=>cases e
 |d _ _ ih=>exact ih e D |o hW hl r _ ih =>
   cases j with
   |zero=>cases e;simp at D;subst D;exact⟨_,hl,r⟩
   |succ j=>exact ih (j:=j) e (by simpa using D)
def aR.all(h:aR K G W H ps us)(D:∀a,O a):aC K H O (ps.map kl) us:=by
 induction h with
 |nil=>exact .nil |d r _ ih=>exact .cons ((o0 λa _=>D a).1 _ _ r) ih |o _ hl r _ ih=>exact .cons (.lst (D _) (.inl hl) ((o0 λa _=>D a).2 _ _ r)) ih
def aR.roG(h:aR K G W H ps us)(D:∀a,Ow G W a->Ow G' cG a):aR K G' cG H ps us :=
 h.step (λa vs _ z=>⟨λz=>z,z⟩) (λd v q=>(o0 D).1 d v q) λd v q=>(o0 D).2 d v q
def aP.toRo(h:aP K G W H ps as us)(D:∀a,Ow G W a->Ow G' cG a):aR K G' cG H ps us :=
 aR.roG (W:=cG) (G:=gd (Ow G W)) h.ro λa z=>D a z.1
def aR.dat(h:aR K G W H ps us)(D:∀a,Ow G W a):aR K G W H (ps.map λp=>.d (kl p)) us:=by
 induction h with
 |nil=>exact .nil |d r _ ih=>exact .d r ih |o _ hl r _ ih=>exact .d (.lst (D _) (.inl hl) r) ih
def aR.roB(b:Bool)(h:aR K G W H ps us)(D:∀a,Ow G W a):aR K G W H (z7 b ps) us:=by
 unfold z7;split
 ·exact h.dat D
 ·exact h
def Ok.freeze(b:Bool)(ok:Ok K G H0 W env σ H):Ok K (g9 G.r) H cG (frz b env) σ H:=by
 have V:∀a,Ow G W a->Ow (g9 G.r) cG a:=λa _=>⟨trivial,λz=>z⟩;have all:∀a,Ow (g9 G.r) cG a:=λa=>⟨trivial,λz=>z⟩;have Y:∀(i:Nat) (s:Sl),(frz b env)[i]?=↑↑s->∃I,env[i]?=↑↑I/\k4 b env ↑I=↑s:=λi s e=>by
  unfold frz at e;rw[bo] at e;cases q:env[i]? with
  |none=>rw[q] at e;cases e
  |some o =>
    rw[q] at e;cases o with
    |none=>cases e
    |some I=>exact⟨I,rfl,by simpa using e⟩
 refine⟨aS.refl _,λa _=>trivial,λl z=>z.elim,λi s e=>?_,λi j s s' v x a D _ F _ o _=>?_,by unfold frz;rw[ae];exact ok.len⟩
 ·obtain⟨I,w,D⟩:=Y i s e
  obtain⟨v,A,h⟩:=ok.slot i I w;refine⟨v,A,?_⟩;cases I with
  |sh d=>cases D;exact(o0 V).1 _ _ h
  |ow ds=>cases D;obtain⟨l,vs,rfl,g,S,r⟩:=h;exact .lst (all l) (.inl S) ((o0 V).2 _ _ r)
  |o2 dss =>
    cases D;obtain⟨l,ls,rfl,g,S,B,hi⟩:=h;exact .lst (all l) (.inl S) (pK (W':=cG) (G:=g9 G.r) (W:=W) ⟨hi.1,λj ds a f m=>let ⟨n,vs,t,C⟩:=hi.2 j ds a f m;⟨n,vs,t,(o0 λb z=>⟨trivial,z.2⟩).2 _ _ C⟩⟩ (λa _ _=>all a) λds vs r=>(o0 λb _=>all b).2 _ _ r)
  |ag k l ps =>
    obtain⟨p,as,us,rfl,g,B,S,Z,U⟩:=h;cases k with
    |ls=>cases D;exact .lst (all p) (.inl Z) ((U.toRo V).all all)
    |ins _ c fs=>cases D;exact⟨p,us,rfl,λz=>z,Z,(U.toRo V).roB b all⟩
  |ro k ps =>
    obtain⟨p,us,rfl,g,Z,U⟩:=h;cases k with
    |ls=>cases D;exact .lst (all p) (.inl Z) (U.all all)
    |ins _ c fs=>cases D;exact⟨p,us,rfl,λz=>z,Z,(U.roG V).roB b all⟩
  |al r j =>
    have D:((t0 r env).bind λps=>(uq ps j).map λds=>Sl.sh (.lst ds))=↑s:=D;cases q1:t0 r env with
    |none=>rw[q1] at D;cases D
    |some ps =>
      rw[q1,ac] at D;cases q2:uq ps j with
      |none=>rw[q2] at D;cases D
      |some ds =>
        rw[q2] at D;cases D;obtain⟨p,as,a,f,m,rfl⟩:=h;obtain⟨E,y⟩:=q_ q1;obtain⟨x,J,p',u,us,rfl,_,_,S,_,U⟩:=ok.slot E _ y;have S:G.r r=p'::u:=S r rfl;rw[S] at f;cases f;obtain⟨vs,n,t⟩:=Fg U q2 m;exact .lst (all a) (.inl n) ((o0 V).2 _ _ t)
 ·obtain⟨I,w,D⟩:=Y i s D
  cases I with
  |sh d=>cases D;exact o.elim
  |ow d=>cases D;exact o.elim
  |o2 d=>cases D;exact o.elim
  |ag k l ps=>cases k <;> (cases D;exact o.elim)
  |ro k ps=>cases k <;> (cases D;exact o.elim)
  |al r j =>
    have D:((t0 r env).bind λps=>(uq ps j).map λds=>Sl.sh (.lst ds))=↑s:=D;cases q1:t0 r env with
    |none=>rw[q1] at D;cases D
    |some ps =>
      rw[q1,ac] at D;cases q2:uq ps j with
      |none=>rw[q2] at D;cases D
      |some ds=>rw[q2] at D;cases D;exact o.elim
def Step.noW(s:Step cG H W' H'):aS H H':=λb o e=>s.keep b o e λz=>z
def fU(b:Bool)(f:FE):FE:=λe=>(f (frz b e)).bind λr=>if noL r.1=true then ↑(r.1,e) else none
def zz(b:Bool)(f:FA):FA:=λe=>(f (frz b e)).bind λr=>if noLs r.1=true then ↑(r.1,e) else none
def hS(b:Bool)(x:XF):XF:=λe=>(x (frz b e)).map λr=>(r.1,e)
variable{b:Bool}
def yI(h:∀G H0,aM X G H0 e f):aM X G H0 e (fU b f):=⟨λpins s σ H Q I D=>by
 obtain⟨W,env,d,env',ok,q,k⟩:=D;unfold fU at q;cases e1:f (frz b env) with
 |none=>rw[e1] at q;cases q
 |some r =>
   rw[e1,ac] at q;split at q;case isFalse=>cases q
   rename_i S;cases q;refine(h (g9 G.r) H).out pins s σ H Q I ⟨cG,frz b env,r.1,r.2,ok.freeze b,e1,λW' v H' st U V=>?_⟩;exact k W v H' (Step.same st.noW) (ok.same st.noW) (V.noL S)⟩
def Fh(h:∀G H0,JX X G H0 e y):JX X G H0 e (hS b y):=⟨λpins s σ H Q I D=>by
 obtain⟨W,env,c,env',ok,q,k⟩:=D;unfold hS at q;cases e1:y (frz b env) with
 |none=>rw[e1] at q;cases q
 |some r =>
   rw[e1] at q;cases q;exact(h (g9 G.r) H).out pins s σ H Q I ⟨cG,frz b env,r.1,r.2,ok.freeze b,e1,λW' H' C S st U=>k W H' C S (Step.same st.noW) (ok.same st.noW)⟩⟩
def k6:gj->gj
 |some (.sh d)=>⇑d |some (.ag k _ ps)=>↑(.ro k ps) |some (.ro k ps)=>↑(.ro k ps) |_=>none
def hU(env:aJ):aJ:=env.map k6
def Fi(G:Gd)(W:Addr->Prop)(H:Hp):Gd:=⟨λa=>Ow G W a\/H a=none,G.r⟩
def aP.length(h:aP K G W H ps as us):ps.length=us.length:=by
 induction h with
 |nil=>rfl |d _ _ ih=>rw[aq,aq,ih] |o _ _ _ _ ih=>rw[aq,aq,ih]
abbrev FP:=aJ->Option f5
def Fj(X:Cx)(G:Gd)(H0:Hp)(f:FP):TA:=λσ H Q=>∃W env ps,Ok X.K G H0 W env σ H/\f env=↑ps /\
 ∀as us H',aS H H'->as.Nodup->(∀a∈as,H a=none)->aP X.K (Fi G W H) (λa=>a∈as) H' ps as us->Q us H'
structure Iv (X:Cx) (G:Gd) (H0:Hp) (es:et) (f:FP):Prop where
 out:PA X es (Fj X G H0 f)
def vc(κ:AK)(i j:Nat):FE:=λe=>if hJ κ e i then(cE e i).bind λx=>(match x.2[j]? with |some (.d d)=>↑(d,e) |_=>none) else none
def rb(c:ka X.K cn m)(an:bZ Nn Cn X)(S:‹Nn[i]?=↑x›)(Y:‹fs[j]?=↑m›)(Z:fs.Nodup:=by decide +kernel)(f:‹attributeBase (.Name x p') m X.env (eval (.Name x p') X.env)=eval (.Name x p') X.env›):aM X G H0 (.Attribute (.Name x p') m pos) (vc (.ins false cn fs) i j):=let ⟨C,c,b,e⟩:=c;⟨(vD ((an.a S).pe) f).imp λσ H Q g=>by
  obtain⟨W,env,d,env',ok,q,k⟩:=g;unfold vc at q;split at q;case isFalse=>cases q
  rename_i h;cases D:cE env i with
  |none=>rw[D] at q;cases q
  |some y =>
    rw[D,ac] at q;split at q;case h_2=>cases q
    rename_i d' hd;cases q;rcases h with⟨l,ps',z⟩ | ⟨ps',z⟩
    ·have D:↑(AK.ins false cn fs,ps')=↑y:=by unfold cE at D;rw[z] at D;exact D
     cases D;obtain⟨v,D,p,as,us,rfl,_,_,_,⟨n,dx,U,I,o⟩,V⟩:=ok.slot i _ z;rw[Cl.inj U e] at I;obtain⟨u,h1,h2⟩:=V.getD hd;exact⟨_,D,p,C,dx,_,u,rfl,I,c,b,qZ Z Y h1,k W u H Step.refl ok h2⟩
    ·have D:↑(AK.ins false cn fs,ps')=↑y:=by unfold cE at D;rw[z] at D;exact D
     cases D;obtain⟨v,D,p,us,rfl,_,⟨n,dx,U,I,o⟩,V⟩:=ok.slot i _ z;rw[Cl.inj U e] at I;obtain⟨u,h1,h2⟩:=V.getD hd;exact⟨_,D,p,C,dx,_,u,rfl,I,c,b,qZ Z Y h1,k W u H Step.refl ok h2⟩⟩
variable{l:Addr}
def Ok.chgN(ok:Ok K G H0 W env σ H){s s':Sl}(S:Mo)(e:env[i]?=↑↑s)(U:σ[i]?=↑↑v)(B:aX H s v a)(E:cR K G W (aO H a S.out) s' v)(C:∀(j:Nat) (s:Sl) (v:V),env[j]?=↑↑s->σ[j]?=↑↑v->¬aX H s v l)(t:∀b,aX (aO H a S.out) s' v b->aX H s v b\/b=l):Ok K G H0 W (env.set i ↑s') σ (aO H a S.out)/\Step W H W (aO H a S.out):=by
 have g:W a:=by obtain⟨F,m,h⟩:=ok.slot i s e;rw[U] at m;cases m;exact h.owns B
 have st:Step W H W (aO H a S.out):=⟨λb o q n=>by rw[i3 (λz:b=a=>n (by rw[z];exact g))];exact q,λb z=>.inl z⟩;have x:∀ {j:Nat} {sl:Sl} {u:V} {b:Addr},i≠j->env[j]?=↑↑sl->σ[j]?=↑↑u->aX H sl u b->b≠a:=λ{j sl u b} hj q Y o z=>by
  subst z;exact hj (ok.uniq i j s sl v u b e q U Y B o)
 have bk:∀ {j:Nat} {sl:Sl} {u:V} {b:Addr},i≠j->env[j]?=↑↑sl->σ[j]?=↑↑u->aX (aO H a S.out) sl u b->aX H sl u b:=λ{j sl u b} hj q Y o=>by
  obtain⟨J,c,h⟩:=ok.slot j sl q;rw[Y] at c;cases c;cases sl with
  |sh d=>exact o.elim |ow ds=>exact o |o2 dss=>exact h.back (λl D _ vs I=>by rw[i3 (x hj q Y (.inl D))];exact I) o |ag k p ps=>exact h.back (λl D _ vs I=>by rw[i3 (x hj q Y (.inl D))];exact I) o |al _ _=>exact o.elim |ro _ _=>exact o.elim
 refine⟨⟨λb o q=>?_,ok.good,λb z=>?_,λj sl q=>?_,λj k y s2 A v2 b Y c D I f o2=>?_,by rw[e7,ok.len]⟩,st⟩
 ·rw[i3 (λz=>by rw[z,(ok.wl a g).1] at q;cases q)];exact ok.stay b o q
 ·obtain⟨q,us,t⟩:=ok.wl b z
  by_cases h:b=a
  ·exact⟨q,S,by rw[h,mv]⟩
  ·exact⟨q,us,by rw[i3 h];exact t⟩
 ·rcases qa q with⟨rfl,w,_⟩ | ⟨hj,w⟩
  ·cases w
   exact⟨v,U,E⟩
  ·obtain⟨u,m,h⟩:=ok.slot j sl w
   exact⟨u,m,ok.slstep st h λb vs o c=>⟨h.owns o,by rw[i3 (x hj w m o)];exact c⟩⟩
 ·rcases qa Y with⟨a1,b1,_⟩ | ⟨a1,b1⟩ <;> rcases qa c with⟨r,Z,_⟩ | ⟨r,Z⟩
  ·rw[<-a1,<-r]
  ·subst a1;cases b1
   rw[U] at D;cases D;have o2:=bk r Z I o2;rcases t b f with z |z
   ·exact ok.uniq i k s s2 v v2 b e Z U I z o2
   ·subst z;exact absurd o2 (C k s2 v2 Z I)
  ·subst r;cases Z
   rw[U] at I;cases I;have f:=bk a1 b1 D f;rcases t b o2 with z |z
   ·exact ok.uniq j i y s A v b b1 e D U f z
   ·subst z;exact absurd f (C j y A b1 D)
  ·exact ok.uniq j k y s2 A v2 b b1 Z D I (bk a1 b1 D f) (bk r Z I o2)
def aP.snoc(h:aP K G W H ps as us)(D:W l)(I:H l=↑(.lst vs))(r:aC K H (Ow G W) ds vs):aP K G W H (ps++[.o ds]) (as++[l]) (us++[.ref l]):=by
 induction h with
 |nil=>exact .o D I r .nil |d q _ ih=>exact .d q ih |o a b c _ ih=>exact .o a b c ih
def yJ{f:Str}{v:V}:∀ {fs:ed} {us:fw},f∉fs->fs.length=us.length->cO f v (fs.zip us)=(fs++[f]).zip (us++[v])
 | [],[],_,_=>rfl |g::fs,u::us,hf,hl=>by
   have:g≠f:=λz=>hf (by simp[z]);rw[km,fz,fz,km];show(if g=f then(g,v)::fs.zip us else(g,u)::cO f v (fs.zip us))=_;rw[bu this,yJ (λz=>hf (by simp[z])) (by simpa using hl)]
def ye(i:Nat)(cn f:Str)(F:FA):FS:=λe=>(F e).bind λr=>match r.2[i]? with
 |some ↑(.ag (.ins true c fs) l ps)=>if c=cn/\f∉fs/\fs.length<900 then ↑(.nx,r.2.set i ↑(.ag (.ins true c (fs++[f])) l (ps++[.o r.1]))) else none
 |_=>none
variable{value:Expr}
theorem yK(ca:ka X.K cn m)(an:bZ Nn Cn X)(he:eY X G H0 value F)(f:‹Nn[i]?=↑x›)(hs:‹swapsWith value ↑(.Attribute (.Name x p') m p1) pos.line X.env=pure false›) :
  dN X G H0 (.Assign [.Attribute (.Name x p') m p1] value pos) (ye i cn m F):=let ⟨C,c,hn,g⟩:=ca;⟨(BX ((an.a f).pe) he.out hs).imp λDn σ H zq=>by
 obtain⟨W,env,fl,env',ok,q,k⟩:=zq;unfold ye at q;cases e1:F env with
 |none=>rw[e1] at q;cases q
 |some r =>
   rw[e1,ac] at q;split at q;case h_2=>cases q
   rename_i L fs l ps t;split at q;case isFalse=>cases q
   rename_i u;obtain⟨rfl,hf,M⟩:=u;cases q;refine⟨W,env,r.1,r.2,ok,e1,λW1 ad vs H1 s1 U D N O rp=>?_⟩;obtain⟨v,A,p,as,us,rfl,P,Z,hr,⟨C',dx,z1,I,d⟩,S⟩:=D.slot i _ t;rw[Cl.inj z1 g] at I;have Q:p≠ad:=λz=>by rw[z,O] at I;cases I
   have na:ad∉as:=λz=>by
    obtain⟨v',e,h⟩:=U.slot i _ t;rw[A] at e;cases e;exact N (h.owns (.inr ⟨p,us,rfl,⟨d,C,dx,I⟩,S.parts_iff.mpr z⟩))
   refine⟨_,A,p,C,dx,fs.zip us,rfl,I,c,hn,?_,?_⟩
   ·rw[List.length_zip];lia
   ·have st:Step (bO W1 ad) H1 (bO W1 ad) (aO H1 p (.ins C dx ((fs++[m]).zip (us++[.ref ad])))):=⟨λb o q n=>by rw[i3 (λz:b=p=>n (by rw[z];exact P))];exact q,λb z=>.inl z⟩
    have B:aO H1 p (.ins C dx ((fs++[m]).zip (us++[.ref ad]))) ad=↑(.lst vs):=by rw[i3 (Ne.symm Q)];exact O
    have E:aP X.K G (bO W1 ad) (aO H1 p (.ins C dx ((fs++[m]).zip (us++[.ref ad])))) ps as us:=S.step (λb ws R z=>⟨(S.own R).1,by rw[i3 (λy:b=p=>by subst y;exact(df.mp Z).1 R)];exact z⟩) (λ_ _ r=>D.rep st r) λ_ _ r=>D.reps st r;have Y:(fs++[m]).length=(us++[V.ref ad]).length:=by rw[ai,ai,d];rfl
    obtain⟨w1,w2⟩:=D.chgN (l:=ad) (s':=.ag (.ins true L (fs++[m])) l (ps++[.o r.1])) (.i C dx ((fs++[m]).zip (us++[.ref ad]))) t A (.inl rfl)
     ⟨p,as++[ad],us++[.ref ad],rfl,P,by
      rw[df] at Z ⊢;refine⟨λz=>?_,pz.mpr ⟨Z.2,by simp,λy hy z u=>?_⟩⟩
      ·rcases d6.mp z with z |z
       ·exact Z.1 z
       ·exact Q (dm.mp z)
      ·rw[dm.mp u];exact λw=>na (w ▸ hy),hr,⟨C,dx,g,mv,Y⟩,E.snoc (.inr rfl) B (D.reps st rp)⟩
     (λj s v e e4=>U.noOwn N j s v e e4) λb J=>by
       rcases J with J | ⟨p',us',z,y,j,ds,h1,h2⟩
       ·exact .inl (.inl J)
       ·cases z
        have ey:us'=us++[.ref ad]:=vk (K:=X.K) (k:=.ins true L (fs++[m])) (us:=us++[.ref ad]) ⟨C,dx,g,mv,Y⟩ y;rw[ey] at h2;by_cases T:j<ps.length
        ·rw[a0 T] at h1
         rw[a0 (by rw[<-S.length];exact T)] at h2;exact .inl (.inr ⟨p,us,rfl,⟨d,C,dx,I⟩,j,ds,h1,h2⟩)
        ·rw[b9 (by rw[<-S.length];lia),<-S.length] at h2
         cases hjj:j-ps.length with
         |zero=>rw[hjj] at h2;simp at h2;exact .inr h2.symm |succ n=>rw[hjj] at h2;simp at h2
    rw[yJ hf d];exact k _ σ _ (s1.trans w2) w1⟩
end L2
namespace L2
open PySem
abbrev m4:ed:=["kept", "states"]
end L2
namespace L2
open PySem PySem.Spec PyProof.Rows
def rd(i:Nat)(g:FE)(F:FA):FS:=λe=>(F e).bind λr=>match r.2[i]? with
 |some ↑(.o2 dss)=>(g (hU r.2)).bind λq=>(match q.1 with | .int k=>(cU dss.length k).map λj=>(.nx,r.2.set i ↑(.o2 (dss.set j r.1))) |_=>none)
 |_=>none
def Fk(i:Nat)(g h f:FE):FS:=λe=>(f e).bind λr=>match r.2[i]? with
 |some ↑(.o2 dss)=>(g (hU r.2)).bind λq=>(h (hU r.2)).bind λp=>(match q.1,p.1 with
   | .int k,.int m=>(cU dss.length k).bind λj=>(dss[j]?).bind λds=>(cU ds.length m).map λn=>(.nx,r.2.set i ↑(.o2 (dss.set j (ds.set n r.1))))
   |_,_=>none)
 |_=>none
end L2
namespace L2
open PySem PySem.Spec PyProof.Rows PySem.F
end L2
namespace L2
open PySem PySem.Spec PyProof.Rows
def fV(N:ed)(sc:Scope):ed:=N.filter λu=>sc.names.lookup u==some .cell
def gA(N ps:ed)(sc:Scope):Bool:=decide (sc.kind=.function) && !sc.isCoroutine && !sc.isGenerator && decide N.Nodup && decide (N.take ps.length=ps) && decide (∀y∈sc.names,y.2≠.free) && N.all λx=>gC x && (sc.names.lookup x==some .local || sc.names.lookup x==some .cell)
variable{N ps:ed}{sc:Scope}
def sj(h:gA N ps sc=true):ug N ps sc/\∀x∈N,Loc sc x/\(x==("__debug__" : Str))=false/\(x==("__classdict__" : Str))=false:=by
 unfold gA at h;simp only[il,kx,lh,jk] at h;obtain⟨⟨⟨⟨⟨⟨h1,h2⟩,U⟩,V⟩,I⟩,Y⟩,Z⟩:=h;have S:∀x∈N,Loc sc x/\(x==("__debug__" : Str))=false/\(x==("__classdict__" : Str))=false:=λx D=>by
  obtain⟨a,b⟩:=Z x D;have a:=uz a;rcases Bool.or_eq_true _ _ ▸ b with b |b
  ·exact⟨.inl (ut b),a⟩
  ·exact⟨.inr (ut b),a⟩
 exact⟨⟨h1,h2,U,V,I,λx D=>(S x (by rw[<-I] at D;exact m9 D)).1,Y⟩,S⟩
variable{P:Program}{w:World}{K:fc}{mg:Str->ei}{base:Heap}{CX:fE}{qual:Str}{f:Addr}{cdv:Value}{A:Around}{outer:er}{s:Shared}{H:Hp}{E:XK}
def vi(h:gA N ps sc=true):bZ N (fV N sc) (bC CX P w K mg base N qual sc f cdv A outer s H E) :=
 ⟨rfl,λi x e=>let z:=(sj h).2 x (bv e);⟨e,z.1.elim .inl λq=>.inr (.inl q),z.2.1,z.2.2⟩,λu D=>by
  obtain⟨_,h2⟩:=jq.mp D;exact .inl (ut h2)⟩
def vh(h:gA N ps sc=true):eF N (bC CX P w K mg base N qual sc f cdv A outer s H E) :=
 ⟨λi x e=>⟨(sj h).1.nd,e,((sj h).2 x (bv e)).1,.inl rfl⟩⟩
variable{X:Cx}{i:Nat}{x:Str}{pos:Pos}
def eF.pg(t:eF N X)(h:‹N[i]?=↑x›):PG X (.Name x pos) (ni i):=ot (t.t h).nd (t.t h).n (t.t h).l (t.t h).f
variable{G:Gd}{H0:Hp}{e:Expr}{p':Pos}{F:FA}
def eF.psF(t:eF N X)(D:eY X G H0 e F)(h:‹N[i]?=↑x›)(I:‹swapsWith e ↑(.Name x p') pos.line X.env=pure false›):PS X (.Assign [.Name x p'] e pos) (dX (g8 X.K G H0 F) (ni i)):=oB (t.t h).nd (t.t h).n (t.t h).l D.out I (t.t h).f
variable{P:ee->Prop}
def Fm(h:P [])(us:ee)(e:us.length=0):P us:=se e ▸ h
variable{n:Nat}
def k7(h:∀a,∀us:ee,us.length=n->P (a::us))(us:ee)(e:us.length=n+1):P us:=by
 cases us with
 |nil=>cases e
 |cons a us=>exact h a us (pq e)
def us1(h:∀a,P [a]):∀us,us.length=1->P us:=k7 λa=>Fm (h a)
def us2(h:∀a b,P [a,b]):∀us,us.length=2->P us:=k7 λa=>us1 (P:=λus=>P (a::us)) (h a)
def us3(h:∀a b c,P [a,b,c]):∀us,us.length=3->P us:=k7 λa=>us2 (P:=λus=>P (a::us)) (h a)
def us4(h:∀a b c d,P [a,b,c,d]):∀us,us.length=4->P us:=k7 λa=>us3 (P:=λus=>P (a::us)) (h a)
def us5(h:∀a b c d e,P [a,b,c,d,e]):∀us,us.length=5->P us:=k7 λa=>us4 (P:=λus=>P (a::us)) (h a)
def bX(K:fc)(mg:Str->ei)(st:Stmt)(x:Str)(ps:ed):Prop:=∃f fd,fR K x x st f fd/\Binds K fd ps []/\mg x=↑(.ref f)
def gL(K:fc)(C:Addr)(st:Stmt)(x qual:Str)(ps:ed):Prop:=∃f fd,fR K x qual st f fd/\Binds K fd ps []/\gH K C x f
variable{P:Program}{st:Stmt}{k ar:Nat}{g:FS}
theorem kc(T:bX K mg st x ps)(N:ed)(D:∀ {f:Addr} {cdv:Value} {A:Around} {outer:er} {s:Shared} {H:Hp} {E:XK} {G:Gd} {H0:Hp},aV k (A.deeper (envOfC x (im st) s.heap.objs.size f cdv)) ->
   bZ N (fV N (im st)) (bC bF P w K mg base N x (im st) f cdv A outer s H E).nox->eF N (bC bF P w K mg base N x (im st) f cdv A outer s H E).nox->eI (bC bF P w K mg base N x (im st) f cdv A outer s H E).nox G H0 (mz st) g)(h:gA N ps (im st)=true:=by decide +kernel)(I:gC x=true:=by decide +kernel)(S:‹n=N.length›)(U:‹ar=ps.length›):bR P w K mg base bF x (k+1) (bU K (aL n ar g)):=by
 obtain⟨f,fd,F,b,m⟩:=T;exact⟨f,fd,ps,jV F (sj h).1 S U λcdv A outer s H E G H0 V=>D V (vi h).nox (vh h).nox,m,F.kp,b,(uz I).1⟩
theorem yL(T:bX K mg st x ps)(N:ed)(D:∀ {f:Addr} {cdv:Value} {A:Around} {outer:er} {s:Shared} {H:Hp} {E:XK} {G:Gd} {H0:Hp},aV k (A.deeper (envOfC x (im st) s.heap.objs.size f cdv)) ->
   bZ N (fV N (im st)) (bC bF P w K mg base N x (im st) f cdv A outer s H E).nox->eF N (bC bF P w K mg base N x (im st) f cdv A outer s H E).nox->eI (bC bF P w K mg base N x (im st) f cdv A outer s H E).nox G H0 (mz st) g)(h:gA N ps (im st)=true:=by decide +kernel)(I:gC x=true:=by decide +kernel)(S:‹n=N.length›)(U:‹ar=ps.length›):bR P w K mg base bF x (k+1) (iI K (fJ n ar g)):=by
 obtain⟨f,fd,F,b,m⟩:=T;exact⟨f,fd,ps,qB F (sj h).1 S U λcdv A outer s H E G H0 V=>D V (vi h).nox (vh h).nox,m,F.kp,b,(uz I).1⟩
abbrev Bd(P:Program)(w:World)(K:fc)(mg:Str->ei)(base:Heap)(N:ed)(qual:Str)(st:Stmt)(k:Nat)(g:FS):Prop:=∀ {f:Addr} {cdv:Value} {A:Around} {outer:er} {s:Shared} {H:Hp} {E:XK} {G:Gd} {H0:Hp},aV k (A.deeper (envOfC qual (im st) s.heap.objs.size f cdv)) ->
   bZ N (fV N (im st)) (bC (dV P w) P w K mg base N qual (im st) f cdv A outer s H E)->eF N (bC (dV P w) P w K mg base N qual (im st) f cdv A outer s H E)->eI (bC (dV P w) P w K mg base N qual (im st) f cdv A outer s H E) G H0 (mz st) g
theorem bX.cal{sp:Sp}(T:bX K mg st x ps)(D:gC x=true)(h:∀f fd,fR K x x st f fd->bK P w K mg base CX k f fd ps sp):bR P w K mg base CX x k sp:=by
 obtain⟨f,fd,F,b,m⟩:=T;exact⟨f,fd,ps,h f fd F,m,F.kp,b,(uz D).1⟩
variable{p:Nat}
def wj(T:bX K mg st x ps)(N:ed)(D:Bd P w K mg base N x st k g)(h:gA N ps (im st)=true:=by decide +kernel)(I:gC x=true:=by decide +kernel)(S:‹n=N.length›)(U:‹p+ar=ps.length›):bR P w K mg base (dV P w) x (k+1) (fD K (bV n p ar g) (xQ n p ar g)) :=
 T.cal I λf fd F=>y1 F (sj h).1 S U λcdv A outer s H E G H0 V=>D V (vi h) (vh h)
variable{C:Addr}{cn:Str}
def zy(D:Cl K cn C)(c:fQ K C)(T:gL K C st x qual ps)(N:ed)(I:Bd P w K mg base N qual st k g)(h:gA N ps (im st)=true:=by decide +kernel)(S:‹n=N.length›)(U:‹p+ar=ps.length›):eO P w K mg base cn x (k+1) (fD K (bV n p ar g) (xQ n p ar g)):=by
 obtain⟨f,fd,F,b,m⟩:=T;exact⟨C,f,fd,ps,c,m,y1 F (sj h).1 S U λcdv A outer s H E G H0 V=>I V (vi h) (vh h),b,D⟩
def yM(D:Cl K cn C)(c:fQ K C)(T:gL K C st x qual ps)(N:ed)(I:Bd P w K mg base N qual st k g)(h:gA N ps (im st)=true:=by decide +kernel)(S:‹n=N.length›)(U:‹p+ar=ps.length›):eO P w K mg base cn x (k+1) (hI K (eD n p ar g) (xL n p ar g)):=by
 obtain⟨f,fd,F,b,m⟩:=T;exact⟨C,f,fd,ps,c,m,y2 F (sj h).1 S U λcdv A outer s H E G H0 V=>I V (vi h) (vh h),b,D⟩
def Fn(D:Cl K cn C)(I:mg cn=↑(.ref C))(S:PySem.W.makesIn K C=true)(kp:PySem.W.keepIn K (.ref C)=true)(T:gL K C st "__init__" qual ps)(N:ed)(U:Bd P w K mg base N qual st k g)(h:gA N ps (im st)=true:=by decide +kernel)(V:gC cn=true:=by decide +kernel)(Y:‹n=N.length›)(Z:‹p+ar=ps.length›) :
  iO P w K mg base cn (k+1) (hI K (eD n p ar g) (xL n p ar g)):=by
 obtain⟨f,fd,F,b,m⟩:=T;exact⟨C,f,fd,ps,⟨S,m.at_,m.fn,kp⟩,y2 F (sj h).1 Y Z λcdv A outer s H E G H0 a=>U a (vi h) (vh h),I,b,D,(uz V).1⟩
def Fo(N:ed)(D:∀ {f:Addr} {cdv:Value} {A:Around} {outer:er} {s:Shared} {H:Hp} {E:XK} {G:Gd} {H0:Hp},aV k (A.deeper (envOfC x (im st) s.heap.objs.size f cdv)) ->
   bZ N (fV N (im st)) (bC bF P w K mg base N x (im st) f cdv A outer s H E).nox->eF N (bC bF P w K mg base N x (im st) f cdv A outer s H E).nox->eI (bC bF P w K mg base N x (im st) f cdv A outer s H E).nox G H0 (mz st) g)(h:gA N ps (im st)=true:=by decide +kernel)(I:‹n=N.length›)(S:‹ar=ps.length›):∀f fd,fR K x x st f fd->bK P w K mg base bF (k+1) f fd ps (bU K (aL n ar g)) :=
 λf fd F=>jV F (sj h).1 I S λcdv A outer s H E G H0 U=>D U (vi h).nox (vh h).nox
variable{s:Str}{h:Heap}{oc:Value}{od an:Option Addr}{osl:Array ei}
def law_mk{fa:Addr}{m:f0->f4}{kV I U cdv ct:Value}(X:K.In h)(G:h.Ns mainGlobals mg)(S:mg x=↑(.ref fa))(a:PySem.W.nsIn K mainGlobals x=↑↑(.ref f))(l:K.lookup f=↑⟨oc,od,.func (PySem.W.fnOf x x (uf st) (mz st) (im st) .none kV I U an cdv ct),osl⟩)(c:PySem.W.codeIn K cdv x=true)(k':PySem.W.keepIn K (.ref f)=true)(V:∀v:Value,bindArgs (PySem.W.fnOf x x (uf st) (mz st) (im st) .none kV I U an cdv ct) ⟨[v],[]⟩=pure [(s,v)])(F:∀base f fd,fR K x x st f fd->bK P w K mg base bF k f fd [s] (bU K m))(good:∀ns:ep,ns.length<=63->m [.lst (ns.map D.int)]=↑(.bl true)) :
  ∃fd:FuncData,(∀(t:Shared) (v:Value),BindsTo t fd ⟨[v],[]⟩ [(s,v)])/\∀base:Heap,K.In base->base.Ns mainGlobals mg->bK P w K mg base bF k fa fd [s] (l0 K):=by
 have e:=S.symm.trans (lj X G a);cases e;exact⟨_,λt v=>.of_eq (V v),λbase _ _=>DQ (F base _ _ (pA l c k')) good⟩
def walkD{l:PySem.W.OpenLaw}{q:Program}{D:ed}{U:(Str->ei)->Heap->Prop}{S:World->Heap->Prop}{d:DefRec}{K:Params->fc}(V:aV k callerA)(Y:l.most=↑63)(I:d.params.defaults=[])(Z:∀(w:World) (h:Heap),S w h->(K w.params).In h)(F:∀(w:World) (mg:Str->ei) (fa:Addr) (h:Heap),(K w.params).In h->h.Ns mainGlobals mg->mg d.name=↑(.ref fa) ->
   ∃fd:FuncData,(∀(t:Shared) (u:Value),BindsTo t fd ⟨[u],[]⟩ [(s,u)])/\∀base:Heap,(K w.params).In base->base.Ns mainGlobals mg->bK l.prog w (K w.params) mg base bF k fa fd [s] (l0 (K w.params))) :
  PySem.W.WalkO q D U S l.row.toRowW d [] (λf vs=>PySem.call f vs) :=
 CG (n:=63) (k:=k) (x:=s) (CX:=λ_=>bF) (sp:=λw=>l0 (K w.params)) Y (by decide) I V Z F (λ_ _ a ns b _ c=>⟨a,ns,rfl,c,b,λ_=>rfl⟩) λ_ _ _ _ _ z=>z
def def_mk{kV D I cdv ct:Value}(X:K.In h)(G:h.Ns mainGlobals mg)(a:PySem.W.nsIn K mainGlobals x=↑↑(.ref f))(l:K.lookup f=↑⟨oc,od,.func (PySem.W.fnOf x x (uf st) (mz st) (im st) .none kV D I an cdv ct),osl⟩)(c:PySem.W.codeIn K cdv x=true)(k:PySem.W.keepIn K (.ref f)=true)(S:∀us:ee,us.length=ps.length->bindArgs (PySem.W.fnOf x x (uf st) (mz st) (im st) .none kV D I an cdv ct) ⟨us,[]⟩=pure (ps.zip us)):bX K mg st x ps :=
 ⟨f,_,pA l c k,.all S,lj X G a⟩
def exc_mk{c:Str}(X:K.In h)(G:h.Ns mainGlobals mg)(a:PySem.W.nsIn K mainGlobals c=↑↑(.ref C))(b:PySem.W.excIn K C qX "ValueError.__new__" = true)(d:gC c=true):ik K mg c:=⟨C,a,b,lj X G a,(uz d).1⟩
def con_mk{z:Int}{t:Tok}(X:K.In h)(G:h.Ns mainGlobals mg)(a:PySem.W.nsIn K mainGlobals x=↑↑(.int z t)):∃t,mg x=↑(.int z t):=⟨t,lj X G a⟩
def mef_mk{kV D I cdv ct:Value}(a:PySem.W.findIn K (.ref C) x=↑↑(.ref f))(l:K.lookup f=↑⟨oc,od,.func (PySem.W.fnOf x qual (uf st) (mz st) (im st) .none kV D I an cdv ct),osl⟩)(c:PySem.W.codeIn K cdv qual=true)(k:PySem.W.keepIn K (.ref f)=true)(i:PySem.W.isFn K (.ref f)=true)(S:∀us:ee,us.length=ps.length->bindArgs (PySem.W.fnOf x qual (uf st) (mz st) (im st) .none kV D I an cdv ct) ⟨us,[]⟩=pure (ps.zip us)):gL K C st x qual ps :=
 ⟨f,_,pA l c k,.all S,a,i,k⟩
def dO(n ar:Nat)(g:(f0->f4)->FS):Nat->f0->f4
 |0=>λ_=>none |i+1=>aL n ar (g (dO n ar g i))
def Fp{b:List Stmt}:eI X G H0 b (λ_=>none):=⟨λpins s σ H D I q=>by
 obtain⟨W,env,fl,env',ok,q,k⟩:=q;cases q⟩
def yN{P:Program}{w:World}{K:fc}{mg:Str->ei}{base:Heap}{ps:ed}{x:Str}{st:Stmt}{n ar:Nat}{g:(f0->f4)->FS}(T:bX K mg st x ps)(N:ed)(V:∀(j:Nat) (m:f0->f4) {f:Addr} {cdv:Value} {A:Around} {outer:er} {s:Shared} {H:Hp} {E:XK} {G:Gd} {H0:Hp},bR P w K mg base bF x j (bU K m)->aV j (A.deeper (envOfC x (im st) s.heap.objs.size f cdv)) ->
   bZ N (fV N (im st)) (bC bF P w K mg base N x (im st) f cdv A outer s H E).nox->eF N (bC bF P w K mg base N x (im st) f cdv A outer s H E).nox->eI (bC bF P w K mg base N x (im st) f cdv A outer s H E).nox G H0 (mz st) (g m))(h:gA N ps (im st)=true:=by decide +kernel)(I:gC x=true:=by decide +kernel)(S:‹n=N.length›)(U:‹ar=ps.length›):∀i,bR P w K mg base bF x (i+1) (bU K (dO n ar g i))
 |0=>by
   have c:=kc (k:=0) (g:=λ_=>none) (n:=n) (ar:=ar) (base:=base) (w:=w) (P:=P) T N (λ_ _ _=>Fp) h I S U;have e:aL n ar (λ_=>none)=dO n ar g 0:=by
    funext ds;unfold aL dO;split <;> rfl
   rw[<-e];exact c
 |i+1=>kc (k:=i+1) (g:=g (dO n ar g i)) T N (λr a t=>V (i+1) (dO n ar g i) (yN T N V h I S U i) r a t) h I S U
def Fq{g:(f0->f4)->FS}(i:Nat)(T:bX K mg st x ps)(N:ed)(I:∀(j:Nat) (m:f0->f4) {f:Addr} {cdv:Value} {A:Around} {outer:er} {s:Shared} {H:Hp} {E:XK} {G:Gd} {H0:Hp},bR P w K mg base bF x j (bU K m)->aV j (A.deeper (envOfC x (im st) s.heap.objs.size f cdv)) ->
   bZ N (fV N (im st)) (bC bF P w K mg base N x (im st) f cdv A outer s H E).nox->eF N (bC bF P w K mg base N x (im st) f cdv A outer s H E).nox->eI (bC bF P w K mg base N x (im st) f cdv A outer s H E).nox G H0 (mz st) (g m))(h:gA N ps (im st)=true:=by decide +kernel)(S:gC x=true:=by decide +kernel)(U:‹n=N.length›)(V:‹ar=ps.length›):bR P w K mg base bF x (i+1) (bU K (dO n ar g i)):=yN T N I h S U V i
def ri(K:fc)(a:Addr)(n:Nat):It :=
 ⟨λi H=>∃xs x,cN K H a xs/\xs.length=n/\i<n/\xs[n-1-i]?=↑x,λi H x H'=>H'=H/\∀xs,cN K H a xs->xs[n-1-i]?=↑x,λi _=>i=n⟩
variable{tg:Expr}
def Fs(a it:Addr)(n:Nat):f_ P w K tg (ri K a n) [it] it (λi h=>h.IsRevIter it a ((n:Int)-1-(i:Nat))) where
 mem:=by simp
 obj:=λi h st b D=>by
  have e:b=it:=by simpa using D
  subst e;obtain⟨o,e,c,d⟩:=st;exact⟨o,e,λv z=>by rw[d] at z;cases z⟩
 keep:=λi h h' st k=>st.at λo e=>k it ⋯ o e
 item:=by
  intro X hP Y Z r i pins s σ H E I V st U;subst hP Y Z;obtain⟨xs,x,t,O,hi,y⟩:=U;obtain⟨its,A,p,Q⟩:=I.list t;obtain⟨u,B,C⟩:=A.get y;obtain⟨f,g,F,j,l,m⟩:=V it ⋯;have q:(n:Int)-1-(i:Nat)=((n-1-i:Nat):Int):=by omega
  rw[q] at st;refine wpAny_pyNext_rev_item st p.isList (x:=u) (by simpa using B) λh' S G=>?_;have J:Inv X pins σ H { s with heap:=h' }:=I.turned (t':=s.toks) (λb o D e=>(G.2 b D).trans e) f g j l m;have L:((n-1-i:Nat):Int)-1=(n:Int)-1-((i+1:Nat):Int):=by omega
  rw[L] at S;obtain⟨o,e,c,d⟩:=id S;exact⟨u,rfl,kK (s:={ s with heap:=h' }) e c d (by decide) ⟨x,H,J,C,⟨rfl,λys M=>by rw[I.list_inj M t];exact y⟩,S,λb D=>(V b D).1⟩⟩
 done:=by
  intro X hP Y Z r i pins s σ H E I V st U;subst hP Y Z;have U:i=n:=U;subst U;obtain⟨f,g,F,j,l,m⟩:=V it ⋯;have q:(i:Int)-1-(i:Nat)=-1:=by omega
  rw[q] at st;exact wpAny_pyNext_rev_end (I.ok.hd r) st λh' N=>⟨rfl,I.turned (t':=s.toks) (λb o D e=>N b o D e) f g j l m⟩
 self:=λ_ _ _ _ _ st h=>wpAny_pyIter_revIter st h
def rk(K:fc)(ta:TA):TI:=λσ H R=>ta σ H λvs H1=>∃a xs,vs=[.ref a]/\cN K H1 a xs/\R (ri K a xs.length) H1
variable{a:Expr}
def Ft{ta:TA}{p:Pos}(U:Gl X "reversed")(V:X.mg "reversed" = none)(Y:PA X [a] ta)(Z:‹starEach [a] X.env=[(false,eval a X.env)]›):PI X tg (.Call (.Name "reversed" p) [a] [] pos) (rk X.K ta):=by
 intro pins s σ H R I h;refine Call_ (ud I U V boot_reversed (f6 (aU (Y pos pins s σ H _ I h) λus D c=>?_) Z rfl));obtain⟨vs,H1,S,d,f⟩:=c;obtain⟨a,xs,e,g,q⟩:=f;subst e;cases d with
 |cons r rr =>
   cases rr;cases r;obtain⟨its,i,p,k⟩:=S.list g;refine call_reversed_list p.isList ?_;refine wpAny_pyIter_revIter ⟨_,cg _ rfl,rfl,rfl⟩ ?_;refine⟨D.heap.objs.size,[D.heap.objs.size],_,_,H1,rfl,S.kept (t':=D.toks) λb o e=>bc _ e,Fs a _ _,⟨_,cg _ rfl,rfl,?_⟩,λb j=>?_,q⟩
   ·have e:=i.length
    show Data.fields #[.ref a,rawInt ((its.toArray.size:Int)-1)]=_;rw[bi,<-e];simp
   ·have e:b=D.heap.objs.size:=by simpa using j
    subst e;exact S.fpOk (bj _) (S.hok.fresh (bj _))
def jC(ds:f0):Option f0:=match ds with | [.lst ds]=>↑ds.reverse |_=>none
def Fu{W:Addr->Prop}{a:Addr}{vs:fw}{ds:f0}{env:aJ}{σ:St}(ok:Ok X.K G H0 W env σ H)(h:fH X.K H (Ow G W) a vs)(r:aC X.K H (Ow G W) ds vs):Walk X.K G (ri X.K a vs.length) W H ds.reverse where
 go:=λW' H' i d st e=>by
  have S:=r.length;have hi:i<ds.length:=by simpa using(au.mp e).1
  rw[List.getElem?_reverse hi] at e;obtain⟨v,I,U⟩:=(ok.reps st r).get e;have h':=(ok.lsstep st h).sq;rw[S] at I;exact⟨⟨vs,v,h',rfl,by omega,I⟩,λx H'' ⟨e2,y⟩=>⟨e2,by have:=y vs h';rw[I] at this;cases this;exact U⟩⟩
 stop:=λW' H' st=>by
  show ds.reverse.length=vs.length;rw[kf,r.length]
def Fv(U:dM X G H0 [a] F)(S:Bn X "reversed":=by walk_at "b")(V:‹starEach [a] X.env=[(false,eval a X.env)]›):gE X G H0 tg (.Call (.Name "reversed" p') [a] [] pos) (jb jC F) :=
 ⟨gN.imp (Ft S.g S.m U.out V) λσ H R Y=>by
  obtain⟨W,env,ds,env',ok,q,k⟩:=Y;cases e1:F env with
  |none=>simp[e1] at q |some z =>
    obtain⟨as,D⟩:=z;cases e2:jC as with
    |none=>simp[e1,e2] at q |some d' =>
      have q:↑(d',D)=↑(ds,env'):=by simpa[jb,e1,e2] using q
      cases q;refine⟨W,env,as,_,ok,e1,λW1 vs H1 Z I p1=>?_⟩;unfold jC at e2;split at e2
      ·cases e2
       obtain⟨v,rfl,b⟩:=qw p1;obtain⟨a,vs,rfl,h,r⟩:=b.lst_;exact⟨a,vs,rfl,h.sq,k W1 _ H1 Z I (Fu I h r)⟩
      ·cases e2⟩
def rl(o:Obj)(C:Addr):Prop:=∃vs,o.cls=.ref C/\o.data=.fields vs/\vs[2]?=some .none
end L2
namespace L2
open PySem PySem.Spec PyProof.Rows PySem.W
structure Fw (K:fc) (C:Addr):Prop where
 ga:PySem.W.findIn K (.ref C) "__getattribute__" = ↑↑(.builtin "BaseException.__getattribute__")
 hk:PySem.W.findIn K (.ref C) "__getattr__" = ↑none
 fd:PySem.W.findObj K C none "__class__" = ↑(.bind (.builtin "getset_descriptor.__get__") (.builtin "object.__class__"))
 ob:PySem.W.mroIn K C (.type "object")=↑true
 be:PySem.W.mroIn K C (.type "BaseException")=↑true
def yO(o:Obj)(C:Addr):Prop:=rl o C/\o.dict=none
structure Hd (ea C:Addr) (X:Cx):Prop where
 hh:X.A.handled=↑(.ref ea)
 ob:∃o,X.s₀.heap.get? ea=↑o/\yO o C
 h0:X.H₀ ea=none
 nf:ea∉X.fs
 nx:ea∉X.ex
structure Iw (P:Program) (w:World) (K:fc) (mg:Str->ei) (base:Heap) (k:Nat) (f:Addr) (fd:FuncData) (ps:ed) (kd:Str->f4):Prop where
 len:ps.length=1
 run:∀(A:Around) (outer:er) (s:Shared) (H:Hp) (ea C:Addr) (c:Str) (o:Obj) (d:D) (O:Addr->Prop) (Q:VK) (args:Args),aV k { A with handled:=none }->A.handled=↑(.ref ea)->fF P w K mg base A outer s H->BindsTo s fd args (ps.zip [.ref ea]) ->
  s.heap.get? ea=↑o->yO o C->Cl K c C->H ea=none->ea∉dJ outer->kd c=↑d->(∀v H',aS H H'->aN K H' (λa=>O a\/H a=none) d v->Q v H')->codeAny (model P w) A (.call (.ref f) args) (CR bF outer P w H s Q E0) s
def rm:ed:=["UnknownStack", "EmptyStack", "UnknownPlace", "BadHours", "BadLoss", "BadCount", "HouseFull", "DeedsFull", "NothingWaits", "NothingDone", "ShortOrder", "TooManyOrders", "NotGone"]
def Fx(K:fc)(C:Addr):Bool:=findIn K (.ref C) "__getattribute__"==↑↑(.builtin "BaseException.__getattribute__") && findIn K (.ref C) "__getattr__"==↑none && (match findObj K C none "__class__" with |some (.bind (.builtin g) (.builtin a))=>g=="getset_descriptor.__get__" && a=="object.__class__" |_=>false) && mroIn K C (.type "object")==↑true && mroIn K C (.type "BaseException")==↑true
def iQ(K:fc)(n:Str)(p:Addr->Bool):Bool:=match nsIn K mainGlobals n with |some ↑(.ref R)=>p R |_=>false
def yP(K:fc):Bool:=rm.all λc=>iQ K c λC=>Fx K C && kitOne K (.ref C) (.type "ValueError")==↑true && iQ K "RotError" (λR=>exmOne K (.ref C) (.ref R)==↑true) && rm.all λn=>iQ K n λR=>kitOne K (.ref C) (.ref R)==↑(c==n)
structure Fy (K:fc) (mg:Str->ei):Prop where
 b:yP K=true
 m:∀n∈("RotError" : Str)::rm,∀R,nsIn K mainGlobals n=↑↑(.ref R)->mg n=↑(.ref R)
def Ix{K:fc}{mg:Str->ei}{h:Heap}(X:K.In h)(G:h.Ns mainGlobals mg)(b:yP K=true):Fy K mg:=⟨b,λ_ _ _ e=>mg_of X G e⟩
end L2
local macro_rules | `(!$t)=>`(some (.sh $t))
local macro_rules | `([:$t])=>`(L2.fC (.int $t))
namespace LB
open PySem L2
def yQ:FS:=aK (fBin dSub (fBin dMul (fIxV 0 [:1]) (fIxV 1 [:0])) (fBin dMul (fIxV 1 [:1]) (fIxV 0 [:0])))
def lP:f0->f4:=aL 2 2 yQ
def lQ:FS:=sSeq (sSet 2 (f9 lP (bz (fVar 0) (bz (fVar 1) (aB))))) (sSeq (sIf (fTst (fBin dGt (fVar 2) [:0])) (aK [:1]) (sNil)) (sSeq (sIf (fTst (fBin dLt (fVar 2) [:0])) (aK (fY dG [:1])) (sNil)) (aK [:0])))
def um:f0->f4:=aL 3 2 lQ
def yR:FS:=aK (ve (dZ "int" (fVar 0)) (pM (dZ "bool" (fVar 0))))
def xv:f0->f4:=aL 1 1 yR
def rv:FS:=sSeq (sIf (fTst (fBin dLt (fVar 1) (jd 0))) (aK (fIxV 0 (fVar 1))) (sNil)) (aK [:0])
def zd:f0->f4:=aL 2 2 rv
def lR:FS:=sSeq (sSet 5 (f9 zd (bz (fVar 0) (bz (fVar 4) (aB))))) (sSeq (sIf (fTst (fBin dEq (fBin aQ (jd 0) [:2]) [:1])) (sSeq (sSet 3 (fBin aQ (fBin iq (fBin iq (fBin iq (fBin dMul (fVar 3) [:48271]) (fVar 5)) (fVar 4)) [:1]) [:2147483647])) (sSet 5 (fBin aQ (fBin dMul (fBin iq (fVar 3) (fVar 4)) [:69621]) [:2147483647]))) (sNil)) (j8 (n6 2 (fVar 5))))
def yS:FS:=sSeq (bY 2 (ig (aB))) (sSeq (sSet 3 [:7]) (sSeq (bQ 4 (jb eG (bz (fVar 1) (aB))) (lR)) (aK (fVar 2))))
def zh:f0->f4:=aL 6 2 yS
def Fz:FS:=aK (fIxV 0 [:1])
def lS:f0->f4:=aL 1 1 Fz
def F0:FS:=aK (fIxV 0 [:2])
def lT:f0->f4:=aL 1 1 F0
def F1:FS:=aK (bP (bz [:1] (bz (f9 lS (bz (fVar 0) (aB))) (bz (f9 lT (bz (fVar 0) (aB))) (aB)))))
def lU:f0->f4:=aL 1 1 F1
def yT:FS:=aK (bP (bz (fBin iq (fIxV 0 [:0]) (fIxV 1 [:0])) (bz (fBin iq (fIxV 0 [:1]) (fIxV 1 [:1])) (bz (fBin iq (fIxV 0 [:2]) (fIxV 1 [:2])) (aB)))))
def lV:f0->f4:=aL 2 2 yT
def yU:FS:=aK (bP (bz (fIxV 0 [:1]) (bz (fIxV 0 [:2]) (aB))))
def zi:f0->f4:=aL 1 1 yU
def lX:FS:=aK (fBin dGt (f9 um (bz (f9 zi (bz (fVar 0) (aB))) (bz (f9 zi (bz (fVar 1) (aB))) (aB)))) [:0])
def uo:f0->f4:=aL 2 2 lX
def lY:FS:=sSet 3 (f9 lV (bz (iM 1) (bz (fVar 3) (aB))))
def lZ:FS:=sSeq (sSet 3 (f9 lU (bz (fVar 2) (aB)))) (sSeq (nk (dY (fTst (fBin dGt (jd 1) [:0])) (cI (fTst (f9 uo (bz (fIxV 1 (fY dG [:1])) (bz (fVar 3) (aB))))))) (lY) 10000) (j8 (n6 1 (fVar 3))))
def ry:FS:=sSeq (bY 1 (ig (aB))) (sSeq (bQ 2 (cM (fVar 0)) (lZ)) (aK (fVar 1)))
def rz:f0->f4:=aL 4 1 ry
def rA:FS:=sSeq (sIf (fTst (fBin dEq (jd 0) [:0])) (aK (aH (ig (aB)))) (sNil)) (sSeq (sSet 1 (fIxV 0 (fBin dSub (jd 0) [:1]))) (aK (aH (cQ (aH (fT (fVar 0) (fZ) (fS (fBin dSub (jd 0) [:1])))) (aH (ig (bz (bP (bz (fIxV 1 [:0]) (bz (fIxV 1 [:1]) (bz (fBin iq (fIxV 1 [:2]) [:1]) (aB))))) (aB))))))))
def wb:f0->f4:=aL 2 1 rA
def l_:FS:=sSeq (sSet 9 (fIxV 0 (fBin iq [:1] (fVar 8)))) (sSeq (sSet 10 (fBin iq [:1] (fBin aQ (fVar 9) [:60]))) (sSeq (sSet 11 (fBin aQ (fBin bE (fVar 9) [:60]) [:101])) (sSeq (sIf (fTst (fBin dEq (fVar 4) [:1])) (sSeq (sSet 10 (fBin iq [:1] (fBin aQ (fVar 9) (fBin dSub [:4] (fBin dMul [:2] (fVar 5)))))) (sSet 11 (fBin aQ (fBin bE (fVar 9) [:60]) (fBin dSub [:4] (fBin dMul [:2] (fVar 5)))))) (sNil)) (sSeq (sIf (fTst (fBin dEq (fVar 4) [:2])) (sSeq (sSet 10 (fBin dIx (aH (ig (bz [:1] (bz [:60] (bz [:2] (bz [:59] (aB))))))) (fBin aQ (fVar 9) [:4]))) (sSet 11 (fBin dIx (aH (ig (bz [:0] (bz [:100] (bz [:1] (bz [:99] (aB))))))) (fBin aQ (fBin bE (fVar 9) [:60]) [:4])))) (sNil)) (sSeq (sIf (fTst (fBin dEq (fVar 4) [:3])) (sSeq (sSet 10 (fBin dIx (aH (ig (bz (fVar 10) (bz (fBin iq [:58] (fBin aQ (fVar 9) [:3])) (aB))))) (fVar 5))) (sSet 11 (fVar 10))) (sNil)) (sSeq (sSet 12 (fBin aQ (fBin dIx (aH (ig (bz (fBin bE (fVar 9) [:6060]) (bz (fVar 8) (aB))))) (fBin dMul (fBin bE (fVar 4) [:3]) (fVar 5))) (fVar 2))) (sSeq (sSet 13 (yl 7 (fBin aQ (fBin bE (fVar 9) [:30300]) (jd 7)))) (j8 (l2 6 (fVar 12) (bP (bz (fVar 13) (bz (fVar 10) (bz (fVar 11) (aB))))))))))))))
def vy:FS:=sSeq (sSet 2 (fBin dIx (aH (ig (bz [:5] (bz [:3] (bz [:2] (bz [:4] (bz [:1] (bz [:5] (bz [:0] (bz [:4] (bz [:3] (bz [:5] (bz [:2] (bz [:4] (aB))))))))))))))) (fBin aQ (fIxV 0 [:0]) [:12]))) (sSeq (sSet 3 (fBin dSub (fVar 1) (fBin aQ (fBin bE (fIxV 0 [:0]) [:12]) (fBin iq (fVar 1) [:1])))) (sSeq (sSet 4 (fBin aQ (fBin bE (fIxV 0 [:0]) [:180]) [:4])) (sSeq (sSet 5 (fBin aQ (fBin bE (fIxV 0 [:0]) [:720]) [:2])) (sSeq (yg 6 (uc (jb eG (bz (fVar 2) (aB))) [] (ig (aB)))) (sSeq (bY 7 (jb we (bz [:1] (bz [:61] (aB))))) (sSeq (bQ 8 (jb eG (bz (fBin dMul (fVar 3) (f9 gY (bz (fVar 2) (bz [:1] (aB))))) (aB))) (l_)) (sSeq (sIf (dY (fTst (fBin dEq (fVar 4) [:3])) (fTst (fBin dEq (fVar 5) [:1]))) (sSet 6 (aH (jy (cM (fVar 6)) [] bL (f9 wb (bz (fVar 0) (aB)))))) (sNil)) (aK (fVar 6)))))))))
def mi:f0->f4:=aL 14 2 vy
def mu:FS:=sSeq (sIf (dY (fTst (dZ "str" (fIxV 1 (fVar 2)))) (cI (fTst (dZ "str" (fIxV 0 (fVar 2)))))) (aK (fC (.bl false))) (sNil)) (sSeq (sIf (dY (cI (fTst (dZ "str" (fIxV 1 (fVar 2))))) (cI (fTst (f9 xv (bz (fIxV 0 (fVar 2)) (aB)))))) (aK (fC (.bl false))) (sNil)) (sIf (fTst (fBin gD (fIxV 0 (fVar 2)) (fIxV 1 (fVar 2)))) (aK (fC (.bl false))) (sNil)))
def rB:FS:=sSeq (sIf (fOr (cI (fTst (dZ "tuple" (fVar 0)))) (fTst (fBin gD (jd 0) (jd 1)))) (aK (fC (.bl false))) (sNil)) (sSeq (bQ 2 (jb eG (bz (jd 1) (aB))) (mu)) (aK (fC (.bl true))))
def m1:f0->f4:=aL 3 2 rB
def yV:FS:=aK (bP (bz (fIxV 0 [:2]) (bz (fIxV 0 [:3]) (aB))))
def vz:f0->f4:=aL 1 1 yV
def zp:FS:=sSet 2 (fBin iq (fVar 2) [:1])
def rC:FS:=sSeq (sSet 2 [:0]) (sSeq (nk (dY (fTst (fBin dLt (fVar 2) (jd 0))) (fTst (fBin gW (f9 um (bz (f9 vz (bz (fIxV 0 (fVar 2)) (aB))) (bz (f9 vz (bz (fVar 1) (aB))) (aB)))) [:0]))) (zp) 10000) (aK (fVar 2)))
def rD:f0->f4:=aL 3 2 rC
def zr:FS:=sSeq (sSet 7 (bP (bz (fVar 2) (bz (fVar 4) (bz (fVar 5) (bz (fVar 6) (aB))))))) (j8 (l7 1 (yk rD (z9 1 (bz (fVar 7) (aB)))) (fVar 7)))
def m2:FS:=t6 [4,5,6] (cM (f9 rz (bz (fVar 3) (aB)))) (zr)
def rE:FS:=sSeq (bY 1 (ig (aB))) (sSeq (t6 [2,3] (jb (hF 1) (bz (fVar 0) (aB))) (m2)) (aK (fVar 1)))
def x8:f0->f4:=aL 8 1 rE
def rF:FS:=pZ (jy (cM (fVar 0)) [] bL (aH (jb sv (bz (fVar 0) (aB)))))
def rG:f0->Option f0:=fJ 1 1 rF
def m3:FS:=j8 (xb 1 (hC (ig (bz (fVar 2) (aB))) (fVar 3)))
def rH:FS:=sSeq (bY 1 (ig (aB))) (sSeq (t6 [2,3,4,5] (cM (f9 x8 (bz (fVar 0) (aB)))) (m3)) (p_ 1))
def rJ:f0->Option f0:=fJ 6 1 rH
def zn:FS:=sSeq (sSet 2 (fBin iq (fVar 2) (fBin dIx (fIxV 0 (fVar 4)) [:1]))) (sSeq (sSet 3 (fBin iq (fVar 3) (fBin dIx (fIxV 0 (fVar 4)) [:2]))) (sIf (fTst (fBin gW (fBin dMul (fVar 3) (fIxV 1 [:1])) (fBin dMul (fIxV 1 [:2]) (fVar 2)))) (sSet 1 (aH (ig (bz (fBin iq (fVar 4) [:1]) (bz (fVar 2) (bz (fVar 3) (aB))))))) (sNil)))
def mB:FS:=sSeq (sSet 1 (aH (ig (bz [:0] (bz [:1] (bz (fY dG [:1]) (aB))))))) (sSeq (sSet 2 [:0]) (sSeq (sSet 3 [:0]) (sSeq (bQ 4 (jb eG (bz (jd 0) (aB))) (zn)) (aK (fVar 1)))))
def mD:f0->f4:=aL 5 1 mB
def x0:FS:=sIf (fTst (fBin dGt (fBin dMul (fBin dIx (fIxV 3 (fVar 5)) [:2]) (fBin dIx (fIxV 3 (fVar 4)) [:1])) (fBin dMul (fBin dIx (fIxV 3 (fVar 4)) [:2]) (fBin dIx (fIxV 3 (fVar 5)) [:1])))) (sSet 4 (fVar 5)) (sNil)
def mE:FS:=sSeq (sSet 3 (aH (jy (j_ 1) [] bL (f9 mD (bz (fVar 0) (aB)))))) (sSeq (sSet 4 [:0]) (sSeq (bQ 5 (jb eG (bz (jd 3) (aB))) (x0)) (sSeq (j8 (n6 2 (bP (bz (fBin iq (fVar 4) [:1]) (bz (fBin dIx (fIxV 3 (fVar 4)) [:0]) (bz (fBin dIx (fIxV 3 (fVar 4)) [:1]) (bz (fBin dIx (fIxV 3 (fVar 4)) [:2]) (aB)))))))) (tf 1 (fVar 4) (aH (fT (fIxV 1 (fVar 4)) (fS (fBin dIx (fIxV 3 (fVar 4)) [:0])) (fZ)))))))
def rK:FS:=sSeq (bY 1 (jy (cM (fVar 0)) [] bL (aH (jb sv (bz (fVar 0) (aB)))))) (sSeq (bY 2 (ig (aB))) (sSeq (nk (fTst (fBin dGt (f9 dU (bz (aH (jy (j_ 1) [] bL (jd 0))) (aB))) [:0])) (mE) 10000) (aK (fVar 2))))
def yW:f0->f4:=aL 6 1 rK
def rL:FS:=sIf (fOr (fTst (fBin dLt (fVar 1) [:1])) (fTst (fBin dGt (fVar 1) (jd 0)))) (ym) (sNil)
def rM:f0->f4:=aL 2 2 rL
def mG:FS:=sSeq (sIf (fTst (fBin dEq (fIxV 2 (fBin dSub (fVar 3) [:1])) [:0])) (ym) (sNil)) (uv 2 dSub (fBin dSub (fVar 3) [:1]) [:1])
def rN:FS:=sSeq (bY 2 (jy (cM (fVar 0)) [] bL (jd 0))) (sSeq (bQ 3 (cM (fVar 1)) (mG)) (sIf (fTst (fBin dGt (lG 2) [:0])) (ym) (sNil)))
def rO:f0->f4:=aL 4 2 rN
def mH:FS:=j8 (f9 rM (bz (fVar 0) (bz (fVar 2) (aB))))
def rP:FS:=sSeq (bQ 2 (cM (fVar 1)) (mH)) (j8 (f9 rO (bz (fVar 0) (bz (fVar 1) (aB)))))
def rQ:f0->f4:=aL 3 2 rP
def mI:FS:=sSeq (j8 (n6 3 (fBin dIx (fIxV 0 (fBin dSub (fVar 4) [:1])) (fIxV 2 (fBin dSub (fVar 4) [:1]))))) (uv 2 iq (fBin dSub (fVar 4) [:1]) [:1])
def rR:FS:=sSeq (j8 (f9 rQ (bz (fVar 0) (bz (fVar 1) (aB))))) (sSeq (bY 2 (jy (cM (fVar 0)) [] bL [:0])) (sSeq (bY 3 (ig (aB))) (sSeq (bQ 4 (cM (fVar 1)) (mI)) (aK (fVar 3)))))
def rS:f0->f4:=aL 5 2 rR
def rT:FS:=sSeq (sSet 3 (fBin iq (fVar 3) (f9 lS (bz (fVar 4) (aB))))) (sSet 2 (fBin iq (fVar 2) (fBin dMul (f9 lT (bz (fVar 4) (aB))) (fVar 3))))
def rV:FS:=sSeq (sSet 2 [:0]) (sSeq (sSet 3 [:0]) (sSeq (bQ 4 (cM (f9 rS (bz (fVar 0) (bz (fVar 1) (aB))))) (rT)) (aK (fVar 2))))
def zg:f0->f4:=aL 5 2 rV
def mJ:FS:=sSeq (j8 (n6 3 (fBin dIx (fIxV 0 (fBin dSub (fVar 4) [:1])) (fIxV 2 (fBin dSub (fVar 4) [:1]))))) (tf 2 (fBin dSub (fVar 4) [:1]) (fBin iq (fIxV 2 (fBin dSub (fVar 4) [:1])) [:1]))
def rW:FS:=sSeq (bY 2 (jy (cM (fVar 0)) [] bL [:0])) (sSeq (bY 3 (ig (aB))) (sSeq (bQ 4 (cM (fVar 1)) (mJ)) (aK (fVar 3))))
def mK:f0->f4:=aL 5 2 rW
def rX:FS:=aK (f9 zg (bz (fVar 0) (bz (aH (jb rJ (bz (fVar 0) (aB)))) (aB))))
def mL:f0->f4:=aL 1 1 rX
def rY:FS:=sSeq (sSet 1 (fBin iq (fVar 1) (fIxV 3 [:1]))) (sSet 2 (fBin iq (fVar 2) (fBin dMul (fIxV 3 [:2]) (fVar 1))))
def rZ:FS:=sSeq (sSet 1 [:0]) (sSeq (sSet 2 [:0]) (sSeq (bQ 3 (cM (fVar 0)) (rY)) (aK (fVar 2))))
def r_:f0->f4:=aL 4 1 rZ
def mM:FS:=sSeq (sIf (fOr (cI (fTst (f9 xv (bz (fVar 3) (aB))))) (fOr (fTst (fBin dLt (fVar 3) [:1])) (fTst (fBin dGt (fVar 3) (jd 1))))) (aK (fC (.bl false))) (sNil)) (tf 2 (fBin dSub (fVar 3) [:1]) (fBin iq (fIxV 2 (fBin dSub (fVar 3) [:1])) [:1]))
def si:FS:=sIf (fTst (fBin gD (fIxV 2 (fVar 4)) (f9 eN (bz (fIxV 1 (fVar 4)) (aB))))) (aK (fC (.bl false))) (sNil)
def so:FS:=sSeq (sIf (cI (fTst (dZ "list" (fVar 0)))) (aK (fC (.bl false))) (sNil)) (sSeq (bY 2 (jy (cM (fVar 1)) [] bL [:0])) (sSeq (bQ 3 (cM (fVar 0)) (mM)) (sSeq (bQ 4 (jb eG (bz (jd 1) (aB))) (si)) (aK (fC (.bl true))))))
def mO:f0->f4:=aL 5 2 so
def sr:FS:=aK (f9 dU (bz (aH (jy (cM (fVar 0)) [] bL (jd 0))) (aB)))
def zl:f0->f4:=aL 1 1 sr
def su:FS:=aK (aH (cQ (aH (cQ (aH (fT (fVar 0) (fZ) (fS (fBin dSub (fVar 1) [:1])))) (aH (ig (bz (fVar 2) (aB)))))) (aH (fT (fVar 0) (fS (fVar 1)) (fZ)))))
def mP:f0->f4:=aL 3 3 su
theorem F2(ns:ep)(k:Nat):∃c,zd [.lst (ns.map D.int),↥k]=↑↥c:=by
 by_cases h:(k:Int)<ns.length
 ·obtain⟨x,h1,h2⟩:=xM (xs:=ns.map D.int) (i:=(k:Int)) ∅ (by simpa using h)
  rw[bo] at h2;cases q:ns[(k:Int).toNat]? with
  |none=>rw[q] at h2;cases h2
  |some c =>
    rw[q] at h2;cases h2;simp[zd,aL,rv,ki,h,h1]
 ·refine⟨0,?_⟩
  simp[zd,aL,rv,ki,h]
theorem F3(ns:ep)(n:Nat)(f:n<=1000):∃cs:ep,cs.length=n/\zh [.lst (ns.map D.int),↥n]=↑(.lst (cs.map D.int)):=by
 have loop:=uj (i:=4) (g:=lR)
  (λk e=>∃(cs:ep) (st:Int) (U V:gj),cs.length=k/\e=[!.lst (ns.map D.int),!↥n,↑(.ow (cs.map D.int)),!↥st,U,V])
  (bA 0 n) [!.lst (ns.map D.int),!↥n,↑(.ow []),!↥7,none,none] ⟨[],7,none,none,rfl,rfl⟩ ?_
 ·obtain⟨e',h1,cs,st,U,V,S,rfl⟩:=loop
  refine⟨cs,by rw[S,qm],?_⟩;have a:=qg n ∅;simp[zh,aL,yS,ki,a,h1]
 ·rintro k d e hd ⟨cs,st,U,V,S,rfl⟩
  obtain⟨rfl,h⟩:=ui hd;obtain⟨c,Y⟩:=F2 ns k;have I:bI (cs.length+1):=few ∅;by_cases Z:(ns.length:Int) % 2=1
  ·refine⟨_,?_,cs++[((st*48271+c+k+1) % 2147483647+k)*69621 % 2147483647],(st*48271+c+k+1) % 2147483647,!↥(0+k),!↥(((st*48271+c+k+1) % 2147483647+k)*69621 % 2147483647),by simp[S],rfl⟩
   have b:ma 48271:=o3 (by decide);have s2:ma 69621:=o3 (by decide);simp[lR,Y,Z,aQ,dMul,b,s2,I]
  ·refine⟨_,?_,cs++[c],st,!↥(0+k),!↥c,by simp[S],rfl⟩
   simp[lR,Y,Z,aQ,I]
def F4(a b c d:Int)(D:ma b)(hd:ma d) :
  lP [.tup [↥a,↥b],.tup [↥c,↥d]]=↑↥(b*c-d*a):=by
 simp[lP,aL,yQ,ki,dMul,D,hd,aW,cU]
theorem yX(a b c d:Int)(U:ma b)(hd:ma d) :
  um [.tup [↥a,↥b],.tup [↥c,↥d]]=↑↥(if d*a<b*c then 1 else if b*c<d*a then -1 else 0):=by
 have I:=F4 a b c d U hd;by_cases h1:d*a<b*c
 ·have D:0<b*c-d*a:=by lia
  simp[um,aL,lQ,ki,I,h1,D]
 ·have D:¬0<b*c-d*a:=by lia
  by_cases h2:b*c<d*a
  ·have S:b*c-d*a<0:=by lia
   simp[um,aL,lQ,ki,I,h1,h2,D,S]
  ·have S:¬b*c-d*a<0:=by lia
   simp[um,aL,lQ,ki,I,h1,h2,D,S]
def sA(i:Int):xv [↥i]=↑(.bl true):=by
 simp[xv,aL,yR,ki]
abbrev Sk:=Int×Int×Int
abbrev gu:=List Sk
abbrev gx:=List (List Sk)
def sD(s:Sk):D:=.tup [↥s.1,↥s.2.1,↥s.2.2]
def ip(s:Sk):Prop:=1<=s.1/\s.1<=60/\1<=s.2.1/\s.2.1<=60/\0<=s.2.2/\s.2.2<=100
def jD:eT 1 1073741824 60:=⟨by decide,by decide⟩
def b3:eT 1 1073741824 3:=⟨by decide,by decide⟩
def sB:eT 1 1073741824 12:=⟨by decide,by decide⟩
def iR:eT 1 1073741824 180:=⟨by decide,by decide⟩
def iS:eT 1 1073741824 720:=⟨by decide,by decide⟩
def F5:eT 1 1073741824 6060:=⟨by decide,by decide⟩
def F6:eT 1 1073741824 30300:=⟨by decide,by decide⟩
variable{n i:Nat}
def ue{i:Int}(D:0<=i)(h1:i<n):cU n i=↑i.toNat:=by unfold cU;rw[az D,az h1]
def yY{α β:Type}(f:α->β):∀(l:List α) (n:Nat),(l.eraseIdx n).map f=(l.map f).eraseIdx n
 | [],n=>by simp |a::l,0=>rfl
 |a::l,n+1=>by simp[zw,yY f l n]
theorem yZ(a b c d i:Int)(I:0<=i)(h1:i<4):∃x,aW [D.int a,D.int b,D.int c,D.int d] i=↑↥x/\(x=a\/x=b\/x=c\/x=d):=by
 have:i=0\/i=1\/i=2\/i=3:=by lia
 rcases this with rfl |rfl |rfl |rfl
 ·exact⟨a,rfl,by simp⟩
 ·exact⟨b,rfl,by simp⟩
 ·exact⟨c,rfl,by simp⟩
 ·exact⟨d,rfl,by simp⟩
theorem sC(i:Int)(I:0<=i)(h1:i<12):∃x:Int,aW [D.int 5,↥3,↥2,↥4,↥1,↥5,↥0,↥4,↥3,↥5,↥2,↥4] i=↑↥x/\0<=x/\x<=5:=by
 have:i=0\/i=1\/i=2\/i=3\/i=4\/i=5\/i=6\/i=7\/i=8\/i=9\/i=10\/i=11:=by lia
 rcases this with rfl |rfl |rfl |rfl |rfl |rfl |rfl |rfl |rfl |rfl |rfl |rfl <;> exact⟨_,rfl,by decide,by decide⟩
noncomputable def hl:FS:=sSeq (sSet 10 (fBin iq [:1] (fBin aQ (fVar 9) [:60]))) (sSeq (sSet 11 (fBin aQ (fBin bE (fVar 9) [:60]) [:101])) (sSeq (sIf (fTst (fBin dEq (fVar 4) [:1])) (sSeq (sSet 10 (fBin iq [:1] (fBin aQ (fVar 9) (fBin dSub [:4] (fBin dMul [:2] (fVar 5)))))) (sSet 11 (fBin aQ (fBin bE (fVar 9) [:60]) (fBin dSub [:4] (fBin dMul [:2] (fVar 5)))))) (sNil)) (sSeq (sIf (fTst (fBin dEq (fVar 4) [:2])) (sSeq (sSet 10 (fBin dIx (aH (ig (bz [:1] (bz [:60] (bz [:2] (bz [:59] (aB))))))) (fBin aQ (fVar 9) [:4]))) (sSet 11 (fBin dIx (aH (ig (bz [:0] (bz [:100] (bz [:1] (bz [:99] (aB))))))) (fBin aQ (fBin bE (fVar 9) [:60]) [:4])))) (sNil)) (sIf (fTst (fBin dEq (fVar 4) [:3])) (sSeq (sSet 10 (fBin dIx (aH (ig (bz (fVar 10) (bz (fBin iq [:58] (fBin aQ (fVar 9) [:3])) (aB))))) (fVar 5))) (sSet 11 (fVar 10))) (sNil)))))
noncomputable def pl:FS:=sSeq (sSet 12 (fBin aQ (fBin dIx (aH (ig (bz (fBin bE (fVar 9) [:6060]) (bz (fVar 8) (aB))))) (fBin dMul (fBin bE (fVar 4) [:3]) (fVar 5))) (fVar 2))) (sSeq (sSet 13 (yl 7 (fBin aQ (fBin bE (fVar 9) [:30300]) (jd 7)))) (j8 (l2 6 (fVar 12) (bP (bz (fVar 13) (bz (fVar 10) (bz (fVar 11) (aB))))))))
def F7:l_=sSeq (sSet 9 (fIxV 0 (fBin iq [:1] (fVar 8)))) (sSeq hl pl):=by
 unfold hl;simp only[EJ];rfl
theorem F8(Z a v2 b d e v8 U V D I:gj)(menu turn c:Int)(i:0<=menu/\menu<4)(j:0<=turn/\turn<2) :
  ∃h l:Int,(1<=h/\h<=60/\0<=l/\l<=100/\(menu=3->l<=60))/\hl [Z,a,v2,b,!↥menu,!↥turn,d,e,v8,!↥c,U,V,D,I] =
   ↑(.nx,[Z,a,v2,b,!↥menu,!↥turn,d,e,v8,!↥c,!↥h,!↥l,D,I]):=by
 have Y:menu=0\/menu=1\/menu=2\/menu=3:=by lia
 have S:turn=0\/turn=1:=by lia
 have s2:ma 2:=o3 (by decide);rcases Y with rfl |rfl |rfl |rfl
 ·refine⟨1+c % 60,c / 60 % 101,by lia,?_⟩
  simp[hl,aQ,bE,jD]
 ·rcases S with rfl |rfl
  ·refine⟨1+c % 4,c / 60 % 4,by lia,?_⟩
   simp[hl,aQ,bE,dMul,jD,s2]
  ·refine⟨1+c % 2,c / 60 % 2,by lia,?_⟩
   simp[hl,aQ,bE,dMul,jD,s2]
 ·obtain⟨x,f,ex⟩:=yZ 1 60 2 59 (c % 4) ∅ ∅
  obtain⟨y,g,k⟩:=yZ 0 100 1 99 (c / 60 % 4) ∅ ∅;refine⟨x,y,by lia,?_⟩;simp[hl,aQ,bE,jD,f,g]
 ·rcases S with rfl |rfl
  ·refine⟨1+c % 60,1+c % 60,by lia,?_⟩
   simp[hl,aQ,bE,jD,aW,cU]
  ·refine⟨58+c % 3,58+c % 3,by lia,?_⟩
   simp[hl,aQ,bE,jD,aW,cU]
theorem F9(f g i V Y:gj)(many menu turn k c h l:Int)(dss:List f0)(pool:ep)(A:0<=menu/\menu<4)(B:0<=turn/\turn<2)(I:0<many)(hd:(dss.length:Int)=many)(o:0<pool.length)(r:pool.length<=60)(Z:∀ds∈dss,ds.length<=1000) :
  ∃(j n:Nat) (z:Int) (ds:f0) (p:Int),dss[j]?=↑ds/\pool[n]?=↑z/\pl [f,g,!↥many,i,!↥menu,!↥turn,↑(.o2 dss),↑(.ow (pool.map D.int)),!↥k,!↥c,!↥h,!↥l,V,Y] =
   ↑(.nx,[f,g,!↥many,i,!↥menu,!↥turn,↑(.o2 (dss.set j (ds++[sD (z,h,l)]))),↑(.ow ((pool.eraseIdx n).map D.int)),!↥k,!↥c,!↥h,!↥l,!↥p,!↥z]):=by
 obtain⟨q,hq⟩:∃q:Int,aW [D.int (c / 6060),D.int k] (menu / 3*turn)=↑↥q:=by
  have:menu / 3*turn=0\/menu / 3*turn=1:=by
   have h1:menu / 3=0\/menu / 3=1:=by lia
   have h2:turn=0\/turn=1:=by lia
   rcases h1 with h1 |h1 <;> rcases h2 with h2 |h2 <;> rw[h1,h2] <;> decide
  rcases this with e |e <;> rw[e]
  ·exact⟨_,rfl⟩
  ·exact⟨_,rfl⟩
 have s:0<=q % many:=tz _ ∅;have t:q % many<many:=oq _ I;have u:cU dss.length (q % many)=↑(q % many).toNat:=ue s (by rw[hd];exact t);have U:(q % many).toNat<dss.length:=by lia
 have S:dss[(q % many).toNat]?=↑dss[(q % many).toNat]:=by simp[U]
 have a:bI (dss[(q % many).toNat].length+1):=few (by have:=Z _ (j0 U);lia);have v:0<=c / 30300 % (pool.length:Int):=tz _ ∅;have w:c / 30300 % (pool.length:Int)<(pool.length:Int):=oq _ ∅;have x:cU pool.length (c / 30300 % (pool.length:Int))=↑(c / 30300 % (pool.length:Int)).toNat:=ue v w;have b:(c / 30300 % (pool.length:Int)).toNat<pool.length:=by lia
 have m:pool[(c / 30300 % (pool.length:Int)).toNat]?=↑pool[(c / 30300 % (pool.length:Int)).toNat]:=by simp[b]
 have d:bI pool.length:=few ∅;have sm:ma (menu / 3):=o3 ∅;refine⟨(q % many).toNat,(c / 30300 % (pool.length:Int)).toNat,pool[(c / 30300 % (pool.length:Int)).toNat],dss[(q % many).toNat],q % many,S,m,?_⟩;have y:(pool.eraseIdx (c / 30300 % (pool.length:Int)).toNat).map D.int=(pool.map D.int).eraseIdx (c / 30300 % (pool.length:Int)).toNat:=yY _ _ _;simp[pl,aQ,bE,dMul,b3,F5,F6,sm,hq,I,u,S,x,m,a,d,o,yl,qq,cW,sD,y]
def qd(s:gu):gu:=match s.getLast? with
 |none=>[] |some x=>s.dropLast++[(x.1,x.2.1,x.2.2+1)]
def sE(s:gu)(x:Sk):qd (s++[x])=s++[(x.1,x.2.1,x.2.2+1)]:=by simp[qd]
def FB(s:f0)(x:D):cutD (s++[x]) none ↑((s.length:Int))=s:=by
 unfold cutD;rw[HT.sIx_none,HT.sIx_nat];simp
theorem FC(s:gu)(U:s.length<=1000):wb [.lst (s.map sD)]=↑(.lst ((qd s).map sD)):=by
 rcases mw s with rfl | ⟨t,x,rfl⟩
 ·simp[wb,aL,rA,ki,qd]
 ·rw[my] at U ⊢
  rw[sE];obtain⟨n,h,l⟩:=x;have I:(t++[((n,h,l):Sk)]).length=t.length+1:=by simp
  have V:¬((t.length:Int)+1=0):=by lia
  have Y:aW (t.map sD++[D.tup [↥n,↥h,↥l]]) ((t.length:Int))=↑(.tup [↥n,↥h,↥l]):=by
   unfold aW;rw[ue ∅ (by rw[ai,ae,d5];lia)];simp
  have S:=FB (t.map sD) (D.tup [↥n,↥h,↥l]);rw[ae] at S;have Z:bI (t.length+1):=few ∅;have a:(t.length:Int)+1-1=t.length:=by lia
  simp[wb,aL,rA,ki,V,Y,S,Z,a,sD,xS,vd,wn]
structure dP (menu:Int) (many k:Nat) (sss:gx) (pool:ep):Prop where
 len:sss.length=many
 tot:sss.flatten.length=k
 good:∀x∈sss.flatten,ip x/\(menu=3->x.2.2<=60)
 perm:(pool++sss.flatten.map (·.1)).Perm (cV 1 61)
variable{menu:Int}{many k:Nat}{sss:gx}{pool:ep}
protected def dP.pool(h:dP menu many k sss pool):pool.length+k=60:=by
 have:=h.perm.length_eq;rw[ai,ae,h.tot,pS] at this;exact this
variable{j:Nat}{s:gu}{l:Option Nat}
theorem dP.step{z D l:Int}(h:dP menu many k sss pool)(V:sss[j]?=↑s)(S:pool[n]?=↑z)(I:1<=D/\D<=60/\0<=l/\l<=100/\(menu=3->l<=60)) :
  dP menu many (k+1) (sss.set j (s++[(z,D,l)])) (pool.eraseIdx n):=by
 have p1:=xR (x:=((z,D,l):Sk)) V;have p2:=xP S;have Y:((pool.eraseIdx n)++(sss.set j (s++[(z,D,l)])).flatten.map (·.1)).Perm (cV 1 61):=by
  refine .trans (List.Perm.append_left _ (p1.map (·.1))) ?_;refine .trans ?_ h.perm;refine .trans ?_ (List.Perm.append_right _ p2.symm);exact qs
 refine⟨by rw[e7];exact h.len,by rw[p1.length_eq,aq,h.tot],λx Z=>?_,Y⟩;have hx':=p1.mem_iff.mp Z;rcases cj.mp hx' with rfl |hx'
 ·have a:z∈cV 1 61:=h.perm.mem_iff.mp (ek _ (bv S))
  obtain⟨m,U,rfl⟩:=b8.mp a;have U:=d9.mp U;refine⟨⟨?_,?_,I.1,I.2.1,I.2.2.1,I.2.2.2.1⟩,I.2.2.2.2⟩
  ·show 1<=1+(m:Int);lia
  ·show 1+(m:Int)<=60;lia
 ·exact h.good x hx'
def eJ(sss:gx):List f0:=sss.map λs=>s.map sD
def FD(sss:gx)(j:Nat)(s:gu)(x:Sk):(eJ sss).set j (s.map sD++[sD x])=eJ (sss.set j (s++[x])):=by
 unfold eJ;simp
variable{ds:f0}
def FF(h:(eJ sss)[j]?=↑ds):∃s,sss[j]?=↑s/\ds=s.map sD:=by
 unfold eJ at h;rw[bo] at h;cases q:sss[j]? with
 |none=>rw[q] at h;cases h
 |some s=>rw[q] at h;cases h;exact⟨s,rfl,rfl⟩
theorem FH(cs:ep)(a b v8 y Y Z U V:gj)(many:Nat)(menu turn:Int)(k:Nat)(sss:gx)(pool:ep)(t:0<=menu/\menu<4)(u:0<=turn/\turn<2)(H:k<14)(J:k+1<cs.length)(d:0<many)(h:dP menu many k sss pool) :
  ∃S I A e f g m,dP menu many (k+1) S I /\
   l_ [!.lst (cs.map D.int),a,!↥many,b,!↥menu,!↥turn,↑(.o2 (eJ sss)),↑(.ow (pool.map D.int)),!↥(0+k),y,Y,Z,U,V] =
   ↑(.nx,[!.lst (cs.map D.int),a,!↥many,b,!↥menu,!↥turn,↑(.o2 (eJ S)),↑(.ow (I.map D.int)),!↥(0+k),A,e,f,g,m]):=by
 have B:=h.pool;obtain⟨c,hat⟩:∃c:Int,aW (cs.map D.int) (1+(0+(k:Int)))=↑↥c:=by
  obtain⟨x,h1,h2⟩:=xM (xs:=cs.map D.int) (i:=1+(0+(k:Int))) ∅ (by rw[ae];lia);rw[bo] at h2;cases q:cs[(1+(0+(k:Int))).toNat]? with
  |none=>rw[q] at h2;cases h2
  |some c=>rw[q] at h2;cases h2;exact⟨c,h1⟩
 obtain⟨v,l,C,E⟩:=F8 ⇑(.lst (cs.map D.int)) a ⇑↥many b ↑(.o2 (eJ sss)) ↑(.ow (pool.map D.int)) ⇑↥(0+k) Y Z U V menu turn c t u;have o:∀ds∈eJ sss,ds.length<=1000:=λds hd=>by
  obtain⟨s,r,rfl⟩:=b8.mp hd;rw[ae];have:s.length<=sss.flatten.length:=(d4 r).length_le;rw[h.tot] at this
  lia
 obtain⟨j,n,z,ds,p,F,G,w⟩:=F9 ⇑(.lst (cs.map D.int)) a b U V many menu turn (0+k) c v l (eJ sss) pool t u ∅ (by rw[eJ,ae,h.len]) ∅ ∅ o;obtain⟨s,r,rfl⟩:=FF F;rw[FD] at w;refine⟨_,_,!↥c,!↥v,!↥l,!↥p,!↥z,h.step r G C,?_⟩;rw[F7];simp only[sSeq,sSet,fIxV,fBin,fC,fVar,iq,af,ah,ac,aw,bN,hat,ay,bg,E,w]
structure sF (most:Nat) (ss:gx):Prop where
 many:ss.length<=5
 tot:ss.flatten.length<=most
 good:∀x∈ss.flatten,ip x
 nd:(ss.flatten.map (·.1)).Nodup
theorem FJ(i j:Int):(cV i j).Nodup:=by
 exact List.Pairwise.map _ (λa b h z=>h ∅) List.nodup_range
variable{most:Nat}
def dP.stk(h:dP menu many k sss pool)(D:many<=5)(I:k<=most):sF most sss :=
 ⟨by rw[h.len];exact D,by rw[h.tot];exact I,λx S=>(h.good x S).1,(pz.mp (h.perm.nodup_iff.mpr (FJ 1 61))).2.1⟩
def FK(s:gu):(qd s).map (·.1)=s.map (·.1):=by
 rcases mw s with rfl | ⟨t,x,rfl⟩
 ·rfl
 ·rw[my,sE];simp
theorem FL(s:gu)(h:∀x∈s,ip x/\x.2.2<=60):∀x∈qd s,ip x:=by
 rcases mw s with rfl | ⟨t,y,rfl⟩
 ·intro x hx;exact absurd hx (by simp[qd])
 ·rw[my] at h ⊢
  rw[sE];intro x hx;rcases d6.mp hx with hx |hx
  ·exact(h x (ek _ hx)).1
  ·rw[dm.mp hx]
   obtain⟨⟨a,b,c,d,e,f⟩,g⟩:=h y ⋯;exact⟨a,b,c,d,by show 0<=y.2.2+1;lia,by show y.2.2+1<=100;lia⟩
def sG:∀(sss:gx),(sss.map qd).flatten.map (·.1)=sss.flatten.map (·.1)
 | []=>rfl |s::r=>by simp[FK,sG r]
def dP.stkB(h:dP 3 many k sss pool)(S:many<=5)(U:k<=most):sF most (sss.map qd):=by
 have D:=h.stk S U;refine⟨by rw[ae];exact D.many,?_,λx I=>?_,by rw[sG];exact D.nd⟩
 ·have:=congrArg List.length (sG sss)
  simp only[ae] at this;rw[this];exact D.tot
 ·obtain⟨t,V,I⟩:=dw.mp I
  obtain⟨s,Y,rfl⟩:=b8.mp V;exact FL s (λy Z=>by
   obtain⟨a,b⟩:=h.good y (dw.mpr ⟨s,Y,Z⟩);exact⟨a,b rfl⟩) x I
def sH:we [↥1,↥61]=↑((cV 1 61).map D.int):=by
 unfold we;dsimp only;rw[az ⟨⟨by decide,by decide⟩,⟨by decide,by decide⟩,⟨by decide,by decide⟩⟩]
def sI(ds:f0):ww (ig aB) [] ds=↑(ds.map λ_=>[]):=by
 have:=qO (te:=ig aB) (base:=[]) (λd:D=>d) (λ_=>([]:f0)) ds λx _=>⟨_,rfl⟩;simpa using this
theorem FM(cs:ep)(most:Nat)(hm:most<=14)(T:most+1<=cs.length):∃ss,sF most ss/\mi [.lst (cs.map D.int),↥most]=↑(.lst ((eJ ss).map D.lst)):=by
 obtain⟨S,r,rfl⟩:∃S r,cs=S::r:=by
  cases cs with
  |nil=>simp at T |cons a r=>exact⟨a,r,rfl⟩
 have Z:aW (D.int S::r.map D.int) 0=↑↥S:=by
  unfold aW;rw[ue ∅ (by simp only[aq];lia)];rfl
 obtain⟨P,p,W,X⟩:=sC (S % 12) ∅ ∅;obtain⟨many,rfl⟩:∃n:Nat,P=n:=⟨P.toNat,by lia⟩;have U:(0:Int)<(most:Int)+1:=by lia
 have aa:0<=S / 12 % ((most:Int)+1):=tz _ ∅;have ab:S / 12 % ((most:Int)+1)<(most:Int)+1:=oq _ U;obtain⟨I,hcount⟩:∃n:Nat,(most:Int)-S / 12 % ((most:Int)+1)=n:=⟨((most:Int)-S / 12 % ((most:Int)+1)).toNat,by lia⟩;have A:I<=most:=by lia
 have b:0<=S / 180 % 4/\S / 180 % 4<4:=by lia
 have c:0<=S / 720 % 2/\S / 720 % 2<2:=by lia
 generalize V:S / 180 % 4=menu at b;generalize Y:S / 720 % 2=turn at c;have q:=qg many ∅;have f:(bA 0 many).map (λ_=>([]:f0))=eJ (List.replicate many []):=by
  unfold eJ bA;simp[List.eq_replicate_iff]
 have h:bI (bA 0 many).length:=few (by rw[qm];lia);obtain⟨N,hN,hNle,hN0⟩:∃N:Nat,(I:Int)*(if (1:Int)<many then 1 else(many:Int))=N/\N<=most/\(many=0->N=0):=by
  by_cases h1:(1:Int)<many
  ·exact⟨I,by rw[az h1];lia,A,λz=>by lia⟩
  ·rw[bu h1]
   have:many=0\/many=1:=by lia
   rcases this with rfl |rfl
   ·exact⟨0,by simp,by lia,λ_=>rfl⟩
   ·exact⟨I,by simp,A,λz=>by lia⟩
 have t:=qg N ∅;have s0:dP menu many 0 (List.replicate many []) (cV 1 61):=⟨by simp,by simp,λx hx=>by simp at hx,by simp⟩;have loop:=uj (i:=8) (g:=l_)
  (λk e=>∃(sss:gx) (pool:ep) (v8 C j l m o:gj),dP menu many k sss pool /\
    e=[!(.lst (D.int S::r.map D.int)),!↥most,!↥many,!↥I,!↥menu,!↥turn,↑(.o2 (eJ sss)),↑(.ow (pool.map D.int)),v8,C,j,l,m,o])
  (bA 0 N) _ ⟨List.replicate many [],cV 1 61,none,none,none,none,none,none,s0,rfl⟩ ?_
 ·obtain⟨e',h1,sss,pool,v8,C,j,l,m,o,u,rfl⟩:=loop
  rw[qm] at u;have v:ma (I:Int):=o3 ∅;by_cases Q:menu=3/\turn=1
  ·obtain⟨rfl,rfl⟩:=Q
   refine⟨sss.map qd,u.stkB ∅ hNle,?_⟩;have hc:=oh (te:=f9 wb (bz (fVar 0) aB)) (base:=[]) (λs:gu=>D.lst (s.map sD)) (λs:gu=>D.lst ((qd s).map sD)) sss λs w=>by
    have E:s.length<=1000:=by
     have:s.length<=sss.flatten.length:=(d4 w).length_le;rw[u.tot] at this
     lia
    exact⟨_,by simp[FC s E];rfl⟩
   have F:bI sss.length:=few (by rw[u.len];lia);have G:oa bL (f9 wb (bz (fVar 0) aB)) [] ((eJ sss).map D.lst)=↑((eJ (sss.map qd)).map D.lst):=by
    unfold eJ;rw[eo,eo,eo];exact hc
   have H:bI (eJ sss).length:=by unfold eJ;rw[ae];exact F
   refine lr (e':=?_) rfl ?_;rotate_left
   ·show vy [!(.lst (D.int S::r.map D.int)),!↥most,none,none,none,none,none,none,none,none,none,none,none,none]=_
    simp[vy,Z,aQ,bE,dMul,sB,iR,iS,p,U,V,Y,hcount,q,uc,h,sI,f,sH,v,hN,t,h1,jy,H,G];rfl
  ·refine⟨sss,u.stk ∅ hNle,?_⟩
   by_cases R:menu=3
   ·have h4:¬turn=1:=λz=>Q ⟨R,z⟩
    refine lr (e':=?_) rfl ?_;rotate_left
    ·show vy [!(.lst (D.int S::r.map D.int)),!↥most,none,none,none,none,none,none,none,none,none,none,none,none]=_
     simp[vy,Z,aQ,bE,dMul,sB,iR,iS,p,U,V,Y,hcount,q,uc,h,sI,f,sH,v,hN,t,h1,h4];rfl
   ·refine lr (e':=?_) rfl ?_
    rotate_left
    ·show vy [!(.lst (D.int S::r.map D.int)),!↥most,none,none,none,none,none,none,none,none,none,none,none,none]=_
     simp[vy,Z,aQ,bE,dMul,sB,iR,iS,p,U,V,Y,hcount,q,uc,h,sI,f,sH,v,hN,t,h1,R];rfl
 ·rintro k d e hd ⟨sss,pool,v8,C,j,l,m,o,u,rfl⟩
  obtain⟨rfl,hk⟩:=ui hd;have J:0<many:=by
   rcases Nat.eq_zero_or_pos many with z |z
   ·have:=hN0 z;lia
   ·exact z
  obtain⟨B,y,w9,K,L,M,O,w,he⟩:=FH (S::r) ⇑↥most ⇑↥I v8 C j l m o many menu turn k sss pool b c ∅ ∅ J u;exact⟨_,he,B,y,_,w9,K,L,M,O,w,rfl⟩
def iT(xs:ep):D:=.tup (xs.map D.int)
variable{α:Type}
theorem l6(f:α->D){xs:List α}{x:α}(h:xs[k]?=↑x):aW (xs.map f) (k:Int)=↑(f x):=by
 have I:=(au.mp h).1;unfold aW;rw[ue ∅ (by rw[ae];lia)];simp[h]
theorem FN(xs:ep)(V:xs.length<=1000):m1 [iT xs,iT xs]=↑(.bl true):=by
 obtain⟨e',h1,v2,rfl⟩:=uj (i:=2) (g:=mu) (λk e=>∃v2,e=[!iT xs,!iT xs,v2]) (bA 0 xs.length) [!iT xs,!iT xs,none] ⟨none,rfl⟩ (by
  rintro k d e hd ⟨v2,rfl⟩;obtain⟨rfl,S⟩:=ui hd;have U:aW (xs.map D.int) (k:Int)=↑(.int xs[k]):=l6 D.int (by simp[S]);exact⟨[!iT xs,!iT xs,!↥(0+k)],by simp[mu,iT,U,sA],_,rfl⟩)
 have hi:=qg xs.length ∅;refine lr (e':=?w) rfl ?h;show rB [!iT xs,!iT xs,none]=_;have I:b_ 2 mu (bA 0 xs.length) [!.tup (xs.map D.int),!.tup (xs.map D.int),none]=↑(.nx,[!.tup (xs.map D.int),!.tup (xs.map D.int),v2]):=h1;simp[rB,iT,hi,I];rfl
abbrev Bk:=Int×Int×Int
def aD(r:gu):Int:=(r.map (·.2.1)).sum
def aI(r:gu):Int:=(r.map (·.2.2)).sum
def aY(r:gu):Bk:=(r.length,aD r,aI r)
def jn(u b:Bk):Bk:=(u.1+b.1,u.2.1+b.2.1,u.2.2+b.2.2)
def gt(u b:Bk):Prop:=b.2.2*u.2.1<u.2.2*b.2.1
instance (u b:Bk):Decidable (gt u b):=inferInstanceAs (Decidable (_<_))
def fW(b:Bk):Prop:=ma b.2.1/\ma b.2.2
def FQ(s:Sk):lU [sD s]=↑(sD (1,s.2.1,s.2.2)):=by
 rfl
def FR(u b:Bk):lV [sD u,sD b]=↑(sD (jn u b)):=by
 simp[lV,aL,yT,ki,sD,xS,vd,wn,jn]
def FU(u b:Bk)(Y:fW u)(Z:fW b):uo [sD u,sD b]=↑(.bl (decide (gt u b))):=by
 obtain⟨a,I,S⟩:=u;obtain⟨c,U,b3⟩:=b;have V:∀x y z:Int,zi [sD (x,y,z)]=↑(.tup [↥y,↥z]):=λx y z=>by simp[zi,aL,yU,ki,sD,vd,wn]
 have D:=yX I S U b3 Y.2 Z.2;by_cases h1:b3*I<S*U
 ·rw[az h1] at D
  simp[uo,aL,lX,ki,V,D,gt,h1]
 ·rw[bu h1] at D
  by_cases h2:S*U<b3*I
  ·rw[az h2] at D
   simp[uo,aL,lX,ki,V,D,gt,h1]
  ·rw[bu h2] at D
   simp[uo,aL,lX,ki,V,D,gt,h1]
def y_(bs:f0)(x:D):aW (bs++[x]) (-1)=↑x:=Cr bs x
def oz(a b:gu):aD (a++b)=aD a+aD b:=by simp[aD]
def rc(a b:gu):aI (a++b)=aI a+aI b:=by simp[aI]
def FW(a b:gu):jn (aY a) (aY b)=aY (a++b):=by
 simp only[jn,aY,oz,rc,ai];simp
theorem wt(r:gu)(h:∀x∈r,ip x):(r.length:Int)<=aD r/\aD r<=60*r.length/\0<=aI r/\aI r<=100*r.length:=by
 induction r with
 |nil=>simp[aD,aI] |cons x r ih =>
   obtain⟨h1,h2,D,I⟩:=ih λy S=>h y (av _ S);obtain⟨_,_,U,V,Y,Z⟩:=h x bh;simp[aD,aI,f7] at h1 h2 D I ⊢
   lia
theorem mQ(r:gu)(h:∀x∈r,ip x)(D:r.length<=1000):fW (aY r):=by
 obtain⟨h1,h2,I,S⟩:=wt r h;exact⟨o3 (by show -1000000000000<aD r/\aD r<1000000000000;lia),o3 (by show -1000000000000<aI r/\aI r<1000000000000;lia)⟩
def mn:gx->gu->gx×gu
 | [],b=>([],b) |u::r,b=>if gt (aY u) (aY b) then(u::r,b) else mn r (u++b)
def bD(r:gu):D:=sD (aY r)
def FX(I v2:gj)(bs:f0)(u b:gu):lY [I,↑(.ow (bs++[bD u])),v2,!bD b]=↑(.nx,[I,↑(.ow bs),v2,!bD (u++b)]):=by
 have e:=FR (aY u) (aY b);rw[FW] at e;simp[lY,bD,e]
theorem zv(D v2:gj):∀(n:Nat) (I:gx) (b:gu),I.length<n->(∀r∈I,∀x∈r,ip x)->(∀x∈b,ip x)->(I.flatten.length+b.length<=1000) ->
  nk (dY (fTst (fBin dGt (jd 1) [:0])) (cI (fTst (f9 uo (bz (fIxV 1 (fY dG [:1])) (bz (fVar 3) (aB))))))) lY n
   [D,↑(.ow (I.reverse.map bD)),v2,!bD b]=↑(.nx,[D,↑(.ow ((mn I b).1.reverse.map bD)),v2,!bD (mn I b).2])
 |n+1,[],b,_,_,_,_=>by simp[nk,mn] |n+1,u::r,b,h,hs,hb,hl=>by
   rw[cf,ai] at hl;have U:uo [bD u,bD b]=↑(.bl (decide (gt (aY u) (aY b)))):=FU (aY u) (aY b) (mQ u (hs u ⋯) ∅) (mQ b hb ∅);have V:(0:Int)<(r.length:Int)+1:=by lia
   have S:=FX D v2 (r.reverse.map bD) u b;unfold nk;rw[kz,cb,bx,eh];by_cases h1:gt (aY u) (aY b)
   ·simp[mn,h1,U,V,y_]
   ·have Y:=zv D v2 n r (u++b) (by simpa using h) (λt Z=>hs t (by simp[Z])) (λx hx=>by
     rcases d6.mp hx with hx |hx
     ·exact hs u ⋯ x hx
     ·exact hb x hx) (by rw[ai];lia)
    have a:mn (u::r) b=mn r (u++b):=by simp[mn,h1]
    rw[a];have c:(dY (fTst (fBin dGt (jd 1) [:0])) (cI (fTst (f9 uo (bz (fIxV 1 (fY dG [:1])) (bz (fVar 3) (aB)))))))
      [D,↑(.ow (r.reverse.map bD++[bD u])),v2,!bD b]=↑(true,[D,↑(.ow (r.reverse.map bD++[bD u])),v2,!bD b]):=by
     simp[h1,U,V,y_]
    rw[c,ac];rw[az rfl,S,ac];exact Y
structure Good (r:gu):Prop where
 ne:r≠[]
 beg:∀p,p <+: r->aI p*aD r<=aI r*aD p
theorem mR(r:gu)(h:∀x∈r,ip x):0<=aD r:=by have:=wt r h;lia
theorem tp(r:gu)(h:∀x∈r,ip x)(D:r≠[]):0<aD r:=by
 have h1:=wt r h;have:0<r.length:=jp.mpr D
 lia
def mS{α:Type}:∀ {u b p:List α},p <+: u++b->p <+: u\/∃t,p=u++t/\t <+: b
 | [],b,p,h=>.inr ⟨p,rfl,h⟩ |a::u,b,[],h=>.inl List.nil_prefix |a::u,b,c::p,h=>by
   rw[fz,List.cons_prefix_cons] at h;obtain⟨rfl,h⟩:=h;rcases mS h with h | ⟨t,rfl,ht⟩
   ·exact .inl (by rw[List.cons_prefix_cons];exact⟨rfl,h⟩)
   ·exact .inr ⟨t,rfl,ht⟩
variable{b:Bk}
theorem Good.join{u b:gu}(I:Good u)(U:Good b)(V:∀x∈u,ip x)(Y:∀x∈b,ip x)(h:¬gt (aY u) (aY b)):Good (u++b):=by
 have h':aI u*aD b<=aI b*aD u:=Int.not_lt.mp h;have e:=tp u V I.ne;have Z:=tp b Y U.ne;refine⟨by simp[I.ne],λp D=>?_⟩;rw[oz,rc];rcases mS D with D | ⟨t,rfl,ht⟩
 ·-- within u
  have h1:=I.beg p D;have f:0<=aD p:=mR p λx S=>V x (D.subset S);have n:aI p*aD u*(aD u+aD b)<=aI u*aD p*(aD u+aD b):=gh h1 ∅;have o:aD p*(aI u*aD b)<=aD p*(aI b*aD u):=sg h' f;have g:aI p*(aD u+aD b)*aD u<=(aI u+aI b)*aD p*aD u:=by
   have c:aI p*(aD u+aD b)*aD u=aI p*aD u*(aD u+aD b):=by rw[i4,iz (aD u+aD b),<-i4]
   have d:aI u*aD p*(aD u+aD b)=aI u*aD p*aD u+aD p*(aI u*aD b):=by rw[ib,iz (aI u) (aD p),i4 (aD p) (aI u) (aD b)]
   have i:(aI u+aI b)*aD p*aD u=aI u*aD p*aD u+aD p*(aI b*aD u):=by rw[jf,jf,iz (aI b) (aD p),i4 (aD p) (aI b) (aD u)]
   lia
  exact kq g e
 ·-- u and a beginning of b
  rw[oz,rc];have h1:=U.beg t ht;obtain⟨q,rfl⟩:=ht;rw[oz,rc] at h1 h' ⊢;rw[oz] at Z;have j:0<=aD q:=mR q λx S=>Y x (b7 _ S);have k:aI t*aD q<=aI q*aD t:=by
   have c:aI t*(aD t+aD q)=aI t*aD t+aI t*aD q:=ib _ _ _;have d:(aI t+aI q)*aD t=aI t*aD t+aI q*aD t:=jf _ _ _
   lia
  have r:aI u*(aD t+aD q)*aD q<=(aI t+aI q)*aD u*aD q:=gh h' j;have l:0<=aD u:=by lia
  have b3:aD u*(aI t*aD q)<=aD u*(aI q*aD t):=sg k l;have m:aI u*aD q*(aD t+aD q)<=aI q*aD u*(aD t+aD q):=by
   have c:aI u*aD q*(aD t+aD q)=aI u*(aD t+aD q)*aD q:=by rw[i4,iz (aD q),<-i4]
   have d:(aI t+aI q)*aD u*aD q=aD u*(aI t*aD q)+aI q*aD u*aD q:=by rw[jf,jf,iz (aI t) (aD u),i4 (aD u) (aI t) (aD q)]
   have i:aI q*aD u*(aD t+aD q)=aD u*(aI q*aD t)+aI q*aD u*aD q:=by rw[ib,iz (aI q) (aD u),i4 (aD u) (aI q) (aD t)]
   lia
  have s:aI u*aD q<=aI q*aD u:=kq m Z;simp only[ib,jf]
  lia
def iU:gx->Prop
 | []=>True | [_]=>True |b::u::r=>gt (aY u) (aY b)/\iU (u::r)
structure Runs (rs:gx) (s:gu):Prop where
 flat:rs.reverse.flatten=s
 good:∀r∈rs,Good r
 desc:iU rs
def z4:∀(U:gx) (b:gu) (s:gu),Runs U s->Good b->(∀x∈s++b,ip x)->Runs ((mn U b).2::(mn U b).1) (s++b)
 | [],b,s,h,gb,_=>by
   have:s=[]:=by have:=h.flat;simpa using this.symm
   subst this;exact⟨by simp[mn],λr I=>by simp[mn] at I;rw[I];exact gb,trivial⟩
 |u::r,b,s,h,gb,hx=>by
   have S:s=r.reverse.flatten++u:=by rw[<-h.flat];simp
   by_cases h1:gt (aY u) (aY b)
   ·have e:mn (u::r) b=(u::r,b):=by simp[mn,h1]
    rw[e];refine⟨by simp[S],λt ht=>?_,h1,h.desc⟩;rcases cj.mp ht with rfl |ht
    ·exact gb
    ·exact h.good t ht
   ·have e:mn (u::r) b=mn r (u++b):=by simp[mn,h1]
    rw[e];have I:Runs r r.reverse.flatten:=⟨rfl,λt ht=>h.good t (av _ ht),by
     have:=h.desc;cases r with
     |nil=>trivial |cons v r=>exact this.2⟩
    have V:Good (u++b):=(h.good u ⋯).join gb (λx D=>hx x (by rw[S];simp[D])) (λx D=>hx x (by simp[D])) h1;have:=z4 r (u++b) r.reverse.flatten I V (λx D=>hx x (by rw[S];simpa[or_assoc] using D));rw[S,dn];exact this
def FY(x:Sk)(h:ip x):Good [x]:=⟨by simp,λp I=>by
 have:p=[]\/p=[x]:=by
  obtain⟨t,D⟩:=I;cases p with
  |nil=>exact .inl rfl |cons y q=>simp at D;simp[D]
 rcases this with rfl |rfl
 ·simp[aI,aD]
 ·exact ju _⟩
def FZ(x:Sk):lU [sD x]=↑(bD [x]):=by
 rw[FQ];simp[bD,aY,aD,aI]
theorem F_(S:D)(I:gx)(s:gu)(x:Sk)(v2 i:gj)(h:Runs I s)(b:∀y∈s++[x],ip y)(p:s.length<900) :
  ∃V d,Runs V (s++[x])/\lZ [!S,↑(.ow (I.reverse.map bD)),!sD x,i]=↑(.nx,[!S,↑(.ow (V.reverse.map bD)),!sD x,d]):=by
 have Y:I.flatten.length=s.length:=by
  rw[<-h.flat,fq,fq,qu,List.sum_reverse]
 have j:I.length<=s.length:=by
  rw[<-Y];have:∀(l:gx),(∀r∈l,r≠[])->l.length<=l.flatten.length:=λl=>by
   induction l with
   |nil=>intro _;simp
   |cons a l ih =>
     intro Z;have:=ih λr U=>Z r (av _ U);have k:0<a.length:=jp.mpr (Z a bh);rw[aq,cf,ai]
     lia
  exact this I λr U=>(h.good r U).ne
 have m:=zv ⇑S ⇑(sD x) 10000 I [x] ∅ (λr U y c=>b y (by
  rw[<-h.flat];exact ek _ (dw.mpr ⟨r,by simpa using U,c⟩))) (λy c=>b y (by simp at c;simp[c])) (by rw[Y];simp;lia)
 have U:=z4 I [x] s h (FY x (b x ⋯)) b;refine⟨_,!bD (mn I [x]).2,U,?_⟩;have g:(mn I [x]).1.length<=s.length:=by
  have e:=U.flat;have:∀(l:gx),(∀r∈l,r≠[])->l.length<=l.flatten.length:=λl=>by
   induction l with
   |nil=>intro _;simp
   |cons a l ih =>
     intro Z;have:=ih λr U=>Z r (av _ U);have k:0<a.length:=jp.mpr (Z a bh);rw[aq,cf,ai]
     lia
  have h2:=this _ λr f=>(U.good r f).ne;have n:(((mn I [x]).2::(mn I [x]).1).flatten).length=(s++[x]).length:=by
   rw[<-e,fq,fq,qu,List.sum_reverse]
  rw[n] at h2;simp at h2;exact h2
 have o:bI ((mn I [x]).1.length+1):=few ∅;unfold lZ;simp only[sSeq,sSet,f9,bz,fVar,aB,af,ah,ac,aw,FZ,ay,bg,m,j8,n6,t9,ae,kf,o,d8];simp
theorem Ga(s:gu)(Z:∀y∈s,ip y)(c:s.length<=14):∃D,Runs D s/\rz [.lst (s.map sD)]=↑(.lst (D.reverse.map bD)):=by
 obtain⟨e',h1,D,v2,I,S,rfl⟩:=rh (i:=2) (g:=lZ) sD (λp e=>∃D v2 I,Runs D p/\e=[!.lst (s.map sD),↑(.ow (D.reverse.map bD)),v2,I]) s
  [!.lst (s.map sD),↑(.ow []),none,none] ⟨[],none,none,⟨rfl,λr S=>by simp at S,trivial⟩,rfl⟩ (by
   rintro p x q e U ⟨D,v2,I,S,rfl⟩;obtain⟨V,a,Y,b⟩:=F_ (.lst (s.map sD)) D p x v2 I S (λy hy=>Z y (by
    rw[U];rcases d6.mp hy with hy |hy
    ·simp[hy]
    ·simp at hy;simp[hy])) (by
    have:s.length=p.length+(q.length+1):=by rw[U];simp
    lia)
   exact⟨_,b,V,_,_,Y,rfl⟩)
 refine⟨D,S,?_⟩;refine lr (e':=[!.lst (s.map sD),!.lst (D.reverse.map bD),v2,I]) rfl ?_;show ry [!.lst (s.map sD),none,none,none]=_;simp[ry,h1]
def yj(f:α->Int)(r:List α):dU [.lst (r.map λx=>.int (f x))]=↑↥(r.map f).sum:=by
 have:(r.map λx=>D.int (f x))=(r.map f).map D.int:=by rw[eo];rfl
 rw[this];show(bJ ((r.map f).map D.int)).map _=_;rw[dH];rfl
def zA{α:Type}{ix:em}{g:FS}(I:α->f0)(P:List α->aJ->Prop)(all:List α)(S:∀x∈all,(I x).length=ix.length)(U:∀(p:List α) (x:α) (q:List α) (e:aJ),all=p++x::q->P p e->∃e',g (wv ix (I x) e)=↑(.nx,e')/\P (p++[x]) e') :
  ∀(xs pre:List α) (e:aJ),all=pre++xs->P pre e->∃e',eZ ix g (xs.map λx=>D.tup (I x)) e=↑(.nx,e')/\P all e'
 | [],pre,e,h,hp=>⟨e,rfl,by rw[h,di];exact hp⟩ |x::xs,pre,e,h,hp=>by
   obtain⟨V,h1,p1⟩:=U pre x xs e h hp;obtain⟨Y,h2,p2⟩:=zA I P all S U xs (pre++[x]) V (by rw[h];simp) p1;have Z:=S x (by rw[h];simp);exact⟨Y,by simp[eZ,lA,Z,h1,h2],p2⟩
variable{g:FS}
def mT{ix:em}(I:α->f0)(P:List α->aJ->Prop)(all:List α)(e:aJ)(S:P [] e)(U:∀x∈all,(I x).length=ix.length)(V:∀(p:List α) (x:α) (q:List α) (e:aJ),all=p++x::q->P p e->∃e',g (wv ix (I x) e)=↑(.nx,e')/\P (p++[x]) e') :
  ∃e',eZ ix g (all.map λx=>D.tup (I x)) e=↑(.nx,e')/\P all e':=zA I P all U V all [] e rfl S
def sJ{α:Type}(f:α->D):∀(xs:List α) (c:Nat),p7 c (xs.map f)=(xs.zipIdx c).map λp=>D.tup [↥(p.2:Nat),f p.1]
 | [],c=>rfl |x::xs,c=>by simp[p7,List.zipIdx_cons,sJ f xs (c+1)]
theorem vq{u:Bk}(h:gt u b):¬gt b u:=λz=>by
 unfold gt at h z
 lia
variable{c:Nat}
theorem sK{n c:Bk}(S:0<n.2.1)(U:0<c.2.1)(D:0<b.2.1)(h1:gt n c)(h2:¬gt b c):gt n b:=by
 have h2:b.2.2*c.2.1<=c.2.2*b.2.1:=Int.not_lt.mp h2;have V:b.2.2*c.2.1*n.2.1<=c.2.2*b.2.1*n.2.1:=gh h2 ∅;have Y:c.2.2*n.2.1*b.2.1<n.2.2*c.2.1*b.2.1:=Int.mul_lt_mul_of_pos_right h1 D;have I:b.2.2*n.2.1*c.2.1<n.2.2*b.2.1*c.2.1:=by
  have Z:b.2.2*n.2.1*c.2.1=b.2.2*c.2.1*n.2.1:=om ..;have a:n.2.2*b.2.1*c.2.1=n.2.2*c.2.1*b.2.1:=om ..;have d:c.2.2*b.2.1*n.2.1=c.2.2*n.2.1*b.2.1:=om ..
  lia
 exact Int.lt_of_mul_lt_mul_right I ∅
abbrev Tn:=Nat×gu
abbrev g2:=List Tn
def bS(t:Tn):D:=.tup [↥(t.1:Int),↥(t.2.length:Int),↥(aD t.2),↥(aI t.2)]
def Gb(t:Tn):vz [bS t]=↑(.tup [↥(aD t.2),↥(aI t.2)]):=by
 simp[vz,aL,yV,ki,bS,EL,EM]
def dQ(a b:Tn):Bool:=not (decide (gt (aY b.2) (aY a.2)))
variable{a:Nat}
def Gc{a b:Tn}:dQ a b=true↔¬gt (aY b.2) (aY a.2):=by simp[dQ]
theorem Ge(t n:Tn)(D:fW (aY t.2))(I:fW (aY n.2)):∃z:Int,um [.tup [↥(aD t.2),↥(aI t.2)],.tup [↥(aD n.2),↥(aI n.2)]]=↑↥z/\decide (0<=z)=dQ t n:=by
 refine⟨_,yX _ _ _ _ D.2 I.2,?_⟩;show decide ((0:Int)<=if aI n.2*aD t.2<aI t.2*aD n.2 then 1 else if aI t.2*aD n.2<aI n.2*aD t.2 then -1 else 0)=not (decide (aI t.2*aD n.2<aI n.2*aD t.2));by_cases h1:aI n.2*aD t.2<aI t.2*aD n.2
 ·rw[az h1]
  have h2:¬aI t.2*aD n.2<aI n.2*aD t.2:=by lia
  simp[h2]
 ·rw[bu h1]
  by_cases h2:aI t.2*aD n.2<aI n.2*aD t.2
  ·simp[h2]
  ·simp[h2]
def fO(ts:g2)(n:Tn):Nat:=(ts.takeWhile λt=>dQ t n).length
noncomputable def jE:FT:=dY (fTst (fBin dLt (fVar 2) (jd 0))) (fTst (fBin gW (f9 um (bz (f9 vz (bz (fIxV 0 (fVar 2)) (aB))) (bz (f9 vz (bz (fVar 1) (aB))) (aB)))) [:0]))
theorem zB(n:Tn)(Y:fW (aY n.2)):∀(D pre:g2) (I:Nat),D.length<I->(∀t∈D,fW (aY t.2)) ->
  nk jE zp I [!.lst ((pre++D).map bS),!bS n,!↥(pre.length:Int)]=↑(.nx,[!.lst ((pre++D).map bS),!bS n,!↥((pre.length+fO D n:Nat):Int)])
 | [],pre,f+1,h,_=>by
   unfold nk jE;simp[fO]
 |t::r,pre,f+1,h,hs=>by
   obtain⟨z,a,hd⟩:=Ge t n (hs t ⋯) Y;have S:aW ((pre++t::r).map bS) (pre.length:Int)=↑(bS t):=l6 bS ⋯;have U:(pre.length:Int)<((pre++t::r).map bS).length:=by simp;lia
   have b:jE [!(.lst ((pre++t::r).map bS)),!bS n,!↥(pre.length:Int)]=↑(dQ t n,[!(.lst ((pre++t::r).map bS)),!bS n,!↥(pre.length:Int)]):=by
    unfold jE;generalize (pre++t::r).map bS=L at S U;simp[U,S,Gb,a,hd]
   unfold nk;rw[b,ac];cases hg:dQ t n with
   |false =>
     simp[fO,hg]
   |true =>
     rw[az rfl];have c:zp [!(.lst ((pre++t::r).map bS)),!bS n,!↥(pre.length:Int)]=↑(.nx,[!(.lst ((pre++t::r).map bS)),!bS n,!↥((pre++[t]).length:Int)]):=by
      simp[zp]
     rw[c,ac];have Z:=zB n Y r (pre++[t]) f (by simpa using h) λt' V=>hs t' (by simp[V]);rw[dn,gf] at Z;rw[Z];have:(pre++[t]).length+fO r n=pre.length+fO (t::r) n:=by simp[fO,hg];lia
     rw[this]
theorem Gf(ts:g2)(n:Tn)(D:fW (aY n.2))(I:∀t∈ts,fW (aY t.2))(S:ts.length<9000):rD [.lst (ts.map bS),bS n]=↑↥(fO ts n:Int):=by
 have h:=zB n D ts [] 10000 ∅ I;refine lr (e':=[!.lst (ts.map bS),!bS n,!↥(fO ts n:Int)]) rfl ?_;show rC [!.lst (ts.map bS),!bS n,none]=_;have h':nk jE zp 10000 [!.lst (ts.map bS),!bS n,!↥0]=_:=h;unfold jE at h';simp[rC,h']
def ins(ts:g2)(n:Tn):g2:=(ts.takeWhile λt=>dQ t n)++n::ts.dropWhile λt=>dQ t n
def Gg(ts:g2)(n:Tn):(ts.map bS).take (fO ts n)++bS n::(ts.map bS).drop (fO ts n)=(ins ts n).map bS:=by
 have e:=jx (p:=λt=>dQ t n) (l:=ts);have D:fO ts n=(ts.takeWhile λt=>dQ t n).length:=rfl;have h1:ts.take (fO ts n)=ts.takeWhile λt=>dQ t n:=by
  rw[D];generalize (ts.takeWhile λt=>dQ t n)=A at e;rw[<-e];exact kn
 have h2:ts.drop (fO ts n)=ts.dropWhile λt=>dQ t n:=by
  rw[D];generalize (ts.takeWhile λt=>dQ t n)=A at e
  conv=>lhs;rw[<-e]
  exact List.drop_left
 rw[<-yb,<-List.map_drop,h1,h2];simp[ins]
def Gh(ts:g2)(n:Tn):fO ts n<=ts.length:=(List.takeWhile_sublist _).length_le
theorem Gi(S U Z:gj)(ts:g2)(I:Nat)(r:gu)(a:fW (aY r))(b:∀t∈ts,fW (aY t.2))(c:ts.length<9000) :
  zr [S,↑(.ow (ts.map bS)),!↥(I:Int),U,!↥(r.length:Int),!↥(aD r),!↥(aI r),Z] =
   ↑(.nx,[S,↑(.ow ((ins ts (I,r)).map bS)),!↥(I:Int),U,!↥(r.length:Int),!↥(aD r),!↥(aI r),!(bS (I,r))]):=by
 have V:=Gf ts (I,r) a b c;have Y:=Gg ts (I,r);have h1:(fO ts (I,r):Int)<=((ts.map bS).length:Nat):=by rw[ae];have:=Gh ts (I,r);lia
 have h2:bI ((ts.map bS).length+1):=few (by rw[ae];lia);have d:D.tup [↥(I:Int),↥(r.length:Int),↥(aD r),↥(aI r)]=bS (I,r):=rfl;have e:(0:Int)<=(fO ts (I,r):Int):=by lia
 generalize ts.map bS=L at V Y h1 h2;simp[zr,l7,yk,z9,d,V,wp,qG,e,h1,h2,i8,Y]
def sL(a b:Tn):Prop:=gt (aY a.2) (aY b.2)\/(¬gt (aY b.2) (aY a.2)/\a.1<b.1)
def bW(ts:g2)(j:Nat):gx:=(ts.filter λt=>t.1==j+1).map (·.2)
structure aE (ss:gx) (ts:g2):Prop where
 lo:∀t∈ts,1<=t.1/\t.1<=ss.length
 good:∀t∈ts,Good t.2
 part:∀(j:Nat) (s:gu),ss[j]?=↑s->(bW ts j).flatten=s
 srt:ts.Pairwise sL
 perm:(ts.map (·.2)).flatten.Perm ss.flatten
variable{ss:gx}{ts:g2}
def aE.sk(h:aE ss ts)(D:∀x∈ss.flatten,ip x):∀t∈ts,∀x∈t.2,ip x:=λt I x S =>
 D x (h.perm.mem_iff.mp (dw.mpr ⟨t.2,b8.mpr ⟨t,I,rfl⟩,S⟩))
def aE.len1(h:aE ss ts):∀t∈ts,t.2.length<=ss.flatten.length:=λt D=>by
 rw[<-h.perm.length_eq];exact(d4 (b8.mpr ⟨t,D,rfl⟩)).length_le
theorem zC{α:Type}:∀(l:List (List α)),(∀r∈l,r≠[])->l.length<=l.flatten.length
 | [],_=>by simp |a::l,h=>by
   have:=zC l λr D=>h r (av _ D);have I:0<a.length:=jp.mpr (h a bh);rw[aq,cf,ai]
   lia
def aE.len(h:aE ss ts):ts.length<=ss.flatten.length:=by
 have:=zC (ts.map (·.2)) λr D=>by
  obtain⟨t,I,rfl⟩:=b8.mp D;exact(h.good t I).ne
 rw[ae,h.perm.length_eq] at this;exact this
protected def aE.pos(h:aE ss ts)(I:∀x∈ss.flatten,ip x):∀t∈ts,0<aD t.2:=λt D=>tp t.2 (h.sk I t D) (h.good t D).ne
def aE.sm(h:aE ss ts)(I:∀x∈ss.flatten,ip x)(S:ss.flatten.length<=1000):∀t∈ts,fW (aY t.2):=λt D=>mQ t.2 (h.sk I t D) (b6 (h.len1 t D) S)
theorem aE.more(h:aE ss ts):aE (ss++[[]]) ts/\bW ts ss.length=[]:=by
 have e:bW ts ss.length=[]:=by
  unfold bW;rw[gp.mpr λt I=>by have:=(h.lo t I).2;simp;lia];rfl
 refine⟨⟨λt I=>⟨(h.lo t I).1,by have:=(h.lo t I).2;simp;lia⟩,h.good,λj s D=>?_,h.srt,by simpa using h.perm⟩,e⟩;by_cases S:j<ss.length
 ·rw[a0 S] at D
  exact h.part j s D
 ·have:j=ss.length:=by
   have:=(au.mp D).1;simp at this
   lia
  subst this;simp at D;subst D;rw[e];rfl
def Gj{ts:g2}{n t:Tn}:t∈ins ts n↔t∈ts\/t=n:=by
 unfold ins;have e:=jx (p:=λt=>dQ t n) (l:=ts);have D:t∈ts↔t∈(ts.takeWhile λt=>dQ t n)\/t∈ts.dropWhile λt=>dQ t n:=by
  conv=>lhs;rw[<-e]
  exact d6
 rw[D];simp[d6];constructor
 ·rintro(h |h |h)
  ·exact .inl (.inl h)
  ·exact .inr h
  ·exact .inl (.inr h)
 ·rintro((h |h) |h)
  ·exact .inl h
  ·exact .inr (.inr h)
  ·exact .inr (.inl h)
theorem aE.ins{ss:gx}{ts:g2}{pre r:gu}{p:gx}(h:aE (ss++[pre]) ts)(V:bW ts ss.length=p)(m:Good r)(g:∀x∈r,ip x)(v:∀x∈(ss++[pre]).flatten,ip x)(hd:∀u∈p,gt (aY u) (aY r)):aE (ss++[pre++r]) (LB.ins ts (ss.length+1,r))/\bW (LB.ins ts (ss.length+1,r)) ss.length=p++[r]:=by
 have e:=jx (p:=λt=>dQ t (ss.length+1,r)) (l:=ts);have hA:∀t∈(ts.takeWhile λt=>dQ t (ss.length+1,r)),dQ t (ss.length+1,r)=true:=λt I=>by
  have:=List.all_takeWhile (p:=λt=>dQ t (ss.length+1,r)) (l:=ts);exact jk.mp this t I
 have pr:0<aD r:=tp r g m.ne;have D:=@Gj ts (ss.length+1,r);have i:∀S c,ts.dropWhile (λt=>dQ t (ss.length+1,r))=S::c->gt (aY r) (aY S.2):=λS c hb=>by
  have:dQ S (ss.length+1,r)=false:=by
   have:=List.head?_dropWhile_not (p:=λt=>dQ t (ss.length+1,r)) ts;rw[hb] at this;simpa using this
  unfold dQ at this;simpa using this
 unfold LB.ins at D ⊢;have srt:=h.srt;have pos:=h.pos v;have U:∀t∈ts,t.1=ss.length+1->gt (aY t.2) (aY r):=λt I Y=>hd t.2 (by
  rw[<-V];exact b8.mpr ⟨t,jq.mpr ⟨I,by simp[Y]⟩,rfl⟩)
 have lo:=h.lo;have part:=h.part;have perm:=h.perm;rw[<-e] at srt pos U lo part perm V;generalize (ts.takeWhile λt=>dQ t (ss.length+1,r))=A at *;generalize (ts.dropWhile λt=>dQ t (ss.length+1,r))=B at *;have n:∀b∈B,gt (aY r) (aY b.2):=λb hb=>by
  cases B with
  |nil=>simp at hb |cons S c =>
    have o:=i S c rfl;rcases cj.mp hb with rfl |hb'
    ·exact o
    ·have w:=(j6.mp srt).2.1
     have:=(gg.mp w).1 b hb';have y:¬gt (aY b.2) (aY S.2):=by
      rcases this with z |z
      ·exact vq z
      ·exact z.1
     exact sK pr (pos S ⋯) (pos b (by simp[hb'])) o y
 have q:(B.filter λt=>t.1==ss.length+1)=[]:=gp.mpr λt I=>by
  intro z;exact vq (n t I) (U t (by simp[I]) (by simpa using z))
 have of:bW (A++(ss.length+1,r)::B) ss.length=p++[r]:=by
  unfold bW at V ⊢;rw[iy,q,di] at V;rw[iy,ly ⋯,q,cb,V];rfl
 refine⟨⟨λt I=>?_,λt I=>?_,λj s d=>?_,?_,?_⟩,of⟩
 ·rcases(D.mp I) with z |z
  ·have:=h.lo t z;simp at this ⊢;lia
  ·subst z;simp
 ·rcases(D.mp I) with z |z
  ·exact h.good t z
  ·subst z;exact m
 ·by_cases Z:j<ss.length
  ·rw[a0 Z] at d
   have:=part j s (by rw[a0 Z];exact d);rw[<-this];unfold bW;rw[iy,iy,lz (by simp;lia)]
  ·have:j=ss.length:=by
    have:=(au.mp d).1;simp at this
    lia
   subst this;have C:pre++r=s:=by simpa using d
   rw[of,<-C];have:=part ss.length pre ⋯;rw[show bW (A++B) ss.length=p from V] at this;simp[this]
 ·have k:=j6.mp srt
  refine j6.mpr ⟨k.1,gg.mpr ⟨λb hb=>.inl (n b hb),k.2.1⟩,λa f b hb=>?_⟩;rcases cj.mp hb with rfl |hb
  ·have E:=hA a f
   by_cases Y:a.1=ss.length+1
   ·exact .inl (U a (by simp[f]) Y)
   ·have:=(lo a (by simp[f])).2
    exact .inr ⟨Gc.mp E,by simp at this ⊢;lia⟩
  ·exact k.2.2 a f b hb
 ·have Y:((A++(ss.length+1,r)::B).map (·.2)).flatten=(A.map (·.2)).flatten++(r++(B.map (·.2)).flatten):=by simp
  have F:(ss++[pre++r]).flatten=(ss++[pre]).flatten++r:=by simp
  rw[Y,F];have G:((A++B).map (·.2)).flatten=(A.map (·.2)).flatten++(B.map (·.2)).flatten:=by simp
  rw[G] at perm;refine List.Perm.trans ?_ (perm.append_right r);rw[dn];exact List.Perm.append_left _ List.perm_append_comm
def zD:∀(D:gx),iU D->(∀r∈D,0<aD r)->D.Pairwise (λb u=>gt (aY u) (aY b))
 | [],_,_=>.nil | [b],_,_=>by simp |b::u::r,h,hp=>by
   have S:=zD (u::r) h.2 λx I=>hp x (av _ I);refine gg.mpr ⟨λx I=>?_,S⟩;rcases cj.mp I with rfl |hx'
   ·exact h.1
   ·have:=(gg.mp S).1 x hx'
    exact sK (hp x (by simp[hx'])) (hp u ⋯) (hp b ⋯) this (vq h.1)
theorem Gk(S:D)(ss:gx)(s:gu)(ts:g2)(n o t v:gj)(h:aE ss ts)(E:∀x∈(ss++[s]).flatten,ip x)(y:(ss++[s]).flatten.length<=14) :
  ∃I j k l c,aE (ss++[s]) I/\m2 [!S,↑(.ow (ts.map bS)),!↥((ss.length+1:Nat):Int),!.lst (s.map sD),n,o,t,v] =
   ↑(.nx,[!S,↑(.ow (I.map bS)),!↥((ss.length+1:Nat):Int),!.lst (s.map sD),j,k,l,c]):=by
 have d:∀x∈s,ip x:=λx hx=>E x (by simp[hx]);have z:s.length<=14:=by simp at y;lia
 obtain⟨Z,w,G⟩:=Ga s d z;have U:=w.flat;have f:∀r∈Z.reverse,Good r:=λr h=>w.good r (lx.mp h);have i:∀r∈Z.reverse,∀x∈r,ip x:=λr h x hx=>d x (by rw[<-U];exact dw.mpr ⟨r,h,hx⟩);have m:Z.reverse.Pairwise (λu b=>gt (aY u) (aY b)):=by
  rw[List.pairwise_reverse];exact zD Z w.desc λr h=>tp r (i r (lx.mpr h)) (w.good r h).ne
 have F:=h.more;obtain⟨e',h1,I,j,k,l,c,A,H,rfl⟩:=mT (ix:=[4,5,6]) (g:=zr) (λr:gu=>[D.int (r.length:Int),↥(aD r),↥(aI r)])
  (λp e=>∃I j k l c,aE (ss++[p.flatten]) I/\bW I ss.length=p/\e=[!S,↑(.ow (I.map bS)),!↥((ss.length+1:Nat):Int),!.lst (s.map sD),j,k,l,c]) Z.reverse
  [!S,↑(.ow (ts.map bS)),!↥((ss.length+1:Nat):Int),!.lst (s.map sD),n,o,t,v] ⟨ts,n,o,t,v,F.1,F.2,rfl⟩ (λ_ _=>rfl) (by
   rintro p r q e V ⟨I,j,k,l,c,ok,of,rfl⟩;have Y:r∈Z.reverse:=by rw[V];simp
   have a:∀x∈(ss++[p.flatten]).flatten,ip x:=λx hx=>by
    rw[fb,d6] at hx;rcases hx with hx |hx
    ·exact E x (by rw[fb];exact ek _ hx)
    ·refine d x ?_
     rw[<-U,V,fb];exact ek _ (by simpa using hx)
   have J:(ss++[p.flatten]).flatten.length<=14:=by
    have:p.flatten.length<=s.length:=by rw[<-U,V,fb,ai];lia
    rw[fb,ai] at y ⊢;simp only[cf,List.flatten_nil,di] at y ⊢
    lia
   have B:∀u∈p,gt (aY u) (aY r):=λu K=>by
    rw[V] at m;exact(j6.mp m).2.2 u K r ⋯
   obtain⟨L,M⟩:=ok.ins of (f r Y) (i r Y) a B;have N:r.length<=14:=by
    have:r.length<=Z.reverse.flatten.length:=(d4 Y).length_le;rw[U] at this;lia
   have body:=Gi ⇑S ⇑(.lst (s.map sD)) c I (ss.length+1) r (mQ r (i r Y) ∅) (ok.sm a ∅) (by have:=ok.len;lia);exact⟨_,body,_,_,_,_,_,by simpa using L,M,rfl⟩)
 refine⟨I,j,k,l,c,by rw[<-U];exact A,?_⟩;have C:eZ [4,5,6] zr (Z.reverse.map bD) [!S,↑(.ow (ts.map bS)),!↥((ss.length+1:Nat):Int),!.lst (s.map sD),n,o,t,v]=_:=h1;simp only[m2,t6,cM,f9,bz,fVar,aB,af,ah,ac,aw,G,C]
def aF(ss:gx):D:=.lst (ss.map λs=>D.lst (s.map sD))
def Gm(ss:gx):D.lst ((eJ ss).map D.lst)=aF ss:=by unfold aF eJ;rw[eo];rfl
theorem zE(ss:gx)(i:∀x∈ss.flatten,ip x)(j:ss.flatten.length<=14):∃ts,aE ss ts/\x8 [aF ss]=↑(.lst (ts.map bS)):=by
 obtain⟨e',h1,ts,v2,a,I,S,U,V,ok,rfl⟩:=mT (ix:=[2,3]) (g:=m2) (λp:gu×Nat=>[D.int (p.2:Int),D.lst (p.1.map sD)])
  (λp e=>∃ts v2 a I S U V,aE (p.map (·.1)) ts/\e=[!aF ss,↑(.ow (ts.map bS)),v2,a,I,S,U,V]) (ss.zipIdx 1)
  [!aF ss,↑(.ow []),none,none,none,none,none,none] ⟨[],none,none,none,none,none,none,⟨by simp,by simp,by simp,.nil,by simp⟩,rfl⟩ (λ_ _=>rfl) (by
   rintro p x q e Y ⟨ts,v2,a,I,S,U,V,ok,rfl⟩;have c:ss=p.map (·.1)++x.1::q.map (·.1):=by
    have:=congrArg (List.map (·.1)) Y;simpa using this
   have d:x.2=(p.map (·.1)).length+1:=by
    have:(ss.zipIdx 1)[p.length]?=↑x:=by rw[Y];simp
    rw[nc] at this;cases hs:ss[p.length]? with
    |none=>rw[hs] at this;cases this
    |some s =>
      rw[hs] at this;cases this;simp;lia
   have Z:ss.flatten=(p.map (·.1)++[x.1]).flatten++(q.map (·.1)).flatten:=by rw[c];simp
   obtain⟨f,l,m,n,o,h,b⟩:=Gk (aF ss) (p.map (·.1)) x.1 ts I S U V ok (λy k=>i y (by rw[Z];exact ek _ k)) (by rw[Z,ai] at j;lia);rw[<-d] at b;exact⟨_,b,f,_,_,_,_,_,_,by simpa using h,rfl⟩)
 refine⟨ts,by simpa using ok,?_⟩;refine lr (e':=[!aF ss,!.lst (ts.map bS),v2,a,I,S,U,V]) rfl ?_;show rE [!aF ss,none,none,none,none,none,none,none]=_;have b:hF 1 [aF ss]=↑((ss.zipIdx 1).map λp=>D.tup [D.int (p.2:Int),D.lst (p.1.map sD)]):=by
  show ↑(p7 1 (ss.map λs=>D.lst (s.map sD)))=_;rw[sJ]
 simp only[rE,sSeq,bY,ig,aB,ac,aw,dh,fy,d8,ay,bg,t6,jb,bz,fVar,af,ah,b,h1,aK]
def jm(n:Nat)(ts:g2):gx:=(List.range n).map λj=>(bW ts j).flatten
def og(n:Nat)(ts:g2):(jm n ts).length=n:=by simp[jm]
def rj(h:j<n):(jm n ts)[j]?=↑((bW ts j).flatten):=by simp[jm,h]
theorem aE.left(h:aE ss ts):jm ss.length ts=ss:=by
 apply gk;intro j;by_cases D:j<ss.length
 ·rw[rj D,h.part j ss[j] (by simp[D])]
  simp[D]
 ·rw[cz (by rw[og];lia),cz ∅]
def ze(t:Tn)(ts:g2)(j:Nat)(h:t.1=j+1):bW (t::ts) j=t.2::bW ts j:=by
 unfold bW;rw[ly (by simp[h])];rfl
def sM(t:Tn)(ts:g2)(j:Nat)(h:t.1≠j+1):bW (t::ts) j=bW ts j:=by
 unfold bW;rw[lz (by simp[h])]
variable{t:Tn}
theorem Gn(h1:1<=t.1)(h2:t.1<=n):(jm n (t::ts))[t.1-1]?=↑(t.2++(bW ts (t.1-1)).flatten):=by
 rw[rj ∅,ze t ts (t.1-1) ∅];simp
theorem Go(h1:1<=t.1)(h2:t.1<=n):jm n ts=(jm n (t::ts)).set (t.1-1) ((bW ts (t.1-1)).flatten):=by
 apply gk;intro j;by_cases D:j<n
 ·rw[lg,rj D,rj D,og]
  by_cases e:t.1-1=j
  ·subst e
   simp[D]
  ·rw[bu e,sM t ts j ∅]
 ·rw[cz (by rw[og];lia),cz (by rw[e7,og];lia)]
theorem zF(h1:1<=t.1)(h2:t.1<=n):jm n (t::ts)=(jm n ts).set (t.1-1) (t.2++(bW ts (t.1-1)).flatten):=by
 apply gk;intro j;by_cases D:j<n
 ·rw[lg,rj D,rj D,og]
  by_cases e:t.1-1=j
  ·subst e
   rw[ze t ts (t.1-1) ∅];simp[D]
  ·rw[bu e,sM t ts j ∅]
 ·rw[cz (by rw[og];lia),cz (by rw[e7,og];lia)]
def mU{α:Type}:∀ {l:List (List α)} {j:Nat} {s x:List α},l[j]?=↑s->(l.set j (x++s)).flatten.Perm (x++l.flatten)
 |a::l,0,s,x,h=>by
   simp at h;subst h;simp
 |a::l,j+1,s,x,h=>by
   have D:=mU (l:=l) (j:=j) (s:=s) (x:=x) (by simpa using h);simp;refine(D.append_left a).trans ?_;rw[<-dn,<-dn];exact List.perm_append_comm.append_right _
theorem zG{n:Nat}:∀ {ts:g2},(∀t∈ts,1<=t.1/\t.1<=n)->(ts.map (·.2)).flatten.Perm (jm n ts).flatten
 | [],_=>by
   have:(jm n []).flatten=[]:=by simp[jm,bW]
   rw[this];exact .nil
 |t::ts,h=>by
   have D:=zG (n:=n) (ts:=ts) λt' I=>h t' (av _ I);obtain⟨h1,h2⟩:=h t bh;rw[zF h1 h2,bx,cf];exact(D.append_left t.2).trans (mU (rj ∅)).symm
def aE.tail(h:aE (jm n (t::ts)) (t::ts)):aE (jm n ts) ts:=by
 have lo:∀t'∈ts,1<=t'.1/\t'.1<=n:=λt' D=>by
  have:=h.lo t' (av _ D);rw[og] at this;exact this
 refine⟨λt' D=>by rw[og];exact lo t' D,λt' D=>h.good t' (av _ D),λj s I=>?_,(gg.mp h.srt).2,zG lo⟩;have S:=(au.mp I).1;rw[og] at S;rw[rj S] at I;exact bn I
def Gp(a b:f0):cutD (a++b) none ↑(a.length:Int)=a:=by
 unfold cutD;rw[HT.sIx_none,HT.sIx_nat];simp
def zH(a b:f0):cutD (a++b) ↑(a.length:Int) none=b:=by
 unfold cutD;rw[HT.sIx_none,HT.sIx_nat];simp
variable{ar:Nat}{e':aJ}
def zI{I:f0}(h:ds.length=ar)(S:g (ki n ds)=↑(.rf I,e')):fJ n ar g ds=↑I:=by
 unfold fJ;rw[az h,S]
theorem Gq(ss:gx)(S:ss.length<=1000):rG [aF ss]=↑(ss.map λs=>D.lst (s.map sD)):=by
 have c:=oh (te:=aH (jb sv (bz (fVar 0) (aB)))) (base:=[]) (λs:gu=>D.lst (s.map sD)) (λs:gu=>D.lst (s.map sD)) ss λs _=>⟨_,by simp;rfl⟩;have I:bI ss.length:=few ∅;refine zI (e':=[!aF ss]) rfl ?_;show rF [!(.lst (ss.map λs:gu=>D.lst (s.map sD)))]=_;simp[rF,jy,I,c];rfl
def hT:gx->Bk
 | []=>(0,1,-1) |r::_=>aY r
def kD(b:Bk):D:=.lst [↥b.1,↥b.2.1,↥b.2.2]
variable{r:gu}{q:em}
theorem Gr{b q:gu}(h1:gt (aY r) (aY b))(h2:gt (aY r) (aY q)):gt (aY r) (aY (b++q)):=by
 have h1:aI b*aD r<aI r*aD b:=h1;have h2:aI q*aD r<aI r*aD q:=h2;show aI (b++q)*aD r<aI r*aD (b++q);rw[rc,oz,jf,ib]
 lia
theorem zJ{r:gu}(pr:0<aD r):∀(rest:gx) (q:gu),(∀b∈rest,gt (aY r) (aY b))->(∀b∈rest,Good b)->(∀b∈rest,∀x∈b,ip x)->q <+: rest.flatten->q≠[]->gt (aY r) (aY q)
 | [],q,_,_,_,hq,ne=>by simp at hq;exact absurd hq ne |b::rest,q,hd,hg,hs,hq,ne=>by
   have I:=hg b ⋯;have S:=hs b ⋯;rcases mS hq with hq | ⟨q',rfl,hq'⟩
   ·have sq:∀x∈q,ip x:=λx V=>S x (hq.subset V)
    refine sK pr (tp b S I.ne) (tp q sq ne) (hd b ⋯) ?_;have:=I.beg q hq;show ¬(aI b*aD q<aI q*aD b)
    lia
   ·by_cases U:q'=[]
    ·subst U
     rw[di];exact hd b ⋯
    ·exact Gr (hd b ⋯) (zJ pr rest q' (λc D=>hd c (by simp[D])) (λc D=>hg c (by simp[D])) (λc D=>hs c (by simp[D])) hq' U)
def Gs(D:k<s.length):aD (s.take (k+1))=aD (s.take k)+s[k].2.1/\aI (s.take (k+1))=aI (s.take k)+s[k].2.2:=by
 rw[List.take_succ_eq_append_getElem D,oz,rc];simp[aD,aI]
theorem Gu(D:∀x∈s,ip x)(S:s.length<=14)(k:Nat):0<=aD (s.take k)/\aD (s.take k)<=840/\0<=aI (s.take k)/\aI (s.take k)<=1400:=by
 have:=wt (s.take k) λx I=>D x (m9 I);have h2:(s.take k).length<=14:=by rw[dy];lia
 lia
theorem Gv(S:gx)(hd:S.Pairwise λu b=>gt (aY u) (aY b))(J:∀r∈S,Good r)(j:∀x∈S.flatten,ip x)(K:S.flatten.length<=14):mD [.lst (S.flatten.map sD)]=↑(kD (hT S)):=by
 cases S with
 |nil=>simp[mD,aL,mB,ki,hT,kD,qg 0 ∅,bA,b_,show eG [↥0]=↑(bA 0 0) from qg 0 ∅] |cons r rest =>
   have p:(r::rest).flatten=r++rest.flatten:=cf ..;rw[p] at j K ⊢;have t:=J r ⋯;have L:∀x∈r,ip x:=λx v=>j x (by simp[v]);have pr:=tp r L t.ne;have R:=wt r L;have w:=(gg.mp hd).1;generalize a:r++rest.flatten=s at *;have y:r.length<=s.length:=by rw[<-a];simp
   have tk:∀k,k<=r.length->s.take k <+: r:=λk l=>by
    rw[<-a,ir l];exact List.take_prefix _ _
   obtain⟨e',h1,T,m,rfl,U,V⟩:=uj (i:=4) (g:=zn) (λk e=>∃(b:Bk) (m:gj),e=[!.lst (s.map sD),!kD b,!↥(aD (s.take k)),!↥(aI (s.take k)),m] /\
     (k<r.length->b=(0,1,-1)\/∃q,q <+: r/\b=aY q)/\(r.length<=k->b=aY r)) (bA 0 s.length)
    [!.lst (s.map sD),!(kD (0,1,-1)),!↥0,!↥0,none] ⟨(0,1,-1),none,by simp[aD,aI],λ_=>.inl rfl,λh=>absurd (List.length_eq_zero_iff.mp (Nat.le_zero.mp h)) t.ne⟩ (by
     rintro k d e A ⟨b,m,rfl,U,V⟩;obtain⟨rfl,l⟩:=ui A;obtain⟨n,o⟩:=Gs l;have W:=Gu j K (k+1);have M:aW (s.map sD) (0+(k:Int))=↑(sD s[k]):=by rw[fu];exact l6 sD (by simp[l])
     have D:ma (aD (s.take (k+1))):=o3 ∅;have I:ma (aI (s.take (k+1))):=o3 ∅;have N:dIx (sD s[k]) ↥1=↑(.int s[k].2.1):=rfl;have O:dIx (sD s[k]) ↥2=↑(.int s[k].2.2):=rfl;have B:zn [!.lst (s.map sD),!kD b,!↥(aD (s.take k)),!↥(aI (s.take k)),!↥(0+(k:Int))] =
       ↑(.nx,[!.lst (s.map sD),!(kD (if b.2.2*aD (s.take (k+1))<=aI (s.take (k+1))*b.2.1 then aY (s.take (k+1)) else b)),!↥(aD (s.take (k+1))),!↥(aI (s.take (k+1))),!↥(0+(k:Int))]):=by
      have f:((s.take (k+1)).length:Int)=0+(k:Int)+1:=by rw[dy];lia
      by_cases c:b.2.2*aD (s.take (k+1))<=aI (s.take (k+1))*b.2.1
      ·rw[az c,show aY (s.take (k+1))=(0+(k:Int)+1,aD (s.take (k+1)),aI (s.take (k+1))) by unfold aY;rw[f]]
       rw[n] at D;rw[o] at I;rw[n,o] at c ⊢;simp only[zn,kD,sSeq,sSet,sIf,sNil,fBin,fVar,fIxV,bN,fC,fTst,aH,ig,bz,aB,af,ah,ac,aw,ay,bg,M,N,O,iq,vd,wn,ub I,qN D,gW,gi c,d8,aq,dh,show(0+1+1+1<=64)=True by simp]
      ·rw[bu c]
       rw[n] at D;rw[o] at I;rw[n,o] at c ⊢;simp only[zn,kD,sSeq,sSet,sIf,sNil,fBin,fVar,fIxV,bN,fC,fTst,aH,ig,bz,aB,af,ah,ac,aw,ay,bg,M,N,O,iq,vd,wn,ub I,qN D,gW,cu c,cw,gc]
     refine⟨_,B,_,_,rfl,λY=>?_,λP=>?_⟩
     ·split
      ·exact .inr ⟨_,tk (k+1) ∅,rfl⟩
      ·exact U ∅
     ·by_cases C:r.length<=k
      ·have Z:=V C
       subst Z;rw[bu];have E:s.take (k+1)=r++rest.flatten.take (k+1-r.length):=by
        rw[<-a,List.take_append,iw ∅]
       have F:(rest.flatten.take (k+1-r.length))≠[]:=by
        intro z;have:=congrArg List.length z;rw[dy] at this;have Q:s.length=r.length+rest.flatten.length:=by rw[<-a,ai]
        simp only[dh] at this
        lia
       have Y:=zJ pr rest _ w (λb Z=>J b (by simp[Z])) (λb Z x v=>j x (by rw[<-a];exact b7 _ (dw.mpr ⟨b,Z,v⟩))) (List.take_prefix (k+1-r.length) rest.flatten) F;rw[E,oz,rc];have Y:aI (rest.flatten.take (k+1-r.length))*aD r<aI r*aD (rest.flatten.take (k+1-r.length)):=Y;show ¬(aI r*(aD r+aD _)<=(aI r+aI _)*aD r);rw[ib,jf]
       lia
      ·have G:k+1=r.length:=by lia
       have E:s.take (k+1)=r:=by rw[G,<-a];exact kn
       rw[E,az];rcases U ∅ with rfl | ⟨q,F,rfl⟩
       ·show -1*aD r<=aI r*1
        lia
       ·exact t.beg q F)
   rw[qm,qr] at h1;have Z:=V (by rw[qm];exact y);subst Z;have hi:eG [↥(s.length:Int)]=↑(bA 0 s.length):=qg s.length ∅;refine lr (e':=[!.lst (s.map sD),!kD (aY r),!↥(aD s),!↥(aI s),m]) rfl ?_;show mB [!.lst (s.map sD),none,none,none,none]=_;have H:kD (0,1,-1)=.lst [↥0,↥1,↥(-1)]:=rfl;rw[H] at h1;simp[mB,hi,h1];rfl
def sN(h:r∈bW ts j):(j+1,r)∈ts:=by
 obtain⟨t,D,rfl⟩:=b8.mp h;obtain⟨h1,h2⟩:=jq.mp D;have:t.1=j+1:=by simpa using h2
 rw[<-this];exact h1
theorem Gw(h:ts.Pairwise sL):(bW ts j).Pairwise λu b=>gt (aY u) (aY b):=by
 unfold bW;rw[lf,List.pairwise_filter];refine h.imp λ{a b} hab ha hb=>?_;rcases hab with z |z
 ·exact z
 ·have h1:a.1=j+1:=by simpa using ha
  have h2:b.1=j+1:=by simpa using hb
  lia
def pd(n:Nat)(ts:g2):List Bk:=(List.range n).map λj=>hT (bW ts j)
def sO(h:j<n):(pd n ts)[j]?=↑(hT (bW ts j)):=by simp[pd,h]
theorem mV(ok:aE (jm n (t::ts)) (t::ts)):hT (bW (t::ts) (t.1-1))=aY t.2:=by
 have h1:=(ok.lo t ⋯).1;rw[ze t ts (t.1-1) ∅];rfl
theorem zK(ok:aE (jm n (t::ts)) (t::ts))(D:∀x∈(jm n (t::ts)).flatten,ip x)(j:Nat) :
  ¬gt (hT (bW (t::ts) j)) (aY t.2)/\(j<t.1-1->gt (aY t.2) (hT (bW (t::ts) j))):=by
 have pt:=ok.pos D t ⋯;have st:=wt t.2 (ok.sk D t ⋯);cases h:bW (t::ts) j with
 |nil =>
   have g:gt (aY t.2) (0,1,-1):=by
    show -1*aD t.2<aI t.2*1
    lia
   exact⟨vq g,λ_=>g⟩
 |cons r rest =>
   have hm:(j+1,r)∈t::ts:=sN (by rw[h];simp);rcases cj.mp hm with e |hm
   ·subst e
    exact⟨λz=>vq z z,λz=>by simp at z⟩
   ·have I:=(gg.mp ok.srt).1 _ hm
    rcases I with z | ⟨z,z'⟩
    ·exact⟨vq z,λ_=>z⟩
    ·exact⟨z,λw=>by simp at z';lia⟩
def Gx(n:Nat)(ts:g2):(jm n ts).map (λs=>D.lst (s.map sD))=(List.range n).map λj=>D.lst ((bW ts j).flatten.map sD):=by
 unfold jm;rw[eo];rfl
def Gy(h:j<n):∀x∈(bW ts j).flatten,x∈(jm n ts).flatten:=λx D =>
 dw.mpr ⟨_,bv (rj (ts:=ts) h),D⟩
def Gz(h:j<n):(bW ts j).flatten.length<=(jm n ts).flatten.length :=
 (d4 (bv (rj (ts:=ts) h))).length_le
theorem zL(ok:aE (jm n ts) ts)(D:∀x∈(jm n ts).flatten,ip x)(I:(jm n ts).flatten.length<=14)(j:Nat):fW (hT (bW ts j)):=by
 cases h:bW ts j with
 |nil=>exact⟨o3 (by decide),o3 (by decide)⟩ |cons r rest=>exact ok.sm D ∅ (j+1,r) (sN (by rw[h];simp))
def G0(H:List Bk)(U V v2:gj)(k p:Nat)(bk D:Bk)(d:H[k]?=↑bk)(e:H[p]?=↑D)(sk:fW bk)(sp:fW D) :
  x0 [U,V,v2,!.lst (H.map kD),!↥(p:Int),!↥(0+(k:Int))] =
   ↑(.nx,[U,V,v2,!.lst (H.map kD),!↥((if gt bk D then k else p:Nat):Int),!↥(0+(k:Int))]):=by
 rw[fu];have Y:aW (H.map kD) (k:Int)=↑(kD bk):=l6 kD d;have Z:aW (H.map kD) (p:Int)=↑(kD D):=l6 kD e;have a:∀b:Bk,dIx (kD b) ↥1=↑↥b.2.1:=λ_=>rfl;have c:∀b:Bk,dIx (kD b) ↥2=↑↥b.2.2:=λ_=>rfl;by_cases S:gt bk D
 ·have I:D.2.2*bk.2.1<bk.2.2*D.2.1:=S
  rw[az S];simp only[x0,sIf,sSet,sNil,fTst,fBin,fIxV,bN,fVar,fC,af,ah,ac,aw,ay,bg,Y,Z,a,c,ub sk.2,ub sp.2,dGt,gi I,d8]
 ·have I:¬D.2.2*bk.2.1<bk.2.2*D.2.1:=S
  rw[bu S];simp only[x0,sIf,sSet,sNil,fTst,fBin,fIxV,bN,fVar,fC,af,ah,ac,aw,ay,bg,Y,Z,a,c,ub sk.2,ub sp.2,dGt,cu I,cw,gc]
theorem G1(ok:aE (jm n (t::ts)) (t::ts))(Z:∀x∈(jm n (t::ts)).flatten,ip x)(l:(jm n (t::ts)).flatten.length<=14)(V Y v2 U:gj) :
  ∃I,b_ 5 x0 (bA 0 n) [V,Y,v2,!(.lst ((pd n (t::ts)).map kD)),!↥0,U] =
   ↑(.nx,[V,Y,v2,!(.lst ((pd n (t::ts)).map kD)),!↥((t.1-1:Nat):Int),I]):=by
 have lo:=ok.lo t ⋯;rw[og] at lo;have a:t.1-1<n:=by lia
 obtain⟨e',h1,p,I,rfl,_,S,D⟩:=uj (i:=5) (g:=x0) (λk e=>∃(p:Nat) (U:gj),e=[V,Y,v2,!(.lst ((pd n (t::ts)).map kD)),!↥(p:Int),U]/\p<n/\(k<=t.1-1->p<=t.1-1/\(p<k\/p=0))/\(t.1-1<k->p=t.1-1))
  (bA 0 n) [V,Y,v2,!(.lst ((pd n (t::ts)).map kD)),!↥0,U] ⟨0,U,rfl,by lia,λ_=>⟨fy _,.inr rfl⟩,λh=>absurd h (Nat.not_lt_zero _)⟩ (by
    rintro k d e b ⟨p,U,rfl,hpn,S,D⟩;obtain⟨rfl,m⟩:=ui b;have body:=G0 (pd n (t::ts)) V Y v2 k p _ _ (sO m) (sO hpn) (zL ok Z l k) (zL ok Z l p);refine⟨_,body,_,_,rfl,?_,λo=>?_,λc=>?_⟩
    ·split <;> lia
    ·have:=S ∅
     split
     ·exact⟨by lia,.inl ∅⟩
     ·exact⟨this.1,by lia⟩
    ·rcases Nat.lt_or_eq_of_le (Nat.le_of_lt_succ c) with hlt' |heq
     ·have f:=D hlt'
      subst f;rw[mV ok,bu (zK ok Z k).1]
     ·have:=S ∅
      subst heq;rw[mV ok];by_cases j:p=t.1-1
      ·subst j
       rw[mV ok,bu (λz=>vq z z)]
      ·rw[az ((zK ok Z p).2 ∅)])
 rw[qm] at D;have f:=D a;subst f;exact⟨I,h1⟩
noncomputable def mW:FT:=fTst (fBin dGt (f9 dU (bz (aH (jy (j_ 1) [] bL (jd 0))) (aB))) [:0])
theorem G2(ok:aE (jm n (t::ts)) (t::ts))(h:∀x∈(jm n (t::ts)).flatten,ip x)(i:(jm n (t::ts)).flatten.length<=14)(G:n<=1000)(Z l m k:gj)(M:f0)(H:M.length<=1000) :
  ∃o p a,mE [Z,↑(.ow ((jm n (t::ts)).map λs=>D.lst (s.map sD))),↑(.ow M),l,m,k]=↑(.nx,[Z,↑(.ow ((jm n ts).map λs=>D.lst (s.map sD))),↑(.ow (M++[bS t])),o,p,a]):=by
 have lo:=ok.lo t ⋯;rw[og] at lo;have c:=oh (te:=f9 mD (bz (fVar 0) (aB))) (base:=[]) (λj:Nat=>D.lst ((bW (t::ts) j).flatten.map sD)) (λj:Nat=>kD (hT (bW (t::ts) j))) (List.range n) (λj Y=>by
  have Y:j<n:=d9.mp Y;have q:=Gv (bW (t::ts) j) (Gw ok.srt) (λr u=>ok.good _ (sN u)) (λx v=>h x (Gy Y x v)) (b6 (Gz Y) i);refine⟨[!(.lst ((bW (t::ts) j).flatten.map sD))],?_⟩;simp only[f9,bz,fVar,aB,af,ac,q,aw])
 have w:(List.range n).map (λj:Nat=>kD (hT (bW (t::ts) j)))=(pd n (t::ts)).map kD:=by unfold pd;rw[eo];rfl
 rw[w,<-Gx] at c;obtain⟨a,y⟩:=G1 ok h i Z ↑(.ow ((jm n (t::ts)).map λs=>D.lst (s.map sD))) ↑(.ow M) k;have b:aW ((pd n (t::ts)).map kD) ((t.1-1:Nat):Int)=↑(kD (aY t.2)):=by
  rw[<-mV ok];exact l6 kD (sO ∅)
 have U:=Gn (ts:=ts) lo.1 lo.2;have V:=Go (ts:=ts) lo.1 lo.2;have d:aW ((jm n (t::ts)).map λs=>D.lst (s.map sD)) ((t.1-1:Nat):Int)=↑(.lst ((t.2++(bW ts (t.1-1)).flatten).map sD)):=l6 (λs:gu=>D.lst (s.map sD)) U;have I:=zH (t.2.map sD) ((bW ts (t.1-1)).flatten.map sD);rw[<-cb,ae] at I;have e:cU ((jm n (t::ts)).map λs=>D.lst (s.map sD)).length ((t.1-1:Nat):Int)=↑(t.1-1):=by
  rw[ue ∅ (by rw[ae,og];lia)];congr 1
 have S:((jm n (t::ts)).map λs=>D.lst (s.map sD)).set (t.1-1) (.lst ((bW ts (t.1-1)).flatten.map sD))=(jm n ts).map λs=>D.lst (s.map sD):=by
  rw[V,p4]
 have z:bI ((jm n (t::ts)).map λs=>D.lst (s.map sD)).length:=few (by rw[ae,og];lia);have f:bI (M.length+1):=few ∅;have hi:eG [↥(((pd n (t::ts)).map kD).length:Int)]=↑(bA 0 n):=by
  rw[ae,show(pd n (t::ts)).length=n by simp[pd]];exact qg n ∅
 have A:((t.1-1:Nat):Int)+1=(t.1:Int):=by lia
 generalize ((pd n (t::ts)).map kD)=HL at *;generalize B:((t.1-1:Nat):Int)=pp at *;have C:dIx (kD (aY t.2)) ↥0=↑↥(t.2.length:Int):=rfl;have E:dIx (kD (aY t.2)) ↥1=↑↥(aD t.2):=rfl;have F:dIx (kD (aY t.2)) ↥2=↑↥(aI t.2):=rfl;have g:D.tup [↥(t.1:Int),↥(t.2.length:Int),↥(aD t.2),↥(aI t.2)]=bS t:=rfl;refine⟨⇑(.lst HL),!↥pp,a,?_⟩;simp only[mE,sSeq,sSet,bQ,j8,tf,wc,aH,jy,j_,jb,bz,aB,jd,fC,n6,t9,bP,fBin,iq,fIxV,bN,fVar,fT,fZ,fS,af,ah,ac,aw,ay,bg,eh,z,f,d8,c,hi,y,b,C,E,F,A,g,d,I,e,S,aq,dh,show(0+1+1+1+1<=64)=True by simp]
theorem zM{n:Nat}(v:n<=1000)(V:gj):∀(ts:g2) (I:Nat) (Y Z b:gj) (M:f0),ts.length<I->M.length+ts.length<=1000->aE (jm n ts) ts->(∀x∈(jm n ts).flatten,ip x)->(jm n ts).flatten.length<=14 ->
  ∃g i j k,nk mW mE I [V,↑(.ow ((jm n ts).map λs=>D.lst (s.map sD))),↑(.ow M),Y,Z,b]=↑(.nx,[V,g,↑(.ow (M++ts.map bS)),i,j,k])
 |_,0,_,_,_,_,h,_,_,_,_=>by lia |ts,f+1,Y,Z,b,M,h,hM,ok,hg,hl=>by
   have c:=oh (te:=jd 0) (base:=[]) (λs:gu=>D.lst (s.map sD)) (λs:gu=>D.int (s.length:Int)) (jm n ts) λs _=>⟨_,by simp;rfl⟩;have w:=yj (λs:gu=>(s.length:Int)) (jm n ts);have z:bI ((jm n ts).map λs=>D.lst (s.map sD)).length:=few (by rw[ae,og];lia);have d:((jm n ts).map λs:gu=>(s.length:Int)).sum=((ts.map (·.2)).flatten.length:Int):=by
    have e:∀l:gx,(l.map λs:gu=>(s.length:Int)).sum=(l.flatten.length:Int):=λl=>by
     induction l with
     |nil=>rfl |cons a l m=>rw[bx,f7,m,cf,ai];lia
    rw[e,ok.perm.length_eq]
   rw[d] at w;have A:mW [V,↑(.ow ((jm n ts).map λs=>D.lst (s.map sD))),↑(.ow M),Y,Z,b]=↑(decide (0<((ts.map (·.2)).flatten.length:Int)),[V,↑(.ow ((jm n ts).map λs=>D.lst (s.map sD))),↑(.ow M),Y,Z,b]):=by
    unfold mW;generalize ((jm n ts).map λs=>D.lst (s.map sD))=L at *;simp[jy,j_,z,c,w]
   unfold nk;rw[A,ac];dsimp only;cases ts with
   |nil =>
     rw[bu ⋯];exact⟨↑(.ow ((jm n []).map λs=>D.lst (s.map sD))),Y,Z,b,by rw[eh,di]⟩
   |cons t ts =>
     have y:0<t.2.length:=jp.mpr (ok.good t ⋯).ne;rw[az (by simp[kx];lia)];obtain⟨i,j,k,U⟩:=G2 ok hg hl v V Y Z b M (by simp at hM;lia);rw[U,ac];dsimp only;have o:=ok.tail;have lo:=ok.lo t ⋯;rw[og] at lo;have S:(t.2++(jm n ts).flatten).Perm (jm n (t::ts)).flatten:=by
      rw[zF lo.1 lo.2];exact(mU (rj ∅)).symm
     have p:=S.length_eq;rw[ai] at p;obtain⟨g,q,r,u,m⟩:=zM v V ts f i j k (M++[bS t]) (by simp at h;lia) (by simp at hM ⊢;lia) o (λx B=>hg x (S.mem_iff.mp (b7 _ B))) ∅;exact⟨g,q,r,u,by rw[m];simp⟩
theorem zN(ok:aE ss ts)(S:∀x∈ss.flatten,ip x)(U:ss.flatten.length<=14)(e:ss.length<=900):yW [aF ss]=↑(.lst (ts.map bS)):=by
 have V:=ok.len;have I:=ok.left;have c:=oh (te:=aH (jb sv (bz (fVar 0) (aB)))) (base:=[]) (λs:gu=>D.lst (s.map sD)) (λs:gu=>D.lst (s.map sD)) ss λs _=>⟨_,by simp;rfl⟩;have Y:bI (ss.map λs=>D.lst (s.map sD)).length:=few (by rw[ae];lia);obtain⟨Z,a,b,d,h⟩:=zM (n:=ss.length) ∅ ⇑(aF ss) ts 10000 none none none [] ∅ (by simp;lia) (by rw[I];exact ok) (by rw[I];exact S) (by rw[I];exact U);rw[I,gl] at h;refine lr (e':=[!aF ss,Z,!.lst (ts.map bS),a,b,d]) rfl ?_;show rK [!(.lst (ss.map λs=>D.lst (s.map sD))),none,none,none,none,none]=_;unfold mW aF at h;unfold aF;generalize (ss.map λs=>D.lst (s.map sD))=L at *;simp[rK,jy,Y,c,h]
def l4(ts:g2):em:=(ts.map λt=>List.replicate t.2.length t.1).flatten
def iD(ns:em):f0:=ns.map λn:Nat=>D.int (n:Int)
def xp(a b:g2):l4 (a++b)=l4 a++l4 b:=by simp[l4]
def zc(t:Tn):l4 [t]=List.replicate t.2.length t.1:=by simp[l4]
def G3(ts:g2):(l4 ts).length=(ts.map (·.2)).flatten.length:=by
 induction ts with
 |nil=>rfl |cons t ts ih =>
   rw[show t::ts=[t]++ts from rfl,xp,zc,ai,i5,ih];simp
def G4(d:D)(k:Nat):(List.replicate k [d]).flatten=List.replicate k d:=by simp_all
def G5(a b:em):iD (a++b)=iD a++iD b:=by simp[iD]
def G6(k a:Nat):iD (List.replicate k a)=List.replicate k ↥(a:Int):=by simp[iD]
def G7(a:em):(iD a).length=a.length:=by simp[iD]
theorem sP(k:Nat)(h:k<=1000000):eT (-(2 ^ 62)) (2 ^ 62) (k:Int):=⟨by lia,by lia⟩
theorem G8(ok:aE ss ts)(Y:x8 [aF ss]=↑(.lst (ts.map bS)))(b:ss.flatten.length<=14):rJ [aF ss]=↑(iD (l4 ts)):=by
 have I:(l4 ts).length<=14:=by rw[G3,ok.perm.length_eq];exact b
 obtain⟨e',h1,v2,S,U,V,rfl⟩:=mT (ix:=[2,3,4,5]) (g:=m3) (λt:Tn=>[D.int (t.1:Int),↥(t.2.length:Int),↥(aD t.2),↥(aI t.2)]) (λp e=>∃v2 S U V,e=[!aF ss,↑(.ow (iD (l4 p))),v2,S,U,V]) ts
  [!aF ss,↑(.ow []),none,none,none,none] ⟨none,none,none,none,rfl⟩ (λ_ _=>rfl) (by
   rintro p t q e Z ⟨v2,S,U,V,rfl⟩;have c:(l4 p).length+t.2.length<=14:=by
    rw[Z,xp,show t::q=[t]++q from rfl,xp,zc] at I;simp at I
    lia
   have d:bI (1*t.2.length):=few ∅;have f:bI ((iD (l4 p)).length+(List.replicate t.2.length (D.int (t.1:Int))).length):=few (by rw[G7,i5];lia);have h:=sP t.2.length ∅;have i:iD (l4 p)++List.replicate t.2.length (D.int (t.1:Int))=iD (l4 (p++[t])):=by rw[xp,zc,G5,G6]
   refine⟨[!aF ss,↑(.ow (iD (l4 (p++[t])))),!↥(t.1:Int),!↥(t.2.length:Int),!↥(aD t.2),!↥(aI t.2)],?_,_,_,_,_,rfl⟩;rw[<-i];simp only[wv,m3,j8,xb,lD,hC,ig,bz,fVar,aB,af,ah,ac,aw,ay,bg,aq,dh,show(0+1<=64)=True by simp,d8,i8,jg,d,h,and_self,G4,f])
 refine zI (e':=[!aF ss,↑(.ow (iD (l4 ts))),v2,S,U,V]) rfl ?_;show rH [!aF ss,none,none,none,none,none]=_;have a:eZ [2,3,4,5] m3 (ts.map bS) [!aF ss,↑(.ow []),none,none,none,none]=_:=h1;simp[rH,Y,a]
structure aZ (ss:gx) (os:em):Prop where
 lo:∀a∈os,1<=a/\a<=ss.length
 cnt:∀(j:Nat) (s:gu),ss[j]?=↑s->os.count (j+1)=s.length
theorem zO(m:Nat):∀n:Nat,((List.range n).map λj=>if j=m then 1 else 0).sum=if m<n then 1 else 0
 |0=>by simp |n+1=>by
   rw[gz,cb,List.sum_append,zO m n];simp only[bx,eh,f7,List.sum_nil];by_cases h1:m<n
   ·rw[az h1,bu ∅,az ∅];rfl
   ·rw[bu h1]
    by_cases h2:n=m
    ·rw[az h2,az ∅];rfl
    ·rw[bu h2,bu ∅];rfl
theorem zP{α:Type}(f g:α->Nat):∀l:List α,(l.map λx=>f x+g x).sum=(l.map f).sum+(l.map g).sum
 | []=>rfl |x::l=>by
   simp[f7,zP f g l]
   lia
theorem zQ(n:Nat):∀(p:em),(∀a∈p,1<=a/\a<=n)->((List.range n).map λj=>p.count (j+1)).sum=p.length
 | [],_=>by
   have:∀l:em,(l.map λj=>([]:em).count (j+1)).sum=0:=λl=>by
    induction l with
    |nil=>rfl |cons a l D=>rw[bx,f7,D];rfl
   rw[this];rfl
 |a::p,h=>by
   have D:=zQ n p λb S=>h b (av _ S);have U:=h a bh;have e:(λj=>(a::p).count (j+1))=λj=>p.count (j+1)+if j=a-1 then 1 else 0:=by
    funext j;rw[mj];by_cases I:j=a-1
    ·rw[az I,az (by simp;lia)]
    ·rw[bu I,bu (by simp;lia)]
   rw[e,zP,D,zO,az ∅,aq]
def G9(ss:gx):((List.range ss.length).map λj=>(ss.getD j []).length).sum=ss.flatten.length:=by
 have:(List.range ss.length).map (λj=>(ss.getD j []).length)=ss.map List.length:=by
  apply gk;intro i;by_cases h:i<ss.length
  ·simp[h]
  ·simp[h]
 rw[this,fq]
variable{os:em}
def aZ.len(h:aZ ss os):os.length=ss.flatten.length:=by
 rw[<-zQ ss.length os h.lo,<-G9];congr 1;apply gm;intro j D;have D:j<ss.length:=d9.mp D;rw[h.cnt j ss[j] (by simp[D])];simp[D]
def sQ{P:List α->Prop}(D:P [])(I:∀p a,P p->P (p++[a]))(p:List α):P p:=by
 have:∀l:List α,P l.reverse:=λl=>by
  induction l with
  |nil=>exact D |cons a l ih=>rw[kz];exact I _ _ ih
 rw[<-j5 p];exact this _
def p9(ss:gx)(a c:Nat):Sk:=(ss.getD (a-1) []).getD c (0,0,0)
def tk(ss:gx)(os:em):gu:=(List.range os.length).map λi=>p9 ss (os.getD i 0) ((os.take i).count (os.getD i 0))
theorem vp(ss:gx)(p:em)(a:Nat):tk ss (p++[a])=tk ss p++[p9 ss a (p.count a)]:=by
 unfold tk;rw[ai,d5,gz,cb];congr 1
 ·apply gm
  intro i hi;have hi:i<p.length:=d9.mp hi;have D:(p++[a]).getD i 0=p.getD i 0:=by
   rw[aj,aj,a0 hi]
  rw[D,ir ∅]
 ·have D:(p++[a]).getD p.length 0=a:=by simp
  simp only[bx,eh];rw[D,kn]
def mX(ss:gx)(os:em):(tk ss os).length=os.length:=by simp[tk]
theorem aZ.at{ss:gx}{p q:em}{a:Nat}(h:aZ ss (p++a::q)):∃s,ss[a-1]?=↑s/\p.count a<s.length/\s[p.count a]?=↑(p9 ss a (p.count a))/\1<=a/\a<=ss.length:=by
 obtain⟨h1,h2⟩:=h.lo a ⋯;have D:a-1<ss.length:=by lia
 have S:=h.cnt (a-1) ss[a-1] (by simp[D]);rw[show a-1+1=a by lia,i7,ia] at S;have I:p.count a<ss[a-1].length:=by lia
 refine⟨ss[a-1],by simp[D],I,?_,h1,h2⟩;unfold p9;simp[D,I]
def aZ.mem(h:aZ ss os):∀(p:em),∀(q:em),os=p++q->∀x∈tk ss p,x∈ss.flatten:=by
 apply sQ
 ·intro q _ x hx
  simp[tk] at hx
 ·intro p a S q I x hx
  rw[vp] at hx;rcases d6.mp hx with hx |hx
  ·exact S (a::q) (by rw[I];simp) x hx
  ·rw[I,dn,gf] at h
   obtain⟨s,U,V,D,_⟩:=h.at;have e:x=p9 ss a (p.count a):=by simpa using hx
   subst e;exact dw.mpr ⟨s,bv U,bv D⟩
def aZ.sk(h:aZ ss os):∀x∈tk ss os,x∈ss.flatten:=h.mem os [] ⋯
theorem zR(ts:g2)(j:Nat):(l4 ts).count (j+1)=(bW ts j).flatten.length:=by
 induction ts with
 |nil=>simp[l4,bW] |cons t ts ih =>
   rw[show t::ts=[t]++ts from rfl,xp,zc,i7,ih];by_cases e:t.1=j+1
   ·rw[gf,ze t ts j e,cf,ai,e,List.count_replicate_self]
   ·rw[gf,sM t ts j e,List.count_replicate,bu (by simpa using e)]
    lia
def aE.whole(ok:aE ss ts):aZ ss (l4 ts):=by
 refine⟨λa I=>?_,λj s S=>?_⟩
 ·obtain⟨l,U,D⟩:=dw.mp I
  obtain⟨t,V,rfl⟩:=b8.mp U;rw[List.eq_of_mem_replicate D];exact ok.lo t V
 ·rw[zR,ok.part j s S]
def aT(n:Nat)(f:Nat->Int):f0:=(List.range n).map λj=>D.int (f j)
def sR(n:Nat)(f:Nat->Int):(aT n f).length=n:=by simp[aT]
def sS(n:Nat)(f:Nat->Int)(j:Nat)(h:j<n):aW (aT n f) (j:Int)=↑↥(f j):=l6 (λj:Nat=>D.int (f j)) (by simp[h])
def zS(n:Nat)(f g:Nat->Int)(j:Nat)(h:∀i,i<n->i≠j->g i=f i):(aT n f).set j ↥(g j)=aT n g:=by
 apply gk;intro i;unfold aT;rw[lg];by_cases hi:i<n
 ·by_cases e:j=i
  ·subst e;simp[hi]
  ·rw[bu e]
   simp[hi,h i hi (Ne.symm e)]
 ·by_cases e:j=i
  ·subst e;simp[hi]
  ·rw[bu e];simp[hi]
def zT(n:Nat)(f:Nat->Int)(j:Nat)(h:j<n):(aT n f)[j]?=↑↥(f j):=by simp[aT,h]
def sU(h:ds.length=ar)(D:g (ki n ds)=↑(.nx,e')):aL n ar g ds=some .non:=by
 unfold aL;rw[az h,D]
theorem GA(U:1<=a)(V:a<=ss.length):rM [aF ss,↥(a:Int)]=some .non:=by
 have I:decide ((a:Int)<1)=false:=by simp;lia
 have S:decide (((ss.map λs=>D.lst (s.map sD)).length:Int)<(a:Int))=false:=by rw[ae];simp;lia
 refine sU (e':=[!aF ss,!↥(a:Int)]) rfl ?_;show rL [!aF ss,!↥(a:Int)]=_;unfold aF;generalize (ss.map λs=>D.lst (s.map sD))=L at *;simp only[rL,sIf,sNil,fOr,fTst,fBin,fVar,fC,jd,dLt,dGt,af,ah,ac,aw,ay,bg,I,S,cw,gc]
def bT(ss:gx)(p:em)(j:Nat):Int:=((ss.getD j []).length:Int)-(p.count (j+1):Int)
def GB(ss:gx):(ss.map λs=>D.int (s.length:Int))=aT ss.length (bT ss []):=by
 apply gk;intro i;unfold aT bT;by_cases h:i<ss.length
 ·simp[h]
 ·simp[h]
def GC(ss:gx):oa bL (jd 0) [] (ss.map λs=>D.lst (s.map sD))=↑(aT ss.length (bT ss [])):=by
 rw[<-GB];exact oh (te:=jd 0) (base:=[]) (λs:gu=>D.lst (s.map sD)) (λs:gu=>D.int (s.length:Int)) ss λs _=>⟨_,by simp;rfl⟩
def mY(p:em)(a b:Nat):(p++[a]).count b=p.count b+if a=b then 1 else 0:=by
 by_cases h:a=b
 ·simp[h]
 ·simp[h]
theorem GD(ss:gx)(p:em)(a:Nat)(h1:1<=a):bT ss (p++[a]) (a-1)=bT ss p (a-1)-1/\∀i,i≠a-1->bT ss (p++[a]) i=bT ss p i:=by
 unfold bT;refine⟨?_,λi hi=>?_⟩
 ·rw[mY,az ∅];lia
 ·rw[mY,bu ∅];lia
def GE(h:aZ ss os)(j:Nat)(D:j<ss.length):bT ss os j=0:=by
 unfold bT;rw[h.cnt j ss[j] (by simp[D])];simp[D]
variable{p:em}
theorem GF(h:aZ ss (p++a::q)):0<bT ss p (a-1):=by
 obtain⟨s,D,I,_,h1,h2⟩:=h.at;unfold bT;rw[show a-1+1=a by lia,aj,D];simp
 lia
def GG(n:Nat)(f:Nat->Int):bJ (aT n f)=↑((List.range n).map f):=by
 have:aT n f=((List.range n).map f).map D.int:=by unfold aT;rw[eo];rfl
 rw[this,dH]
theorem zU(f:Nat->Int):∀n:Nat,(∀j,j<n->f j=0)->((List.range n).map f).sum=0
 |0,_=>rfl |n+1,h=>by
   rw[gz,cb,List.sum_append,zU f n λj D=>h j ∅];simp[h n ∅]
theorem GH(h:aZ ss os)(v:ss.length<=1000):rO [aF ss,.lst (iD os)]=some .non:=by
 obtain⟨e',h1,Y,rfl⟩:=rh (i:=3) (g:=mG) (λa:Nat=>D.int (a:Int)) (λp e=>∃Y,e=[!aF ss,!.lst (iD os),↑(.ow (aT ss.length (bT ss p))),Y]) os
  [!aF ss,!.lst (iD os),↑(.ow (aT ss.length (bT ss []))),none] ⟨none,rfl⟩ (by
   rintro p a q e Z ⟨Y,rfl⟩;have f:aZ ss (p++a::q):=by rw[<-Z];exact h
   obtain⟨s,w,k,_,l,x⟩:=f.at;have y:=GF f;obtain⟨m,n⟩:=GD ss p a l;have b:(a:Int)-1=((a-1:Nat):Int):=by lia
   have c:=sS ss.length (bT ss p) (a-1) ∅;have U:=zT ss.length (bT ss p) (a-1) ∅;have I:=zS ss.length (bT ss p) (bT ss (p++[a])) (a-1) (λi _ hi=>n i hi);rw[m] at I;have o:decide (bT ss p (a-1)=0)=false:=by simp;lia
   have d:a-1<(aT ss.length (bT ss p)).length:=by rw[sR];lia
   have r:(0:Int)<=((a-1:Nat):Int):=by lia
   refine⟨[!aF ss,!.lst (iD os),↑(.ow (aT ss.length (bT ss (p++[a])))),!↥(a:Int)],?_,_,rfl⟩;rw[<-I];generalize aT ss.length (bT ss p)=L at *;simp only[mG,sSeq,sIf,sNil,uv,lC,fTst,fBin,fIxV,bN,fVar,fC,dSub,dEq,af,ah,ac,aw,ay,bg,b,c,o,cw,gc,r,d8,i8,U,d])
 have b:((List.range ss.length).map (bT ss os)).sum=0:=zU _ _ λj t=>GE h j t;have S:=GG ss.length (bT ss os);have k:=GC ss;have u:bI (ss.map λs=>D.lst (s.map sD)).length:=few (by rw[ae];lia);refine sU (e':=[!aF ss,!.lst (iD os),↑(.ow (aT ss.length (bT ss os))),Y]) rfl ?_;show rN [!aF ss,!.lst (iD os),none,none]=_;have V:b_ 3 mG (iD os) [!aF ss,!.lst (iD os),↑(.ow (aT ss.length (bT ss []))),none]=_:=h1;unfold aF at V ⊢;generalize iD os=O at *;generalize (ss.map λs=>D.lst (s.map sD))=L at *;simp[rN,jy,lG,u,k,V,S,b,Int.lt_irrefl]
def GI(h:aZ ss os)(U:ss.length<=1000):rQ [aF ss,.lst (iD os)]=some .non:=by
 obtain⟨e',h1,v2,rfl⟩:=rh (i:=2) (g:=mH) (λa:Nat=>D.int (a:Int)) (λp e=>∃v2,e=[!aF ss,!.lst (iD os),v2]) os
  [!aF ss,!.lst (iD os),none] ⟨none,rfl⟩ (by
   rintro p a q e I ⟨v2,rfl⟩;obtain⟨V,Y⟩:=h.lo a (by rw[I];simp);have Z:=GA (ss:=ss) V Y;simp[mH,Z])
 have h2:=GH h U;refine sU (e':=[!aF ss,!.lst (iD os),v2]) rfl ?_;show rP [!aF ss,!.lst (iD os),none]=_;have S:b_ 2 mH (iD os) [!aF ss,!.lst (iD os),none]=_:=h1;generalize iD os=O at *;simp[rP,S,h2]
def bB(p:em)(j:Nat):Int:=(p.count (j+1):Int)
theorem GJ(p:em)(a:Nat)(h1:1<=a):bB (p++[a]) (a-1)=bB p (a-1)+1/\∀i,i≠a-1->bB (p++[a]) i=bB p i:=by
 unfold bB;refine⟨?_,λi hi=>?_⟩
 ·rw[mY,az ∅];lia
 ·rw[mY,bu ∅];lia
def sV(ss:gx):oa bL [:0] [] (ss.map λs=>D.lst (s.map sD))=↑(aT ss.length (bB [])):=by
 rw[oh (te:=fC ↥0) (base:=[]) (λs:gu=>D.lst (s.map sD)) (λs:gu=>D.int 0) ss λs _=>⟨_,by simp;rfl⟩];congr 1;apply gk;intro i;unfold aT bB;by_cases h:i<ss.length
 ·simp[h]
 ·simp[h]
theorem sW(U:aZ ss (p++a::q)) :
  (a:Int)-1=((a-1:Nat):Int)/\aW (aT ss.length (bB p)) ((a-1:Nat):Int)=↑↥(p.count a:Int)/\(aT ss.length (bB p))[a-1]?=↑↥(p.count a:Int) /\
    (aT ss.length (bB p)).set (a-1) ↥((p.count a:Int)+1)=aT ss.length (bB (p++[a]))/\a-1<(aT ss.length (bB p)).length/\cU (aT ss.length (bB p)).length ((a-1:Nat):Int)=↑(a-1) /\
    ∃s:gu,aW (ss.map λs=>D.lst (s.map sD)) ((a-1:Nat):Int)=↑(.lst (s.map sD))/\aW (s.map sD) (p.count a:Int)=↑(sD (p9 ss a (p.count a))):=by
 obtain⟨s,V,d,Y,Z,e⟩:=U.at;obtain⟨b,c⟩:=GJ p a Z;have S:bB p (a-1)=(p.count a:Int):=by unfold bB;rw[show a-1+1=a by lia]
 have I:=zS ss.length (bB p) (bB (p++[a])) (a-1) (λi _ hi=>c i hi);rw[b,S] at I;refine⟨by lia,?_,?_,I,by rw[sR];lia,?_,s,l6 (λs:gu=>D.lst (s.map sD)) V,l6 sD Y⟩
 ·rw[sS _ _ _ ∅,S]
 ·rw[zT _ _ _ ∅,S]
 ·rw[ue ∅ (by rw[sR];lia)]
  congr 1
theorem GK(h:aZ ss os)(m:ss.length<=1000)(l:os.length<=1000):rS [aF ss,.lst (iD os)]=↑(.lst ((tk ss os).map sD)):=by
 obtain⟨e',h1,b,rfl⟩:=rh (i:=4) (g:=mI) (λa:Nat=>D.int (a:Int)) (λp e=>∃b,e=[!aF ss,!.lst (iD os),↑(.ow (aT ss.length (bB p))),↑(.ow ((tk ss p).map sD)),b]) os
  [!aF ss,!.lst (iD os),↑(.ow (aT ss.length (bB []))),↑(.ow []),none] ⟨none,rfl⟩ (by
   rintro p a q e I ⟨b,rfl⟩;have n:aZ ss (p++a::q):=by rw[<-I];exact h
   obtain⟨o,c,U,V,d,r,s,f,j⟩:=sW n;have k:bI (((tk ss p).map sD).length+1):=few (by rw[ae,mX];rw[I] at l;simp at l;lia);have t:(0:Int)<=((a-1:Nat):Int):=by lia
   have u:dIx (.lst (s.map sD)) ↥(p.count a:Int)=↑(sD (p9 ss a (p.count a))):=j;refine⟨[!aF ss,!.lst (iD os),↑(.ow (aT ss.length (bB (p++[a])))),↑(.ow ((tk ss (p++[a])).map sD)),!↥(a:Int)],?_,_,rfl⟩;rw[<-V,vp,cb,bx,eh];unfold aF;generalize (tk ss p).map sD=M at *;generalize s.map sD=S at *;simp only[mI,sSeq,j8,uv,lC,n6,t9,fBin,fIxV,bN,fVar,fC,dSub,iq,af,ah,ac,aw,ay,bg,o,c,f,u,k,t,d8,i8,U,d])
 have Y:=GI h m;have v:=sV ss;have k:bI (ss.map λs=>D.lst (s.map sD)).length:=few (by rw[ae];lia);refine lr (e':=[!aF ss,!.lst (iD os),↑(.ow (aT ss.length (bB os))),!.lst ((tk ss os).map sD),b]) rfl ?_;show rR [!aF ss,!.lst (iD os),none,none,none]=_;have Z:b_ 4 mI (iD os) [!aF ss,!.lst (iD os),↑(.ow (aT ss.length (bB []))),↑(.ow []),none]=_:=h1;unfold aF at Z Y ⊢;generalize (ss.map λs=>D.lst (s.map sD))=L at *;simp[rR,jy,Y,k,v,Z]
theorem GL(h:aZ ss os)(r:ss.length<=1000)(f:os.length<=1000):mK [aF ss,.lst (iD os)]=↑(.lst ((tk ss os).map sD)):=by
 obtain⟨e',h1,V,rfl⟩:=rh (i:=4) (g:=mJ) (λa:Nat=>D.int (a:Int)) (λp e=>∃V,e=[!aF ss,!.lst (iD os),↑(.ow (aT ss.length (bB p))),↑(.ow ((tk ss p).map sD)),V]) os
  [!aF ss,!.lst (iD os),↑(.ow (aT ss.length (bB []))),↑(.ow []),none] ⟨none,rfl⟩ (by
   rintro p a q e I ⟨V,rfl⟩;have k:aZ ss (p++a::q):=by rw[<-I];exact h
   obtain⟨l,Y,j,S,m,Z,s,b,c⟩:=sW k;have d:bI (((tk ss p).map sD).length+1):=few (by rw[ae,mX];rw[I] at f;simp at f;lia);have n:dIx (.lst (s.map sD)) ↥(p.count a:Int)=↑(sD (p9 ss a (p.count a))):=c;refine⟨[!aF ss,!.lst (iD os),↑(.ow (aT ss.length (bB (p++[a])))),↑(.ow ((tk ss (p++[a])).map sD)),!↥(a:Int)],?_,_,rfl⟩;rw[<-S,vp,cb,bx,eh];unfold aF;generalize (ss.map λs=>D.lst (s.map sD))=L at *;generalize (tk ss p).map sD=M at *;simp only[mJ,sSeq,j8,tf,wc,n6,t9,fBin,fIxV,bN,fVar,fC,dSub,iq,af,ah,ac,aw,ay,bg,l,Y,b,n,d,d8,Z])
 have o:=sV ss;have d:bI (ss.map λs=>D.lst (s.map sD)).length:=few (by rw[ae];lia);refine lr (e':=[!aF ss,!.lst (iD os),↑(.ow (aT ss.length (bB os))),!.lst ((tk ss os).map sD),V]) rfl ?_;show rW [!aF ss,!.lst (iD os),none,none,none]=_;have U:b_ 4 mJ (iD os) [!aF ss,!.lst (iD os),↑(.ow (aT ss.length (bB []))),↑(.ow []),none]=_:=h1;unfold aF at U ⊢;generalize (ss.map λs=>D.lst (s.map sD))=L at *;simp[rW,jy,d,o,U]
def qk(x:Sk)(r:gu):aD (x::r)=x.2.1+aD r:=rfl
def tq(x:Sk)(r:gu):aI (x::r)=x.2.2+aI r:=rfl
def gv(h:Int):gu->Int
 | []=>0 |x::r=>x.2.2*(h+x.2.1)+gv (h+x.2.1) r
theorem mZ(x:Sk):∀(p:gu) (h:Int),gv h (p++[x])=gv h p+x.2.2*(h+aD p+x.2.1)
 | [],h=>by simp[gv,aD] |y::p,h=>by
   rw[fz,gv,gv,mZ x p,qk,<-yd h]
   lia
def GM(x:Sk):lS [sD x]=↑↥x.2.1:=rfl
def GN(x:Sk):lT [sD x]=↑↥x.2.2:=rfl
theorem zV(h:aZ ss os)(S:∀x∈ss.flatten,ip x)(U:ss.length<=1000)(a:os.length<=900):zg [aF ss,.lst (iD os)]=↑↥(gv 0 (tk ss os)):=by
 have V:=GK h U ∅;obtain⟨e',h1,D,rfl⟩:=rh (i:=4) (g:=rT) sD (λp e=>∃D,e=[!aF ss,!.lst (iD os),!↥(gv 0 p),!↥(aD p),D]) (tk ss os)
  [!aF ss,!.lst (iD os),!↥0,!↥0,none] ⟨none,rfl⟩ (by
   rintro p x q e I ⟨D,rfl⟩;obtain⟨_,_,_,_,b,c⟩:=S x (h.sk x (by rw[I];simp));have sm:ma x.2.2:=o3 ∅;have Y:aD (p++[x])=aD p+x.2.1:=by rw[oz];simp[aD]
   have Z:gv 0 (p++[x])=gv 0 p+x.2.2*(aD p+x.2.1):=by rw[mZ,fu]
   rw[Y,Z];simp[rT,GM,GN,ub sm])
 refine lr (e':=[!aF ss,!.lst (iD os),!↥(gv 0 (tk ss os)),!↥(aD (tk ss os)),D]) rfl ?_;show rV [!aF ss,!.lst (iD os),none,none,none]=_;simp[rV,V,h1]
theorem GO(T:gu)(S:∀x∈T,ip x):r_ [.lst (T.map sD)]=↑↥(gv 0 T):=by
 obtain⟨e',h1,D,rfl⟩:=rh (i:=3) (g:=rY) sD (λp e=>∃D,e=[!.lst (T.map sD),!↥(aD p),!↥(gv 0 p),D]) T
  [!.lst (T.map sD),!↥0,!↥0,none] ⟨none,rfl⟩ (by
   rintro p x q e I ⟨D,rfl⟩;obtain⟨_,_,_,_,Y,Z⟩:=S x (by rw[I];simp);have sm:ma x.2.2:=o3 ∅;have U:aD (p++[x])=aD p+x.2.1:=by rw[oz];simp[aD]
   have V:gv 0 (p++[x])=gv 0 p+x.2.2*(aD p+x.2.1):=by rw[mZ,fu]
   rw[U,V];generalize T.map sD=TT at *;unfold sD;simp[rY,vd,wn,ub sm])
 refine lr (e':=[!.lst (T.map sD),!↥(aD T),!↥(gv 0 T),D]) rfl ?_;show rZ [!.lst (T.map sD),none,none,none]=_;simp[rZ,h1]
theorem GP(ok:aE ss ts)(I:x8 [aF ss]=↑(.lst (ts.map bS)))(V:∀x∈ss.flatten,ip x)(Y:ss.length<=1000)(Z:ss.flatten.length<=14):mL [aF ss]=↑↥(gv 0 (tk ss (l4 ts))):=by
 have D:=G8 ok I Z;have U:=ok.whole;have S:=zV U V Y (by rw[U.len];lia);refine lr (e':=[!aF ss]) rfl ?_;show rX [!aF ss]=_;simp[rX,D,S]
def GQ(p q:g2)(j:Nat):bW (p++q) j=bW p j++bW q j:=by unfold bW;rw[iy,cb]
def zW{α:Type}:∀l:List α,(l.map λ_=>(0:Int)).sum=0
 | []=>rfl |_::l=>by simp only[bx,f7,zW l];rfl
def r3(r:ep):Int:=r.getD 2 0
def srt(r:ep):ep:=[if r.getD 0 0<=r.getD 1 0 then r.getD 0 0 else r.getD 1 0,if r.getD 0 0<=r.getD 1 0 then r.getD 1 0 else r.getD 0 0]
def GR(l:f0):gZ (iJ (D.lst l)) "list" = true:=rfl
theorem GS(h:aZ ss os)(z:ss.length<=1000):mO [.lst (iD os),aF ss]=↑(.bl true):=by
 obtain⟨e',h1,U,rfl⟩:=rh (i:=3) (g:=mM) (λa:Nat=>D.int (a:Int)) (λp e=>∃U,e=[!.lst (iD os),!aF ss,↑(.ow (aT ss.length (bB p))),U,none]) os
  [!.lst (iD os),!aF ss,↑(.ow (aT ss.length (bB []))),none,none] ⟨none,rfl⟩ (by
   rintro p a q e b ⟨U,rfl⟩;have l:aZ ss (p++a::q):=by rw[<-b];exact h
   obtain⟨n,I,m,V,o,c,s,S,r⟩:=sW l;obtain⟨_,_,_,_,A,B⟩:=l.at;have t:=sA (a:Int);have u:decide ((a:Int)<1)=false:=cu ∅;have v:decide ((a:Int) > ((ss.map λs=>D.lst (s.map sD)).length:Int))=false:=cu (by rw[ae];lia);refine⟨[!.lst (iD os),!aF ss,↑(.ow (aT ss.length (bB (p++[a])))),!↥(a:Int),none],?_,_,rfl⟩;rw[<-V];unfold aF;simp only[mM,sSeq,sIf,sNil,tf,wc,fOr,cI,fTst,f9,bz,aB,fBin,fIxV,bN,jd,fVar,fC,dSub,iq,dLt,dGt,af,ah,ac,aw,ay,bg,t,u,v,n,I,S,d8,c,j1,cw,gc])
 obtain⟨C,h2,Z,rfl⟩:=uj (i:=4) (g:=si) (λk e=>∃Z,e=[!.lst (iD os),!aF ss,↑(.ow (aT ss.length (bB os))),U,Z]) (bA 0 ss.length)
  [!.lst (iD os),!aF ss,↑(.ow (aT ss.length (bB os))),U,none] ⟨none,rfl⟩ (by
   rintro k d e hd ⟨Z,rfl⟩;obtain⟨rfl,f⟩:=ui hd;have I:=sS ss.length (bB os) k f;have S:aW (ss.map λs=>D.lst (s.map sD)) (k:Int)=↑(.lst (ss[k].map sD)):=l6 (λs:gu=>D.lst (s.map sD)) (ak f);have j:bB os k=(ss[k].length:Int):=by unfold bB;rw[h.cnt k ss[k] (ak f)]
   have w:eN [.lst (ss[k].map sD)]=↑↥(ss[k].length:Int):=by show ↑(D.int ((ss[k].map sD).length:Nat))=_;rw[ae]
   rw[j] at I;unfold aF;simp[si,I,S,w])
 have j:=sV ss;have x:bI (ss.map λs=>D.lst (s.map sD)).length:=few (by rw[ae];lia);have y:eG [↥((ss.map λs=>D.lst (s.map sD)).length:Int)]=↑(bA 0 ss.length):=by rw[ae];exact qg _ ∅
 refine lr (e':=[!.lst (iD os),!aF ss,↑(.ow (aT ss.length (bB os))),U,Z]) rfl ?_;show so [!.lst (iD os),!aF ss,none,none,none]=_;have Y:b_ 3 mM (iD os) [!.lst (iD os),!aF ss,↑(.ow (aT ss.length (bB []))),none,none]=_:=h1;unfold aF at Y h2 ⊢;generalize (ss.map λs=>D.lst (s.map sD))=L at *;simp[so,jy,x,j,Y,h2,y,GR]
def cK(f:α->Int)(l:List α):Int:=(l.map f).sum
def zX(f:α->Int):cK f []=0:=rfl
def sX(f:α->Int)(x:α)(l:List α):cK f (x::l)=f x+cK f l:=by simp[cK]
def zY(f:α->Int)(l D:List α):cK f (l++D)=cK f l+cK f D:=by simp[cK]
def zZ{f g:α->Int}{l:List α}(h:∀x∈l,f x=g x):cK f l=cK g l:=by
 unfold cK;rw[gm h]
theorem z_{α:Type}(f:α->Int):∀l:List α,(∀x∈l,0<=f x)->0<=cK f l
 | [],_=>ju 0 |x::l,h=>by
   rw[sX];have:=h x bh;have:=z_ f l λy D=>h y (av _ D)
   lia
def PS(w C:Sk->Int)(P:Int):gu->Int
 |x::y::r=>-(P+w x)*(C y-C x-y.2.1)+PS w C (P+w x) (y::r) |_=>0
theorem Aa{ss:gx}{a:Nat}{s:gu}(I:ss[a-1]?=↑s)(p:em):∀k:Nat,p.count a+k<=s.length->tk ss (p++List.replicate k a)=tk ss p++(s.drop (p.count a)).take k
 |0,_=>by simp |k+1,h=>by
   rw[List.replicate_succ',<-dn,vp,Aa I p k ∅,dn];have D:p.count a+k<s.length:=by lia
   rw[m8];unfold p9;rw[aj,aj,I];simp[D]
theorem Ab(ok:aE ss ts):tk ss (l4 ts)=(ts.map (·.2)).flatten:=by
 have I:∀p:g2,∀q,ts=p++q->tk ss (l4 p)=(p.map (·.2)).flatten:=by
  apply sQ
  ·intro q _;rfl
  ·intro p t S q D
   rw[dn,gf] at D;have S:=S (t::q) D;obtain⟨h1,h2⟩:=ok.lo t (by rw[D];simp);have Y:ss[t.1-1]?=↑ss[t.1-1]:=ak ∅;have U:=ok.part _ _ Y;rw[D,GQ,ze t q (t.1-1) ∅,fb,cf] at U;have V:=zR p (t.1-1);rw[show t.1-1+1=t.1 by lia] at V;rw[xp,zc,Aa Y _ _ (by rw[V,<-U];simp),S,V,<-U];simp
 exact I ts [] ⋯
theorem GT(l:gx):(l.map λs:gu=>(s.length:Int)).sum=(l.flatten.length:Int):=by
 induction l with
 |nil=>rfl |cons a l ih=>rw[bx,f7,ih,cf,ai];lia
theorem Ac(ss:gx)(U:ss.length<=1000):zl [aF ss]=↑↥(ss.flatten.length:Int):=by
 have c:=oh (te:=jd 0) (base:=[]) (λs:gu=>D.lst (s.map sD)) (λs:gu=>D.int (s.length:Int)) ss λs _=>⟨_,by simp;rfl⟩;have I:=yj (λs:gu=>(s.length:Int)) ss;have S:bI (ss.map λs=>D.lst (s.map sD)).length:=few (by rw[ae];lia);rw[GT] at I;refine lr (e':=[!aF ss]) rfl ?_;show sr [!aF ss]=_;unfold aF;generalize (ss.map λs=>D.lst (s.map sD))=L at *;simp[sr,jy,S,c,I]
theorem GU(h:ss[a-1]?=↑s)(I:1<=a):aW (ss.map λs=>D.lst (s.map sD)) ((a:Int)-1)=↑(.lst (s.map sD)):=by
 rw[show((a:Int)-1)=((a-1:Nat):Int) by lia];exact l6 _ h
def GV(l:List α)(k:Nat)(x:α)(h:k<l.length):l.take k++[x]++l.drop (k+1)=l.set k x:=by
 rw[o5,az h];simp
def sY(l:f0)(k:Nat)(h:k<=l.length):cutD l none ↑(k:Int)=l.take k:=by
 have:=Gp (l.take k) (l.drop k);rwa [jz,dy,Nat.min_eq_left h] at this
def Ad(l:f0)(k:Nat)(h:k<=l.length):cutD l ↑(k:Int) none=l.drop k:=by
 have:=zH (l.take k) (l.drop k);rwa [jz,dy,Nat.min_eq_left h] at this
theorem GW(s:gu)(c:1<=a)(d:a<=ss.length)(e:ss.length<=1000):mP [aF ss,↥(a:Int),.lst (s.map sD)]=↑(aF (ss.set (a-1) s)):=by
 have f:(ss.map λs=>D.lst (s.map sD)).length=ss.length:=ae ..;have S:=sY (ss.map λs=>D.lst (s.map sD)) (a-1) ∅;have U:=Ad (ss.map λs=>D.lst (s.map sD)) a ∅;have V:((a:Int)-1)=((a-1:Nat):Int):=by lia
 have I:=GV (ss.map λs=>D.lst (s.map sD)) (a-1) (D.lst (s.map sD)) ∅;rw[show a-1+1=a by lia] at I;have Y:bI ((((ss.map λs=>D.lst (s.map sD)).take (a-1)).length)+(0+1)):=few (by simp only[dy];lia);have Z:bI (((ss.map λs=>D.lst (s.map sD)).take (a-1)++[D.lst (s.map sD)]).length+((ss.map λs=>D.lst (s.map sD)).drop a).length):=few (by simp[dy,gq];lia);have b:aF (ss.set (a-1) s)=.lst ((ss.map λs=>D.lst (s.map sD)).set (a-1) (D.lst (s.map sD))):=by unfold aF;rw[p4]
 refine lr (e':=[!aF ss,!↥(a:Int),!.lst (s.map sD)]) rfl ?_;show su [!aF ss,!↥(a:Int),!.lst (s.map sD)]=_;rw[b,<-I];unfold aF;generalize s.map sD=M at *;simp only[su,aK,aH,cQ,fT,fZ,fS,ig,bz,aB,fVar,fBin,fC,dSub,V,af,ah,ac,aw,S,U,Y,Z,d8,aq,dh,show(0+1<=64)=True by simp]
def sZ:FS:=sIf (fOr (fTst (fBin dLt (fVar 1) [:1])) (fTst (fBin dGt (fVar 1) (jd 0)))) (sy "UnknownStack" (some)) (sNil)
def m_:gr->f0->f4:=bV 2 0 2 sZ
def nb:gr->f0->ew:=xQ 2 0 2 sZ
def s_:FS:=sIf (fOr (fTst (fBin dLt (fVar 0) [:0])) (fTst (fBin dGt (fVar 0) [:5]))) (sy "BadCount" ((λz=>(↑z).bind ((λz=>((vInt [:5]) z).bind ((λz=>(↑z).bind (some)))))))) (sNil)
def np:gr->f0->f4:=bV 1 0 1 s_
def nq:gr->f0->ew:=xQ 1 0 1 s_
def tc:FS:=sIf (fOr (fTst (fBin dLt (fVar 0) [:1])) (fTst (fBin dGt (fVar 0) [:60]))) (sy "BadHours" ((λz=>(↑z).bind ((λz=>((vInt [:60]) z).bind ((λz=>(↑z).bind (some)))))))) (sNil)
def nu:gr->f0->f4:=bV 1 0 1 tc
def nw:gr->f0->ew:=xQ 1 0 1 tc
def tj:FS:=sIf (fOr (fTst (fBin dLt (fVar 0) [:0])) (fTst (fBin dGt (fVar 0) [:100]))) (sy "BadLoss" ((λz=>(↑z).bind ((λz=>((vInt [:100]) z).bind (some)))))) (sNil)
def n0:gr->f0->f4:=bV 1 0 1 tj
def n2:gr->f0->ew:=xQ 1 0 1 tj
def n3:FS:=sIf (fTst (fBin gW (f9 zl (bz (fVar 0) (aB))) [:14])) (sy "HouseFull" ((λz=>((vInt [:14]) z).bind ((λz=>(↑z).bind (some)))))) (sNil)
def n7:gr->f0->f4:=bV 1 0 1 n3
def x6:gr->f0->ew:=xQ 1 0 1 n3
def nA:FS:=sIf (fTst (fBin gW (jd 0) [:60])) (sy "DeedsFull" ((λz=>((vInt [:60]) z).bind ((λz=>(↑z).bind (some)))))) (sNil)
def nB:gr->f0->f4:=bV 1 0 1 nA
def xz:gr->f0->ew:=xQ 1 0 1 nA
def Ae:FS:=aK (fBin iq [:1] (f9 eN (bz (aH (jy (cM (fVar 0)) [] (fTst (fBin dEq (fIxV 0 [:0]) (fC (.str "put")))) (fVar 0))) (aB))))
def nC:f0->f4:=aL 1 1 Ae
def nD:FS:=sSeq (hH (q0 nq [] (bz (fVar 1) (aB))) (j8 (mq np [] (bz (fVar 1) (aB))))) (sSeq (ye 0 "House" "kept" (ig (aB))) (ye 0 "House" "states" (ig (bz (bP (bz (aH (jy (jb eG (bz (fVar 1) (aB))) [] bL (aH (ig (aB))))) (bz (aH (ig (aB))) (aB)))) (aB)))))
def zo:gr->f0->gs:=eD 2 1 1 nD
def tE:gr->f0->Option (Str×gr):=xL 2 1 1 nD
def tF:FS:=aK (fBin dIx (jB (.at (.ins false "House" m4)) 0 1 (-1)) [:0])
def xy:gr->f0->f4:=bV 1 1 0 tF
def GX:gr->f0->ew:=xQ 1 1 0 tF
def tG:FS:=aK (fBin dIx (jB (.at (.ins false "House" m4)) 0 1 (-1)) [:1])
def nE:gr->f0->f4:=bV 1 1 0 tG
def GY:gr->f0->ew:=xQ 1 1 0 tG
def tH:FS:=sSeq (j8 (wz (.at (.ins false "House" m4)) 0 0 (fVar 1))) (j8 (wz (.at (.ins false "House" m4)) 0 1 (bP (bz (fVar 2) (bz (fVar 3) (aB))))))
def zm:gr->f0->gs:=eD 4 1 3 tH
def GZ:gr->f0->Option (Str×gr):=xL 4 1 3 tH
def nF:FS:=sSeq (sSet 4 (fK (.ins false "House" m4) 0 (mq xy [0] (aB)))) (sSeq (hH (q0 nb [] (bz (fVar 4) (bz (fVar 1) (aB)))) (j8 (mq m_ [] (bz (fVar 4) (bz (fVar 1) (aB)))))) (sSeq (hH (q0 nw [] (bz (fVar 2) (aB))) (j8 (mq nu [] (bz (fVar 2) (aB))))) (sSeq (hH (q0 n2 [] (bz (fVar 3) (aB))) (j8 (mq n0 [] (bz (fVar 3) (aB))))) (sSeq (hH (q0 x6 [] (bz (fVar 4) (aB))) (j8 (mq n7 [] (bz (fVar 4) (aB))))) (sSeq (hH (hS true (q0 xz [] (bz (vc (.ins false "House" m4) 0 0) (aB)))) (j8 (fU true (mq nB [] (bz (vc (.ins false "House" m4) 0 0) (aB)))))) (sSeq (sSet 5 (fU true (f9 nC (bz (vc (.ins false "House" m4) 0 0) (aB))))) (sSeq (sSet 6 (aH (cQ (aH (ig (bz (bP (bz (fVar 5) (bz (fVar 2) (bz (fVar 3) (aB))))) (aB)))) (fIxV 4 (fBin dSub (fVar 1) [:1]))))) (sSeq (j8 (fK (.ins false "House" m4) 0 (qz zm [0] (bz (bP (bz (fC (.str "put")) (bz (fVar 1) (bz (fVar 2) (bz (fVar 3) (aB)))))) (bz (f9 mP (bz (fVar 4) (bz (fVar 1) (bz (fVar 6) (aB))))) (bz (fK (.ins false "House" m4) 0 (mq nE [0] (aB))) (aB))))))) (aK (fVar 5))))))))))
def zf:gr->f0->gs:=eD 7 1 3 nF
def tI:gr->f0->Option (Str×gr):=xL 7 1 3 nF
def tJ:FS:=aK (f9 mL (bz (fK (.ins false "House" m4) 0 (mq xy [0] (aB))) (aB)))
def xw:gr->f0->f4:=bV 1 1 0 tJ
def G_:gr->f0->ew:=xQ 1 1 0 tJ
def tK:FS:=sSeq (yg 3 (uc (cM (fVar 0)) [] (jb sv (bz (fVar 0) (aB))))) (sSeq (sSet 4 [:0]) (sSeq (sIf (fTst (fBin dGt (jd 1) [:1])) (sSet 4 (fBin dSub (fIxV 1 [:1]) [:1])) (sNil)) (sSeq (sIf (fTst (fBin dEq (fIxV 1 [:0]) (fC (.str "put")))) (sSeq (rd 3 (fVar 4) (zz false (cQ (aH (ig (bz (bP (bz (fVar 2) (bz (fIxV 1 [:2]) (bz (fIxV 1 [:3]) (aB))))) (aB)))) (fIxV 3 (fVar 4))))) (aK (aH (ig (bz (fVar 3) (bz (fVar 2) (aB))))))) (sNil)) (sSeq (sIf (fTst (fBin dEq (fIxV 1 [:0]) (fC (.str "tell")))) (sSeq (sSet 5 (fU false (fBin dIx (fIxV 3 (fVar 4)) (fBin dSub (fIxV 1 [:2]) [:1])))) (sSeq (Fk 3 (fVar 4) (fBin dSub (fIxV 1 [:2]) [:1]) (bP (bz (fIxV 5 [:0]) (bz (fIxV 5 [:1]) (bz (fIxV 1 [:3]) (aB)))))) (aK (aH (ig (bz (fVar 3) (bz (fIxV 5 [:2]) (aB)))))))) (sNil)) (sSeq (sIf (fTst (fBin dEq (fIxV 1 [:0]) (fC (.str "dry")))) (sSet 4 (fBin dSub (fBin dIx (fBin dIx (f9 yW (bz (fVar 0) (aB))) [:0]) [:0]) [:1])) (sNil)) (sSeq (sSet 5 (fU false (fBin dIx (fIxV 3 (fVar 4)) [:0]))) (sSeq (rd 3 (fVar 4) (zz false (fT (fIxV 3 (fVar 4)) (fS [:1]) (fZ)))) (aK (aH (ig (bz (fVar 3) (bz (fVar 5) (aB)))))))))))))
def Af:f0->f4:=aL 6 3 tK
inductive cX where
 |put (a h l:Int) |tell (a p l:Int) |go (a:Int) |dry
abbrev g3:=List cX
def dD:cX->D
 | .put a h l=>.tup [.str "put",↥a,↥h,↥l]
 | .tell a p l=>.tup [.str "tell",↥a,↥p,↥l]
 | .go a=>.tup [.str "go",↥a] | .dry=>.tup [.str "dry"]
def cX.isPut:cX->Bool | .put ..=>true |_=>false
abbrev Ha:=Int×Int×Int
abbrev g4:=List Ha
abbrev Hs:=gx×g4
abbrev g5:=List Hs
def io(sp:g4):D:=.lst (sp.map sD)
def iV(s:Hs):D:=.tup [aF s.1,io s.2]
abbrev kH:AK:=.ins false "House" m4
def hP(k:g3)(s:g5):f5:=[.o (k.map dD),.o (s.map iV)]
abbrev hA(k:g3)(s:g5):Ag:=(kH,hP k s)
variable{e:aJ}{κ:AK}{ps:f5}
def Hb(h:e[i]?=↑↑(.ag κ l ps))(D:ps[j]?=↑(.o ds)):p6 (.at κ) i j e=↑ds:=by
 unfold p6 cE;rw[az (show Acc.ok (.at κ) e i j from(show hJ κ e i from .inl ⟨_,_,h⟩)),h];dsimp;rw[D]
def Ah(h:e[i]?=↑↑(.ro κ ps))(D:ps[j]?=↑(.o ds)):p6 (.at κ) i j e=↑ds:=by
 unfold p6 cE;rw[az (show Acc.ok (.at κ) e i j from(show hJ κ e i from .inr ⟨_,h⟩)),h];dsimp;rw[D]
variable{f:FE}
def zx(h:e[i]?=↑↑(.ag κ l ps)):fK κ i f e=f e:=az (.inl ⟨_,_,h⟩)
def Hc(h:e[i]?=↑↑(.ro κ ps)):fK κ i f e=f e:=az (.inr ⟨_,h⟩)
variable{r:f0×aJ}{m:gr->f0->f4}{F:FA}
def He(h:e[i]?=↑↑(.ag κ l ps))(D:F e=↑r)(h2:r.2[i]?=↑↑(.ag κ l ps)):mq m [i] F e=(m [(κ,ps)] r.1).map λd=>(d,r.2):=by
 unfold mq;rw[az (show e_ e [i] from λk I=>by rw[dm.mp I];exact⟨_,h⟩),D];simp[dB,h2]
def Ai:mq m [] F e=(F e).bind λr=>(m [] r.1).map λd=>(d,r.2):=by
 unfold mq;rw[az (show e_ e [] from λk D=>nomatch D)];rfl
variable{x:Sk}
def Aj{x:gr->f0->ew}:q0 x [] F e=(F e).bind λr=>(x [] r.1).map λd=>(d,r.2):=by
 unfold q0;rw[az (show e_ e [] from λk I=>nomatch I)];rfl
variable{d:D}{ps':f5}
def Hf{m:gr->f0->gs}(h:e[i]?=↑↑(.ag κ l ps))(I:F e=↑r)(h2:r.2[i]?=↑↑(.ag κ l ps))(S:m [(κ,ps)] r.1=↑(d,[(κ,ps')])):qz m [i] F e=↑(d,r.2.set i ↑(.ag κ l ps')):=by
 unfold qz;rw[az (show e_ e [i] from λk U=>by rw[dm.mp U];exact⟨_,h⟩),I];simp[dI,h2,S,cJ]
theorem nG(xs:f0)(x:D):aW (xs++[x]) (-1)=↑x:=by
 unfold aW cU;rw[bu (by decide),az (by simp;lia),show(-1+((xs++[x]).length:Int)).toNat=xs.length by simp;lia];simp
variable{k:g3}{s:Hs}{p:g5}
def tL:xy [hA k (p++[s])] []=↑(aF s.1):=by
 unfold xy bV;have h:p6 (.at kH) 0 1 (n4 1 [hA k (p++[s])] [])=↑((p++[s]).map iV):=Ah (ps:=hP k (p++[s])) rfl rfl;simp[tF,jB,h,nG,iV];rfl
def Hg:nE [hA k (p++[s])] []=↑(io s.2):=by
 unfold nE bV;have h:p6 (.at kH) 0 1 (n4 1 [hA k (p++[s])] [])=↑((p++[s]).map iV):=Ah (ps:=hP k (p++[s])) rfl rfl;simp[tG,jB,h,nG,iV];rfl
def k8(sp:g4):Int:=match sp.getLast? with |none=>0 |some x=>x.2.1
theorem Hh{a:Int}(h1:1<=a)(h2:a<=ss.length):nb [] [aF ss,↥a]=none/\m_ [] [aF ss,↥a]=some .non:=by
 have e:n4 2 [] [aF ss,↥a]=[!aF ss,!↥a]:=rfl;have l:((ss.map λs=>D.lst (s.map sD)).length:Int)=ss.length:=by rw[ae]
 unfold nb m_ xQ bV;rw[az ⟨rfl,rfl⟩,az ⟨rfl,rfl⟩,e];unfold aF at *;generalize (ss.map λs=>D.lst (s.map sD))=L at *;simp[sZ,show ¬a<1 by lia,show ¬((L.length:Int)<a) by lia]
variable{h:Int}
theorem Hi(h1:1<=h)(h2:h<=60):nw [] [↥h]=none/\nu [] [↥h]=some .non:=by
 unfold nw nu xQ bV;rw[az ⟨rfl,rfl⟩,az ⟨rfl,rfl⟩,show n4 1 [] [↥h]=[!↥h] from rfl];simp[tc,show ¬h<1 by lia,show ¬60<h by lia]
theorem Hj(h1:0<=h)(h2:h<=100):n2 [] [↥h]=none/\n0 [] [↥h]=some .non:=by
 unfold n2 n0 xQ bV;rw[az ⟨rfl,rfl⟩,az ⟨rfl,rfl⟩,show n4 1 [] [↥h]=[!↥h] from rfl];simp[tj,show ¬h<0 by lia,show ¬100<h by lia]
theorem Hk(h1:0<=h)(h2:h<=5):nq [] [↥h]=none/\np [] [↥h]=some .non:=by
 unfold nq np xQ bV;rw[az ⟨rfl,rfl⟩,az ⟨rfl,rfl⟩,show n4 1 [] [↥h]=[!↥h] from rfl];simp[s_,show ¬h<0 by lia,show ¬5<h by lia]
theorem Hl(ss:gx)(D:ss.length<=1000):(if ss.flatten.length<14 then x6 [] [aF ss]=none/\n7 [] [aF ss]=some .non else x6 [] [aF ss]=↑("HouseFull" : Str)):=by
 have h:=Ac ss D;generalize ss.flatten.length=n at *;split <;> rename_i I
 ·unfold x6 n7 xQ bV
  rw[az ⟨rfl,rfl⟩,az ⟨rfl,rfl⟩,show n4 1 [] [aF ss]=[!aF ss] from rfl];simp[n3,h,show ¬(14:Int)<=(n:Int) by lia]
 ·unfold x6 xQ
  rw[az ⟨rfl,rfl⟩,show n4 1 [] [aF ss]=[!aF ss] from rfl];simp[n3,h,show(14:Int)<=(n:Int) by lia,sy,vInt]
theorem Hm(ds:f0):(if ds.length<60 then xz [] [.lst ds]=none/\nB [] [.lst ds]=some .non else xz [] [.lst ds]=↑("DeedsFull" : Str)):=by
 split <;> rename_i I
 ·unfold xz nB xQ bV
  rw[az ⟨rfl,rfl⟩,az ⟨rfl,rfl⟩,show n4 1 [] [.lst ds]=[!.lst ds] from rfl];simp[nA,show ¬(60:Int)<=(ds.length:Int) by lia]
 ·unfold xz xQ
  rw[az ⟨rfl,rfl⟩,show n4 1 [] [.lst ds]=[!.lst ds] from rfl];simp[nA,show(60:Int)<=(ds.length:Int) by lia,sy,vInt]
def ke(k:g3):Int:=1+(k.filter cX.isPut).length
theorem Hn(k:g3)(S:k.length<=1000):nC [.lst (k.map dD)]=↑↥(ke k):=by
 have c:=xO (tt:=fTst (fBin dEq (fIxV 0 [:0]) (fC (.str "put")))) (te:=fVar 0) (base:=[]) dD dD cX.isPut k λx _=>by
  cases x with
  |put a h l=>exact⟨_,rfl,λ_=>⟨_,rfl⟩⟩
  |tell a p l=>exact⟨_,rfl,λz=>nomatch z⟩
  |go a=>exact⟨_,rfl,λz=>nomatch z⟩ |dry=>exact⟨_,rfl,λz=>nomatch z⟩
 have I:bI (k.map dD).length:=few (by rw[ae];lia);unfold nC aL;rw[az (show[D.lst (k.map dD)].length=1 from rfl),show ki 1 [D.lst (k.map dD)]=[!.lst (k.map dD)] from rfl];unfold ke;generalize k.map dD=L at *;simp[Ae,jy,I,c]
def Ho:fK κ 0 f (↑(.ag κ l ps)::e)=f (↑(.ag κ l ps)::e):=zx rfl
def k9:fK κ 0 f (↑(.ro κ ps)::e)=f (↑(.ro κ ps)::e):=Hc rfl
variable{sl:Sl}
def tM:mq m [0] F (↑sl::e)=(F (↑sl::e)).bind λr=>(dB r.2 [0]).bind λags=>(m ags r.1).map λd=>(d,r.2):=az λk D=>by rw[dm.mp D];exact⟨_,rfl⟩
def Hq{m:gr->f0->gs}:qz m [0] F (↑sl::e)=(F (↑sl::e)).bind λr=>(dI r.2 [0]).bind λags=>(m ags r.1).bind λq=>if q.2.map (·.1)=ags.map (·.1) then ↑(q.1,cJ r.2 [0] q.2) else none:=az λk I=>by rw[dm.mp I];exact⟨_,rfl⟩
def Hr:dI (↑(.ag κ l ps)::e) [0]=↑[(κ,ps)]:=rfl
def Ht{D:AK}:cJ (↑(.ag κ l ps)::e) [0] [(D,ps')]=↑(.ag D l ps')::e:=rfl
def Hu:dB (↑(.ag κ l ps)::e) [0]=↑[(κ,ps)]:=rfl
def Ak:dB (↑(.ro κ ps)::e) [0]=↑[(κ,ps)]:=rfl
def Hv:vc kH 0 0 (frz true (↑(.ag kH l (hP k p))::e))=↑(.lst (k.map dD),frz true (↑(.ag kH l (hP k p))::e)):=by
 unfold vc;rw[az (show hJ kH (frz true (↑(.ag kH l (hP k p))::e)) 0 from .inr ⟨[.d (.lst (k.map dD)),.d (.lst (p.map iV))],rfl⟩)];rfl
def Al{r:Nat}(h:e[i]?=↑↑(.ag κ ↑r ps))(I:∀c fs,κ≠.ins true c fs)(D:ps[j]?=↑(.o ds))(S:f e=↑(d,e))(U:bI (ds.length+1)) :
  wz (.at κ) i j f e=↑(.non,e.set i ↑(.ag κ ↑r (ps.set j (.o (ds++[d]))))):=by
 unfold wz;rw[h];dsimp only;rw[az (show hO κ ↑r from⟨rfl,I⟩),Hb h D,ac,S,ac];unfold iP;rw[h];dsimp only;rw[D];dsimp only;rw[az ⟨rfl,rfl,rfl,U⟩];unfold setP;rw[h]
theorem Hw{d:cX}{sp:g4}(D:k.length<=1000)(I:p.length<=1000):zm [hA k p] [dD d,aF ss,io sp]=↑(.non,[hA (k++[d]) (p++[(ss,sp)])]):=by
 have h1:=Al (e:=[↑(.ag kH ↑0 (hP k p)),!dD d,!aF ss,!io sp]) (i:=0) (j:=0) (f:=fVar 1) rfl (λc fs z=>nomatch z) rfl rfl (few (by rw[ae];lia));have h2:=Al (e:=[↑(.ag kH ↑0 ((hP k p).set 0 (.o (k.map dD++[dD d])))),!dD d,!aF ss,!io sp]) (i:=0) (j:=1) (f:=bP (bz (fVar 2) (bz (fVar 3) aB))) (ds:=p.map iV) rfl (λc fs z=>nomatch z) rfl rfl (few (by rw[ae];lia));unfold zm eD;rw[az ⟨rfl,rfl⟩,show td 4 [hA k p] [dD d,aF ss,io sp]=[↑(.ag kH ↑0 (hP k p)),!dD d,!aF ss,!io sp] from rfl];simp[tH,h1,h2];unfold hA hP;rw[cb,cb];rfl
def gM(ss:gx)(n:Nat)(a h l:Int):ew:=if a<1\/(ss.length:Int)<a then some "UnknownStack" else if h<1\/60<h then some "BadHours" else if l<0\/100<l then some "BadLoss" else if ss.flatten.length<14 then(if n<60 then none else some "DeedsFull") else some "HouseFull"
def cA(ss:gx)(a:Nat)(x:Sk):gx:=ss.set (a-1) (x::ss.getD (a-1) [])
theorem Hx{l:Int}(I:gM s.1 k.length a h l=none)(q:s.1.length<=5)(r:p.length<=100) :
  tI [hA k (p++[s])] [↥a,↥h,↥l]=none/\zf [hA k (p++[s])] [↥a,↥h,↥l]=↑(.int (ke k),[hA (k++[.put a h l]) (p++[s]++[(cA s.1 a (ke k,h,l),s.2)])]):=by
 unfold gM at I;split at I
 ·cases I
 split at I
 ·cases I
 split at I
 ·cases I
 split at I;case isFalse=>cases I
 rename_i b;split at I;case isFalse=>cases I
 rename_i c;have k1:=Hh (ss:=s.1) (a:=a) ∅ ∅;have k2:=Hi (h:=h) ∅ ∅;have k3:=Hj (h:=l) ∅ ∅;have Z:=Hl s.1 ∅;rw[az b] at Z;have k5:=Hm (k.map dD);rw[az (by rw[ae];exact c)] at k5;have e:=Hn k ∅;have S:(a-1:Nat)<s.1.length:=by lia
 have f:aW (s.1.map λs=>D.lst (s.map sD)) ((a:Int)-1)=↑(.lst ((s.1.getD (a-1) []).map sD)):=by
  rw[show(a:Int)-1=((a-1:Nat):Int) by lia,l6 (λs:gu=>D.lst (s.map sD)) (ak S),aj,ak S];rfl
 have g:=GW (ss:=s.1) (a:=a) ((ke k,h,l)::s.1.getD (a-1) []) ∅ ∅ ∅;have i:=Hw (k:=k) (p:=p++[s]) (d:=.put a h l) (ss:=cA s.1 a (ke k,h,l)) (sp:=s.2) ∅ (by simp;lia);have j:=tL (k:=k) (p:=p) (s:=s);have m:=Hg (k:=k) (p:=p) (s:=s);have n:bI (0+1+((s.1.getD (a-1) []).map sD).length):=few (by
  have:(s.1.getD (a-1) []).length<=s.1.flatten.length:=by
   rw[aj,ak S];exact(d4 (j0 S)).length_le
  rw[ae];lia)
 have o:td 7 [hA k (p++[s])] [↥a,↥h,↥l]=[↑(.ag kH ↑0 (hP k (p++[s]))),!↥a,!↥h,!↥l,none,none,none]:=rfl;have V:zm [(kH,hP k (p++[s]))] [.tup [.str "put",↥a,↥h,↥l],aF (cA s.1 a (ke k,h,l)),io s.2]=↑(.non,[hA (k++[.put a h l]) (p++[s]++[(cA s.1 a (ke k,h,l),s.2)])]):=i;have Y:mP [aF s.1,↥a,.lst (.tup [↥(ke k),↥h,↥l]::(s.1.getD (a-1) []).map sD)]=↑(aF (cA s.1 a (ke k,h,l))):=g;have U:nF (td 7 [hA k (p++[s])] [↥a,↥h,↥l])=↑(.rt ↥(ke k),[↑(.ag kH ↑0 (hP (k++[.put a h l]) (p++[s]++[(cA s.1 a (ke k,h,l),s.2)]))),!↥a,!↥h,!↥l,!aF s.1,!↥(ke k),!(.lst (.tup [↥(ke k),↥h,↥l]::(s.1.getD (a-1) []).map sD))]):=by
  rw[o];generalize (s.1.getD (a-1) []).map sD=TL at *;unfold aF at *;simp[nF,Ho,tM,Hu,j,Aj,Ai,k1,k2,k3,Z,hS,fU,Hv,k5,noL,e,f,n,Hq,Hr,Y,m,V,Ht]
 exact⟨by unfold tI xL;rw[az ⟨rfl,rfl⟩,U],by unfold zf eD;rw[az ⟨rfl,rfl⟩,U];rfl⟩
def cF(n:Nat):Hs:=(List.replicate n [],[])
theorem Hy(a:n<=5):tE [(.ins true "House" [],[])] [↥n]=none/\zo [(.ins true "House" [],[])] [↥n]=↑(.non,[(.ins true "House" m4,hP [] [cF n])]):=by
 have k1:=Hk (h:=n) ∅ ∅;have S:bI (bA 0 n).length:=few (by rw[qm];lia);have c:=oh (te:=aH (ig aB)) (base:=[]) (λi:Nat=>D.int (0+(i:Int))) (λ_:Nat=>D.lst []) (List.range n) λi _=>⟨_,rfl⟩;have U:=qg n ∅;have V:td 2 [(AK.ins true "House" [],[])] [↥n]=[↑(.ag (.ins true "House" []) ↑0 []),!↥n]:=rfl;have Y:(List.range n).map (λ_=>D.lst [])=(List.replicate n ([]:gu)).map λs=>D.lst (s.map sD):=by
  rw[List.map_const',h9,List.map_replicate,eh]
 have I:nD (td 2 [(AK.ins true "House" [],[])] [↥n])=↑(.nx,[↑(.ag (.ins true "House" m4) ↑0 (hP [] [cF n])),!↥n]):=by
  rw[V];unfold bA at U S;rw[Y] at c;have Z:(True/\(Str.ofString "kept")∉([]:ed)/\0<900):=⟨trivial,by simp,by decide⟩;simp only[nD,sSeq,hH,Aj,Ai,bz,fVar,aB,ah,af,ac,k1,Option.map_none,aw,j8,ye,ig,dh,fy,d8,ay,gl,bP,aH,jy,jb,U,S,c,eh,aq,show 0+1+1<=64 by decide,show 0+1<=64 by decide];rw[az Z];simp only[ac,ah,af,U,S,c,d8,aw,aq,dh,show 0+1+1<=64 by decide,show 0+1<=64 by decide];rfl
 exact⟨by unfold tE xL;rw[az ⟨rfl,rfl⟩,I],by unfold zo eD;rw[az ⟨rfl,rfl⟩,I];rfl⟩
def Hz(D:n<=5)(I:F e=↑([↥n],e')):yh "House" zo F e=↑((kH,hP [] [cF n]),e'):=by
 unfold yh;rw[I,ac,(Hy D).2];rfl
def Am(h:e[i]?=↑↑(.ag kH l (hP k p))):fK kH i (mq m [i] aB) e=(m [hA k p] []).map λd=>(d,e):=by
 rw[zx h];exact He h (r:=([],e)) rfl h
variable{m:gr->f0->gs}
def An(h:e[i]?=↑↑(.ag κ l ps))(D:F e=↑(ds,e))(I:m [(κ,ps)] ds=↑(d,[(κ,ps')])):qz m [i] F e=↑(d,e.set i ↑(.ag κ l ps')):=Hf h (r:=(ds,e)) D h I
def H5(h:a-1<ss.length):(cA ss a x).flatten.Perm (x::ss.flatten):=by
 exact mU (x:=[x]) (by simp[h])
def HA(h:a-1<ss.length):(cA ss a x).flatten.length=ss.flatten.length+1:=(H5 h).length_eq
def Ao:Int->g4->Prop
 |_,[]=>True |b,x::r=>x.1=b/\x.1<=x.2.1/\Ao x.2.1 r
def tN:Int->g4->Int
 |b,[]=>b |_,x::r=>tN x.2.1 r
def HB(h:mL [aF s.1]=↑d):xw [hA k (p++[s])] []=↑d:=by
 unfold xw bV;rw[az ⟨rfl,rfl⟩,show n4 1 [hA k (p++[s])] []=[↑(.ro kH (hP k (p++[s])))] from rfl];simp[tJ,k9,tM,Ak,tL,h]
abbrev gB(ss:gx):List f0:=ss.map λs=>s.map sD
def HE(r:gu):noLs (r.map sD)=true:=by
 induction r with
 |nil=>rfl |cons x r ih=>rw[bx];unfold noLs;rw[ih];rfl
def HF(ss:gx)(n:Nat)(a m l:Int):ew:=if a<1\/(ss.length:Int)<a then some "UnknownStack" else if (ss.getD (a.toNat-1) []).length=0 then some "EmptyStack" else if m<1\/((ss.getD (a.toNat-1) []).length:Int)<m then some "UnknownPlace" else if l<0\/100<l then some "BadLoss" else if n<60 then none else some "DeedsFull"
def HG(ss:gx)(n:Nat)(a:Int):ew:=if a<1\/(ss.length:Int)<a then some "UnknownStack" else if (ss.getD (a.toNat-1) []).length=0 then some "EmptyStack" else if n<60 then none else some "DeedsFull"
def tO(ss:gx)(n:Nat):ew:=if 0<ss.flatten.length then(if n<60 then none else some "DeedsFull") else some "NothingWaits"
inductive HH where
 |d (x:cX) |back
def tP(ss:gx)(n:Nat):HH->ew
 | .d (.put a h l)=>gM ss n a h l
 | .d (.tell a m l)=>HF ss n a m l
 | .d (.go a)=>HG ss n a | .d .dry=>tO ss n | .back=>if n=0 then some "NothingDone" else none
section
variable {c p q:FT} {f g:FE} {u v w:FS} {e:aJ} {i:Nat} {d:D} {x y:Str} {A B:Prop} [Decidable A] [Decidable B] {a b:Int}
end
variable{x:D}{w:em}
def tQ{y z w:D}:aW [x,y,z,w] 0=↑x/\aW [x,y,z,w] 1=↑y/\aW [x,y,z,w] 2=↑z/\aW [x,y,z,w] 3=↑w:=⟨rfl,rfl,rfl,rfl⟩
def fN(D:F (↑(.ag kH l ps)::e)=↑(ds,↑(.ag kH l ps)::e))(I:m [(kH,ps)] ds=↑(x,[(kH,ps')])):fK kH 0 (qz m [0] F) (↑(.ag kH l ps)::e)=↑(x,↑(.ag kH l ps')::e):=by
 rw[zx (i:=0) rfl];exact An (i:=0) rfl D I
theorem tR(ss:gx)(S:ss.length<=1000)(e:aJ):uc (cM (fVar 0)) [] (jb sv (bz (fVar 0) aB)) (⇑(aF ss)::e)=↑(gB ss,⇑(aF ss)::e):=by
 have c:=qO (te:=jb sv (bz (fVar 0) (aB))) (base:=[]) (λs:gu=>D.lst (s.map sD)) (λs:gu=>s.map sD) ss λs _=>⟨_,by simp;rfl⟩;have I:bI (ss.map λs=>D.lst (s.map sD)).length:=few (by rw[ae];lia);unfold aF gB;generalize (ss.map λs=>D.lst (s.map sD))=L at *;simp[uc,I,c]
def Ap(ss:gx):D.lst ((gB ss).map D.lst)=aF ss:=by unfold gB aF;rw[eo];rfl
variable{l:ep}{num:Int}
theorem HJ{l:Int}(U:1<=a)(f:a<=ss.length)(g:ss.length<=5)(i:(ss.getD (a-1) []).length<=1000):Af [aF ss,dD (.put a h l),↥num]=↑(.lst [aF (cA ss a (num,h,l)),↥num]):=by
 have j:=λe=>tR ss ∅ e;have V:=tQ (x:=D.str "put") (y:=.int (a:Int)) (z:=.int h) (w:=.int l);have k:((1:Int)<((0+1+1+1+1:Nat):Int))=True:=eq_true (by decide);have I:ss[a-1]?=↑(ss.getD (a-1) []):=by rw[aj,ak ∅];rfl
 have m:cU (gB ss).length ((a:Int)-1)=↑(a-1):=by
  rw[ue ∅ (by unfold gB;rw[ae];lia)];congr 1;lia
 have Y:(gB ss).set (a-1) (((num,h,l)::ss.getD (a-1) []).map sD)=gB (cA ss a (num,h,l)):=by unfold cA gB;rw[p4]
 have Z:=GU I U;have b:bI (0+1+((ss.getD (a-1) []).map sD).length):=few (by rw[ae];lia);have c:noLs (D.tup [↥num,↥h,↥l]::(ss.getD (a-1) []).map sD)=true:=HE ((num,h,l)::ss.getD (a-1) []);have ct:zz false (cQ (aH (ig (bz (bP (bz (fVar 2) (bz (fIxV 1 [:2]) (bz (fIxV 1 [:3]) (aB))))) (aB)))) (fIxV 3 (fVar 4))) [!aF ss,!dD (.put a h l),!↥num,↑(.o2 (gB ss)),!↥((a:Int)-1),none]=↑(((num,h,l)::ss.getD (a-1) []).map sD,[!aF ss,!dD (.put a h l),!↥num,↑(.o2 (gB ss)),!↥((a:Int)-1),none]):=by
  have d:frz false [!aF ss,!dD (.put a h l),!↥num,↑(.o2 (gB ss)),!↥((a:Int)-1),none]=[!aF ss,!dD (.put a h l),!↥num,!aF ss,!↥((a:Int)-1),none]:=by
   rw[<-Ap];rfl
  unfold zz;rw[d,show((num,h,l)::ss.getD (a-1) []).map sD=D.tup [↥num,↥h,↥l]::(ss.getD (a-1) []).map sD from rfl];unfold aF dD;generalize (ss.getD (a-1) []).map sD=TL at *;generalize (ss.map λs=>D.lst (s.map sD))=SL at *;simp[V,Z,b,c]
 rw[<-Ap (cA ss a (num,h,l)),<-Y];suffices S:∃e',tK [!aF ss,!dD (.put a h l),!↥num,none,none,none]=↑(.rt (.lst [.lst (((gB ss).set (a-1) (((num,h,l)::ss.getD (a-1) []).map sD)).map D.lst),↥num]),e') from let ⟨_,S⟩:=S;lr rfl S;simp only[dD] at ct ⊢;simp only[tK,sSeq,yg,sSet,fC,jd,fIxV,bN,fVar,fBin,fTst,sIf,sNil,dGt,dEq,dSub,af,ah,ac,aw,ay,bg,aq,dh,j2,d8,aK,aH,ig,bz,aB,rd,hU,k6,bx,eh, *];exact⟨_,rfl⟩
structure SI (n i:Nat) (s:Hs):Prop where
 len:s.1.length=n
 few:s.1.flatten.length<=14
 good:∀x∈s.1.flatten,ip x
 chain:Ao 0 s.2
 rate:∀x∈s.2,0<=x.2.2/\x.2.2<=100000
 sp:s.2.length<=i
 hour:tN 0 s.2<=60*s.2.length
def nH(k:g3)(s:Hs)(d:cX)(s':Hs):Prop:=tP s.1 k.length (.d d)=none/\∃D,Af [aF s.1,dD d,↥(ke k)]=↑(.lst [aF s'.1,D])/\match d with | .dry=>∃x:Sk,D=sD x/\s'.2=s.2++[(k8 s.2,k8 s.2+x.2.1,aI s.1.flatten)] |_=>s'.2=s.2
structure HI (n:Nat) (k:g3) (p:g5) (s:Hs):Prop where
 n5:n<=5
 k60:k.length<=60
 kp:p.length=k.length
 all:∀i t,(p++[s])[i]?=↑t->SI n i t
 st0:(p++[s])[0]?=↑(cF n)
 tr:∀i d t t',k[i]?=↑d->(p++[s])[i]?=↑t->(p++[s])[i+1]?=↑t'->nH (k.take i) t d t'
def HI.at(h:HI n k p s):SI n k.length s:=h.all k.length s (by rw[<-h.kp];simp)
def Aq{α:Type}:∀(ss:List (List α)) (i:Nat) (t t':List α),ss[i]?=↑t->∃A B,ss.flatten=A++(t++B)/\(ss.set i t').flatten=A++(t'++B)
 |y::r,0,t,t',h=>by
   simp at h;subst h;exact⟨[],r.flatten,rfl,rfl⟩
 |y::r,i+1,t,t',h=>by
   obtain⟨A,B,h1,h2⟩:=Aq r i t t' (by simpa using h);exact⟨y++A,B,by simp[h1],by simp[h2]⟩
variable{d:cX}{s':Hs}
theorem HI.push(h:HI n k p s)(Y:k.length<60)(U:SI n (k.length+1) s')(st:nH k s d s'):HI n (k++[d]) (p++[s]) s':=by
 have V:(p++[s]).length=k.length+1:=by simp[h.kp]
 have lt:∀i,i<=k.length->(p++[s]++[s'])[i]?=(p++[s])[i]?:=λi c=>a0 ∅;have S:(p++[s]++[s'])[k.length+1]?=↑s':=by rw[<-V,gn]
 refine⟨h.n5,by simp;lia,by simp[h.kp],λi t D=>?_,by rw[lt 0 ∅];exact h.st0,λi d' t t' h1 h2 I=>?_⟩
 ·by_cases c:i<=k.length
  ·exact h.all i t (lt i c ▸ D)
  ·obtain rfl:i=k.length+1:=by have:=(au.mp D).1;simp[h.kp] at this;lia
   rw[S] at D;cases D;exact U
 ·by_cases c:i<k.length
  ·rw[ir ∅]
   exact h.tr i d' t t' (by rwa [a0 c] at h1) (by rwa [lt i ∅] at h2) (by rwa [lt _ c] at I)
  ·obtain rfl:i=k.length:=by have:=(au.mp h1).1;simp at this;lia
   rw[gn] at h1;rw[lt _ (bj _),<-h.kp,gn] at h2;rw[S] at I;cases h1;cases h2;cases I;rw[kn];exact st
theorem SI.swap{t t':gu}(h:SI n i s)(I:s.1[a]?=↑t)(S:s.1.flatten.length+t'.length<=14+t.length)(U:∀x∈t',(∀y∈t,ip y)->ip x):SI n (i+1) (s.1.set a t',s.2):=by
 obtain⟨A,B,h1,h2⟩:=Aq s.1 a t t' I;have g:=h.good;rw[h1] at g S;refine⟨by rw[e7];exact h.len,?_,?_,h.chain,h.rate,pv h.sp,h.hour⟩
 ·show(s.1.set a t').flatten.length<=14
  rw[h2];simp at *
  lia
 ·intro x D
  rw[h2,d6,d6] at D;rcases D with q |q |q
  ·exact g x (by simp[q])
  ·exact U x q λy V=>g y (by simp[V])
  ·exact g x (by simp[q])
theorem HK(k:g3):1<=ke k/\ke k<=k.length+1:=by
 unfold ke;have:=List.length_filter_le cX.isPut k
 lia
def HI.l5(hi:HI n k p s):s.1.length<=5:=by rw[hi.at.len];exact hi.n5
def HI.new(D:n<=5):HI n [] [] (cF n) :=
 ⟨D,by simp,rfl,λi t h=>by
  have e:i=0/\t=cF n:=by
   cases i with
   |zero=>simp at h;exact⟨rfl,h.symm⟩ |succ m=>simp at h
  obtain⟨rfl,rfl⟩:=e;have z:(cF n).1.flatten=[]:=by simp[cF]
  exact⟨by simp[cF],by rw[z];simp,by rw[z];simp,trivial,λx h=>by simp[cF] at h,by simp[cF],by simp[cF,tN]⟩,rfl,λi d t t' h=>by simp at h⟩
def flat(ts:g2):gu:=(ts.map (·.2)).flatten
def HM(ok:aE ss ts)(D:∀y∈ss.flatten,ip y)(I:ss.flatten.length<=14)(U:ss.length<=900):x8 [aF ss]=↑(.lst (ts.map bS)):=by
 obtain⟨V,S,h⟩:=zE ss D I;have e:=zN S D I U;rw[zN ok D I U] at e;rw[h,e]
theorem HN(hi:HI n k p s)(ok:aE s.1 ts):xw [hA k (p++[s])] []=↑↥(gv 0 (flat ts)):=by
 have l5:=hi.l5;have h:=GP ok (HM ok hi.at.good hi.at.few ∅) hi.at.good ∅ hi.at.few;rw[Ab ok] at h;exact HB h
abbrev eU:=Nat×Sk
def col(c:Nat)(L:List eU):gu:=(L.filter λe=>e.1==c).map (·.2)
def non(a:Nat)(L:List eU):gu:=(L.filter λe=>not (e.1==a)).map (·.2)
def u5(c:Nat)(x:Sk)(L:List eU):col c ((c,x)::L)=x::col c L:=by simp[col]
def uk{d:Nat}(h:d≠c)(x:Sk)(L:List eU):col c ((d,x)::L)=col c L:=by simp[col,h]
def tS(c:Nat)(x:Sk)(L:List eU):non c ((c,x)::L)=non c L:=by simp[non]
def nI{d:Nat}(h:d≠c)(x:Sk)(L:List eU):non c ((d,x)::L)=x::non c L:=by simp[non,h]
def Ar(c:Nat)(A B:List eU):col c (A++B)=col c A++col c B:=by simp[col]
theorem As(d:Int):∀(X:gu) (h:Int),gv (h+d) X=gv h X+d*aI X
 | [],h=>by simp[gv,aI] |x::X,h=>by
   rw[gv,gv,show h+d+x.2.1=h+x.2.1+d by lia,As d X,tq];generalize gv (h+x.2.1) X=c
   grind
def vo(h:Int)(X:gu):gv h X=gv 0 X+h*aI X:=by
 have:=As h X 0;rwa [fu] at this
def zb:∀(A B:gu) (h:Int),gv h (A++B)=gv h A+gv (h+aD A) B
 | [],B,h=>by simp[gv,aD] |x::A,B,h=>by
   rw[fz,gv,gv,zb A B,qk,yd h,yd]
def dE(a:Nat):Nat->List eU->List eU
 |0,L=>L |_+1,[]=>[] |n+1,e::L=>if e.1=a then dE a n L else e::dE a (n+1) L
def tT(a:Nat):∀(L:List eU) (n:Nat),col a (dE a n L)=(col a L).drop n
 | [],0=>rfl | [],n+1=>rfl |e::L,0=>rfl | (d,x)::L,n+1=>by
   by_cases h:d=a
   ·subst h
    rw[dE,az rfl,tT d L n,u5,List.drop_succ_cons]
   ·rw[dE,bu h,uk h,uk h]
    exact tT a L (n+1)
def nJ{a c:Nat}(D:c≠a):∀(L:List eU) (n:Nat),col c (dE a n L)=col c L
 | [],0=>rfl | [],n+1=>rfl |e::L,0=>rfl | (d,x)::L,n+1=>by
   by_cases h:d=a
   ·subst h
    rw[dE,az rfl,nJ D L n,uk (Ne.symm D)]
   ·rw[dE,bu h]
    by_cases hd:d=c
    ·subst hd;rw[u5,u5,nJ D L (n+1)]
    ·rw[uk hd,uk hd,nJ D L (n+1)]
theorem y0(a:Nat):∀(L:List eU) (r:gu),(∃t,col a L=r++t)->aI (L.map (·.2))=aI r+aI ((dE a r.length L).map (·.2))/\aD (L.map (·.2))=aD r+aD ((dE a r.length L).map (·.2))
 |L,[],_=>by cases L <;> simp[dE,aI,aD]
 | [],x::r,⟨t,ht⟩=>by simp[col] at ht | (d,y)::L,x::r,⟨t,ht⟩=>by
   by_cases h:d=a
   ·subst h
    rw[u5,fz] at ht;obtain⟨e,D⟩:=n9 ht;subst e;obtain⟨h1,h2⟩:=y0 d L r ⟨t,D⟩;rw[aq,dE,az rfl,bx,tq,qk,tq,qk,h1,h2];exact⟨by lia,by lia⟩
   ·rw[uk h] at ht
    obtain⟨h1,h2⟩:=y0 a L (x::r) ⟨t,ht⟩;rw[aq] at h1 h2;rw[aq,dE,bu h,bx,bx,tq,qk,tq (r:=List.map _ _),qk (r:=List.map _ _),h1,h2];exact⟨by lia,by lia⟩
theorem tU(a:Nat)(W P:Int)(hP:0<P):∀(L:List eU) (r:gu) (G:Int),(∃t,col a L=r++t)->(∀e∈L,0<=e.2.2.1)->(∀u t,r=u++t->0<=P*aI t-W*aD t)->(∀q t,L=q++t->0<=G+(W*aD (non a q)-P*aI (non a q))) ->
  0<=P*(gv 0 (L.map (·.2))-gv 0 (r++(dE a r.length L).map (·.2)))+aD r*G
 |L,[],G,_,_,_,_=>by cases L <;> simp[dE,aD]
 | [],x::r,G,⟨t,ht⟩,_,_,_=>by simp[col] at ht | (d,y)::L,x::r,G,⟨t,ht⟩,hx,hs,hG=>by
   have Z:0<=G:=by
    have:=hG [] _ rfl;simpa[non,aD,aI] using this
   have Y:0<=y.2.1:=hx _ bh;by_cases h:d=a
   ·subst h
    rw[u5,fz] at ht;obtain⟨e,I⟩:=n9 ht;subst e;have S:=tU d W P hP L r G ⟨t,I⟩ (λz V=>hx z (av _ V)) (λu v e=>hs (y::u) v (by rw[e];rfl)) (λq v e=>by
     have:=hG ((d,y)::q) v (by rw[e];rfl);rwa [tS] at this)
    have m:=ng Y Z;have U:=(y0 d L r ⟨t,I⟩).1;have c:aI (r++(dE d r.length L).map (·.2))=aI (L.map (·.2)):=by rw[rc,U]
    rw[aq,dE,az rfl,bx,fz,gv,gv,vo (0+y.2.1) (L.map (·.2)),vo (0+y.2.1) (r++(dE d r.length L).map (·.2)),c,qk];generalize gv 0 (L.map (·.2))=c1 at *;generalize gv 0 (r++(dE d r.length L).map (·.2))=c2 at *;generalize aI (L.map (·.2))=c3 at *;have D:P*((d,y).2.2.2*(0+(d,y).2.2.1)+(c1+(0+y.2.1)*c3)-(y.2.2*(0+y.2.1)+(c2+(0+y.2.1)*c3)))+(y.2.1+aD r)*G=(P*(c1-c2)+aD r*G)+y.2.1*G:=by dsimp only;grind
    rw[D]
    lia
   ·rw[uk h] at ht
    have S:=tU a W P hP L (x::r) (G+(W*y.2.1-P*y.2.2)) ⟨t,ht⟩ (λz V=>hx z (av _ V)) hs (λq v e=>by
     have:=hG ((d,y)::q) v (by rw[e];rfl);rw[nI h,qk,tq,ib,ib] at this
     lia)
    have U:=(y0 a L (x::r) ⟨t,ht⟩).1;have f:=hs [] (x::r) rfl;rw[aq] at S U;rw[aq,dE,bu h,bx,bx];generalize x::r=b at *;rw[zb] at S;rw[zb,gv,gv,vo (0+_) (L.map (·.2)),U,vo (0+aD b+_)];rw[vo (0+aD b)] at S;generalize gv 0 (L.map (·.2))=c1 at *;generalize gv 0 b=c2 at *;generalize aI ((dE a (r.length+1) L).map (·.2))=c3 at *;generalize gv 0 ((dE a (r.length+1) L).map (·.2))=c4 at *;have m:=ng Y f;generalize aD b=hb1 at *;generalize aI b=lb at *;have D:P*((d,y).2.2.2*(0+(d,y).2.2.1)+(c1+(0+(d,y).2.2.1)*(lb+c3))-(c2+((d,y).2.2.2*(0+hb1+(d,y).2.2.1)+(c4+(0+hb1+(d,y).2.2.1)*c3))))+hb1*G=(P*(c1-(c2+(c4+(0+hb1)*c3)))+hb1*(G+(W*y.2.1-P*y.2.2)))+y.2.1*(P*lb-W*hb1):=by dsimp only;grind
    rw[D]
    lia
theorem Au{a c:Nat}(I:c≠a):∀q:List eU,aD (non a q)=aD (col c q)+aD (non a (q.filter λe=>not (e.1==c)))/\aI (non a q)=aI (col c q)+aI (non a (q.filter λe=>not (e.1==c)))
 | []=>by simp[non,col,aD,aI] | (d,y)::q=>by
   obtain⟨h1,h2⟩:=Au I q;by_cases hd:d=c
   ·subst hd
    rw[nI I,u5,lz ⋯,qk,qk,tq,tq,h1,h2];exact⟨by lia,by lia⟩
   ·rw[uk hd,ly (by simp[hd])]
    by_cases D:d=a
    ·subst D
     rw[tS,tS];exact⟨h1,h2⟩
    ·rw[nI D,nI D,qk,qk,tq,tq,h1,h2]
     exact⟨by lia,by lia⟩
theorem Av(a:Nat)(W P:Int):∀(n:Nat) (q:List eU),q.length<=n->(∀c,c≠a->0<=W*aD (col c q)-P*aI (col c q))->0<=W*aD (non a q)-P*aI (non a q)
 |0,q,hq,_=>by
   rw[se (Nat.le_zero.mp hq)];simp[non,aD,aI]
 |n+1,q,hq,h=>by
   by_cases D:∃e∈q,e.1≠a
   ·obtain⟨⟨c,y⟩,S,I⟩:=D
    have I:c≠a:=I;obtain⟨h1,h2⟩:=Au I q;have U:(q.filter λe=>not (e.1==c)).length<q.length:=by
     rw[List.length_filter_lt_length_iff_exists];exact⟨_,S,by simp⟩
    have V:=Av a W P n (q.filter λe=>not (e.1==c)) ∅ (λd hd=>by
     by_cases e:d=c
     ·subst e
      rw[show col d (q.filter λe=>not (e.1==d))=[] by unfold col;rw[List.filter_filter,fo,gp];intro z _;simp];simp[aD,aI]
     ·rw[show col d (q.filter λe=>not (e.1==c))=col d q by
       unfold col;rw[List.filter_filter];congr 1;apply List.filter_congr;intro z _;by_cases D:z.1=d
       ·simp[D,e]
       ·simp[D]]
      exact h d hd)
    have Y:=h c I;rw[h1,h2,ib,ib]
    lia
   ·have:non a q=[]:=by
     unfold non;rw[fo,gp];intro e S;have:e.1=a:=Classical.byContradiction λz=>D ⟨e,S,z⟩;simp[this]
    rw[this];simp[aD,aI]
theorem Aw{b:gu}(D:0<aD b):∀(bs:gx) (X:gu),(∀u∈bs,Good u/\(∀x∈u,ip x)/\aI u*aD b<=aI b*aD u)->X <+: bs.flatten->aI X*aD b<=aI b*aD X
 | [],X,_,h=>by
   rw[List.flatten_nil,List.prefix_nil] at h;subst h;simp[aD,aI]
 |u::bs,X,hb,h=>by
   obtain⟨I,S,U⟩:=hb u bh;rw[cf] at h;rcases mS h with z | ⟨t,e,ht⟩
   ·have h1:=I.beg X z
    have V:=tp u S I.ne;have Y:0<=aD X:=mR X λx Z=>S x (z.subset Z);have a:=gh h1 (Int.le_of_lt D);have c:=gh U Y;have d:aI X*aD b*aD u<=aI b*aD X*aD u:=by
     rw[show aI X*aD b*aD u=aI X*aD u*aD b by grind,show aI b*aD X*aD u=aI b*aD u*aD X by grind];exact Int.le_trans a (by rw[show aI u*aD X*aD b=aI u*aD b*aD X by grind];exact c)
    exact kq d V
   ·subst e
    have g:=Aw D bs t (λv f=>hb v (av _ f)) ht;rw[rc,oz,jf,ib]
    lia
def hV(ts:g2)(c:Nat):gu:=((ts.filter λt=>t.1==c).map (·.2)).flatten
theorem Ax:∀(ts:g2) (L:List eU),ts.Pairwise sL->(∀t∈ts,Good t.2)->(∀t∈ts,∀x∈t.2,ip x)->(∀e∈L,ip e.2)->(∀c,col c L=hV ts c)->gv 0 (flat ts)<=gv 0 (L.map (·.2))/\aI (flat ts)=aI (L.map (·.2))
 | [],L,_,_,_,_,h=>by
   cases L with
   |nil=>exact⟨ju _,rfl⟩ |cons e L =>
     have:=h e.1;rw[show e=(e.1,e.2) from rfl,u5] at this;simp[hV] at this
 | (a,b)::ts,L,srt,hg,hs,hL,h=>by
   have d:=gg.mp srt;have f:Good b:=hg (a,b) bh;have j:∀x∈b,ip x:=hs (a,b) bh;have U:=tp b j f.ne;have V:col a L=b++hV ts a:=by rw[h a];simp[hV]
   have S:∀c,c≠a->col c L=hV ts c:=λc Y=>by rw[h c];simp[hV,Ne.symm Y]
   have Z:∀e∈dE a b.length L,ip e.2:=λe D=>by
    have:∀(L:List eU) (n:Nat),∀e∈dE a n L,e∈L:=λL=>by
     induction L with
     |nil=>intro n e D;cases n <;> simpa[dE] using D
     |cons z L ih =>
       intro n e D;cases n with
       |zero=>exact D |succ n =>
         rw[dE] at D;split at D
         ·exact av _ (ih n e D)
         ·rcases cj.mp D with q |q
          ·rw[q];exact bh
          ·exact av _ (ih (n+1) e q)
    exact hL e (this _ _ _ D)
   obtain⟨v,g⟩:=Ax ts (dE a b.length L) d.2 (λt I=>hg t (av _ I)) (λt I=>hs t (av _ I)) Z (λc=>by
    by_cases e:c=a
    ·subst e;rw[tT,V,List.drop_left]
    ·rw[nJ e,S c e])
   obtain⟨k,_⟩:=y0 a L b ⟨_,V⟩;have l:=tU a (aI b) (aD b) U L b 0 ⟨_,V⟩ (λe D=>by have:=hL e D;unfold ip at this;lia) (λu t e=>by
    have h1:=f.beg u ⟨t,e.symm⟩;have w:aI b=aI u+aI t:=by rw[e,rc]
    have y:aD b=aD u+aD t:=by rw[e,oz]
    generalize aI b=lb at *;generalize aD b=hb at *;rw[show aI t=lb-aI u by lia,show aD t=hb-aD u by lia,Int.mul_sub,Int.mul_sub,iz hb lb,iz hb]
    lia) (λq t e=>by
    rw[fu];refine Av a _ _ q.length q (bj _) λc Y=>?_;have m:col c q <+: hV ts c:=by rw[<-S c Y,e,Ar];exact List.prefix_append _ _
    have:=Aw U _ (col c q) (λu o=>by
     obtain⟨t,I,p⟩:=b8.mp o;have I:=(jq.mp I).1;subst p;refine⟨hg t (av _ I),hs t (av _ I),?_⟩;have r:=d.1 t I;rcases r with z |z
     ·exact Int.le_of_lt z
     ·exact Int.not_lt.mp z.1) m
    rw[iz (aD b)]
    lia)
   rw[Int.mul_zero,Int.add_zero] at l;have i:gv 0 (b++(dE a b.length L).map (·.2))<=gv 0 (L.map (·.2)):=by
    by_cases z:gv 0 (b++(dE a b.length L).map (·.2))<=gv 0 (L.map (·.2))
    ·exact z
    ·have:=Int.mul_neg_of_pos_of_neg U (show gv 0 (L.map (·.2))-gv 0 (b++(dE a b.length L).map (·.2))<0 by lia)
     lia
   have s:flat ((a,b)::ts)=b++flat ts:=rfl;rw[s];refine⟨?_,by rw[rc,k,g]⟩;rw[zb,vo (0+aD b)];rw[zb,vo (0+aD b)] at i;rw[<-g] at i
   lia
def HQ(S:aZ ss os){s:gu}(U:ss[j]?=↑s):∀p q:em,os=p++q->col (j+1) (p.zip (tk ss p))=s.take (p.count (j+1)):=by
 apply sQ
 ·intro q _
  rfl
 ·intro p a V q D
  rw[dn,gf] at D;have h1:=V (a::q) D;rw[vp,List.zip_append (by rw[mX]),Ar,h1,i7,show List.zip [a] [p9 ss a (p.count a)]=[(a,p9 ss a (p.count a))] from rfl];by_cases e:a=j+1
  ·subst e
   obtain⟨s',I,Z,Y,_⟩:=aZ.at (p:=p) (q:=q) (a:=j+1) (Eq.subst (motive:=λo=>aZ ss o) D S);rw[Nat.add_sub_cancel,U] at I;cases I;rw[u5,show List.count (j+1) [j+1]=1 by simp,List.take_add_one,Y];rfl
  ·rw[uk e,show List.count (j+1) [a]=0 by simp[List.count_singleton,e],Nat.add_zero]
   exact di _
theorem kA(ok:aE ss ts)(U:∀x∈ss.flatten,ip x)(D:aZ ss os):gv 0 (flat ts)<=gv 0 (tk ss os):=by
 have V:(os.zip (tk ss os)).map (·.2)=tk ss os:=by rw[qt];rw[mX];exact bj _
 have:=(Ax ts (os.zip (tk ss os)) ok.srt ok.good (ok.sk U) (λe I=>U _ (D.sk _ (by rw[<-V];exact List.mem_map_of_mem I))) (λc=>by
  by_cases h:∃j s,c=j+1/\ss[j]?=↑s
  ·obtain⟨j,s,e,S⟩:=h
   subst e;rw[HQ D S os [] (di _).symm,D.cnt j s S,qr];exact(ok.part j s S).symm
  ·have d:c=0\/ss.length<c:=by
    cases c with
    |zero=>exact .inl rfl |succ j =>
      by_cases Y:j<ss.length
      ·exact absurd ⟨j,ss[j],rfl,ak Y⟩ h
      ·exact .inr ∅
   have Z:col c (os.zip (tk ss os))=[]:=by
    unfold col;rw[fo,gp];intro e I;have:=D.lo e.1 (mh I).1;simp
    lia
   have a:hV ts c=[]:=by
    unfold hV;rw[gp.mpr λt b=>by have:=ok.lo t b;simp;lia];rfl
   rw[Z,a])).1
 rwa [V] at this
def stk(ss:gx)(c:Nat):gu:=if c=0 then[] else ss.getD (c-1) []
def chg(a:Nat)(l:Int):Nat->List eU->List eU
 |_,[]=>[] |n,e::L=>if e.1=a then(match n with |0=>(e.1,(e.2.1,e.2.2.1,l))::L |n+1=>e::chg a l n L) else e::chg a l n L
def chgN{d:Nat}(h:d≠a)(l:Int)(x:Sk)(L:List eU)(n:Nat):chg a l n ((d,x)::L)=(d,x)::chg a l n L:=by cases n <;> simp[chg,h]
def eE(hi:HI n k p s)(h1:HI n (k++[d]) (p++[s]) s'):nH k s d s':=by
 have D:=h1.tr k.length d s s' ⋯ (by rw[<-hi.kp];simp) (by rw[<-hi.kp,show p.length+1=(p++[s]).length by simp,gn]);rwa [kn] at D
def hd(t:Tn):Int:=(t.2.headD (0,0,0)).1
theorem HR{ts:List α}{p q:List (α×Nat)}{x:α×Nat}(h:ts.zipIdx 0=p++x::q):∃hi:p.length<ts.length,x=(ts[p.length],p.length):=by
 have e:(ts.zipIdx 0)[p.length]?=↑x:=by rw[h];simp
 rw[nc] at e;have hi:p.length<ts.length:=by
  by_cases z:p.length<ts.length
  ·exact z
  ·rw[cz ∅] at e;cases e
 rw[ak hi] at e;refine⟨hi,?_⟩;simpa using(bn e).symm
def beg(T:gu)(n:Int):Int:=aD (T.takeWhile λx=>not (x.1==n))
abbrev Rn:=Bool×Int×Int×Int×Int
inductive iW (N:Int):List Rn->Int->Prop
 |nil:iW N [] 0
 |cons {r:Rn} {l:List Rn} {v V:Int}:N*r.2.2.2.1=v*r.2.2.2.2->iW N l V->iW N (r::l) (v+V)
def hX(h w:em):Prop:=(∀a∈w,1<=a/\a<=h.length)/\∀j,j<h.length->w.count (j+1)=h.getD j 0
def cH(h:em)(j:Nat):em:=h.set j (h.getD j 0-1)
def u4(h:em)(j:Nat):(cH h j).length=h.length:=by unfold cH;simp
def tW(h:em)(j i:Nat)(D:j<h.length):(cH h j).getD i 0=if i=j then h.getD j 0-1 else h.getD i 0:=by
 unfold cH;rw[aj,lg];by_cases e:j=i
 ·subst e
  rw[az rfl,az D,az rfl];rfl
 ·rw[bu e,bu (λq=>e q.symm),aj]
theorem qb:∀(h:em) (j:Nat),0<h.getD j 0->(cH h j).sum+1=h.sum
 | [],j,q=>by simp at q |a::h,0,q=>by
   simp[cH] at q ⊢
   lia
 |a::h,j+1,q=>by
   have D:=qb h j (by simpa using q);unfold cH at D ⊢;simp at D ⊢
   lia
def cD:Nat->em->List em
 |0,_=>[] |f+1,h=>if h.sum=0 then[[]] else((List.range h.length).map λj=>if 0<h.getD j 0 then(cD f (cH h j)).map ((j+1)::·) else[]).flatten
variable{h:em}
theorem HS(S:h.sum=0)(w:em):hX h w↔w=[]:=by
 have I:∀j,h.getD j 0=0:=λj=>by
  by_cases D:j<h.length
  ·rw[aj,ak D]
   exact js.mp S _ (j0 D)
  ·rw[aj,cz ∅];rfl
 constructor
 ·intro q
  cases w with
  |nil=>rfl |cons a w =>
    have l:=q.1 a bh;have c:=q.2 (a-1) ∅;rw[I,show a-1+1=a by lia,ia] at c
    lia
 ·intro e
  subst e;exact⟨λa U=>absurd U ij,λj D=>by rw[I];rfl⟩
theorem tX(I:j<h.length):hX h ((j+1)::w)↔0<h.getD j 0/\hX (cH h j) w:=by
 constructor
 ·intro q
  have c:=q.2 j I;rw[ia] at c;refine⟨by lia,λa ha=>by rw[u4];exact q.1 a (av _ ha),λi hi=>?_⟩;rw[u4] at hi;rw[tW h j i I];have D:=q.2 i hi;by_cases e:i=j
  ·subst e;rw[az rfl];lia
  ·rw[bu e,<-D,mx ∅]
 ·intro⟨p,q⟩
  refine⟨λa ha=>?_,λi hi=>?_⟩
  ·rcases cj.mp ha with e |ha
   ·subst e;exact⟨by lia,by lia⟩
   ·have:=q.1 a ha;rw[u4] at this;exact this
  ·have D:=q.2 i (by rw[u4];exact hi)
   rw[tW h j i I] at D;by_cases e:i=j
   ·subst e;rw[az rfl] at D;rw[ia,D];lia
   ·rw[bu e] at D;rw[mx ∅,D]
theorem uh:∀(f:Nat) (h:em),h.sum<f->∀w,w∈cD f h↔hX h w
 |0,_,q,_=>by lia |f+1,h,q,w=>by
   unfold cD;by_cases I:h.sum=0
   ·rw[az I,HS I,dm]
   ·rw[bu I,dw]
    constructor
    ·rintro⟨l,V,U⟩
     obtain⟨j,D,rfl⟩:=b8.mp V;have D:=d9.mp D;split at U
     ·rename_i p
      obtain⟨v,Y,rfl⟩:=b8.mp U;have Z:=qb h j p;exact(tX D).mpr ⟨p,(uh f (cH h j) ∅ v).mp Y⟩
     ·exact absurd U ij
    ·intro S
     cases w with
     |nil =>
       exfalso;apply I;rw[js];intro a b;obtain⟨j,D⟩:=List.mem_iff_getElem?.mp b;have:=S.2 j (au.mp D).1;rw[aj,D] at this;simpa using this.symm
     |cons a v =>
       have l:=S.1 a bh;have e:a-1+1=a:=by lia
       rw[<-e] at S;obtain⟨p,c⟩:=(tX ∅).mp S;have Z:=qb h (a-1) p;refine⟨_,b8.mpr ⟨a-1,d9.mpr ∅,rfl⟩,?_⟩;rw[az p];exact b8.mpr ⟨v,(uh f _ ∅ v).mpr c,by rw[e]⟩
theorem tY:∀(f:Nat) (h:em),(cD f h).Nodup
 |0,_=>List.nodup_nil |f+1,h=>by
   unfold cD;split
   ·simp
   ·rw[vb,List.pairwise_flatten]
    refine⟨λl D=>?_,?_⟩
    ·obtain⟨j,_,rfl⟩:=b8.mp D
     split
     ·rw[lf]
      exact(tY f (cH h j)).imp λq e=>q (n9 e).2
     ·exact List.Pairwise.nil
    ·rw[lf]
     refine(List.nodup_range (n:=h.length)).imp λ{i j} q x hx y hy e=>?_;subst e;split at hx
     ·split at hy
      ·obtain⟨v,_,rfl⟩:=b8.mp hx
       obtain⟨u,_,e⟩:=b8.mp hy;have:=(n9 e).1;exact q ∅
      ·exact absurd hy ij
     ·exact absurd hx ij
def nK:hX h w.reverse↔hX h w:=by
 unfold hX;simp only[lx,ko]
variable{f:Nat}
def Ay(q:h.sum<f):(cD f h).Perm ((cD f h).map List.reverse):=by
 rw[List.perm_ext_iff_of_nodup (tY f h)]
 ·intro w
  rw[uh f h q,b8];constructor
  ·intro D
   exact⟨w.reverse,(uh f h q _).mpr (nK.mpr D),j5 w⟩
  ·rintro⟨v,I,rfl⟩
   exact nK.mpr ((uh f h q v).mp I)
 ·rw[vb,lf]
  exact(tY f h).imp λq e=>q (List.reverse_inj.mp e)
theorem Az{f g:Nat->Int}{j:Nat}{d:Int}:∀n:Nat,j<n->(∀k,k<n->k≠j->g k=f k)->g j=f j+d->cK g (List.range n)=cK f (List.range n)+d
 |0,hj,_,_=>by lia |n+1,hj,h1,h2=>by
   rw[gz,zY,zY,sX,zX,sX,zX];by_cases e:j=n
   ·subst e
    have:cK g (List.range j)=cK f (List.range j):=zZ λk D=>h1 k (by have:=d9.mp D;lia) (by have:=d9.mp D;lia);rw[this,h2]
    lia
   ·have:=Az (f:=f) (g:=g) (d:=d) n ∅ (λk D q=>h1 k ∅ q) h2
    rw[this,h1 n ∅ (λq=>e q.symm)]
    lia
def nh(ss:gx)(h:em):Int:=cK (λk=>aD ((ss.getD k []).take (h.getD k 0))) (List.range ss.length)
theorem A0(ss:gx):∀(w:em),(∀a∈w,1<=a/\a<=ss.length)->(∀k,k<ss.length->w.count (k+1)<=(ss.getD k []).length)->aD (tk ss w.reverse)=cK (λk=>aD ((ss.getD k []).take (w.count (k+1)))) (List.range ss.length)
 | [],_,_=>by
   rw[List.reverse_nil];have:cK (λk=>aD ((ss.getD k []).take (([]:em).count (k+1)))) (List.range ss.length)=0:=zW _;rw[this];rfl
 |a::w,h1,h2=>by
   have U:=h1 a bh;have I:=A0 ss w (λb S=>h1 b (av _ S)) λk D=>by
    have:=h2 k D;rw[mj] at this
    lia
   have c:=h2 (a-1) ∅;rw[show a-1+1=a by lia,ia] at c;rw[kz,vp,oz,I,ko];symm;refine Az (j:=a-1) ss.length ∅ (λk D q=>by rw[mx ∅]) ?_;rw[show a-1+1=a by lia,ia];unfold p9;generalize ss.getD (a-1) []=s at *;rw[m8,oz,ak ∅,aj,ak ∅];rfl
theorem HU(I:h.length=ss.length)(S:∀k,h.getD k 0<=(ss.getD k []).length)(q:hX h w):aD (tk ss w.reverse)=nh ss h:=by
 rw[A0 ss w (λa U=>by rw[<-I];exact q.1 a U) λk D=>by rw[q.2 k ∅];exact S k];unfold nh;exact zZ λk D=>by rw[q.2 k (by have:=d9.mp D;lia)]
def CL(ss:gx)(f:Nat)(h:em):ep:=(cD f h).map λw=>gv 0 (tk ss w.reverse)
theorem HV(S:h.length=ss.length)(U:∀k,h.getD k 0<=(ss.getD k []).length)(a:h.sum<f+1)(V:h.sum≠0) :
  CL ss (f+1) h=((List.range h.length).map λj=>if 0<h.getD j 0 then(CL ss f (cH h j)).map (· + ((ss.getD j []).getD (h.getD j 0-1) (0,0,0)).2.2*nh ss h) else[]).flatten:=by
 unfold CL;rw[cD,bu V,List.map_flatten,eo];congr 1;refine gm λj I=>?_;have I:=d9.mp I;show List.map _ (if 0<h.getD j 0 then(cD f (cH h j)).map ((j+1)::·) else[])=_;split
 ·rename_i p
  rw[eo,eo];refine gm λw Y=>?_;have b:=qb h j p;have q:=(uh f (cH h j) ∅ w).mp Y;have Z:=(tX I).mpr ⟨p,q⟩;have D:=HU S U Z;show gv 0 (tk ss ((j+1)::w).reverse)=gv 0 (tk ss w.reverse)+_;have c:=q.2 j (by rw[u4];exact I);rw[tW h j j I,az rfl] at c;rw[kz,vp] at D ⊢;rw[oz] at D;rw[mZ,ko,c];rw[ko,c] at D;unfold p9 at D ⊢;rw[show j+1-1=j by lia] at D ⊢;generalize (ss.getD j []).getD (h.getD j 0-1) (0,0,0)=x at *;rw[<-D];simp[aD]
 ·rfl
structure St (l:ep) (w m s:Int):Prop where
 w:w=l.length
 e:l=[]->m=-1/\s=0
 n:l≠[]->m∈l/\(∀x∈l,m<=x)/\s=l.count m
def St.nil:St [] 0 (-1) 0:=⟨rfl,λ_=>⟨rfl,rfl⟩,λh=>absurd rfl h⟩
variable{s m w:Int}
def St.perm{D:ep}(h:St l w m s)(p:l.Perm D):St D w m s :=
 ⟨by rw[<-p.length_eq];exact h.w,λe=>h.e (by subst e;exact List.perm_nil.mp p),λn=>by
  obtain⟨h1,h2,I⟩:=h.n λe=>n (by subst e;exact List.nil_perm.mp p);exact⟨p.mem_iff.mp h1,λx S=>h2 x (p.mem_iff.mpr S),by rw[<-p.count_eq];exact I⟩⟩
theorem A1(d m:Int):∀l:ep,(l.map (· + d)).count (m+d)=l.count m
 | []=>rfl |x::l=>by
   rw[bx,mj,mj,A1 d m l];congr 1;by_cases e:x=m
   ·subst e;simp
   ·rw[bu (by simpa using e),bu (by simp;lia)]
theorem St.add(h:St l w m s)(D:l≠[])(d:Int):St (l.map (· + d)) w (m+d) s:=by
 obtain⟨h1,h2,I⟩:=h.n D;refine⟨by rw[ae];exact h.w,λe=>absurd (fo.mp e) D,λ_=>⟨b8.mpr ⟨m,h1,rfl⟩,λx S=>?_,by rw[A1];exact I⟩⟩;obtain⟨y,U,rfl⟩:=b8.mp S;have:=h2 y U
 lia
theorem St.app{a b:ep}{V D s':Int}(h:St a w m s)(h':St b V D s')(Y:b≠[])(i:∀x∈a,0<=x) :
  St (a++b) (w+V) (if m<0\/D<m then D else m) (if m<0\/D<m then s' else if D=m then s+s' else s):=by
 obtain⟨Z,I,b3⟩:=h'.n Y;refine⟨by rw[ai,h.w,h'.w];simp,λe=>absurd (List.append_eq_nil_iff.mp e).2 Y,λ_=>?_⟩;by_cases e:a=[]
 ·obtain⟨j,k⟩:=h.e e
  subst e;rw[az (.inl ∅),az (.inl ∅)];exact⟨Z,I,b3⟩
 ·obtain⟨d,S,f⟩:=h.n e
  have o:=i m d;by_cases c:D<m
  ·rw[az (.inr c),az (.inr c)]
   refine⟨b7 _ Z,λx U=>(d6.mp U).elim (λq=>by have:=S x q;lia) (I x),?_⟩;rw[i7,sf (l:=a) (λq=>by have:=S D q;lia),jg];exact b3
  ·rw[bu ∅,bu ∅]
   refine⟨ek _ d,λx U=>(d6.mp U).elim (S x) (λq=>by have:=I x q;lia),?_⟩;rw[i7];by_cases g:D=m
   ·subst g;rw[az rfl,f,b3];simp
   ·rw[bu g,sf (l:=b) (λq=>by have:=I m q;lia),f];simp
end LB
namespace SQ
open PySem L2 LB
def x9(m:f0->f4):FS:=sIf (fTst (fBin dGt (fVar 3) [:0])) (sSeq (sSet 4 (aH (cQ (aH (cQ (aH (fT (fVar 0) (fZ) (fS (fVar 2)))) (aH (ig (bz (fBin dSub (fVar 3) [:1]) (aB)))))) (aH (fT (fVar 0) (fS (fBin iq (fVar 2) [:1])) (fZ)))))) (j8 (xb 1 (jy (cM (f9 m (bz (fVar 4) (aB)))) [2] bL (aH (cQ (aH (ig (bz (fBin iq (fVar 1) [:1]) (aB)))) (fVar 0))))))) (sNil)
def rn(m:f0->f4):FS:=sSeq (sIf (fTst (fBin dEq (f9 dU (bz (fVar 0) (aB))) [:0])) (aK (aH (ig (bz (aH (ig (aB))) (aB))))) (sNil)) (sSeq (bY 1 (ig (aB))) (sSeq (t6 [2,3] (jb (hF 0) (bz (fVar 0) (aB))) ((x9 m))) (aK (fVar 1))))
def tZ:f0->f4:=dO 5 1 rn 9
def t_:FS:=sSeq (sIf (fTst (fBin dGt (f9 zl (bz (fVar 0) (aB))) [:7])) (ym) (sNil)) (aK (f9 tZ (bz (aH (jy (cM (fVar 0)) [] bL (jd 0))) (aB))))
def nL:f0->f4:=aL 1 1 t_
def u0:FS:=sSeq (sSet 1 (aH (jy (cM (f9 nL (bz (fVar 0) (aB)))) [0] bL (f9 zg (bz (fVar 1) (bz (fVar 0) (aB))))))) (sSeq (sSet 2 (f9 wo (bz (fVar 1) (aB)))) (aK (bP (bz (jd 1) (bz (fVar 2) (bz (fBin vj (fVar 1) (fVar 2)) (aB)))))))
def nM:f0->f4:=aL 3 1 u0
def u2:FS:=aK (f9 nM (bz (fK (.ins false "House" m4) 0 (mq xy [0] (aB))) (aB)))
def zk:gr->f0->f4:=bV 1 1 0 u2
def HW:gr->f0->ew:=xQ 1 1 0 u2
def u3:FS:=j8 (n6 1 (fBin dMul (fIxV 1 (fY dG [:1])) (fBin iq (jd 2) [:1])))
def tw:FS:=sIf (fTst (fBin dGt (fIxV 5 (fVar 10)) (fC (.int 0)))) (sSeq (sSet 11 (fIxV 3 (fBin dSub (fVar 4) (fIxV 1 (fVar 10))))) (sSeq (sSet 12 (fBin iq (fIxV 11 (fC (.int 1))) (fBin dMul (fBin dIx (fBin dIx (fIxV 0 (fVar 10)) (fBin dSub (fIxV 5 (fVar 10)) (fC (.int 1)))) (fC (.int 2))) (fVar 6)))) (sSeq (sSet 7 (fBin iq (fVar 7) (fIxV 11 (fC (.int 0))))) (sSeq (sIf (fOr (fTst (fBin dLt (fVar 8) (fC (.int 0)))) (fTst (fBin dLt (fVar 12) (fVar 8)))) (sSeq (sSet 8 (fVar 12)) (sSet 9 (fC (.int 0)))) (sNil)) (sIf (fTst (fBin dEq (fVar 12) (fVar 8))) (sSet 9 (fBin iq (fVar 9) (fIxV 11 (fC (.int 2))))) (sNil)))))) (sNil)
def zj:FS:=sSeq (sSet 5 (aH (lF (jb eG (bz (jd 0) (aB))) [4,1,0] bL (fBin aQ (fBin bE (fVar 1) (fIxV 2 (fVar 0))) (fBin iq (f9 eN (bz (fIxV 3 (fVar 0)) (aB))) [:1]))))) (sSeq (sSet 6 (f9 dU (bz (aH (jy (jb eG (bz (jd 0) (aB))) [0,5] bL (f9 dU (bz (aH (jy (cM (aH (fT (fIxV 1 (fVar 0)) (fZ) (fS (fIxV 2 (fVar 0)))))) [] bL (fIxV 0 [:1]))) (aB))))) (aB)))) (sSeq (sSet 7 [:0]) (sSeq (sSet 8 (fY dG [:1])) (sSeq (sSet 9 [:0]) (sSeq (bQ 10 (jb eG (bz (jd 0) (aB))) (tw)) (j8 (n6 3 (aH (ig (bz (fVar 7) (bz (fVar 8) (bz (fVar 9) (aB)))))))))))))
def uA:FS:=sSeq (bY 1 (ig (bz [:1] (aB)))) (sSeq (bQ 2 (cM (fVar 0)) (u3)) (sSeq (bY 3 (ig (bz (aH (ig (bz [:1] (bz [:0] (bz [:1] (aB)))))) (aB)))) (sSeq (bQ 4 (jb i_ (bz [:1] (bz (fIxV 1 (fY dG [:1])) (aB)))) (zj)) (aK (fIxV 3 (fY dG [:1]))))))
def uB:f0->f4:=aL 13 1 uA
def nN:FS:=sSeq (sIf (cI (fTst (f9 mO (bz (fVar 4) (bz (fVar 0) (aB)))))) (aK (fC (.bl false))) (sNil)) (sSeq (sSet 5 (f9 r_ (bz (f9 mK (bz (fVar 0) (bz (fVar 4) (aB)))) (aB)))) (sSeq (sIf (fTst (fBin dLt (fVar 5) (fIxV 1 [:1]))) (aK (fC (.bl false))) (sNil)) (sSet 3 (fBin iq (fVar 3) (f9 gI (bz (fBin dEq (fVar 5) (fIxV 1 [:1])) (aB)))))))
def uC:FS:=sSeq (sSet 2 (f9 nL (bz (aH (jb rG (bz (fVar 0) (aB)))) (aB)))) (sSeq (sIf (fOr (cI (fTst (dZ "list" (fVar 2)))) (fTst (fBin gD (jd 2) (fIxV 1 [:0])))) (aK (fC (.bl false))) (sNil)) (sSeq (sSet 3 [:0]) (sSeq (bQ 4 (cM (fVar 2)) (nN)) (aK (fBin dEq (fVar 3) (fIxV 1 [:2]))))))
def uD:f0->f4:=aL 6 2 uC
def yz:FS:=sSeq (sSet 6 (fBin iq (fVar 6) [:1])) (sSeq (sIf (fTst (fBin gD (fK (.ins false "House" m4) 4 (qz zf [4] (bz (fBin iq (fVar 7) [:1]) (bz (fIxV 8 [:1]) (bz (fIxV 8 [:2]) (aB)))))) (fVar 6))) (aK (fC (.bl false))) (sNil)) (tf 5 (fVar 7) (aH (cQ (aH (ig (bz (bP (bz (fVar 6) (bz (fIxV 8 [:1]) (bz (fIxV 8 [:2]) (aB))))) (aB)))) (fIxV 5 (fVar 7))))))
def nO:FS:=sSeq (j8 (n6 5 (aH (ig (aB))))) (bQ 8 (jb jC (bz (fIxV 3 (fVar 7)) (aB))) (yz))
def yf:FS:=sSeq (sSet 1 (f9 zh (bz (fVar 0) (bz [:16] (aB))))) (sSeq (sSet 2 (fBin dIx (aH (ig (bz [:14] (bz [:7] (aB))))) (fBin aQ (fIxV 1 [:15]) [:2]))) (sSeq (sSet 3 (f9 mi (bz (fVar 1) (bz (fVar 2) (aB))))) (sSeq (yi 4 (yh "House" zo (bz (jd 3) (aB)))) (sSeq (bY 5 (ig (aB))) (sSeq (sSet 6 [:0]) (sSeq (bQ 7 (jb eG (bz (jd 3) (aB))) (nO)) (sSeq (sSet 9 (f9 uB (bz (fVar 5) (aB)))) (sSeq (sSet 10 (fK (.ins false "House" m4) 4 (mq xw [4] (aB)))) (sSeq (sIf (fOr (cI (fTst (f9 xv (bz (fVar 10) (aB))))) (fTst (fBin gD (fVar 10) (fIxV 9 [:1])))) (aK (fC (.bl false))) (sNil)) (sSeq (sIf (fTst (fBin dGt (fVar 6) [:7])) (aK (fC (.bl true))) (sNil)) (aK (ve (f9 m1 (bz (fK (.ins false "House" m4) 4 (mq zk [4] (aB))) (bz (bP (bz (fIxV 9 [:0]) (bz (fIxV 9 [:1]) (bz (fIxV 9 [:2]) (aB))))) (aB)))) (f9 uD (bz (fVar 5) (bz (fVar 9) (aB))))))))))))))))
def A2:f0->f4:=aL 11 1 yf
end SQ
namespace SQ
open PySem L2 LB PyProof.Rows
def cB(i:Nat):Stmt:=PySem.Challenge.pw_rotstacks_k34_whole_all_gone_through.main.body.getD i (.Pass ⟨0,0,0,0⟩)
def iX(j:Nat):Stmt:=match cB 61 with | .ClassDef _ _ _ b _ _ _ _ _ _ _=>b.getD j (.Pass ⟨0,0,0,0⟩) |_=>.Pass ⟨0,0,0,0⟩
local macro_rules | `(tactic| walk_at "g") => `(tactic| first | exact pL (by kernel_rfl) | exact qE (by kernel_rfl) | exact qM (by kernel_rfl))
local macro_rules | `(tactic| exists $t:term) => `(tactic| as_aux_lemma => exact $t)
local macro_rules | `(tactic| walk_at "b") => `(tactic| exact ⟨by walk_at "g", by assumption⟩)
def ok_all{P:Program}{w:World}{K:fc}{mg:Str->ei}{C:Addr}(T3:bX K mg (cB 3) "sack_hours" ["sack"])(T4:bX K mg (cB 4) "sack_loss" ["sack"])(T5:bX K mg (cB 5) "sacks_in_all" ["stacks"])(T6:bX K mg (cB 6) "with_stack" ["stacks", "at", "stack"])(T8:bX K mg (cB 8) "share_gap" ["one", "other"])(T9:bX K mg (cB 9) "share_sign" ["one", "other"])(ax:bX K mg (cB 10) "single_block" ["sack"])(a1:bX K mg (cB 11) "joined_block" ["upper", "lower"])(a2:bX K mg (cB 12) "block_share" ["block"])(a3:bX K mg (cB 13) "has_greater_share" ["upper", "lower"])(a4:bX K mg (cB 14) "stack_blocks" ["stack"])(a5:bX K mg (cB 28) "turn_share" ["turn"])(a6:bX K mg (cB 29) "place_of_turn" ["turns", "turn"])(a7:bX K mg (cB 30) "block_turns" ["stacks"])(a8:bX K mg (cB 31) "told_order" ["stacks"])(N:bX K mg (cB 32) "check_known" ["stacks", "at"])(a9:bX K mg (cB 33) "check_whole" ["stacks", "order"])(ba:bX K mg (cB 34) "check_order" ["stacks", "order"])(bb:bX K mg (cB 35) "taken_sacks" ["stacks", "order"])(bd:bX K mg (cB 37) "order_cost" ["stacks", "order"])(be:bX K mg (cB 38) "least_cost" ["stacks"])(bf:bX K mg (cB 41) "orders_of_heights" ["heights"])(bk:bX K mg (cB 42) "all_orders" ["stacks"])(bl:bX K mg (cB 43) "least_of_all" ["stacks"])(bm:bX K mg (cB 52) "check_count" ["many"])(bp:bX K mg (cB 53) "check_hours" ["hours"])(br:bX K mg (cB 54) "check_loss" ["loss"])(bs:bX K mg (cB 55) "check_room" ["stacks"])(bt:bX K mg (cB 58) "check_deeds" ["deeds"])(b0:bX K mg (cB 59) "next_number" ["deeds"])(o:gL K C (iX 0) "__init__" "House.__init__" ["self", "many"])(p:gL K C (iX 1) "piles" "House.piles" ["self"])(q:gL K C (iX 2) "spans" "House.spans" ["self"])(s:gL K C (iX 3) "keep" "House.keep" ["self", "deed", "piles", "spans"])(u:gL K C (iX 4) "put" "House.put" ["self", "at", "hours", "loss"])(v:gL K C (iX 14) "cost" "House.cost" ["self"])(x:gL K C (iX 17) "every" "House.every" ["self"])(b1:bX K mg (cB 63) "_law_whole" ["_law_found"])(b2:bX K mg (cB 64) "_law_at" ["_law_script", "_law_k"])(b3:bX K mg (cB 65) "_law_draws" ["_law_script", "_law_many"])(b4:bX K mg (cB 66) "_law_more_below" ["_law_stack"])(b5:bX K mg (cB 67) "_law_stacks" ["_law_draws_here", "_law_most"])(ca:bX K mg (cB 68) "_law_taken" ["_law_stacks_here", "_law_order"])(cc:bX K mg (cB 69) "_law_cost" ["_law_sacks"])(cd:bX K mg (cB 70) "_law_is_order" ["_law_found", "_law_stacks_here"])(ch:bX K mg (cB 71) "_law_same_row" ["_law_found", "_law_due"])(ci:bX K mg (cB 72) "_law_copy" ["_law_stacks_here"])(ck:bX K mg (cB 73) "_law_least" ["_law_stacks_here"])(cl:bX K mg (cB 74) "_law_gone_through" ["_law_stacks_here", "_law_due"])(y:Cl K "House" C)(cs:fQ K C)(mC:mg "House" = ↑(.ref C))(kC:PySem.W.makesIn K C=true)(pC:PySem.W.keepIn K (.ref C)=true)(z:PySem.W.findIn K (.ref C) "kept" = ↑none)(l:PySem.W.findIn K (.ref C) "states" = ↑none)(h:ik K mg "BadCount")(i:ik K mg "BadHours")(k:ik K mg "BadLoss")(d:ik K mg "DeedsFull")(e:ik K mg "HouseFull")(b:ik K mg "UnknownStack")(U:∃t,mg "MOST_DEEDS" = ↑(.int 60 t))(V:∃t,mg "MOST_HOURS" = ↑(.int 60 t))(Y:∃t,mg "MOST_LOSS" = ↑(.int 100 t))(c:∃t,mg "MOST_SACKS" = ↑(.int 7 t))(I:∃t,mg "MOST_STACKS" = ↑(.int 5 t))(D:∃t,mg "MOST_WAITING" = ↑(.int 14 t))(ap:mg "bool" = none)(A:mg "enumerate" = none)(cm:mg "int" = none)(n:mg "isinstance" = none)(cn:mg "len" = none)(ar:mg "list" = none)(co:mg "min" = none)(O:mg "range" = none)(L:mg "reversed" = none)(cp:mg "str" = none)(cq:mg "sum" = none)(Q:mg "tuple" = none):∀base f fd,fR K "law" "law" (cB 75) f fd->bK P w K mg base bF 14 f fd ["_law_script"] (bU K A2):=by
 intro base;have Z:ka K "House" "kept":=⟨C,cs,z,y⟩;have S:ka K "House" "states":=⟨C,cs,l,y⟩;have c3:bR P w K mg base bF "sack_hours" 1 (bU K lS):=by exists kc T3 ["sack"] λr a t=>fx (jc (gw dz a))
 have c4:bR P w K mg base bF "sack_loss" 1 (bU K lT):=by exists kc T4 ["sack"] λr a t=>fx (jc (gw dz a))
 have c5:bR P w K mg base bF "sacks_in_all" 1 (bU K zl):=by exists kc T5 ["stacks"] λr a t=>fx (jc (kX (du (jw (vw a (l8 (cx a)) (λ_ _ _ _ _ _ _ a=>lp a))) e8)))
 have c6:bR P w K mg base bF "with_stack" 1 (bU K mP):=by exists kc T6 ["stacks", "at", "stack"] λr a t=>fx (jc (jw (ux (jw (ux (jw (wd (cx a) xg (xf (mr (cx a) dz)))) (jw (kh (du (cx a) e8))))) (jw (wd (cx a) (xf (cx a)) xg)))))
 have c8:bR P w K mg base bF "share_gap" 1 (bU K lP):=by exists kc T8 ["one", "other"] λr a t=>fx (jc (mr (qh (gw dz a) (gw dz a)) (qh (gw dz a) (gw dz a))))
 have c9:bR P w K mg base bF "share_sign" 2 (bU K um):=by exists kc T9 ["one", "other", "gap"] λr a t=>fg (i9 t (jv c8 r (du (cx a) (du (cx a) e8)))) (fg (j7 (p8 (cx a) dz) (fx (jc dz)) j9) (fg (j7 (qf (cx a) dz) (fx (jc (wx dz))) j9) (fx (jc dz))))
 have ct:bR P w K mg base bF "single_block" 2 (bU K lU):=by exists kc ax ["sack"] λr a t=>fx (jc (o7 (du dz (du (jv c3 r (du (cx a) e8)) (du (jv c4 r (du (cx a) e8)) e8)))))
 have cv:bR P w K mg base bF "joined_block" 1 (bU K lV):=by exists kc a1 ["upper", "lower"] λr a t=>fx (jc (o7 (du (li (gw dz a) (gw dz a)) (du (li (gw dz a) (gw dz a)) (du (li (gw dz a) (gw dz a)) e8)))))
 have R:bR P w K mg base bF "block_share" 1 (bU K zi):=by exists kc a2 ["block"] λr a t=>fx (jc (o7 (du (gw dz a) (du (gw dz a) e8))))
 have c0:bR P w K mg base bF "has_greater_share" 3 (bU K uo):=by exists kc a3 ["upper", "lower"] λr a t=>fx (jc (Dd (jv c9 r (du (jv R r (du (cx a) e8)) (du (jv R r (du (cx a) e8)) e8))) dz))
 have c1:bR P w K mg base bF "stack_blocks" 4 (bU K rz):=by exists kc a4 ["stack", "blocks", "sack", "block"] λr a t=>fg (oy (t.psF (kh e8))) (fg (nj (l8 (cx a)) t.pg (fg (i9 t (jv ct r (du (cx a) e8))) (fg (wY (dA (yn (p8 (lp a) dz) (yw (tm (q9 (jv c0 r (du (gw (wx dz) a) (du (cx a) e8)))))))) (fx (i9 t (jv cv r (du (DN a) (du (cx a) e8)))))) (fx (md (vx (cx a) a)))))) (fx (jc (cx a))))
 have T:bR P w K mg base bF "turn_share" 1 (bU K vz):=by exists kc a5 ["turn"] λr a t=>fx (jc (o7 (du (gw dz a) (du (gw dz a) e8))))
 have c2:bR P w K mg base bF "place_of_turn" 3 (bU K rD):=by exists kc a6 ["turns", "turn", "place"] λr a t=>fg (i9 t dz) (fg (wY (dA (yn (qf (cx a) (lp a)) (yw (pO (jv c9 r (du (jv T r (du (gw (cx a) a) e8)) (du (jv T r (du (cx a) e8)) e8))) dz)))) (fx (qK t dz))) (fx (jc (cx a))))
 have c7:bR P w K mg base bF "block_turns" 5 (bU K x8):=by exists kc a7 ["stacks", "turns", "at", "stack", "many", "hours", "loss", "turn"] λr a t=>fg (oy (t.psF (kh e8))) (fg (qH (Ex (du (cx a) e8)) (re t (re t lB)) (fx (x2 (l8 (jv c1 r (du (cx a) e8))) (re t (re t (re t lB))) (fg (i9 t (o7 (du (cx a) (du (cx a) (du (cx a) (du (cx a) e8)))))) (fx (md (Eh (EB c2 r (E9 (E8 (du (cx a) e8)) a)) (cx a) a))))))) (fx (jc (cx a))))
 have da:bR P w K mg base bF "told_order" 6 (iI K rJ):=by exists yL a8 ["stacks", "order", "at", "many", "hours", "loss"] λr a t=>fg (oy (t.psF (kh e8))) (fg (x2 (l8 (jv c7 r (du (cx a) e8))) (re t (re t (re t (re t lB)))) (fx (md (xG (Ei (kh (du (cx a) e8)) (cx a)) a)))) (fx (DL a)))
 have X:bR P w K mg base (dV P w) "check_known" 1 (fD K m_ nb):=by exists wj N ["stacks", "at"] λr a t=>fx (j7 (dA (qx (qf (cx a) dz) (sw (p8 (cx a) (lp a))))) (fx (xq b E_)) j9)
 have dc:bR P w K mg base bF "check_known" 1 (bU K rM):=by exists kc N ["stacks", "at"] λr a t=>fx (j7 (dA (qx (qf (cx a) dz) (sw (p8 (cx a) (lp a))))) (fx ll) j9)
 have dd:bR P w K mg base bF "check_whole" 1 (bU K rO):=by exists kc a9 ["stacks", "order", "left", "at"] λr a t=>fg (oy (xl a t (l8 (cx a)) (λ_ _ _ _ _ _ _ a=>lp a))) (fg (nj (l8 (cx a)) t.pg (fg (j7 (qy (gw (mr (cx a) dz) a) dz) (fx ll) j9) (fx (E2 (mr (cx a) dz) dz a)))) (fx (j7 (p8 (E7 a) dz) (fx ll) j9)))
 have dg:bR P w K mg base bF "check_order" 2 (bU K rQ):=by exists kc ba ["stacks", "order", "at"] λr a t=>fg (nj (l8 (cx a)) t.pg (fx (md (jv dc r (du (cx a) (du (cx a) e8)))))) (fx (md (jv dd r (du (cx a) (du (cx a) e8)))))
 have dj:bR P w K mg base bF "taken_sacks" 3 (bU K rS):=by exists kc bb ["stacks", "order", "taken", "sacks", "at"] λr a t=>fg (md (jv dg r (du (cx a) (du (cx a) e8)))) (fg (oy (xl a t (l8 (cx a)) (λ_ _ _ _ _ _ _ a=>dz))) (fg (oy (t.psF (kh e8))) (fg (nj (l8 (cx a)) t.pg (fg (md (vx (qe (gw (mr (cx a) dz) a) (gw (mr (cx a) dz) a)) a)) (fx (E1 (mr (cx a) dz) dz a)))) (fx (jc (cx a))))))
 have aa:bR P w K mg base bF "order_cost" 4 (bU K zg):=by exists kc bd ["stacks", "order", "cost", "hour", "sack"] λr a t=>fg (i9 t dz) (fg (i9 t dz) (fg (nj (l8 (jv dj r (du (cx a) (du (cx a) e8)))) t.pg (fg (qK t (jv c3 r (du (cx a) e8))) (fx (qK t (qh (jv c4 r (du (cx a) e8)) (cx a)))))) (fx (jc (cx a)))))
 have dk:bR P w K mg base bF "least_cost" 7 (bU K mL):=by exists kc be ["stacks"] λr a t=>fx (jc (jv aa r (du (cx a) (du (jw (wK da r (du (cx a) e8))) e8))))
 have dp:bR P w K mg base bF "orders_of_heights" 10 (bU K tZ):=by exists Fq 9 bf ["heights", "orders", "place", "height", "rest"] λj m=>λcs r a t=>fg (j7 (qy (kX (du (cx a) e8)) dz) (fx (jc (jw (kh (du (jw (kh e8)) e8))))) j9) (fg (oy (t.psF (kh e8))) (fg (qH (Ew (du (cx a) e8)) (re t (re t lB)) (fx (j7 (p8 (cx a) dz) (fg (i9 t (jw (ux (jw (ux (jw (wd (cx a) xg (xf (cx a)))) (jw (kh (du (mr (cx a) dz) e8))))) (jw (wd (cx a) (xf (li (cx a) dz)) xg))))) (fx (md (xG (vw a (l8 (jv (hkj:=bj _) cs r (du (cx a) e8))) (λ_ _ _ _ _ _ _ a=>jw (ux (jw (kh (du (li (cx a) dz) e8))) (cx a)))) a)))) j9))) (fx (jc (cx a)))))
 have ab:bR P w K mg base bF "all_orders" 11 (bU K nL):=by exists kc bk ["stacks"] λr a t=>fg (j7 (p8 (jv c5 r (du (cx a) e8)) (rg c)) (fx ll) j9) (fx (jc (jv dp r (du (jw (vw a (l8 (cx a)) (λ_ _ _ _ _ _ _ a=>lp a))) e8))))
 have dr:bR P w K mg base bF "least_of_all" 12 (bU K nM):=by exists kc bl ["stacks", "costs", "least"] λr a t=>fg (wZ (xl a t (l8 (jv ab r (du (cx a) e8))) (λ_ _ _ _ _ _ _ a=>jv aa r (du (cx a) (du (cx a) e8))))) (fg (i9 t (EE (du (cx a) e8))) (fx (jc (o7 (du (lp a) (du (cx a) (du (EI (cx a) (cx a)) e8)))))))
 have ag:bR P w K mg base (dV P w) "check_count" 1 (fD K np nq):=by exists wj bm ["many"] λr a t=>fx (j7 (dA (qx (qf (cx a) dz) (sw (p8 (cx a) (rg I))))) (fx (xq h (yt (ql vt (ql (yv (rg I)) (ql vt yu)))))) j9)
 have al:bR P w K mg base (dV P w) "check_hours" 1 (fD K nu nw):=by exists wj bp ["hours"] λr a t=>fx (j7 (dA (qx (qf (cx a) dz) (sw (p8 (cx a) (rg V))))) (fx (xq i (yt (ql vt (ql (yv (rg V)) (ql vt yu)))))) j9)
 have am:bR P w K mg base (dV P w) "check_loss" 1 (fD K n0 n2):=by exists wj br ["loss"] λr a t=>fx (j7 (dA (qx (qf (cx a) dz) (sw (p8 (cx a) (rg Y))))) (fx (xq k (yt (ql vt (ql (yv (rg Y)) yu))))) j9)
 have an:bR P w K mg base (dV P w) "check_room" 2 (fD K n7 x6):=by exists wj bs ["stacks"] λr a t=>fx (j7 (pO (jv c5 r (du (cx a) e8)) (rg D)) (fx (xq e (yt (ql (yv (rg D)) (ql vt yu))))) j9)
 have ao:bR P w K mg base (dV P w) "check_deeds" 1 (fD K nB xz):=by exists wj bt ["deeds"] λr a t=>fx (j7 (pO (lp a) (rg U)) (fx (xq d (yt (ql (yv (rg U)) (ql vt yu))))) j9)
 have ds:bR P w K mg base bF "next_number" 1 (bU K nC):=by exists kc b0 ["deeds"] λr a t=>fx (jc (li dz (pR (du (jw (DE a (l8 (cx a)) (λ_ _ _ _ _ _ _ a=>qy (gw dz a) wH) (λ_ _ _ _ _ _ _ a=>cx a))) e8))))
 have B:iO P w K mg base "House" 2 (hI K zo tE):=by exists Fn y mC kC pC o ["self", "many"] λr a t=>fg (wu (md (xr ag r (qj (du (cx a) e8)))) (xk (xj ag r (qj (du (cx a) e8))))) (fg (yK Z a (kh e8)) (fx (yK S a (kh (du (o7 (du (jw (vw a (tu (du (cx a) e8)) (λ_ _ _ _ _ _ _ a=>jw (kh e8)))) (du (jw (kh e8)) e8))) e8)))))
 have g:eO P w K mg base "House" "piles" 1 (fD K xy GX):=by exists zy y cs p ["self"] λr a t=>fx (jc (qe (yE (lO S a) (yD yC)) dz))
 have E:eO P w K mg base "House" "spans" 1 (fD K nE GY):=by exists zy y cs q ["self"] λr a t=>fx (jc (qe (yE (lO S a) (yD yC)) dz))
 have F:eO P w K mg base "House" "keep" 1 (hI K zm GZ):=by exists yM y cs s ["self", "deed", "piles", "spans"] λr a t=>fg (md (yF (lO Z a) (cx a))) (fx (md (yF (lO S a) (o7 (du (cx a) (du (cx a) e8))))))
 have G:eO P w K mg base "House" "put" 3 (hI K zf tI):=by exists yM y cs u ["self", "at", "hours", "loss", "piles", "number", "stack"] λr a t=>fg (i9 t (xu g r a)) (fg (wu (md (xr X r (qj (du (cx a) (du (cx a) e8))))) (xk (xj X r (qj (du (cx a) (du (cx a) e8)))))) (fg (wu (md (xr al r (qj (du (cx a) e8)))) (xk (xj al r (qj (du (cx a) e8))))) (fg (wu (md (xr am r (qj (du (cx a) e8)))) (xk (xj am r (qj (du (cx a) e8))))) (fg (wu (md (xr an r (qj (du (cx a) e8)))) (xk (xj an r (qj (du (cx a) e8))))) (fg (wu (md (yI (λ_ _=>xr ao r (qj (du (rb Z a) e8))))) (xk (Fh (λ_ _=>xj ao r (qj (du (rb Z a) e8)))))) (fg (i9 t (yI (λ_ _=>jv ds r (du (rb Z a) e8)))) (fg (i9 t (jw (ux (jw (kh (du (o7 (du (cx a) (du (cx a) (du (cx a) e8)))) e8))) (gw (mr (cx a) dz) a)))) (fg (md (yA F r (du (o7 (du wH (du (cx a) (du (cx a) (du (cx a) e8))))) (du (jv c6 r (du (cx a) (du (cx a) (du (cx a) e8)))) (du (xu E r a) e8))) a)) (fx (jc (cx a)))))))))))
 have H:eO P w K mg base "House" "cost" 8 (fD K xw G_):=by exists zy y cs v ["self"] λr a t=>fx (jc (jv dk r (du (xu g r a) e8)))
 have J:eO P w K mg base "House" "every" 13 (fD K zk HW):=by exists zy y cs x ["self"] λr a t=>fx (jc (jv dr r (du (xu g r a) e8)))
 have M:bR P w K mg base bF "_law_whole" 1 (bU K xv):=by exists kc b1 ["_law_found"] λr a t=>fx (jc (wJ (uw Eb (cx a)) (wI (De (uw Ec (cx a))))))
 have dt:bR P w K mg base bF "_law_at" 1 (bU K zd):=by exists kc b2 ["_law_script", "_law_k"] λr a t=>fg (j7 (qf (cx a) (lp a)) (fx (jc (gw (cx a) a))) j9) (fx (jc dz))
 have dv:bR P w K mg base bF "_law_draws" 2 (bU K zh):=by exists kc b3 ["_law_script", "_law_many", "_law_made", "_law_state", "_law_k", "_law_cell"] λr a t=>fg (oy (t.psF (kh e8))) (fg (i9 t dz) (fg (nj (tu (du (cx a) e8)) t.pg (fg (i9 t (jv dt r (du (cx a) (du (cx a) e8)))) (fg (j7 (qy (nr (lp a) dz) dz) (fg (i9 t (nr (li (li (li (qh (cx a) dz) (cx a)) (cx a)) dz) dz)) (fx (i9 t (nr (qh (li (cx a) (cx a)) dz) dz)))) j9) (fx (md (vx (cx a) a)))))) (fx (jc (cx a)))))
 have dx:bR P w K mg base bF "_law_more_below" 1 (bU K wb):=by exists kc b4 ["_law_stack", "_law_last"] λr a t=>fg (j7 (qy (lp a) dz) (fx (jc (jw (kh e8)))) j9) (fg (i9 t (gw (mr (lp a) dz) a)) (fx (jc (jw (ux (jw (wd (cx a) xg (xf (mr (lp a) dz)))) (jw (kh (du (o7 (du (gw dz a) (du (gw dz a) (du (li (gw dz a) dz) e8)))) e8))))))))
 have d0:bR P w K mg base bF "_law_stacks" 2 (bU K mi):=by exists kc b5 ["_law_draws_here", "_law_most", "_law_many", "_law_count", "_law_menu", "_law_turn", "_law_made", "_law_pool", "_law_k", "_law_cell", "_law_hours", "_law_loss", "_law_place", "_law_number"] λr a t=>fg (i9 t (qe (jw (kh (du dz (du dz (du dz (du dz (du dz (du dz (du dz (du dz (du dz (du dz (du dz (du dz e8)))))))))))))) (nr (gw dz a) dz))) (fg (i9 t (mr (cx a) (nr (sx (gw dz a) dz) (li (cx a) dz)))) (fg (i9 t (nr (sx (gw dz a) dz) dz)) (fg (i9 t (nr (sx (gw dz a) dz) dz)) (fg (DT (DW a t (tu (du (cx a) e8)) (λ_ _ _ _ _ _ _ a=>kh e8))) (fg (oy (t.psF (Dy (du dz (du dz e8))))) (fg (nj (tu (du (qh (cx a) (Dq (du (cx a) (du dz e8)))) e8)) t.pg (fg (i9 t (gw (li dz (cx a)) a)) (fg (i9 t (li dz (nr (cx a) dz))) (fg (i9 t (nr (sx (cx a) dz) dz)) (fg (j7 (qy (cx a) dz) (fg (i9 t (li dz (nr (cx a) (mr dz (qh dz (cx a)))))) (fx (i9 t (nr (sx (cx a) dz) (mr dz (qh dz (cx a))))))) j9) (fg (j7 (qy (cx a) dz) (fg (i9 t (qe (jw (kh (du dz (du dz (du dz (du dz e8)))))) (nr (cx a) dz))) (fx (i9 t (qe (jw (kh (du dz (du dz (du dz (du dz e8)))))) (nr (sx (cx a) dz) dz))))) j9) (fg (j7 (qy (cx a) dz) (fg (i9 t (qe (jw (kh (du (cx a) (du (li dz (nr (cx a) dz)) e8)))) (cx a))) (fx (i9 t (cx a)))) j9) (fg (i9 t (nr (qe (jw (kh (du (sx (cx a) dz) (du (cx a) e8)))) (qh (sx (cx a) dz) (cx a))) (cx a))) (fg (i9 t (DO (nr (sx (cx a) dz) (lp a)) a)) (fx (md (Ea (cx a) (λ_ _=>o7 (du (cx a) (du (cx a) (du (cx a) e8)))) a)))))))))))) (fg (j7 (dA (yn (qy (cx a) dz) (yw (qy (cx a) dz)))) (fx (wZ (xl a t (l8 (cx a)) (λ_ _ _ _ _ _ _ a=>jv dx r (du (cx a) e8))))) j9) (fx (jc (cx a))))))))))
 have d1:bR P w K mg base bF "_law_taken" 1 (bU K mK):=by exists kc ca ["_law_stacks_here", "_law_order", "_law_taken_here", "_law_made", "_law_at_here"] λr a t=>fg (oy (xl a t (l8 (cx a)) (λ_ _ _ _ _ _ _ a=>dz))) (fg (oy (t.psF (kh e8))) (fg (nj (l8 (cx a)) t.pg (fg (md (vx (qe (gw (mr (cx a) dz) a) (gw (mr (cx a) dz) a)) a)) (fx (qA (mr (cx a) dz) (li (gw (mr (cx a) dz) a) dz) a)))) (fx (jc (cx a)))))
 have d2:bR P w K mg base bF "_law_cost" 1 (bU K r_):=by exists kc cc ["_law_sacks", "_law_hour", "_law_total", "_law_sack"] λr a t=>fg (i9 t dz) (fg (i9 t dz) (fg (nj (l8 (cx a)) t.pg (fg (i9 t (li (cx a) (gw dz a))) (fx (i9 t (li (cx a) (qh (gw dz a) (cx a))))))) (fx (jc (cx a)))))
 have d3:bR P w K mg base bF "_law_is_order" 2 (bU K mO):=by exists kc cd ["_law_found", "_law_stacks_here", "_law_taken_here", "_law_at_here", "_law_k"] λr a t=>fg (j7 (tm (q9 (uw xa (cx a)))) (fx (jc ox)) j9) (fg (oy (xl a t (l8 (cx a)) (λ_ _ _ _ _ _ _ a=>dz))) (fg (nj (l8 (cx a)) t.pg (fg (j7 (dA (qx (tm (q9 (jv M r (du (cx a) e8)))) (qx (qf (cx a) dz) (sw (p8 (cx a) (lp a)))))) (fx (jc ox)) j9) (fx (qA (mr (cx a) dz) (li (gw (mr (cx a) dz) a) dz) a)))) (fg (nj (tu (du (lp a) e8)) t.pg (fx (j7 (wf (gw (cx a) a) (pR (du (gw (cx a) a) e8))) (fx (jc ox)) j9))) (fx (jc ox)))))
 have d7:bR P w K mg base bF "_law_same_row" 2 (bU K m1):=by exists kc ch ["_law_found", "_law_due", "_law_k"] λr a t=>fg (j7 (dA (qx (tm (q9 (uw Ed (cx a)))) (sw (wf (lp a) (lp a))))) (fx (jc ox)) j9) (fg (nj (tu (du (lp a) e8)) t.pg (fg (j7 (dA (yn (q9 (uw qF (gw (cx a) a))) (yw (tm (q9 (uw qF (gw (cx a) a))))))) (fx (jc ox)) j9) (fg (j7 (dA (yn (tm (q9 (uw qF (gw (cx a) a)))) (yw (tm (q9 (jv M r (du (gw (cx a) a) e8))))))) (fx (jc ox)) j9) (fx (j7 (wf (gw (cx a) a) (gw (cx a) a)) (fx (jc ox)) j9))))) (fx (jc ox)))
 have ea:bR P w K mg base bF "_law_copy" 1 (iI K rG):=by exists yL ci ["_law_stacks_here"] λr a t=>fx (DK (vw a (l8 (cx a)) (λ_ _ _ _ _ _ _ a=>jw (Dt (du (cx a) e8)))))
 have eb:bR P w K mg base bF "_law_least" 1 (bU K uB):=by exists kc ck ["_law_stacks_here", "_law_steps", "_law_stack", "_law_best", "_law_code", "_law_taken_here", "_law_hour", "_law_ways", "_law_least_here", "_law_same", "_law_k", "_law_ahead", "_law_total"] λr a t=>fg (oy (t.psF (kh (du dz e8)))) (fg (nj (l8 (cx a)) t.pg (fx (md (vx (qh (gw (wx dz) a) (li (lp a) dz)) a)))) (fg (oy (t.psF (kh (du (jw (kh (du dz (du dz (du dz e8))))) e8)))) (fg (nj (D9 (du dz (du (gw (wx dz) a) e8))) t.pg (fg (i9 t (jw (E6 a (E3 (tu (du (lp a) e8))) (λ_ _ _ _ _ _ _ a=>nr (sx (cx a) (gw (cx a) a)) (li (pR (du (gw (cx a) a) e8)) dz))))) (fg (i9 t (kX (du (jw (vw a (tu (du (lp a) e8)) (λ_ _ _ _ _ _ _ a=>kX (du (jw (vw a (l8 (jw (wd (gw (cx a) a) xg (xf (gw (cx a) a))))) (λ_ _ _ _ _ _ _ a=>gw dz a))) e8)))) e8))) (fg (i9 t dz) (fg (i9 t (wx dz)) (fg (i9 t dz) (fg (nj (tu (du (lp a) e8)) t.pg (fx (j7 (p8 (gw (cx a) a) dz) (fg (i9 t (gw (mr (cx a) (gw (cx a) a)) a)) (fg (i9 t (li (gw dz a) (qh (qe (qe (gw (cx a) a) (mr (gw (cx a) a) dz)) dz) (cx a)))) (fg (i9 t (li (cx a) (gw dz a))) (fg (j7 (dA (qx (qf (cx a) dz) (sw (qf (cx a) (cx a))))) (fg (i9 t (cx a)) (fx (i9 t dz))) j9) (fx (j7 (qy (cx a) (cx a)) (fx (i9 t (li (cx a) (gw dz a)))) j9)))))) j9))) (fx (md (vx (jw (kh (du (cx a) (du (cx a) (du (cx a) e8))))) a)))))))))) (fx (jc (gw (wx dz) a))))))
 have ec:bR P w K mg base bF "_law_gone_through" 12 (bU K uD):=by exists kc cl ["_law_stacks_here", "_law_due", "_law_found", "_law_same", "_law_turns", "_law_total"] λr a t=>fg (i9 t (jv ab r (du (jw (wK ea r (du (cx a) e8))) e8))) (fg (j7 (dA (qx (tm (q9 (uw xa (cx a)))) (sw (wf (lp a) (gw dz a))))) (fx (jc ox)) j9) (fg (i9 t dz) (fg (nj (l8 (cx a)) t.pg (fg (j7 (tm (q9 (jv d3 r (du (cx a) (du (cx a) e8))))) (fx (jc ox)) j9) (fg (i9 t (jv d2 r (du (jv d1 r (du (cx a) (du (cx a) e8))) e8))) (fg (j7 (qf (cx a) (gw dz a)) (fx (jc ox)) j9) (fx (i9 t (li (cx a) (Do (du (wG (cx a) (gw dz a)) e8))))))))) (fx (jc (wG (cx a) (gw dz a)))))))
 exact Fo ["_law_script", "_law_draws_here", "_law_most", "_law_drawn", "_law_house", "_law_stacks_here", "_law_number", "_law_k", "_law_sack", "_law_due", "_law_total"] λr a t=>fg (i9 t (jv dv r (du (cx a) (du dz e8)))) (fg (i9 t (qe (jw (kh (du dz (du dz e8)))) (nr (gw dz a) dz))) (fg (i9 t (jv d0 r (du (cx a) (du (cx a) e8)))) (fg (Fd t (Ff B r (du (lp a) e8))) (fg (oy (t.psF (kh e8))) (fg (i9 t dz) (fg (nj (tu (du (lp a) e8)) t.pg (fg (md (vx (jw (kh e8)) a)) (fx (nj (Fv (du (gw (cx a) a) e8)) t.pg (fg (i9 t (li (cx a) dz)) (fg (j7 (wf (yA G r (du (li (cx a) dz) (du (gw dz a) (du (gw dz a) e8))) a) (cx a)) (fx (jc ox)) j9) (fx (qA (cx a) (jw (ux (jw (kh (du (o7 (du (cx a) (du (gw dz a) (du (gw dz a) e8)))) e8))) (gw (cx a) a))) a)))))))) (fg (i9 t (jv eb r (du (cx a) e8))) (fg (i9 t (xu H r a)) (fg (j7 (dA (qx (tm (q9 (jv M r (du (cx a) e8)))) (sw (wf (cx a) (gw dz a))))) (fx (jc ox)) j9) (fg (j7 (p8 (cx a) dz) (fx (jc ox)) j9) (fx (jc (wJ (jv d7 r (du (xu J r a) (du (o7 (du (gw dz a) (du (gw dz a) (du (gw dz a) e8)))) e8))) (wI (jv ec r (du (cx a) (du (cx a) e8)))))))))))))))))
end SQ
namespace SQ
open PySem L2 LB
def dH(l:ep):bJ (l.map D.int)=↑l:=by
 induction l with
 |nil=>rfl |cons a l ih=>rw[bx,bJ,ih];rfl
def A3:∀h:em,(h.map λn:Nat=>(n:Int)).sum=(h.sum:Int)
 | []=>rfl |a::h=>by rw[bx,f7,f7,A3 h];simp
theorem uE{α:Type}(B:Nat):∀l:List (List α),(∀r∈l,r.length<=B)->l.flatten.length<=l.length*B
 | [],_=>by simp |a::l,h=>by
   have h1:=h a bh;have h2:=uE B l λr D=>h r (av _ D);rw[cf,ai,aq,Nat.add_mul]
   lia
theorem uF:∀(f:Nat) (h:em),h.length<=5->(cD f h).length<=5 ^ h.sum
 |0,_,_=>by simp[cD] |f+1,h,hl=>by
   unfold cD;split
   ·rename_i e;rw[e];simp
   ·rename_i e
    obtain⟨n,hn⟩:∃n,h.sum=n+1:=⟨h.sum-1,by lia⟩;have q:=uE (5 ^ n) ((List.range h.length).map λj=>if 0<h.getD j 0 then(cD f (cH h j)).map ((j+1)::·) else[]) λr D=>by
     obtain⟨j,_,rfl⟩:=b8.mp D;split
     ·rename_i p
      have I:=qb h j p;rw[ae];have:=uF f (cH h j) (by rw[u4];exact hl);rwa [show(cH h j).sum=n by lia] at this
     ·exact fy _
    rw[ae,h9] at q;rw[hn,Nat.pow_succ,Nat.mul_comm];exact b6 q (Nat.mul_le_mul_right _ hl)
theorem A4:∀(f:Nat) (h w:em),w∈cD f h->w.length=h.sum
 |0,_,_,q=>by simp[cD] at q |f+1,h,w,q=>by
   unfold cD at q;split at q
   ·rename_i e;rw[dm.mp q,e];rfl
   ·obtain⟨l,I,D⟩:=dw.mp q
    obtain⟨j,_,rfl⟩:=b8.mp I;split at D
    ·rename_i p
     obtain⟨v,S,rfl⟩:=b8.mp D;have:=A4 f _ v S;have U:=qb h j p;rw[aq];lia
    ·exact absurd D ij
abbrev wD(w:em):D:=.lst (iD w)
variable{n:Nat}
def HX(h:n<=7):5 ^ n<=78125:=b6 (j4 (by decide) h) (by decide)
abbrev dC(f:Nat)(h:em)(j:Nat):List em:=if 0<h.getD j 0 then(cD f (cH h j)).map ((j+1)::·) else[]
theorem A5:∀(f:Nat) (h:em),h.length<=5->h.sum<f->h.sum<=7->dO 5 1 rn f [.lst (iD h)]=↑(.lst ((cD f h).map wD))
 |0,_,_,q,_=>by lia |f+1,h,hl,hf,h7=>by
   have u:dU [.lst (iD h)]=↑↥(h.sum:Int):=by
    have:=yj (λn:Nat=>(n:Int)) h;rw[A3] at this;exact this
   show aL 5 1 (rn (dO 5 1 rn f)) [.lst (iD h)]=_;have A:=λj (p:0<h.getD j 0)=>A5 f (cH h j) (by rw[u4];exact hl) (by have:=qb h j p;lia) (by have:=qb h j p;lia);generalize M:dO 5 1 rn f=m at *;by_cases v:h.sum=0
   ·rw[cD,az v]
    refine lr (e':=[!.lst (iD h),none,none,none,none]) rfl ?_;show rn m [!.lst (iD h),none,none,none,none]=_;have a:decide ((h.sum:Int)=0)=true:=gi ∅;generalize iD h=HD at *;simp only[rn,sSeq,sIf,aK,f9,bz,aB,fVar,fC,fBin,fTst,aH,ig,u,dEq,a,aq,dh,fy,show(0+1<=64)=True by simp,d8,af,ah,ac,aw];rfl
   ·have a:decide ((h.sum:Int)=0)=false:=cu ∅
    have b:cD (f+1) h=((List.range h.length).map (dC f h)).flatten:=by rw[cD,bu v]
    have d:∀j,(dC f h j).length<=15625:=λj=>by
     unfold dC;split
     ·rename_i p
      have B:=qb h j p;rw[ae];refine b6 (uF f (cH h j) (by rw[u4];exact hl)) ?_;exact b6 (j4 (by decide) (show(cH h j).sum<=6 by lia)) (by decide)
     ·exact fy _
    have hi:hF 0 [.lst (iD h)]=↑((h.zipIdx 0).map λz:Nat×Nat=>D.tup [D.int (z.2:Nat),D.int (z.1:Int)]):=by
     show ↑(p7 0 (h.map λn:Nat=>D.int (n:Int)))=_;rw[sJ]
    obtain⟨e',h1,Y,Z,S,rfl⟩:=mT (ix:=[2,3]) (g:=x9 m) (λz:Nat×Nat=>[D.int (z.2:Nat),D.int (z.1:Int)])
     (λp e=>∃Y Z S,e=[!.lst (iD h),↑(.ow ((((List.range p.length).map (dC f h)).flatten).map wD)),Y,Z,S]) (h.zipIdx 0) [!.lst (iD h),↑(.ow []),none,none,none] ⟨none,none,none,rfl⟩ (λ_ _=>rfl) (by
       rintro p x q e i ⟨Y,Z,S,rfl⟩;obtain⟨hi,rfl⟩:=HR i;have V:h.getD p.length 0=h[p.length]:=by rw[aj,ak hi];rfl
       have C:((List.range (p++[(h[p.length],p.length)]).length).map (dC f h)).flatten=((List.range p.length).map (dC f h)).flatten++dC f h p.length:=by
        rw[ai,d5,gz,cb,fb];simp
       have fl:=uE 15625 ((List.range p.length).map (dC f h)) λr E=>by
        obtain⟨j,_,rfl⟩:=b8.mp E;exact d j
       rw[ae,h9] at fl;have F:=b6 fl (Nat.mul_le_mul_right 15625 (show p.length<=5 by lia));have N:=d p.length;rw[C,cb];have U:bI (((((List.range p.length).map (dC f h)).flatten).map wD).length+((dC f h p.length).map wD).length):=few (by rw[ae,ae];lia);generalize (((List.range p.length).map (dC f h)).flatten).map wD=ACC at *;generalize O:p.length=k at *;by_cases c:0<h[k]
       ·have y:=A k (by rw[V];exact c)
        have I:dC f h k=(cD f (cH h k)).map ((k+1)::·):=by unfold dC;rw[az (by rw[V];exact c)]
        rw[I] at U ⊢;have l:decide ((0:Int)<(h[k]:Int))=true:=gi ∅;have P:(iD h).length=h.length:=by unfold iD;rw[ae]
        have ct:=sY (iD h) k ∅;have G:=Ad (iD h) (k+1) ∅;have H:(iD h).take k++[↥((h[k]:Int)-1)]++(iD h).drop (k+1)=iD (cH h k):=by
         unfold cH iD;rw[V,<-yb,<-List.map_drop,o5,az hi,cb,bx,show((h[k]:Int)-1)=((h[k]-1:Nat):Int) by lia,dn];rfl
        have o:bI (((iD h).take k).length+(0+1)):=few (by rw[dy];lia);have s:bI (((iD h).take k++[D.int ((h[k]:Int)-1)]).length+((iD h).drop (k+1)).length):=few (by rw[ai,dy,gq,d5];lia);have J:=oh (te:=aH (cQ (aH (ig (bz (fBin iq (fVar 1) [:1]) aB))) (fVar 0))) (base:=[!↥(k:Nat)]) wD (λw=>wD ((k+1)::w)) (cD f (cH h k)) λw b=>by
         have Q:=A4 f (cH h k) w b;have B:=qb h k (by rw[V];exact c);have K:bI (0+1+(iD w).length):=few (by unfold iD;rw[ae];lia);refine⟨[!wD w,!↥(k:Nat)],?_⟩;rw[show wD ((k+1)::w)=.lst (.int ((k:Int)+1)::iD w) from rfl];unfold wD;generalize iD w=WL at *;simp only[aH,cQ,ig,bz,aB,fBin,fVar,fC,iq,K,aq,dh,show(0+1<=64)=True by simp,d8,af,ah,ac,aw,fz,gl]
        have t:bI ((cD f (cH h k)).map wD).length:=few (by rw[ae];have:=d k;rw[I,ae] at this;lia);have L:((cD f (cH h k)).map ((k+1)::·)).map wD=(cD f (cH h k)).map λw=>wD ((k+1)::w):=by rw[eo];rfl
        rw[L] at U ⊢;generalize (cD f (cH h k)).map (λw=>wD ((k+1)::w))=NEW at *;generalize (cD f (cH h k)).map wD=OLD at *;refine⟨[!.lst (iD h),↑(.ow (ACC++NEW)),!↥(k:Nat),!↥(h[k]:Int),!.lst (iD (cH h k))],?_,_,_,_,rfl⟩;show x9 m [!.lst (iD h),↑(.ow ACC),!↥(k:Nat),!↥(h[k]:Int),S]=_;rw[<-H] at y ⊢;generalize (iD h).take k=TK at *;generalize (iD h).drop (k+1)=DR at *;generalize iD h=HD at *;generalize h[k]=hk2 at *;have kk:((k:Int)+1)=((k+1:Nat):Int):=by lia
        simp only[x9,sIf,sSeq,sSet,j8,fTst,fBin,fVar,fC,dGt,l,d8,aH,cQ,fT,fZ,fS,ct,iq,kk,G,ig,bz,aB,dSub,o,s,aq,dh,show(0+1<=64)=True by simp,xb,jy,cM,f9,y,t,bx,eh,ny,List.getD_cons_succ,cW,J,lD,U,af,ah,ay,bg,ac,aw]
       ·have I:dC f h k=[]:=by unfold dC;rw[bu (by rw[V];exact c)]
        rw[I,eh,di];have l:decide ((0:Int)<(h[k]:Int))=false:=cu ∅;refine⟨[!.lst (iD h),↑(.ow ACC),!↥(k:Nat),!↥(h[k]:Int),S],?_,_,_,_,rfl⟩;show x9 m [!.lst (iD h),↑(.ow ACC),!↥(k:Nat),!↥(h[k]:Int),S]=_;generalize iD h=HD at *;generalize h[k]=hk2 at *;simp only[x9,sIf,sNil,fTst,fBin,fVar,fC,dGt,l,cw,gc,af,ah,ac,aw])
    rw[List.length_zipIdx,<-b] at h1;refine lr (e':=[!.lst (iD h),!.lst ((cD (f+1) h).map wD),Y,Z,S]) rfl ?_;show rn m [!.lst (iD h),none,none,none,none]=_;generalize (cD (f+1) h).map wD=RES at *;generalize iD h=HD at *;generalize (h.zipIdx 0).map (λz:Nat×Nat=>D.tup [D.int (z.2:Nat),D.int (z.1:Int)])=EN at *;simp only[rn,sSeq,sIf,aK,sNil,bY,t6,f9,jb,bz,aB,fVar,fC,fBin,fTst,aH,ig,u,dEq,a,hi,h1,dh,fy,d8,cw,gc,af,ah,ay,bg,ac,aw]
variable{ss:gx}
def nP{w:em}:hX (ss.map List.length) w↔aZ ss w:=by
 constructor
 ·intro q
  refine⟨λa S=>by have:=q.1 a S;rwa [ae] at this,λj s D=>?_⟩;have I:=(au.mp D).1;rw[q.2 j (by rw[ae];exact I),aj,bo,D];rfl
 ·intro q
  refine⟨λa S=>by rw[ae];exact q.lo a S,λj I=>?_⟩;rw[ae] at I;have D:ss[j]?=↑ss[j]:=ak I;rw[q.cnt j _ D,aj,bo,D];rfl
theorem yq:∀(f:Nat) (h:em),h.sum<f->cD f h≠[]
 |0,_,q=>by lia |f+1,h,q=>by
   unfold cD;split
   ·simp
   ·rename_i I
    obtain⟨j,D,p⟩:∃j,j<h.length/\0<h.getD j 0:=by
     by_cases c:∃j,j<h.length/\0<h.getD j 0
     ·exact c
     ·exfalso
      apply I;rw[js];intro a S;obtain⟨j,D⟩:=List.mem_iff_getElem?.mp S;have l:=(au.mp D).1;by_cases e:a=0
      ·exact e
      ·exact absurd ⟨j,l,by rw[aj,D];show 0<a;lia⟩ c
    intro e;have V:=qb h j p;obtain⟨v,U⟩:=List.exists_mem_of_ne_nil _ (yq f (cH h j) ∅);have:(j+1)::v∈(((List.range h.length).map λj=>if 0<h.getD j 0 then(cD f (cH h j)).map ((j+1)::·) else[]).flatten):=by
     refine dw.mpr ⟨_,b8.mpr ⟨j,d9.mpr D,rfl⟩,?_⟩;rw[az p];exact b8.mpr ⟨v,U,rfl⟩
    rw[e] at this;exact absurd this ij
theorem nQ:∀(f g:Nat) (h:em),h.sum<f->h.sum<g->cD f h=cD g h
 |0,_,_,q,_=>by lia |_,0,_,_,q=>by lia |f+1,g+1,h,q1,q2=>by
   unfold cD;split
   ·rfl
   ·congr 1
    refine gm λj _=>?_;split
    ·rename_i p
     have D:=qb h j p;rw[nQ f g (cH h j) ∅ ∅]
    ·rfl
theorem A6(S:ss.length<=5)(Y:ss.flatten.length<=7):nL [aF ss]=↑(.lst ((cD 9 (ss.map List.length)).map wD)):=by
 have sm:(ss.map List.length).sum=ss.flatten.length:=by rw[fq]
 have I:=A5 9 (ss.map List.length) (by rw[ae];exact S) ∅ ∅;have sk:zl [aF ss]=↑↥(ss.flatten.length:Int):=Ac ss ∅;have c:=oh (te:=jd 0) (base:=[]) (λs:gu=>D.lst (s.map sD)) (λs:gu=>D.int (s.length:Int)) ss λs _=>⟨[!.lst (s.map sD)],by simp[jd]⟩;have U:bI (ss.map λs=>D.lst (s.map sD)).length:=few (by rw[ae];lia);have e:iD (ss.map List.length)=ss.map λs:gu=>D.int (s.length:Int):=by unfold iD;rw[eo];rfl
 have V:decide ((7:Int)<(ss.flatten.length:Int))=false:=cu ∅;refine lr (e':=[!aF ss]) rfl ?_;show t_ [!aF ss]=_;rw[e] at I;generalize (cD 9 (ss.map List.length)).map wD=RES at *;unfold t_;rw[show tZ=dO 5 1 rn 9 from rfl];generalize dO 5 1 rn 9=mo at *;unfold aF at *;generalize (ss.map λs:gu=>D.int (s.length:Int))=LN at *;generalize (ss.map λs=>D.lst (s.map sD))=SL at *;simp only[sSeq,sIf,aK,sNil,fTst,fBin,f9,bz,aB,fVar,fC,aH,jy,cM,sk,dGt,V,U,c,I,eh,d8,cw,gc,af,ac,aw]
theorem HY(V:ss.length<=5)(b:ss.flatten.length<=7)(c:∀x∈ss.flatten,ip x) :
  ∃w m k,St (CL ss 9 (ss.map List.length)) w m k/\nM [aF ss]=↑(.tup [↥w,↥m,↥k]):=by
 have sm:(ss.map List.length).sum=ss.flatten.length:=by rw[fq]
 have d:=A6 V b;have U:=yq 9 (ss.map List.length) ∅;have g:=uh 9 (ss.map List.length) ∅;have S:=uF 9 (ss.map List.length) (by rw[ae];exact V);have S:=b6 S (HX (show(ss.map List.length).sum<=7 by lia));have i:=Ay (f:=9) (h:=ss.map List.length) ∅;have j:((cD 9 (ss.map List.length)).map λo=>gv 0 (tk ss o)).Perm (CL ss 9 (ss.map List.length)):=by
  have:=i.map λo=>gv 0 (tk ss o);rw[eo] at this;exact this
 generalize cD 9 (ss.map List.length)=WS at *;have Y:=oh (te:=f9 zg (bz (fVar 1) (bz (fVar 0) aB))) (base:=[!aF ss]) wD (λo=>D.int (gv 0 (tk ss o))) WS λo l=>by
  have Z:=nP.mp ((g o).mp l);have oc:=zV Z c ∅ (by rw[Z.len];lia);exact⟨[!wD o,!aF ss],by simp only[f9,bz,aB,fVar,oc,af,ah,ac,aw]⟩
 have n:bI (WS.map wD).length:=few (by rw[ae];lia);have p:(WS.map λo=>D.int (gv 0 (tk ss o)))=(WS.map λo=>gv 0 (tk ss o)).map D.int:=by rw[eo];rfl
 rw[p] at Y;have I:(WS.map λo=>gv 0 (tk ss o))≠[]:=λe=>U (fo.mp e);generalize q:(WS.map λo=>gv 0 (tk ss o))=cs at *;obtain⟨M,a⟩:=xJ I;obtain⟨r,s⟩:=qL a;have bm:wo [.lst (cs.map D.int)]=↑↥M:=by
  unfold wo;dsimp only;rw[dH,ac,a];rfl
 have t:vj (.lst (cs.map D.int)) ↥M=↑↥(cs.count M:Nat):=by
  unfold vj;dsimp only;rw[dH];rfl
 have st:St cs (cs.length:Int) M (cs.count M:Nat):=⟨rfl,λe=>absurd e I,λ_=>⟨r,s,rfl⟩⟩;refine⟨_,_,_,st.perm j,?_⟩;refine lr (e':=[!aF ss,!.lst (cs.map D.int),!↥M]) rfl ?_;show u0 [!aF ss,none,none]=_;have u:((cs.map D.int).length:Int)=(cs.length:Int):=by rw[ae]
 generalize cs.map D.int=CD at *;generalize WS.map wD=WD at *;generalize aF ss=SS at *;simp only[u0,sSeq,sSet,aK,aH,jy,cM,f9,bz,aB,fVar,fBin,bP,jd,d,n,bx,eh,ny,cW,Y,bm,u,t,aq,dh,show(0+1+1+1<=64)=True by simp,d8,af,ah,ay,bg,ac,aw]
def pr(p:gx):Nat:=(p.map λs=>s.length+1).prod
def HZ(p:gx)(s:gu):pr (p++[s])=pr p*(s.length+1):=by unfold pr;simp
def wq(p:gx):0<pr p:=by
 induction p with
 |nil=>decide |cons s p ih=>unfold pr at ih ⊢;rw[bx,List.prod_cons];exact Nat.mul_pos (jh _) ih
def yy(s:gu)(p:gx):pr (s::p)=(s.length+1)*pr p:=by unfold pr;rw[bx,List.prod_cons]
def dg:gx->Nat->em
 | [],_=>[] |s::p,c=>c % (s.length+1)::dg p (c / (s.length+1))
def vm:∀(p:gx) (c:Nat),(dg p c).length=p.length
 | [],_=>rfl |s::p,c=>by rw[dg,aq,vm p,aq]
theorem uG:∀(p:gx) (c k:Nat),k<p.length->(dg p c).getD k 0=c / pr (p.take k) % ((p.getD k []).length+1)
 | [],_,_,h=>by cases h
 |s::p,c,0,_=>by
   rw[List.take_zero,show pr []=1 from rfl,Nat.div_one];rfl
 |s::p,c,k+1,h=>by
   rw[aq] at h;rw[List.take_succ_cons,yy,<-Nat.div_div_eq_div_mul];show(dg p (c / (s.length+1))).getD k 0=_;rw[uG p _ k ∅];rfl
theorem uH(p:gx)(c k:Nat):(dg p c).getD k 0<=(p.getD k []).length:=by
 by_cases h:k<p.length
 ·rw[uG p c k h]
  have:=va (c / pr (p.take k)) (jh (p.getD k []).length)
  lia
 ·rw[aj,cz (by rw[vm];lia)]
  exact fy _
def kB:∀p:gx,(dg p 0).sum=0
 | []=>rfl |s::p=>by rw[dg,f7,Nat.zero_mod,Nat.zero_div,kB p]
theorem A7:∀p:gx,dg p (pr p-1)=p.map List.length
 | []=>rfl |s::p=>by
   have h:=wq p;obtain⟨q,hq⟩:∃q,pr p=q+1:=⟨pr p-1,by lia⟩;have D:=A7 p;rw[hq] at D;rw[dg,yy,hq,bx];have e:(s.length+1)*(q+1)-1=s.length+(s.length+1)*q:=by rw[Nat.mul_add];lia
   rw[e,ku,qo (e9 _),m7 _ _ (jh _),qp (e9 _),jg];rw[show q+1-1=q by lia] at D;rw[D]
theorem A8:∀(p:gx) (c k:Nat),k<p.length->0<(dg p c).getD k 0->pr (p.take k)<=c/\dg p (c-pr (p.take k))=cH (dg p c) k
 | [],_,_,h,_=>by cases h
 |s::p,c,0,_,h=>by
   have h:0<c % (s.length+1):=h;rw[List.take_zero,show pr []=1 from rfl];have h2:=tx c (s.length+1);have D:c % (s.length+1)<s.length+1:=va _ (jh _);have V:1<=c:=by
    by_cases z:c=0
    ·subst z;simp at h
    ·lia
   refine⟨V,?_⟩;obtain⟨r,hr⟩:∃r,c % (s.length+1)=r+1:=⟨c % (s.length+1)-1,by lia⟩;have e:c-1=r+(s.length+1)*(c / (s.length+1)):=by lia
   rw[dg,dg];have Y:(c-1) % (s.length+1)=r:=by rw[e,ku,qo ∅]
   have Z:(c-1) / (s.length+1)=c / (s.length+1):=by
    rw[e,m7 _ _ (jh _),qp (show r<s.length+1 by lia),jg]
   rw[Y,Z,hr];rfl
 |s::p,c,k+1,h,I=>by
   rw[aq] at h;have I:0<(dg p (c / (s.length+1))).getD k 0:=I;obtain⟨U,a⟩:=A8 p (c / (s.length+1)) k ∅ I;rw[List.take_succ_cons,yy];have h2:=tx c (s.length+1);generalize hP:pr (p.take k)=P at *;have S:(s.length+1)*P<=c:=by
    have:=Nat.mul_le_mul_left (s.length+1) U
    lia
   refine⟨S,?_⟩;have e:c-(s.length+1)*P=c % (s.length+1)+(s.length+1)*(c / (s.length+1)-P):=by
    rw[Nat.mul_sub];have:=Nat.mul_le_mul_left (s.length+1) U
    lia
   rw[dg,dg];have D:c % (s.length+1)<s.length+1:=va _ (jh _);rw[e,ku,qo D,m7 _ _ (jh _),qp D,jg,a];rfl
theorem A9:∀(p:gx) (c:Nat),c<pr p->(dg p c).sum=0->c=0
 | [],c,h,_=>by have:c<1:=h;lia |s::p,c,h,e=>by
   rw[dg,f7] at e;rw[yy] at h;have h1:c / (s.length+1)=0:=A9 p _ (Nat.div_lt_of_lt_mul h) ∅;have h2:=tx c (s.length+1);rw[h1] at h2
   lia
theorem uI:∀(p:gx) (c:Nat),(dg p c).sum<=p.flatten.length
 | [],_=>bj 0 |s::p,c=>by
   rw[dg,f7,cf,ai];have:=uI p (c / (s.length+1));have:=va c (jh s.length)
   lia
def AA:∀(p:gx),pr p<=2 ^ p.flatten.length
 | []=>bj 1 |s::p=>by
   rw[yy,cf,ai,Nat.pow_add];exact Nat.mul_le_mul Nat.lt_two_pow_self (AA p)
theorem AB:∀(X:gu) (h:Int),0<=h->(∀x∈X,0<=x.2.1/\0<=x.2.2)->0<=gv h X
 | [],_,_,_=>ju 0 |x::X,h,h0,hg=>by
   have D:=hg x bh;have S:=AB X (h+x.2.1) ∅ λy I=>hg y (av _ I);rw[gv];have:=ng D.2 (show 0<=h+x.2.1 by lia)
   lia
theorem uJ(D:∀x∈ss.flatten,ip x)(j c:Nat):0<=((ss.getD j []).getD c (0,0,0)).2.1/\0<=((ss.getD j []).getD c (0,0,0)).2.2/\((ss.getD j []).getD c (0,0,0)).2.2<=100:=by
 by_cases h:c<(ss.getD j []).length
 ·have I:j<ss.length:=by
   by_cases z:j<ss.length
   ·exact z
   ·rw[aj,cz ∅] at h;cases h
  have S:ss[j]?=↑(ss.getD j []):=by rw[aj,ak I];rfl
  have U:(ss.getD j []).getD c (0,0,0)∈ss.getD j []:=by rw[aj (l:=ss.getD j []),ak h];exact j0 h
  have:=D _ (dw.mpr ⟨_,bv S,U⟩);unfold ip at this
  lia
 ·rw[aj (l:=ss.getD j []),cz ∅]
  exact⟨ju 0,ju 0,by decide⟩
def H_(I:∀x∈ss.flatten,ip x)(f:Nat)(h:em):∀x∈CL ss f h,0<=x:=λx S=>by
 obtain⟨w,_,rfl⟩:=b8.mp S;refine AB _ 0 (ju 0) λy D=>?_;unfold tk at D;obtain⟨i,_,rfl⟩:=b8.mp D;have:=uJ I ((w.reverse.getD i 0)-1) ((w.reverse.take i).count (w.reverse.getD i 0));exact⟨this.1,this.2.1⟩
def Ia(I:∀x∈ss.flatten,ip x)(h:em):0<=nh ss h:=z_ _ _ λk D=>mR _ λx S=>by
 have D:=d9.mp D;have U:ss[k]?=↑(ss.getD k []):=by rw[aj,ak D];rfl
 exact I x (dw.mpr ⟨_,bv U,m9 S⟩)
abbrev kE(ss:gx)(h:em)(j:Nat):Int:=((ss.getD j []).getD (h.getD j 0-1) (0,0,0)).2.2*nh ss h
abbrev gF(ss:gx)(h:em)(j:Nat):ep:=if 0<h.getD j 0 then(CL ss 15 (cH h j)).map (· + kE ss h j) else[]
abbrev Tr:=Int×Int×Int
abbrev dR(r:Tr):D:=.lst [↥r.1,↥r.2.1,↥r.2.2]
abbrev cY(p:gx):f0:=(List.range (p.length+1)).map λi=>D.int ((pr (p.take i):Nat):Int)
variable{p:g5}
theorem AC{p:gx}{k:Nat}(h:k<=p.length):aW (cY p) (k:Int)=↑↥((pr (p.take k):Nat):Int):=l6 (λi=>D.int ((pr (p.take i):Nat):Int)) (kg ∅)
def eE(p:gx):aW (cY p) (-1)=↑↥((pr p:Nat):Int):=by
 unfold cY;rw[gz,cb,jt,nG,qr]
theorem Ib(G:∀x∈ss.flatten,ip x)(hn:ss.length<=5){c:Nat}{a_:List Tr}{v2:gj}(hc:a_.length=c)(hr:∀(i:Nat) (r:Tr),a_[i]?=↑r->St (CL ss 16 (dg ss i)) r.1 r.2.1 r.2.2)(h7:ss.flatten.length<=14)(Z a b:gj):∃w m q V I S,St (((List.range ss.length).map (gF ss (dg ss c))).flatten) w m q /\
  b_ 10 tw (bA 0 ss.length) [!aF ss,↑(.ow (cY ss)),v2,↑(.ow (a_.map dR)),!↥(c:Int),!.lst (iD (dg ss c)),!↥(nh ss (dg ss c)),!↥0,!↥(-1),!↥0,Z,a,b] =
   ↑(.nx,[!aF ss,↑(.ow (cY ss)),v2,↑(.ow (a_.map dR)),!↥(c:Int),!.lst (iD (dg ss c)),!↥(nh ss (dg ss c)),!↥w,!↥m,!↥q,V,I,S]):=by
 obtain⟨e',h1,w,m,q,V,I,S,st,rfl⟩:=uj (i:=10) (g:=tw) (λk e=>∃w m q V I S,St (((List.range k).map (gF ss (dg ss c))).flatten) w m q/\e=[!aF ss,↑(.ow (cY ss)),v2,↑(.ow (a_.map dR)),!↥(c:Int),!.lst (iD (dg ss c)),!↥(nh ss (dg ss c)),!↥w,!↥m,!↥q,V,I,S])
  (bA 0 ss.length) [!aF ss,↑(.ow (cY ss)),v2,↑(.ow (a_.map dR)),!↥(c:Int),!.lst (iD (dg ss c)),!↥(nh ss (dg ss c)),!↥0,!↥(-1),!↥0,Z,a,b] ⟨0,-1,0,Z,a,b,St.nil,rfl⟩ (by
    rintro k d e R ⟨w,m,q,V,I,S,st,rfl⟩;obtain⟨rfl,T⟩:=ui R;rw[fu];have W:k<(dg ss c).length:=by rw[vm];exact T
    have Y:aW (iD (dg ss c)) (k:Int)=↑↥((dg ss c).getD k 0:Nat):=by
     have e0:(dg ss c)[k]?=↑((dg ss c).getD k 0):=by rw[aj,ak W];rfl
     exact l6 (λn:Nat=>D.int (n:Int)) e0
    have ef:((List.range (k+1)).map (gF ss (dg ss c))).flatten=((List.range k).map (gF ss (dg ss c))).flatten++gF ss (dg ss c) k:=by
     rw[gz,cb,fb];simp
    have nn:∀x∈((List.range k).map (gF ss (dg ss c))).flatten,0<=x:=λx v=>by
     obtain⟨l,hl,v⟩:=dw.mp v;obtain⟨j,_,rfl⟩:=b8.mp hl;unfold gF at v;split at v
     ·obtain⟨y,hy,rfl⟩:=b8.mp v
      have:=H_ G 15 _ y hy;have:=ng (uJ G j ((dg ss c).getD j 0-1)).2.1 (Ia G (dg ss c));unfold kE
      lia
     ·exact absurd v ij
    rw[ef];by_cases H:0<(dg ss c).getD k 0
    ·obtain⟨d1,d2⟩:=A8 ss c k T H
     have pk:=wq (ss.take k);have J:=AC (p:=ss) (k:=k) ∅;have X:c-pr (ss.take k)<a_.length:=by lia
     obtain⟨r,hre⟩:∃r,a_[c-pr (ss.take k)]?=↑r:=⟨_,ak X⟩;have f:=hr _ r hre;rw[d2] at f;have sd:=qb (dg ss c) k H;have ds:=uI ss c;have fe:CL ss 16 (cH (dg ss c) k)=CL ss 15 (cH (dg ss c) k):=by unfold CL;rw[nQ 16 15 _ ∅ ∅]
     rw[fe] at f;have B:CL ss 15 (cH (dg ss c) k)≠[]:=λe=>yq 15 (cH (dg ss c) k) ∅ (fo.mp e);have K:gF ss (dg ss c) k=(CL ss 15 (cH (dg ss c) k)).map (· + kE ss (dg ss c) k):=by unfold gF;rw[az H]
     have C:=f.add B (kE ss (dg ss c) k);rw[<-K] at C;have h:=st.app C (by rw[K];exact λe=>B (fo.mp e)) nn;have E:aW (a_.map dR) ((c:Int)-((pr (ss.take k):Nat):Int))=↑(dR r):=by
      rw[show(c:Int)-((pr (ss.take k):Nat):Int)=((c-pr (ss.take k):Nat):Int) by lia];exact l6 dR hre
     have hs:ss[k]?=↑(ss.getD k []):=by rw[aj,ak T];rfl
     have L:aW (ss.map λs=>D.lst (s.map sD)) (k:Int)=↑(.lst ((ss.getD k []).map sD)):=l6 (λs:gu=>D.lst (s.map sD)) hs;have dl:=uH ss c k;have F:aW ((ss.getD k []).map sD) (((dg ss c).getD k 0:Nat)-1:Int)=↑(sD ((ss.getD k []).getD ((dg ss c).getD k 0-1) (0,0,0))):=by
      rw[show(((dg ss c).getD k 0:Nat)-1:Int)=(((dg ss c).getD k 0-1:Nat):Int) by lia];refine l6 sD ?_;rw[aj (l:=ss.getD k []),ak ∅];rfl
     have lb:=uJ G k ((dg ss c).getD k 0-1);unfold kE at h;generalize (ss.getD k []).getD ((dg ss c).getD k 0-1) (0,0,0)=x at *;have mm:dMul ↥x.2.2 ↥(nh ss (dg ss c))=↑↥(x.2.2*nh ss (dg ss c)):=ub (o3 ∅);have gt:decide ((0:Int)<((dg ss c).getD k 0:Nat))=true:=gi ∅;obtain⟨o,U,t⟩:=r;have M:aW [D.int o,↥U,↥t] 0=↑↥o:=rfl;have N:aW [D.int o,↥U,↥t] 1=↑↥U:=rfl;have R2:aW [D.int o,↥U,↥t] 2=↑↥t:=rfl;have O:aW [D.int x.1,↥x.2.1,↥x.2.2] 2=↑↥x.2.2:=rfl;rw[show sD x=.tup [↥x.1,↥x.2.1,↥x.2.2] from rfl] at F;rw[show dR (o,U,t)=.lst [↥o,↥U,↥t] from rfl] at E;dsimp only at h;generalize x.2.2*nh ss (dg ss c)=dd at *;refine⟨_,?_,_,_,_,!↥(k:Int),!(.lst [↥o,↥U,↥t]),!↥(U+dd),h,rfl⟩;show tw [!aF ss,↑(.ow (cY ss)),v2,↑(.ow (a_.map dR)),!↥(c:Int),!.lst (iD (dg ss c)),!↥(nh ss (dg ss c)),!↥w,!↥m,!↥q,!↥(k:Int),I,S]=_;unfold aF;generalize iD (dg ss c)=TD at *;generalize ((dg ss c).getD k 0:Nat)=tk0 at *;generalize nh ss (dg ss c)=HO at *;generalize a_.map dR=RD at *;generalize cY ss=SD at *;generalize (ss.map λs=>D.lst (s.map sD))=SL at *;by_cases u:m<0\/U+dd<m
     ·rw[az u,az u]
      by_cases c0:m<0
      ·have A:decide (m<0)=true:=gi c0
       simp only[tw,sIf,sSeq,sSet,sNil,fTst,fBin,fIxV,bN,fVar,fC,dGt,gt,Y,J,dSub,E,M,N,R2,dIx,L,F,O,mm,iq,fOr,dLt,A,dEq,j2,fu,d8,af,ah,ay,bg,ac,aw]
      ·have A:decide (m<0)=false:=cu c0
       have P:decide (U+dd<m)=true:=gi (u.resolve_left c0);simp only[tw,sIf,sSeq,sSet,sNil,fTst,fBin,fIxV,bN,fVar,fC,dGt,gt,Y,J,dSub,E,M,N,R2,dIx,L,F,O,mm,iq,fOr,dLt,A,P,dEq,j2,fu,d8,cw,gc,af,ah,ay,bg,ac,aw]
     ·rw[bu u,bu u]
      have A:decide (m<0)=false:=cu λz=>u (.inl z);have P:decide (U+dd<m)=false:=cu λz=>u (.inr z);by_cases Q:U+dd=m
      ·have b3:decide (U+dd=m)=true:=gi Q
       rw[az Q];simp only[tw,sIf,sSeq,sSet,sNil,fTst,fBin,fIxV,bN,fVar,fC,dGt,gt,Y,J,dSub,E,M,N,R2,dIx,L,F,O,mm,iq,fOr,dLt,A,P,b3,dEq,d8,cw,gc,af,ah,ay,bg,ac,aw]
      ·have b3:decide (U+dd=m)=false:=cu Q
       rw[bu Q];simp only[tw,sIf,sSeq,sSet,sNil,fTst,fBin,fIxV,bN,fVar,fC,dGt,gt,Y,J,dSub,E,M,N,R2,dIx,L,F,O,mm,iq,fOr,dLt,A,P,b3,dEq,d8,cw,gc,af,ah,ay,bg,ac,aw]
    ·have K:gF ss (dg ss c) k=[]:=by unfold gF;rw[bu H]
     rw[K,di];have gt:decide ((0:Int)<((dg ss c).getD k 0:Nat))=false:=cu ∅;refine⟨[!aF ss,↑(.ow (cY ss)),v2,↑(.ow (a_.map dR)),!↥(c:Int),!.lst (iD (dg ss c)),!↥(nh ss (dg ss c)),!↥w,!↥m,!↥q,!↥(k:Int),I,S],?_,w,m,q,_,_,_,st,rfl⟩;show tw [!aF ss,↑(.ow (cY ss)),v2,↑(.ow (a_.map dR)),!↥(c:Int),!.lst (iD (dg ss c)),!↥(nh ss (dg ss c)),!↥w,!↥m,!↥q,!↥(k:Int),I,S]=_;generalize iD (dg ss c)=TD at *;simp only[tw,sIf,sNil,fTst,fBin,fIxV,bN,fVar,fC,dGt,gt,Y,cw,gc,af,ah,ay,bg,ac,aw])
 rw[qm] at st;exact⟨w,m,q,V,I,S,st,h1⟩
def AD(n:Nat):bA 0 n=(List.range n).map λi:Nat=>D.int (0+(i:Int)):=rfl
theorem Ic(b:pr ss<=100000)(c:Nat):oa bL (fBin aQ (fBin bE (fVar 1) (fIxV 2 (fVar 0))) (fBin iq (f9 eN (bz (fIxV 3 (fVar 0)) aB)) [:1])) [!↥(c:Int),!.lst (cY ss),!aF ss] (bA 0 ss.length)=↑(iD (dg ss c)):=by
 rw[AD];have S:=oh (te:=fBin aQ (fBin bE (fVar 1) (fIxV 2 (fVar 0))) (fBin iq (f9 eN (bz (fIxV 3 (fVar 0)) aB)) [:1])) (base:=[!↥(c:Int),!.lst (cY ss),!aF ss]) (λi:Nat=>D.int (0+(i:Int))) (λi:Nat=>D.int (((dg ss c).getD i 0:Nat):Int)) (List.range ss.length) λj I=>by
  have I:=d9.mp I;have U:ss[j]?=↑(ss.getD j []):=by rw[aj,ak I];rfl
  have V:aW (ss.map λs=>D.lst (s.map sD)) (0+(j:Int))=↑(.lst ((ss.getD j []).map sD)):=by rw[fu];exact l6 (λs:gu=>D.lst (s.map sD)) U
  have Y:aW (cY ss) (0+(j:Int))=↑↥((pr (ss.take j):Nat):Int):=by rw[fu];exact AC ∅
  have d:=wq (ss.take j);have pl:pr (ss.take j)<=pr ss:=by
   have:pr ss=pr (ss.take j)*pr (ss.drop j):=by
    conv=>lhs;rw[<-jz j ss]
    unfold pr;rw[cb,List.prod_append]
   rw[this];exact Nat.le_mul_of_pos_right _ (wq _)
  have dd:bE ↥(c:Int) ↥((pr (ss.take j):Nat):Int)=↑↥((c:Int) / ((pr (ss.take j):Nat):Int)):=EK ∅ ∅;have Z:((((ss.getD j []).map sD).length:Nat):Int)=((ss.getD j []).length:Int):=by rw[ae]
  have mo:aQ ↥((c:Int) / ((pr (ss.take j):Nat):Int)) ↥(((ss.getD j []).length:Int)+1)=↑↥((c:Int) / ((pr (ss.take j):Nat):Int) % (((ss.getD j []).length:Int)+1)):=xN ∅;have a:(c:Int) / ((pr (ss.take j):Nat):Int) % (((ss.getD j []).length:Int)+1)=(((dg ss c).getD j 0:Nat):Int):=by
   rw[uG ss c j I];rfl
  rw[a] at mo;refine⟨[!↥(0+(j:Int)),!↥(c:Int),!.lst (cY ss),!aF ss],?_⟩;unfold aF;generalize cY ss=SD at *;generalize (ss.map λs=>D.lst (s.map sD))=SL at *;simp only[fBin,fVar,fIxV,bN,f9,bz,aB,fC,Y,dd,V,eN,Z,iq,mo,af,ah,ay,bg,ac,aw]
 rw[S];congr 1;unfold iD;apply List.ext_getElem
 ·rw[ae,ae,h9,vm]
 ·intro i h1 h2
  rw[List.getElem_map,List.getElem_map,List.getElem_range,aj,ak (by simpa using h2)];rfl
theorem Ie(b:ss.flatten.length<=14)(c:Nat):oa bL (f9 dU (bz (aH (jy (cM (aH (fT (fIxV 1 (fVar 0)) fZ (fS (fIxV 2 (fVar 0)))))) [] bL (fIxV 0 [:1]))) aB)) [!aF ss,!.lst (iD (dg ss c))] (bA 0 ss.length)=↑((List.range ss.length).map λi=>D.int (aD ((ss.getD i []).take ((dg ss c).getD i 0)))):=by
 rw[AD];refine oh (λi:Nat=>D.int (0+(i:Int))) (λi:Nat=>D.int (aD ((ss.getD i []).take ((dg ss c).getD i 0)))) (List.range ss.length) λj I=>?_;have I:=d9.mp I;have S:ss[j]?=↑(ss.getD j []):=by rw[aj,ak I];rfl
 have U:aW (ss.map λs=>D.lst (s.map sD)) (0+(j:Int))=↑(.lst ((ss.getD j []).map sD)):=by rw[fu];exact l6 (λs:gu=>D.lst (s.map sD)) S
 have V:aW (iD (dg ss c)) (0+(j:Int))=↑↥(((dg ss c).getD j 0:Nat):Int):=by
  rw[fu];have Y:(dg ss c)[j]?=↑((dg ss c).getD j 0):=by rw[aj,ak (by rw[vm];exact I)];rfl
  exact l6 (λn:Nat=>D.int (n:Int)) Y
 have dl:=uH ss c j;have ct:=sY ((ss.getD j []).map sD) ((dg ss c).getD j 0) (by rw[ae];exact dl);rw[<-yb] at ct;have d:=(d4 (bv S)).length_le;have Z:bI (((ss.getD j []).take ((dg ss c).getD j 0)).map sD).length:=few (by rw[ae,dy];lia);have a:=oh (te:=fIxV 0 [:1]) (base:=[]) sD (λx:Sk=>D.int x.2.1) ((ss.getD j []).take ((dg ss c).getD j 0)) λs _=>⟨_,by simp[sD,vd];rfl⟩;have bs:=yj (λx:Sk=>x.2.1) ((ss.getD j []).take ((dg ss c).getD j 0));refine⟨[!↥(0+(j:Int)),!aF ss,!.lst (iD (dg ss c))],?_⟩;unfold aF;rw[show aD ((ss.getD j []).take ((dg ss c).getD j 0))=(((ss.getD j []).take ((dg ss c).getD j 0)).map λx:Sk=>x.2.1).sum from rfl];generalize ((ss.getD j []).take ((dg ss c).getD j 0)).map (λx:Sk=>D.int x.2.1)=H1 at *;generalize ((ss.getD j []).take ((dg ss c).getD j 0)).map sD=H2 at *;generalize (((ss.getD j []).take ((dg ss c).getD j 0)).map λx:Sk=>x.2.1).sum=H3 at *;generalize iD (dg ss c)=TD at *;generalize (ss.map λs=>D.lst (s.map sD))=SL at *;simp only[f9,bz,aB,aH,jy,cM,fT,fZ,fS,fVar,fIxV,bN,fC,U,V,ct,Z,a,bs,eh,d8,af,ah,ay,bg,ac,aw]
theorem Ig(B:∀x∈ss.flatten,ip x)(C:ss.length<=5)(A:ss.flatten.length<=14)(E:pr ss<=100000)(v2:gj) :
  ∃(a_:List Tr) (l V Y Z v8 a I S U:gj),a_.length=pr ss/\(∀(i:Nat) (r:Tr),a_[i]?=↑r->St (CL ss 16 (dg ss i)) r.1 r.2.1 r.2.2) /\
  b_ 4 zj (bA 1 (pr ss-1)) [!aF ss,↑(.ow (cY ss)),v2,↑(.ow [dR (1,0,1)]),none,none,none,none,none,none,none,none,none] =
   ↑(.nx,[!aF ss,↑(.ow (cY ss)),v2,↑(.ow (a_.map dR)),l,V,Y,Z,v8,a,I,S,U]):=by
 have O:=wq ss;obtain⟨e',h1,a_,l,V,Y,Z,v8,a,I,S,U,n,o,rfl⟩:=uj (i:=4) (g:=zj) (λi e=>∃(a_:List Tr) (l V Y Z v8 a I S U:gj),a_.length=i+1/\(∀(j:Nat) (r:Tr),a_[j]?=↑r->St (CL ss 16 (dg ss j)) r.1 r.2.1 r.2.2)/\e=[!aF ss,↑(.ow (cY ss)),v2,↑(.ow (a_.map dR)),l,V,Y,Z,v8,a,I,S,U])
  (bA 1 (pr ss-1)) [!aF ss,↑(.ow (cY ss)),v2,↑(.ow [dR (1,0,1)]),none,none,none,none,none,none,none,none,none] ⟨[(1,0,1)],none,none,none,none,none,none,none,none,none,rfl,λj r h=>by
    have b:j=0:=by have:=(au.mp h).1;simpa using this
    subst b;cases h;have F:CL ss 16 (dg ss 0)=[0]:=by
     unfold CL;rw[cD,az (kB ss)];rfl
    rw[F];exact⟨rfl,λe=>(by cases e),λ_=>⟨by simp,λx G=>by cases dm.mp G;exact ju 0,rfl⟩⟩,rfl⟩ (by
    rintro i d e p ⟨a_,l,V,Y,Z,v8,a,I,S,U,n,o,rfl⟩;obtain⟨rfl,hi⟩:=ui p;rw[show(1:Int)+(i:Int)=((i+1:Nat):Int) by lia];have H:=Ic E (i+1);have J:=Ie A (i+1);have bs:=yj (λk:Nat=>aD ((ss.getD k []).take ((dg ss (i+1)).getD k 0))) (List.range ss.length);rw[show((List.range ss.length).map λk:Nat=>aD ((ss.getD k []).take ((dg ss (i+1)).getD k 0))).sum=nh ss (dg ss (i+1)) from rfl] at bs;have t:=qg ss.length ∅;have K:bI (bA 0 ss.length).length:=few (by rw[qm];lia);have u:(iD (dg ss (i+1))).all wp=true:=by
     unfold iD;rw[List.all_map];exact jk.mpr λ_ _=>rfl
    obtain⟨w,m,q,v,y,z,st,h2⟩:=Ib (v2:=v2) B C n o A I S U;have ds:=uI ss (i+1);have L:(dg ss (i+1)).sum≠0:=λe=>by
     have:=A9 ss (i+1) ∅ e
     lia
    have cs:=HV (ss:=ss) (f:=15) (h:=dg ss (i+1)) (vm ss _) (λk=>uH ss (i+1) k) ∅ L;rw[vm] at cs;rw[show((List.range ss.length).map (gF ss (dg ss (i+1)))).flatten=CL ss 16 (dg ss (i+1)) from cs.symm] at st;have fa:bI ((a_.map dR).length+1):=few (by rw[ae];lia);refine⟨[!aF ss,↑(.ow (cY ss)),v2,↑(.ow ((a_++[(w,m,q)]).map dR)),!↥((i+1:Nat):Int),!.lst (iD (dg ss (i+1))),!↥(nh ss (dg ss (i+1))),!↥w,!↥m,!↥q,v,y,z],?_,a_++[(w,m,q)],_,_,_,_,_,_,_,_,_,by rw[ai,d5];lia,λj r b=>?_,rfl⟩
    ·show zj [!aF ss,↑(.ow (cY ss)),v2,↑(.ow (a_.map dR)),!↥((i+1:Nat):Int),V,Y,Z,v8,a,I,S,U]=_
     rw[cb,jt];have aI:(((ss.map λs=>D.lst (s.map sD)).length:Nat):Int)=(ss.length:Int):=by rw[ae]
     unfold aF at *;generalize ((List.range ss.length).map λk:Nat=>D.int (aD ((ss.getD k []).take ((dg ss (i+1)).getD k 0))))=HL at *;generalize iD (dg ss (i+1))=TD at *;generalize nh ss (dg ss (i+1))=HO at *;generalize a_.map dR=RD at *;generalize cY ss=SD at *;generalize (ss.map λs=>D.lst (s.map sD))=SL at *;generalize bA 0 ss.length=RN at *;simp only[zj,sSeq,sSet,bQ,j8,aH,lF,jy,jb,f9,bz,aB,jd,aI,t,K,d8,bx,eh,ny,List.getD_cons_succ,lE,cW,H,u,J,bs,fC,fY,dG,h2,n6,t9,ig,fVar,fa,aq,dh,show(0+1+1+1<=64)=True by simp,af,ah,ay,bg,ac,aw]
    ·by_cases c:j<a_.length
     ·rw[a0 c] at b
      exact o j r b
     ·have M:=(au.mp b).1
      rw[ai,d5] at M;have N:j=i+1:=by lia
      subst N;rw[<-n,gn] at b;cases b;exact st)
 rw[qm] at n;exact⟨a_,l,V,Y,Z,v8,a,I,S,U,by lia,o,h1⟩
theorem Ih(p:gx)(s:gu):cY (p++[s])=cY p++[↥((pr (p++[s]):Nat):Int)]:=by
 unfold cY;rw[ai,d5,gz,cb,jt];congr 1
 ·refine gm λi hi=>?_
  have:=d9.mp hi;rw[ir ∅]
 ·rw[iw ⋯]
theorem Ii(h1:0<n)(h2:n<=100000):i_ [↥1,↥(n:Int)]=↑(bA 1 (n-1)):=by
 unfold i_;dsimp only;rw[az ⟨⟨by decide,by decide⟩,⟨by lia,by lia⟩⟩,show((n:Int)-1).toNat=n-1 by lia]
theorem Ij(f:∀x∈ss.flatten,ip x)(h:ss.length<=5)(S:ss.flatten.length<=14) :
  ∃w m k,St (CL ss 16 (ss.map List.length)) w m k/\uB [aF ss]=↑(.lst [↥w,↥m,↥k]):=by
 have j:∀s∈ss,s.length<=14:=λs l=>b6 (d4 l).length_le S;have a:pr ss<=100000:=b6 (AA ss) (b6 (j4 (by decide) S) (by decide));have n:=wq ss;obtain⟨G,h1,v2,rfl⟩:=rh (i:=2) (g:=u3) (λs:gu=>D.lst (s.map sD)) (λp e=>∃v2,e=[!aF ss,↑(.ow (cY p)),v2,none,none,none,none,none,none,none,none,none,none]) ss [!aF ss,↑(.ow [↥1]),none,none,none,none,none,none,none,none,none,none,none] ⟨none,rfl⟩ (by
  rintro p s q e I ⟨v2,rfl⟩;have o:=j s (by rw[I];simp);have pl:p.length<=5:=by have:=congrArg List.length I;simp at this;lia
  have t:=eE p;have u:(((s.map sD).length:Nat):Int)=(s.length:Int):=by rw[ae]
  have mm:dMul ↥((pr p:Nat):Int) ↥((s.length:Int)+1)=↑↥(((pr p:Nat):Int)*((s.length:Int)+1)):=qN (o3 ∅);have v:((pr p:Nat):Int)*((s.length:Int)+1)=((pr (p++[s]):Nat):Int):=by rw[HZ];simp
  rw[v] at mm;have fa:bI ((cY p).length+1):=few (by unfold cY;rw[ae,h9];lia);refine⟨[!aF ss,↑(.ow (cY (p++[s]))),!.lst (s.map sD),none,none,none,none,none,none,none,none,none,none],?_,_,rfl⟩;rw[Ih];generalize cY p=SP at *;generalize s.map sD=SL at *;simp only[u3,j8,n6,t9,fBin,fIxV,bN,fY,dG,fC,jd,t,u,iq,mm,fa,d8,af,ah,ay,bg,ac,aw])
 obtain⟨a_,y,z,A,B,v8,C,U,V,Y,b,E,h2⟩:=Ig f h S a v2;obtain⟨r,hre⟩:∃r,a_[pr ss-1]?=↑r:=⟨_,ak ∅⟩;have st:=E _ r hre;rw[A7] at st;obtain⟨c,hR0⟩:∃c,a_=c++[r]:=by
  have Z:a_≠[]:=λe=>by rw[e] at b;simp at b;lia
  refine⟨a_.dropLast,?_⟩;have:a_.getLast Z=r:=by
   rw[List.getLast_eq_getElem];have:=(au.mp hre).2;rw[<-this];congr 1
   lia
  rw[<-this,List.dropLast_concat_getLast]
 have d:aW (a_.map dR) (-1)=↑(dR r):=by rw[hR0,cb,jt];exact nG _ _
 have sl:=eE ss;have F:=Ii n a;obtain⟨w,m,k⟩:=r;refine⟨w,m,k,st,?_⟩;refine lr (e':=[!aF ss,↑(.ow (cY ss)),v2,↑(.ow (a_.map dR)),y,z,A,B,v8,C,U,V,Y]) rfl ?_;show uA [!aF ss,none,none,none,none,none,none,none,none,none,none,none,none]=_;rw[show dR (1,0,1)=D.lst [↥1,↥0,↥1] from rfl] at h2;rw[show dR (w,m,k)=D.lst [↥w,↥m,↥k] from rfl] at d;unfold aF at *;generalize a_.map dR=RD at *;generalize cY ss=SD at *;generalize bA 1 (pr ss-1)=RN at *;generalize (ss.map λs=>D.lst (s.map sD))=SL at *;simp only[uA,sSeq,bY,bQ,aK,ig,bz,aB,fC,cM,fVar,aH,h1,jb,fIxV,bN,fY,dG,sl,F,h2,d,aq,dh,show(0+1<=64)=True by simp,show(0+1+1+1<=64)=True by simp,d8,af,ah,ay,bg,ac,aw]
theorem Ik{l:ep}{w m k I D k':Int}(h:St l w m k)(h':St l I D k')(S:l≠[]):w=I/\m=D/\k=k':=by
 obtain⟨U,V,Y⟩:=h.n S;obtain⟨Z,a,b3⟩:=h'.n S;have e:m=D:=by
  have:=V D Z;have:=a m U
  lia
 subst e;exact⟨by rw[h.w,h'.w],rfl,by rw[Y,b3]⟩
theorem Il(d:ss.length<=5)(j:ss.flatten.length<=7)(l:∀x∈ss.flatten,ip x){w m k:Int}(st:St (CL ss 16 (ss.map List.length)) w m k) :
  uD [aF ss,.lst [↥w,↥m,↥k]]=↑(.bl true):=by
 have sm:(ss.map List.length).sum=ss.flatten.length:=by rw[fq]
 have r:=A6 d j;have t:CL ss 16 (ss.map List.length)=CL ss 9 (ss.map List.length):=by unfold CL;rw[nQ 16 9 _ ∅ ∅]
 rw[t] at st;have Y:=yq 9 (ss.map List.length) ∅;have Z:=uh 9 (ss.map List.length) ∅;have u:=Ay (f:=9) (h:=ss.map List.length) ∅;have v:((cD 9 (ss.map List.length)).map λo=>gv 0 (tk ss o)).Perm (CL ss 9 (ss.map List.length)):=by
  have:=u.map λo=>gv 0 (tk ss o);rw[eo] at this;exact this
 have st:=st.perm v.symm;generalize cD 9 (ss.map List.length)=WS at *;have S:(WS.map λo=>gv 0 (tk ss o))≠[]:=λe=>Y (fo.mp e);obtain⟨_,y,z⟩:=st.n S;have I:=st.w;rw[ae] at I;have A:=Gq ss ∅;obtain⟨e',h1,V,U,rfl⟩:=rh (i:=4) (g:=nN) wD (λp e=>∃V U,e=[!aF ss,!(.lst [↥w,↥m,↥k]),!.lst (WS.map wD),!↥(((p.map λo=>gv 0 (tk ss o)).count m:Nat):Int),V,U]) WS [!aF ss,!(.lst [↥w,↥m,↥k]),!.lst (WS.map wD),!↥0,none,none] ⟨none,none,rfl⟩ (by
  rintro p o q e a ⟨V,U,rfl⟩;have c:o∈WS:=by rw[a];simp
  have I:=nP.mp ((Z o).mp c);have b:=GS I ∅;have tl:=GL I ∅ (by rw[I.len];lia);have B:=GO (tk ss o) λx C=>l x (I.sk x C);have L:=y _ (List.mem_map_of_mem (f:=λo=>gv 0 (tk ss o)) c);have E:decide (gv 0 (tk ss o)<m)=false:=cu ∅;have F:((((p++[o]).map λo=>gv 0 (tk ss o)).count m:Nat):Int)=(((p.map λo=>gv 0 (tk ss o)).count m:Nat):Int)+(if decide (gv 0 (tk ss o)=m)=true then 1 else 0):=by
   rw[cb,i7,jt,List.count_singleton];by_cases h:gv 0 (tk ss o)=m <;> simp[h]
  have G:aW [D.int w,↥m,↥k] 1=↑↥m:=rfl;refine⟨_,?_,!wD o,!↥(gv 0 (tk ss o)),rfl⟩;rw[F];show nN [!aF ss,!(.lst [↥w,↥m,↥k]),!.lst (WS.map wD),!↥(((p.map λo=>gv 0 (tk ss o)).count m:Nat):Int),!wD o,U]=_;have b:mO [wD o,aF ss]=↑(.bl true):=b;have tl:mK [aF ss,wD o]=↑(.lst ((tk ss o).map sD)):=tl;generalize gv 0 (tk ss o)=co at *;generalize ((p.map λo=>gv 0 (tk ss o)).count m:Nat)=cn at *;generalize (tk ss o).map sD=TK at *;generalize wD o=WO at *;generalize WS.map wD=WL at *;generalize aF ss=SL at *;simp only[nN,sSeq,sSet,sIf,sNil,cI,fTst,f9,bz,aB,fVar,fBin,fIxV,bN,fC,b,tl,B,dLt,G,E,iq,dEq,gI,j1,cw,gc,af,ah,ay,bg,ac,aw])
 rw[<-z] at h1;have H:aW [D.int w,↥m,↥k] 0=↑↥w:=rfl;have J:aW [D.int w,↥m,↥k] 2=↑↥k:=rfl;have K:(((WS.map wD).length:Nat):Int)=w:=by rw[ae];exact I.symm
 refine lr (e':=[!aF ss,!(.lst [↥w,↥m,↥k]),!.lst (WS.map wD),!↥k,V,U]) rfl ?_;show uC [!aF ss,!(.lst [↥w,↥m,↥k]),none,none,none,none]=_;unfold aF at *;generalize WS.map wD=WL at *;generalize (ss.map λs=>D.lst (s.map sD))=SL at *;simp only[uC,sSeq,sSet,sIf,sNil,aK,bQ,cM,fOr,cI,fTst,dZ,gZ,iJ,beq_self_eq_true,Bool.true_or,f9,jb,bz,aB,aH,fVar,fBin,fIxV,bN,fC,jd,A,r,gD,H,J,K,j2,h1,dEq,j1,cw,gc,af,ah,ay,bg,ac,aw]
variable{s:Hs}
def Io{k:g3}{d:D}(h:nM [aF s.1]=↑d):zk [hA k (p++[s])] []=↑d:=by
 unfold zk bV;rw[az ⟨rfl,rfl⟩,show n4 1 [hA k (p++[s])] []=[↑(.ro kH (hP k (p++[s])))] from rfl];simp[u2,k9,tM,Ak,tL,h]
abbrev sT(i:Nat)(s:Hs):f0:=(s.1.take i).map λs=>D.lst (s.map sD)
abbrev EV(A B C Z:gj)(K:g3)(p:g5)(s:Hs)(i:Nat)(m:Int)(D v8:gj):aJ:=[A,B,C,Z,↑(.ag kH none (hP K (p++[s]))),↑(.ow (sT i s)),!↥m,D,v8,none,none]
structure Un (n i:Nat) (K:g3) (p:g5) (s:Hs):Prop where
 hi:HI n K p s
 fl:s.1.flatten.length=K.length
 nx:ke K=K.length+1
 rest:∀j,i<=j->j<n->s.1[j]?=↑[]
variable{i:Nat}{K:g3}
theorem uK{A B C Z v8:gj}(u:Un n (i+1) K p s)(o:i<n)(q:K.length<14){x:Sk}(r:ip x) :
  ∃Y p' s',Un n (i+1) Y p' s'/\Y.length=K.length+1/\yz (EV A B C Z K p s (i+1) (K.length:Int) ⇑↥(i:Int) ⇑(sD x))=↑(.nx,EV A B C Z Y p' s' (i+1) (Y.length:Int) ⇑↥(i:Int) ⇑(sD x)):=by
 obtain⟨hi,Q,V,v⟩:=u;have m:=hi.at;have l5:=hi.l5;have sl:=m.len;have R:=hi.n5;have kp:=hi.kp;obtain⟨b,I,S⟩:=x;obtain⟨T,W,c,d,e,f⟩:=r;have c:1<=I:=c;have d:I<=60:=d;have e:0<=S:=e;have f:S<=100:=f;obtain⟨t,g0⟩:∃t,s.1[i]?=↑t:=⟨_,ak ∅⟩;have gd:s.1.getD i []=t:=by rw[aj,g0];rfl
 have tl:t.length<=s.1.flatten.length:=(d4 (bv g0)).length_le;have hx:gM s.1 K.length ((i+1:Nat):Int) I S=none:=by
  unfold gM;rw[bu ∅,bu ∅,bu ∅,az ∅,az ∅]
 have w:=(Hx (p:=p) hx l5 ∅).2;have sp:=HJ (num:=ke K) (h:=I) (l:=S) (a:=i+1) (ss:=s.1) ∅ ∅ l5 (by rw[show i+1-1=i by lia,gd];lia);have y:=HK K;have z:ip (ke K,I,S):=⟨y.1,by show ke K<=60;lia,c,d,e,f⟩;have U:cA s.1 (i+1) (ke K,I,S)=s.1.set i ((ke K,I,S)::t):=by
  unfold cA;rw[show i+1-1=i by lia,gd]
 have E:SI n (K.length+1) (cA s.1 (i+1) (ke K,I,S),s.2):=by
  rw[U];exact m.swap g0 (by rw[aq];lia) λx hx F=>by
   rcases cj.mp hx with rfl |hx
   ·exact z
   ·exact F x hx
 have st:nH K s (.put ((i+1:Nat):Int) I S) (cA s.1 (i+1) (ke K,I,S),s.2):=⟨hx,_,sp,rfl⟩;have g:=hi.push ∅ E st;have X:=HA (ss:=s.1) (a:=i+1) (x:=(ke K,I,S)) ∅;refine⟨_,_,_,⟨g,by rw[ai,d5];show(cA s.1 (i+1) (ke K,I,S)).flatten.length=_;lia,?_,λj h1 h2=>?_⟩,by rw[ai];rfl,?_⟩
 ·unfold ke at V ⊢
  rw[iy,show[cX.put ((i+1:Nat):Int) I S].filter cX.isPut=[cX.put ((i+1:Nat):Int) I S] from rfl];simp
  lia
 ·show(cA s.1 (i+1) (ke K,I,S))[j]?=↑[]
  rw[U,eg ∅];exact v j h1 h2
 ·have G:fK kH 4 (qz zf [4] (bz (fBin iq (fVar 7) [:1]) (bz (fIxV 8 [:1]) (bz (fIxV 8 [:2]) aB)))) (EV A B C Z K p s (i+1) ((K.length:Int)+1) ⇑↥(i:Int) ⇑(sD (b,I,S)))=↑(.int (ke K),[A,B,C,Z,↑(.ag kH none (hP (K++[.put ((i+1:Nat):Int) I S]) (p++[s]++[(cA s.1 (i+1) (ke K,I,S),s.2)]))),↑(.ow (sT (i+1) s)),!↥((K.length:Int)+1),!↥(i:Int),!(sD (b,I,S)),none,none]):=by
   rw[zx (ps:=hP K (p++[s])) (l:=none) rfl];exact An (ps:=hP K (p++[s])) (l:=none) (ds:=[↥((i+1:Nat):Int),↥I,↥S]) rfl rfl w
  have H:cU (sT (i+1) s).length (i:Int)=↑i:=ue ∅ (by rw[ae,dy];lia) |>.trans (by congr 1);have k:(s.1.take (i+1))[i]?=↑t:=by rw[yc ∅];exact g0
  have J:aW (sT (i+1) s) (i:Int)=↑(.lst (t.map sD)):=l6 (λs:gu=>D.lst (s.map sD)) k;have L:(sT (i+1) s).set i (.lst (.tup [↥(ke K),↥I,↥S]::t.map sD))=sT (i+1) (cA s.1 (i+1) (ke K,I,S),s.2):=by
   show _=((cA s.1 (i+1) (ke K,I,S)).take (i+1)).map _;rw[U,List.take_set,p4];rfl
  have M:bI (0+1+(t.map sD).length):=few (by rw[ae];lia);have N:aW [D.int b,↥I,↥S] 1=↑↥I:=rfl;have O:aW [D.int b,↥I,↥S] 2=↑↥S:=rfl;have P:(((K++[cX.put ((i+1:Nat):Int) I S]).length:Nat):Int)=(K.length:Int)+1:=by rw[ai];rfl
  rw[P];unfold EV at *;rw[<-L];rw[V] at *;generalize hP (K++[cX.put ((i+1:Nat):Int) I S]) (p++[s]++[(cA s.1 (i+1) ((K.length:Int)+1,I,S),s.2)])=HP' at *;generalize hP K (p++[s])=HP at *;generalize sT (i+1) s=TS at *;generalize (K.length:Int)=KL at *;generalize t.map sD=TD at *;unfold sD at *;dsimp only at *;simp only[yz,show(AK.ins false "House" m4)=kH from rfl,sIf,sSeq,sSet,sNil,tf,wc,fTst,fBin,fVar,fC,gD,iq,G,aH,cQ,ig,bP,bz,aB,fIxV,bN,N,O,J,H,M,af,ah,ay,bg,dh,aq,gl,fz,ac,aw,j1,j2,cw,gc,d8,show 0+1+1+1<=64 by decide,show 0+1<=64 by decide]
theorem uL{A B C Z v8:gj}(u:Un n (i+1) K p s)(I:i<n)(T:gu)(hT:∀x∈T,ip x)(U:K.length+T.length<=14) :
  ∃D p' s' v,Un n (i+1) D p' s'/\D.length=K.length+T.length/\b_ 8 yz (T.map sD) (EV A B C Z K p s (i+1) (K.length:Int) ⇑↥(i:Int) v8)=↑(.nx,EV A B C Z D p' s' (i+1) (D.length:Int) ⇑↥(i:Int) v):=by
 obtain⟨e',h1,D,p',s',v,V,Y,rfl⟩:=rh (i:=8) (g:=yz) sD (λq e=>∃D p' s' v,Un n (i+1) D p' s'/\D.length=K.length+q.length/\e=EV A B C Z D p' s' (i+1) (D.length:Int) ⇑↥(i:Int) v) T (EV A B C Z K p s (i+1) (K.length:Int) ⇑↥(i:Int) v8) ⟨K,p,s,v8,u,rfl,rfl⟩ (by
  rintro q x r e S ⟨K1,p1,s1,v,u1,l1,rfl⟩;have a:=congrArg List.length S;rw[ai,aq] at a;obtain⟨b,p2,s2,c,d,h2⟩:=uK (A:=A) (B:=B) (C:=C) (Z:=Z) (v8:=v8) u1 I ∅ (hT x (by rw[S];simp));exact⟨_,h2,b,p2,s2,_,c,by rw[ai,d5];lia,rfl⟩)
 exact⟨D,p',s',v,V,Y,h1⟩
theorem a_{A B C:gj}(Y:ss.length<=5)(a:∀x∈ss.flatten,ip x)(b:ss.flatten.length<=14) :
  ∃K p s I v8,HI ss.length K p s/\s.1.flatten.length=K.length/\b_ 7 nO (bA 0 ss.length) (EV A B C ⇑(aF ss) [] [] (cF ss.length) 0 0 none none)=↑(.nx,EV A B C ⇑(aF ss) K p s ss.length (K.length:Int) I v8):=by
 obtain⟨e',h1,K,p,s,I,v8,u,U,rfl⟩:=uj (i:=7) (g:=nO) (λi e=>∃K p s I v8,Un ss.length i K p s/\K.length=(ss.take i).flatten.length/\e=EV A B C ⇑(aF ss) K p s i (K.length:Int) I v8) (bA 0 ss.length) (EV A B C ⇑(aF ss) [] [] (cF ss.length) 0 0 none none)
  ⟨[],[],cF ss.length,none,none,⟨HI.new Y,by simp[cF],rfl,λj _ c=>by simp[cF,c]⟩,rfl,rfl⟩ (by
  rintro i d e S ⟨K,p,s,I,v8,u,U,rfl⟩;obtain⟨rfl,hi⟩:=ui S;rw[fu];have V:ss[i]?=↑ss[i]:=ak hi;have f:(ss.take (i+1)).flatten.length=(ss.take i).flatten.length+ss[i].length:=by
   rw[m8,V,fb,ai];simp
  have h:(ss.take (i+1)).flatten.length<=ss.flatten.length:=by
   conv=>rhs;rw[<-jz (i+1) ss]
   rw[fb,ai]
   lia
  have k:Un ss.length (i+1) K p s:=⟨u.hi,u.fl,u.nx,λj h1 h2=>u.rest j ∅ h2⟩;have l:=u.rest i (bj i) hi;have k1:sT i s++[.lst []]=sT (i+1) s:=by
   show(s.1.take i).map _++_=(s.1.take (i+1)).map _;rw[m8,l,cb];rfl
  obtain⟨m,p',s',v,n,o,h2⟩:=uL (A:=A) (B:=B) (C:=C) (Z:=⇑(aF ss)) (v8:=v8) k hi ss[i].reverse (λx q=>a x (dw.mpr ⟨_,j0 hi,lx.mp q⟩)) (by rw[kf];lia);rw[kf] at o;refine⟨_,?_,m,p',s',!↥(i:Int),v,n,by lia,rfl⟩;rw[<-h2];have r:aW (ss.map λs=>D.lst (s.map sD)) (i:Int)=↑(.lst (ss[i].map sD)):=l6 (λs:gu=>D.lst (s.map sD)) V;have t:jC [.lst (ss[i].map sD)]=↑(ss[i].reverse.map sD):=by unfold jC;rw[qu]
  have fa:bI ((sT i s).length+1):=few (by rw[ae,dy];lia);unfold EV;rw[<-k1];unfold aF;generalize sT i s=TS at *;generalize hP K (p++[s])=HP at *;generalize (ss.map λs=>D.lst (s.map sD))=SL at *;generalize ss[i].map sD=X1 at *;generalize ss[i].reverse.map sD=X2 at *;simp only[nO,sSeq,j8,bQ,n6,t9,aH,ig,aB,jb,bz,fIxV,bN,fVar,fa,r,t,d8,dh,fy,af,ah,ay,bg,ac,aw])
 rw[qm] at u U;exact⟨K,p,s,I,v8,u.hi,u.fl,by rw[h1,qm]⟩
theorem good(ns:ep)(P:ns.length<=63):A2 [.lst (ns.map D.int)]=↑(.bl true):=by
 obtain⟨cs,f,hd⟩:=F3 ns 16 ∅;have hd:zh [.lst (ns.map D.int),↥16]=↑(.lst (cs.map D.int)):=hd;have V:aW (cs.map D.int) 15=↑(.int cs[15]):=l6 (k:=15) D.int (by simp[f]);have x:aQ (.int cs[15]) ↥2=↑↥(cs[15] % 2):=xN (by decide);obtain⟨mo,hmo,am⟩:∃mo:Nat,mo<=14/\aW [D.int 14,↥7] (cs[15] % 2)=↑↥(mo:Int):=by
  have:cs[15] % 2=0\/cs[15] % 2=1:=by lia
  rcases this with h |h
  ·exact⟨14,by decide,by rw[h];rfl⟩
  ·exact⟨7,by decide,by rw[h];rfl⟩
 obtain⟨ss,g,I⟩:=FM cs mo hmo ∅;rw[Gm] at I;have I:mi [.lst (cs.map D.int),↥(mo:Int)]=↑(aF ss):=I;have y:=g.many;have j:=b6 g.tot hmo;obtain⟨A,eA⟩:∃A:gj,A=⇑(.lst (ns.map D.int)):=⟨_,rfl⟩;obtain⟨B,eB⟩:∃A:gj,A=⇑(.lst (cs.map D.int)):=⟨_,rfl⟩;obtain⟨C,eC⟩:∃A:gj,A=⇑↥(mo:Int):=⟨_,rfl⟩;have z:=Hz (n:=ss.length) y (F:=bz (jd 3) aB) (e:=[A,B,C,!aF ss,none,none,none,none,none,none,none]) (e':=[A,B,C,!aF ss,none,none,none,none,none,none,none]) (by simp[aF,jd,bz,aB]);obtain⟨K,p,s,Y,v8,o,Q,h1⟩:=a_ (A:=A) (B:=B) (C:=C) y g.good j;have E:=qg ss.length ∅;have U:=o.at;have l5:=o.l5;have S:=U.few;have Z:=U.good;obtain⟨ts,ok,R⟩:=zE s.1 Z S;obtain⟨w,m,q,st,G⟩:=Ij Z l5 S;have sm:(s.1.map List.length).sum=s.1.flatten.length:=by rw[fq]
 have a:CL s.1 16 (s.1.map List.length)≠[]:=λe=>yq 16 (s.1.map List.length) ∅ (fo.mp e);obtain⟨T,mm,_⟩:=st.n a;have b:=uh 16 (s.1.map List.length) ∅;have W:gv 0 (flat ts)=m:=by
  have X:gv 0 (tk s.1 (l4 ts))∈CL s.1 16 (s.1.map List.length):=b8.mpr ⟨(l4 ts).reverse,(b _).mpr (nK.mpr (nP.mpr ok.whole)),by rw[j5]⟩;have H:=mm _ X;rw[show tk s.1 (l4 ts)=flat ts from Ab ok] at H;obtain⟨v,hv,ev⟩:=b8.mp T;have hw:=nP.mp (nK.mp (by rw[j5];exact(b v).mp hv));have t3:=kA ok Z hw;rw[<-ev] at H ⊢
  lia
 have r:=λY v8 v9=>Am (m:=xw) (e:=[A,B,C,!aF ss,↑(.ag kH none (hP K (p++[s]))),!aF s.1,!↥(K.length:Int),Y,v8,v9,none]) (i:=4) (l:=none) (k:=K) (p:=p++[s]) rfl;simp only[HN o ok,W,aw] at r;have J:=sA m;have c:sT ss.length s=s.1.map λs=>D.lst (s.map sD):=by
  show(s.1.take ss.length).map _=_;rw[iw (by rw[U.len];exact bj _)]
 have L:(((ss.map λs=>D.lst (s.map sD)).length:Nat):Int)=(ss.length:Int):=by rw[ae]
 have M:aW [D.int w,↥m,↥q] 0=↑↥w:=rfl;have N:aW [D.int w,↥m,↥q] 1=↑↥m:=rfl;have R2:aW [D.int w,↥m,↥q] 2=↑↥q:=rfl;by_cases h7:K.length<=7
 ·obtain⟨w',m',q',d,ha⟩:=HY l5 ∅ Z
  have fe:CL s.1 16 (s.1.map List.length)=CL s.1 9 (s.1.map List.length):=by unfold CL;rw[nQ 16 9 _ ∅ ∅]
  rw[<-fe] at d;obtain⟨rfl,rfl,rfl⟩:=Ik st d a;have gt:=Il l5 ∅ Z st;have O:=Am (m:=zk) (e:=[A,B,C,!aF ss,↑(.ag kH none (hP K (p++[s]))),!aF s.1,!↥(K.length:Int),Y,v8,!(.lst [↥w,↥m,↥q]),!↥m]) (i:=4) (l:=none) (k:=K) (p:=p++[s]) rfl;rw[Io ha,aw] at O;have t:=FN [w,m,q] ⋯;have t:m1 [.tup [↥w,↥m,↥q],.tup [↥w,↥m,↥q]]=↑(.bl true):=t;have u:decide ((7:Int)<(K.length:Int))=false:=cu ∅;refine lr (e':=[A,B,C,!aF ss,↑(.ag kH none (hP K (p++[s]))),!aF s.1,!↥(K.length:Int),Y,v8,!(.lst [↥w,↥m,↥q]),!↥m]) rfl ?_;show yf [!.lst (ns.map D.int),none,none,none,none,none,none,none,none,none,none]=_;unfold EV at h1;rw[c] at h1;unfold aF at *;subst eA eB eC;unfold yf;rw[show(AK.ins false "House" m4)=kH from rfl];rw[show sT 0 (cF ss.length)=[] from rfl,gl] at h1;generalize ns.map D.int=NS at *;generalize cs.map D.int=CS at *;generalize hP K (p++[s])=HP at *;generalize (s.1.map λs=>D.lst (s.map sD))=SL at *;generalize (ss.map λs=>D.lst (s.map sD))=SS at *;generalize hP [] [cF ss.length]=HP0 at *;generalize (K.length:Int)=KL at *;simp only[sSeq,sSet,sIf,sNil,aK,bY,yi,bQ,ig,f9,jb,bz,aB,fVar,fC,aH,fBin,fIxV,bN,jd,fOr,cI,fTst,bP,ve,dIx,hd,V,x,am,I,z,L,E,h1,G,r,J,M,N,R2,gD,dGt,u,O,t,gt,j2,aq,dh,fy,show(0+1+1+1<=64)=True by simp,show(0+1+1<=64)=True by simp,j1,cw,gc,d8,af,ah,ay,bg,ac,aw,gl]
 ·have u:decide ((7:Int)<(K.length:Int))=true:=gi ∅
  refine lr (e':=[A,B,C,!aF ss,↑(.ag kH none (hP K (p++[s]))),!aF s.1,!↥(K.length:Int),Y,v8,!(.lst [↥w,↥m,↥q]),!↥m]) rfl ?_;show yf [!.lst (ns.map D.int),none,none,none,none,none,none,none,none,none,none]=_;unfold EV at h1;rw[c] at h1;unfold aF at *;subst eA eB eC;unfold yf;rw[show(AK.ins false "House" m4)=kH from rfl];rw[show sT 0 (cF ss.length)=[] from rfl,gl] at h1;generalize ns.map D.int=NS at *;generalize cs.map D.int=CS at *;generalize hP K (p++[s])=HP at *;generalize (s.1.map λs=>D.lst (s.map sD))=SL at *;generalize (ss.map λs=>D.lst (s.map sD))=SS at *;generalize hP [] [cF ss.length]=HP0 at *;generalize (K.length:Int)=KL at *;simp only[sSeq,sSet,sIf,sNil,aK,bY,yi,bQ,ig,f9,jb,bz,aB,fVar,fC,aH,fBin,fIxV,bN,jd,fOr,cI,fTst,bP,ve,dIx,hd,V,x,am,I,z,L,E,h1,G,r,J,M,N,R2,gD,dGt,u,j2,aq,dh,fy,show(0+1+1+1<=64)=True by simp,show(0+1+1<=64)=True by simp,j1,cw,gc,d8,af,ah,ay,bg,ac,aw,gl]
end SQ
end
open PySem PySem.W PyProof.Rows
open L2 (us1 us2 us3 us4 us5)
theorem PySem.Challenge.cw_rotstacks_k34_whole_all_gone_through_holds : PySem.Challenge.rw_rotstacks_k34_whole_all_gone_through.Holds := by
 refine headO ?_
 k_fill
 refine L2.walkD (k:=14) (s:="_law_script") (l:=PySem.Challenge.rw_rotstacks_k34_whole_all_gone_through) ⟨rfl,by decide,by decide⟩ rfl rfl (λw h Y=>PySem.W.kIn_of Y) ?F;case F =>
  intro w mg fa h KX G hmg;refine' L2.law_mk KX G hmg ?a ?l ?c ?k ?b (SQ.ok_all _ _ _ _ _ _ _ _ _ _ _ _ _ _ _ _ _ _ _ _ _ _ _ _ _ _ _ _ _ _ _ _ _ _ _ _ _ _ _ _ _ _ _ _ _ _ _ _ _ ?hhC _ _ _ _ _ _ _ _ _ _ _ _ _ _ _ _ _ _ _ _ _ _ _ _ _ _ _ _ _ _) SQ.good
  (case a=>k_is)
  (case l=>k_is)
  (case c=>k_is)
  (case k=>k_is)
  (case b=>exact λv=>rfl)
  (case hhC=>unfold L2.Cl;k_is)
  all_goals first | (refine' L2.def_mk (by assumption) (by assumption) ?a ?l ?c ?k ?b;(case a=>k_is);(case l=>k_is);(case c=>k_is);(case k=>k_is);(case b=>first |exact us1 λ_=>rfl |exact us2 λ_ _=>rfl |exact us3 λ_ _ _=>rfl |exact us4 λ_ _ _ _=>rfl |exact us5 λ_ _ _ _ _=>rfl)) | (refine' L2.mef_mk ?a ?l ?c ?k ?i ?b;(case a=>k_is);(case l=>k_is);(case c=>k_is);(case k=>k_is);(case i=>k_is);(case b=>first |exact us1 λ_=>rfl |exact us2 λ_ _=>rfl |exact us3 λ_ _ _=>rfl |exact us4 λ_ _ _ _=>rfl |exact us5 λ_ _ _ _ _=>rfl)) |exact⟨by k_is,by k_is,by k_is,by k_is⟩ |exact PySem.W.mg_none_of KX G (by k_is) |exact lj KX G (by k_is) | (refine' L2.exc_mk KX G ?a ?b (by decide +kernel);(case a=>k_is);(case b=>k_exc)) | (refine' L2.con_mk KX G ?a;(case a=>k_is)) |k_is

